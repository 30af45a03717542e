import PyProof.Rows.All
import Wide.All
import OpenK.AllK
import Wide.FinOn
import HandS.ForMost
import HandS.IsInst
import HandS.Wide
import HandS.Zip
import HandS.TupAny
import HandS.StrMore
import HandS.RevTup
import HandS.Flow
import HandS.WordsExc
import HandS.Style
import HandS.Strs
import HandS.Set
import HandS.SetFor
import PyProof.ListStr
import PyProof.Rows.SortShellAny
import HandS.Conv
import PyProof.Rows.StrMeet
import HandS.ExcInit
import HandS.Gcd
import HandS.More
import HandS.RaiseMore
import HandS.WideBits
import HandS.Iter
import HandS.OwnEq
import HandS.SlotsOwn
import HandS.FStr
import HandS.NoneIn
import HandS.Defaults
import PySem.Challenge.RW_deedranks_k03_whole_shares_added_and_mul
set_option Elab.async false
set_option linter.all false
set_option maxRecDepth 100000
namespace J
open PySem L2

/-- data -/
inductive D where
  | non | bl (b : Bool) | int (i : Int) | str (s : Str) | ty (n : String)
  | lst (xs : List D) | tup (xs : List D) | dic (ks : List Key) (vs : List D)
  | obj (C : Addr) (ks : List Str) (vs : List D)
  | dct (ks : List (List Key)) (vs : List D)
  | ref (a : Addr) | bag

/-- mutable objects -/
inductive MO where
  | lst (ds : List D) | dic (ks : List Key) (vs : List D) | obj (C : Addr) (ks : List Str) (vs : List D) | dct (ks : List (List Key)) (vs : List D)

structure Mu where
  bag : Option Addr
  own : List (Addr × MO)

def Bl (B : List Addr) (μ : Mu) (a : Addr) : Prop := a ∈ B ∨ μ.bag = some a ∨ a ∈ μ.own.map (·.1)

mutual
inductive Rp (B : List Addr) (μ : Mu) (H : Hp) : V → D → Prop
  | non : Rp B μ H .non .non
  | bl (b : Bool) : Rp B μ H (.bl b) (.bl b)
  | int (i : Int) : Rp B μ H (.int i) (.int i)
  | str (s : Str) : Rp B μ H (.str s) (.str s)
  | ty (n : String) : Rp B μ H (.ty n) (.ty n)
  | ref (a : Addr) : Rp B μ H (.ref a) (.ref a)
  | bag {a : Addr} (h : μ.bag = some a) : Rp B μ H (.ref a) .bag
  | lst {a : Addr} {xs : List V} {ds : List D} (h : H a = some (.lst xs)) (n : ¬ Bl B μ a) (r : RpL B μ H xs ds) : Rp B μ H (.ref a) (.lst ds)
  | tup {a : Addr} {xs : List V} {ds : List D} (h : H a = some (.tup xs)) (n : ¬ Bl B μ a) (r : RpL B μ H xs ds) : Rp B μ H (.ref a) (.tup ds)
  | dic {a : Addr} {kvs : List (Key × V)} {ks : List Key} {ds : List D} (h : H a = some (.dK kvs)) (n : ¬ Bl B μ a) (k : kvs.map (·.1) = ks) (r : RpL B μ H (kvs.map (·.2)) ds) : Rp B μ H (.ref a) (.dic ks ds)
  | obj {a C dx : Addr} {fs : List (Str × V)} {ks : List Str} {ds : List D} (h : H a = some (.ins C dx fs)) (n : ¬ Bl B μ a) (k : fs.map (·.1) = ks) (r : RpL B μ H (fs.map (·.2)) ds) : Rp B μ H (.ref a) (.obj C ks ds)
  | dct {a : Addr} {kvs : List (List Key × V)} {ks : List (List Key)} {ds : List D} (h : H a = some (.dT kvs)) (n : ¬ Bl B μ a) (k : kvs.map (·.1) = ks) (r : RpL B μ H (kvs.map (·.2)) ds) : Rp B μ H (.ref a) (.dct ks ds)
inductive RpL (B : List Addr) (μ : Mu) (H : Hp) : List V → List D → Prop
  | nil : RpL B μ H [] []
  | cons {v : V} {d : D} {vs : List V} {ds : List D} (h : Rp B μ H v d) (t : RpL B μ H vs ds) : RpL B μ H (v :: vs) (d :: ds)
end

/-- what is there stays -/
structure Keeps (B : List Addr) (μ : Mu) (H : Hp) (B' : List Addr) (μ' : Mu) (H' : Hp) : Prop where
  obj : ∀ a o, H a = some o → ¬ Bl B μ a → H' a = some o ∧ ¬ Bl B' μ' a
  bag : ∀ b, μ.bag = some b → μ'.bag = some b

mutual
theorem Rp.keep {B B' : List Addr} {μ μ' : Mu} {H H' : Hp} (k : Keeps B μ H B' μ' H') : ∀ {d : D} {v : V}, Rp B μ H v d → Rp B' μ' H' v d
  | .non, _, h => by cases h; exact .non
  | .bl b, _, h => by cases h; exact .bl b
  | .int i, _, h => by cases h; exact .int i
  | .str s, _, h => by cases h; exact .str s
  | .ty n, _, h => by cases h; exact .ty n
  | .ref a, _, h => by cases h; exact .ref a
  | .bag, _, h => by cases h with | bag h => exact .bag (k.bag _ h)
  | .lst ds, _, h => by cases h with | lst h n r => exact .lst (k.obj _ _ h n).1 (k.obj _ _ h n).2 (RpL.keep k r)
  | .tup ds, _, h => by cases h with | tup h n r => exact .tup (k.obj _ _ h n).1 (k.obj _ _ h n).2 (RpL.keep k r)
  | .dic ks ds, _, h => by cases h with | dic h n e r => exact .dic (k.obj _ _ h n).1 (k.obj _ _ h n).2 e (RpL.keep k r)
  | .obj C ks ds, _, h => by cases h with | obj h n e r => exact .obj (k.obj _ _ h n).1 (k.obj _ _ h n).2 e (RpL.keep k r)
  | .dct ks ds, _, h => by cases h with | dct h n e r => exact .dct (k.obj _ _ h n).1 (k.obj _ _ h n).2 e (RpL.keep k r)
theorem RpL.keep {B B' : List Addr} {μ μ' : Mu} {H H' : Hp} (k : Keeps B μ H B' μ' H') : ∀ {ds : List D} {vs : List V}, RpL B μ H vs ds → RpL B' μ' H' vs ds
  | [], _, h => by cases h; exact .nil
  | d :: ds, _, h => by cases h with | cons h t => exact .cons (Rp.keep k h) (RpL.keep k t)
end

/-- what is represented stays so; what is shut stays as it is -/
structure Pres (B : List Addr) (μ : Mu) (H : Hp) (μ' : Mu) (H' : Hp) : Prop where
  rp : ∀ v d, Rp B μ H v d → Rp B μ' H' v d
  blk : ∀ a ∈ B, H' a = H a
section
variable {B : List Addr} {μ μ' μ1 μ2 : Mu} {H H' H1 H2 : Hp}
theorem Pres.refl : Pres B μ H μ H := ⟨fun _ _ h => h, fun _ _ => rfl⟩
theorem Pres.trans (a : Pres B μ H μ1 H1) (b : Pres B μ1 H1 μ2 H2) : Pres B μ H μ2 H2 := ⟨fun v d h => b.rp v d (a.rp v d h), fun x h => (b.blk x h).trans (a.blk x h)⟩
theorem Keeps.pres (k : Keeps B μ H B μ' H') (e : ∀ a ∈ B, H' a = H a) : Pres B μ H μ' H' := ⟨fun _ _ h => h.keep k, e⟩
theorem Pres.all (p : Pres B μ H μ' H') : ∀ {ds : List D} {vs : List V}, RpL B μ H vs ds → RpL B μ' H' vs ds
  | [], _, h => by cases h; exact .nil
  | d :: ds, _, h => by cases h with | cons h t => exact .cons (p.rp _ _ h) (p.all t)
theorem Pres.bag (p : Pres B μ H μ' H') {b : Addr} (h : μ.bag = some b) : μ'.bag = some b := by
  have := p.rp _ _ (.bag h)
  cases this; assumption
theorem RpL.len : ∀ {ds : List D} {vs : List V}, RpL B μ H vs ds → vs.length = ds.length
  | [], _, h => by cases h; rfl
  | d :: ds, _, h => by cases h with | cons h t => simp [t.len]
theorem RpL.app : ∀ {ds es : List D} {vs ws : List V}, RpL B μ H vs ds → RpL B μ H ws es → RpL B μ H (vs ++ ws) (ds ++ es)
  | [], _, _, _, h, k => by cases h; exact k
  | d :: ds, _, _, _, h, k => by cases h with | cons h t => exact .cons h (t.app k)
theorem RpL.get : ∀ {ds : List D} {vs : List V} {i : Nat} {d : D}, RpL B μ H vs ds → ds[i]? = some d → ∃ v, vs[i]? = some v ∧ Rp B μ H v d
  | [], _, _, _, h, e => by simp at e
  | d :: ds, _, 0, _, h, e => by cases h with | cons h t => simp at e; subst e; exact ⟨_, rfl, h⟩
  | d :: ds, _, i + 1, _, h, e => by
    cases h with
    | cons h t =>
      obtain ⟨v, e1, r⟩ := t.get (i := i) (by simpa using e)
      exact ⟨v, by simpa using e1, r⟩
theorem RpL.getV {ds : List D} {vs : List V} {i : Nat} {v : V} (r : RpL B μ H vs ds) (e : vs[i]? = some v) : ∃ d, ds[i]? = some d ∧ Rp B μ H v d := by
  have hi : i < vs.length := by
    rcases Nat.lt_or_ge i vs.length with h | h
    · exact h
    · rw [List.getElem?_eq_none_iff.mpr h] at e; cases e
  have hd : i < ds.length := by rw [← r.len]; exact hi
  obtain ⟨w, e1, q⟩ := r.get (i := i) (List.getElem?_eq_getElem hd)
  rw [e] at e1; cases e1
  exact ⟨_, List.getElem?_eq_getElem hd, q⟩
theorem RpL.take : ∀ {ds : List D} {vs : List V} (n : Nat), RpL B μ H vs ds → RpL B μ H (vs.take n) (ds.take n)
  | _, _, 0, h => by simp; exact .nil
  | [], _, n + 1, h => by cases h; exact .nil
  | d :: ds, _, n + 1, h => by cases h with | cons h t => exact .cons h (t.take n)
theorem RpL.drop : ∀ {ds : List D} {vs : List V} (n : Nat), RpL B μ H vs ds → RpL B μ H (vs.drop n) (ds.drop n)
  | _, _, 0, h => by simpa using h
  | [], _, n + 1, h => by cases h; exact .nil
  | d :: ds, _, n + 1, h => by cases h with | cons h t => exact t.drop n
theorem RpL.rev : ∀ {ds : List D} {vs : List V}, RpL B μ H vs ds → RpL B μ H vs.reverse ds.reverse
  | [], _, h => by cases h; exact .nil
  | d :: ds, _, h => by
    cases h with
    | cons h t =>
      rw [List.reverse_cons, List.reverse_cons]
      exact t.rev.app (.cons h .nil)
theorem RpL.set {v : V} {d : D} (r : Rp B μ H v d) : ∀ {ds : List D} {vs : List V} (n : Nat), RpL B μ H vs ds → RpL B μ H (vs.set n v) (ds.set n d)
  | [], _, _, h => by cases h; exact .nil
  | _ :: _, _, 0, h => by cases h with | cons h t => exact .cons r t
  | _ :: _, _, n + 1, h => by cases h with | cons h t => exact .cons h (t.set r n)
end

/-! ### the heap -/
structure BagOk (B : List Addr) (μ : Mu) (H : Hp) (b : Addr) : Prop where
  ex : ∃ (c : Addr) (cs : List Int) (i d s k : Int), H b = some (.lst [.ref c, .int i, .int d, .int s, .int k]) ∧ H c = some (.lst (cs.map V.int)) ∧ ¬ Bl B μ c ∧
    cs.length ≤ 63 ∧ 0 ≤ i ∧ 0 ≤ d ∧ 0 ≤ s ∧ s < 2147483323
def OwnOk (B : List Addr) (μ : Mu) (H : Hp) (a : Addr) : MO → Prop
  | .lst ds => ∃ xs, H a = some (.lst xs) ∧ RpL B μ H xs ds
  | .dic ks ds => ∃ kvs, H a = some (.dK kvs) ∧ kvs.map (·.1) = ks ∧ RpL B μ H (kvs.map (·.2)) ds
  | .obj C ks ds => ∃ (dx : Addr) (fs : List (Str × V)), H a = some (.ins C dx fs) ∧ fs.map (·.1) = ks ∧ RpL B μ H (fs.map (·.2)) ds
  | .dct ks ds => ∃ kvs, H a = some (.dT kvs) ∧ kvs.map (·.1) = ks ∧ RpL B μ H (kvs.map (·.2)) ds
structure HOK (B : List Addr) (μ : Mu) (H : Hp) : Prop where
  bag : ∀ b, μ.bag = some b → BagOk B μ H b
  own : ∀ p ∈ μ.own, OwnOk B μ H p.1 p.2
  nd : (μ.own.map (·.1)).Nodup
  bo : ∀ b, μ.bag = some b → b ∉ μ.own.map (·.1)
  bt : ∀ a ∈ B, ∃ o, H a = some o
  bd : ∀ a ∈ B, μ.bag ≠ some a ∧ a ∉ μ.own.map (·.1)
section
variable {B : List Addr} {μ μ' μ1 μ2 : Mu} {H H' H1 H2 : Hp} {a p : Addr} {o : HO}
theorem HOK.there (h : HOK B μ H) (b : Bl B μ a) : ∃ o, H a = some o := by
  rcases b with b | b | b
  · exact h.bt a b
  · obtain ⟨c, cs, i, d, s, k, e, _⟩ := h.bag a b
    exact ⟨_, e⟩
  · obtain ⟨⟨a', o⟩, hm, rfl⟩ := List.mem_map.mp b
    have q := h.own _ hm
    cases o with
    | lst ds => obtain ⟨xs, e, _⟩ := q; exact ⟨_, e⟩
    | dic ks ds => obtain ⟨xs, e, _⟩ := q; exact ⟨_, e⟩
    | obj C ks ds => obtain ⟨dx, xs, e, _⟩ := q; exact ⟨_, e⟩
    | dct ks ds => obtain ⟨xs, e, _⟩ := q; exact ⟨_, e⟩
theorem HOK.free (h : HOK B μ H) (n : H a = none) : ¬ Bl B μ a := fun b => by
  obtain ⟨o, e⟩ := h.there b
  rw [n] at e; cases e
theorem HOK.freeB (h : HOK B μ H) (n : H p = none) : ∀ a ∈ B, (upd H p o) a = H a := fun a ha => by
  obtain ⟨u, e⟩ := h.bt a ha
  exact upd_ne (ne_of_none e n)
/-- a new object, a value -/
theorem Keeps.new (n : H p = none) : Keeps B μ H B μ (upd H p o) where
  obj := fun a u e b => ⟨by rw [upd_ne (ne_of_none e n)]; exact e, b⟩
  bag := fun _ h => h
theorem HOK.pnew (h : HOK B μ H) (n : H p = none) : Pres B μ H μ (upd H p o) := (Keeps.new n).pres (h.freeB n)
theorem OwnOk.keep {o : MO} (p : Pres B μ H μ' H') (s : H' a = H a) (h : OwnOk B μ H a o) : OwnOk B μ' H' a o := by
  cases o with
  | lst ds => obtain ⟨xs, e, r⟩ := h; exact ⟨xs, by rw [s]; exact e, p.all r⟩
  | dic ks ds => obtain ⟨xs, e, k, r⟩ := h; exact ⟨xs, by rw [s]; exact e, k, p.all r⟩
  | obj C ks ds => obtain ⟨dx, xs, e, k, r⟩ := h; exact ⟨dx, xs, by rw [s]; exact e, k, p.all r⟩
  | dct ks ds => obtain ⟨xs, e, k, r⟩ := h; exact ⟨xs, by rw [s]; exact e, k, p.all r⟩
theorem BagOk.keep {b : Addr} (k : Keeps B μ H B μ' H') (s : H' b = H b) (h : BagOk B μ H b) : BagOk B μ' H' b := by
  obtain ⟨c, cs, i, d, s', n, e, ec, nb, r⟩ := h
  exact ⟨c, cs, i, d, s', n, by rw [s]; exact e, (k.obj _ _ ec nb).1, (k.obj _ _ ec nb).2, r⟩
theorem HOK.new (h : HOK B μ H) (n : H p = none) : HOK B μ (upd H p o) where
  bag := fun b e => by
    obtain ⟨u, hu⟩ := h.there (.inr (.inl e))
    exact (h.bag b e).keep (Keeps.new n) (upd_ne (ne_of_none hu n))
  own := fun q hq => by
    obtain ⟨u, hu⟩ := h.there (.inr (.inr (List.mem_map.mpr ⟨q, hq, rfl⟩)))
    exact (h.own q hq).keep (h.pnew n) (upd_ne (ne_of_none hu n))
  nd := h.nd
  bo := h.bo
  bt := fun a ha => by rw [h.freeB n a ha]; exact h.bt a ha
  bd := h.bd
end

/-! ### slots -/
abbrev Del := List (Option D)
structure StOk (B : List Addr) (μ : Mu) (H : Hp) (σ : St) (Δ : Del) : Prop where
  len : σ.length = Δ.length
  at_ : ∀ (i : Nat) (d : D), Δ[i]? = some (some d) → ∃ v, σ[i]? = some (some v) ∧ Rp B μ H v d
section
variable {B : List Addr} {μ μ' μ0 μ1 μ2 : Mu} {H H' H0 H1 H2 : Hp} {σ : St} {Δ : Del} {v : V} {d : D}
theorem StOk.pres (s : StOk B μ H σ Δ) (p : Pres B μ H μ' H') : StOk B μ' H' σ Δ :=
  ⟨s.len, fun i d e => by obtain ⟨v, h, r⟩ := s.at_ i d e; exact ⟨v, h, p.rp _ _ r⟩⟩
theorem StOk.set (s : StOk B μ H σ Δ) (i : Nat) (r : Rp B μ H v d) : StOk B μ H (σ.set i (some v)) (Δ.set i (some d)) :=
  ⟨by simp [s.len], fun j e h => by
    by_cases hj : i = j
    · subst hj
      have hl : i < Δ.length := by
        rcases Nat.lt_or_ge i Δ.length with q | q
        · exact q
        · rw [List.getElem?_eq_none_iff.mpr (by simpa using q)] at h; cases h
      rw [List.getElem?_set_self hl] at h
      cases h
      exact ⟨v, by rw [List.getElem?_set_self (by rw [s.len]; exact hl)], r⟩
    · rw [List.getElem?_set_ne hj] at h
      rw [List.getElem?_set_ne hj]
      exact s.at_ j e h⟩

/-- where one stands: B shut, (H0, μ0) the base -/
structure Go (B : List Addr) (H0 : Hp) (μ0 : Mu) (σ : St) (H : Hp) (Δ : Del) (μ : Mu) : Prop where
  hok : HOK B μ H
  st : StOk B μ H σ Δ
  pr : Pres B μ0 H0 μ H
theorem Go.step (g : Go B H0 μ0 σ H Δ μ) (h : HOK B μ' H') (p : Pres B μ H μ' H') : Go B H0 μ0 σ H' Δ μ' := ⟨h, g.st.pres p, g.pr.trans p⟩
theorem Go.set (g : Go B H0 μ0 σ H Δ μ) (i : Nat) (r : Rp B μ H v d) : Go B H0 μ0 (σ.set i (some v)) H (Δ.set i (some d)) μ := ⟨g.hok, g.st.set i r, g.pr⟩
end

/-! ### judgements -/
abbrev KD := D → Mu → Prop
abbrev KDL := List D → Mu → Prop
abbrev KB := Bool → Mu → Prop
abbrev KX := Addr → List (Str × D) → Mu → Prop
abbrev TD := KX → Del → Mu → KD → Prop
abbrev TDL := KX → Del → Mu → KDL → Prop
abbrev TDB := KX → Del → Mu → KB → Prop
/-- an exception as it flies: its class, its dict -/
def ExLe (E : XK) (B : List Addr) (H0 : Hp) (μ0 : Mu) (Ex : KX) : Prop := ∀ (C d : Addr) (H : Hp) (μ : Mu) (fs : List (Str × V)) (ds : List (Str × D)), HOK B μ H → Pres B μ0 H0 μ H → H d = some (.xd fs) → fs.map (·.1) = ds.map (·.1) →
  RpL B μ H (fs.map (·.2)) (ds.map (·.2)) → Ex C ds μ → E (.ref C) (some d) H
theorem ExLe.base {E : XK} {B : List Addr} {H0 H1 : Hp} {μ0 μ1 : Mu} {Ex : KX} (x : ExLe E B H0 μ0 Ex) (p : Pres B μ0 H0 μ1 H1) : ExLe E B H1 μ1 Ex := fun C d H μ fs ds h q => x C d H μ fs ds h (p.trans q)
/-- what follows an expression -/
def Cont (B : List Addr) (μ : Mu) (H : Hp) (Q : KD) (Q0 : VK) : Prop := ∀ v H' d μ', HOK B μ' H' → Pres B μ H μ' H' → Rp B μ' H' v d → Q d μ' → Q0 v H'
def ContL (B : List Addr) (μ : Mu) (H : Hp) (Q : KDL) (Q0 : List V → Hp → Prop) : Prop := ∀ v H' d μ', HOK B μ' H' → Pres B μ H μ' H' → RpL B μ' H' v d → Q d μ' → Q0 v H'
def ContB (B : List Addr) (μ : Mu) (H : Hp) (Q : KB) (Q0 : Bool → Hp → Prop) : Prop := ∀ b H' μ', HOK B μ' H' → Pres B μ H μ' H' → Q b μ' → Q0 b H'
def SE (E : XK) (tr : TE) (t : TD) : Prop := ∀ (B : List Addr) (H0 : Hp) (μ0 : Mu) (Ex : KX) (σ : St) (H : Hp) (Δ : Del) (μ : Mu) (Q : KD) (Q0 : VK), ExLe E B H0 μ0 Ex → Go B H0 μ0 σ H Δ μ → t Ex Δ μ Q → Cont B μ H Q Q0 → tr σ H Q0
def SA (E : XK) (tr : TA) (t : TDL) : Prop := ∀ (B : List Addr) (H0 : Hp) (μ0 : Mu) (Ex : KX) (σ : St) (H : Hp) (Δ : Del) (μ : Mu) (Q : KDL) (Q0 : List V → Hp → Prop), ExLe E B H0 μ0 Ex → Go B H0 μ0 σ H Δ μ → t Ex Δ μ Q → ContL B μ H Q Q0 → tr σ H Q0
def SB (E : XK) (tr : TT) (t : TDB) : Prop := ∀ (B : List Addr) (H0 : Hp) (μ0 : Mu) (Ex : KX) (σ : St) (H : Hp) (Δ : Del) (μ : Mu) (Q : KB) (Q0 : Bool → Hp → Prop), ExLe E B H0 μ0 Ex → Go B H0 μ0 σ H Δ μ → t Ex Δ μ Q → ContB B μ H Q Q0 → tr σ H Q0
def JE (X : Cx) (E : XK) (e : Expr) (t : TD) : Prop := ∃ tr, PE X e tr ∧ SE E tr t
def JA (X : Cx) (E : XK) (es : List Expr) (t : TDL) : Prop := ∃ tr, PA X es tr ∧ SA E tr t
def JT (X : Cx) (E : XK) (e : Expr) (t : TDB) : Prop := ∃ tr, PT X e tr ∧ SB E tr t
section
variable {B : List Addr} {μ μ' μ0 μ1 μ2 : Mu} {H H' H0 H1 H2 : Hp} {v : V} {d : D} {Q : KD} {Q0 : VK} {p : Addr}
theorem Cont.here (c : Cont B μ H Q Q0) (h : HOK B μ H) (r : Rp B μ H v d) (q : Q d μ) : Q0 v H := c v H d μ h Pres.refl r q
theorem Cont.from (c : Cont B μ H Q Q0) (p : Pres B μ H μ1 H1) : Cont B μ1 H1 Q Q0 := fun v H' d μ' h q r z => c v H' d μ' h (p.trans q) r z
theorem ContL.from {Q : KDL} {Q0 : List V → Hp → Prop} (c : ContL B μ H Q Q0) (p : Pres B μ H μ1 H1) : ContL B μ1 H1 Q Q0 := fun v H' d μ' h q r z => c v H' d μ' h (p.trans q) r z
theorem ContB.from {Q : KB} {Q0 : Bool → Hp → Prop} (c : ContB B μ H Q Q0) (p : Pres B μ H μ1 H1) : ContB B μ1 H1 Q Q0 := fun v H' μ' h q z => c v H' μ' h (p.trans q) z
/-- a new list, tuple, dict: a value -/
theorem newL {xs : List V} {ds : List D} (h : HOK B μ H) (r : RpL B μ H xs ds) (n : H p = none) : Rp B μ (upd H p (.lst xs)) (.ref p) (.lst ds) :=
  .lst upd_same (h.free n) ((h.pnew n).all r)
theorem newT {xs : List V} {ds : List D} (h : HOK B μ H) (r : RpL B μ H xs ds) (n : H p = none) : Rp B μ (upd H p (.tup xs)) (.ref p) (.tup ds) :=
  .tup upd_same (h.free n) ((h.pnew n).all r)
theorem newK {kvs : List (Key × V)} {ks : List Key} {ds : List D} (h : HOK B μ H) (k : kvs.map (·.1) = ks) (r : RpL B μ H (kvs.map (·.2)) ds) (n : H p = none) : Rp B μ (upd H p (.dK kvs)) (.ref p) (.dic ks ds) :=
  .dic upd_same (h.free n) k ((h.pnew n).all r)
theorem Cont.newL {xs : List V} {ds : List D} (c : Cont B μ H Q Q0) (h : HOK B μ H) (r : RpL B μ H xs ds) (q : Q (.lst ds) μ) (n : H p = none) : Q0 (.ref p) (upd H p (.lst xs)) :=
  c _ _ _ _ (h.new n) (h.pnew n) (J.newL h r n) q
theorem Cont.newT {xs : List V} {ds : List D} (c : Cont B μ H Q Q0) (h : HOK B μ H) (r : RpL B μ H xs ds) (q : Q (.tup ds) μ) (n : H p = none) : Q0 (.ref p) (upd H p (.tup xs)) :=
  c _ _ _ _ (h.new n) (h.pnew n) (J.newT h r n) q
end
end J

set_option Elab.async false
set_option linter.all false
set_option maxRecDepth 100000
set_option maxHeartbeats 1000000
namespace J
open PySem L2
variable {X : Cx} {E : XK} {e e1 e2 e3 a b c : Expr} {es : List Expr} {pos p2 : Pos} {t ta tb tc te : TD} {tl : TDL} {u ub : TDB}

/-! ### names, constants -/
def jVar (i : Nat) : TD := fun _ Δ μ Q => match Δ[i]? with | some (some d) => Q d μ | _ => False
theorem je_var (i : Nat) {x : Str} (hN : X.N[i]? = some x := by rfl) (hv : Vis X.env.scope x := by first | exact Or.inl rfl | exact Or.inr (Or.inl rfl) | exact Or.inr (Or.inr rfl)) (hd : (x == ("__debug__" : Str)) = false := by decide)
    (hcd : (x == ("__classdict__" : Str)) = false := by decide) : JE X E (.Name x pos) (jVar i) := by
  refine ⟨_, pe_var hN hv hd hcd, fun B H0 μ0 Ex σ H Δ μ Q Q0 ex g h k => ?_⟩
  unfold jVar at h
  split at h
  · rename_i d e
    obtain ⟨v, e1, r⟩ := g.st.at_ i d e
    exact ⟨v, e1, k.here g.hok r h⟩
  · exact h.elim
def jC (d : D) : TD := fun _ _ μ Q => Q d μ
theorem je_int {i : Int} {j : Nat} : JE X E (.Constant (.int i) j pos) (jC (.int i)) := ⟨_, pe_int, fun _ _ _ _ _ _ _ _ _ _ _ g h k => k.here g.hok (.int i) h⟩
theorem je_str {x : Str} {j : Nat} : JE X E (.Constant (.str x) j pos) (jC (.str x)) := ⟨_, pe_str, fun _ _ _ _ _ _ _ _ _ _ _ g h k => k.here g.hok (.str x) h⟩
theorem je_bl {x : Bool} {j : Nat} : JE X E (.Constant (.bool x) j pos) (jC (.bl x)) := ⟨_, pe_bl, fun _ _ _ _ _ _ _ _ _ _ _ g h k => k.here g.hok (.bl x) h⟩
theorem je_non {j : Nat} : JE X E (.Constant .none j pos) (jC .non) := ⟨_, pe_non, fun _ _ _ _ _ _ _ _ _ _ _ g h k => k.here g.hok .non h⟩
/-- a built-in type as a value -/
theorem je_ty {n : String} {x : Str} (hg : Gl X x) (hm : X.mg x = none) (hv : bootBuiltins x = some (.type n)) (hn : x ≠ "__name__" := by decide) (hdb : (x == ("__debug__" : Str)) = false := by decide) : JE X E (.Name x pos) (jC (.ty n)) :=
  ⟨_, pe_bltn (v := .ty n) hg hm hv rfl hn hdb, fun _ _ _ _ _ _ _ _ _ _ _ g h k => k.here g.hok (.ty n) h⟩

/-! ### two operands -/
abbrev DF := D → D → Mu → KD → Prop
def R2S (r : R2) (f : DF) : Prop := ∀ (B : List Addr) (x y : V) (d e : D) (μ : Mu) (H : Hp) (Q : KD) (Q0 : VK), HOK B μ H → Rp B μ H x d → Rp B μ H y e → f d e μ Q → Cont B μ H Q Q0 → r x y H Q0
def jBin (f : DF) (ta tb : TD) : TD := fun Ex Δ μ Q => ta Ex Δ μ fun x μ1 => tb Ex Δ μ1 fun y μ2 => f x y μ2 Q
theorem se_bin {r : R2} {f : DF} {ra rb : TE} (hf : R2S r f) (ha : SE E ra ta) (hb : SE E rb tb) : SE E (tOp r ra rb) (jBin f ta tb) := by
  intro B H0 μ0 Ex σ H Δ μ Q Q0 ex g h k
  refine ha B H0 μ0 Ex σ H Δ μ _ _ ex g h fun v H1 d μ1 h1 p1 r1 q1 => ?_
  refine hb B H0 μ0 Ex σ H1 Δ μ1 _ _ ex (g.step h1 p1) q1 fun w H2 d2 μ2 h2 p2 r2 q2 => ?_
  exact hf B v w d d2 μ2 H2 Q Q0 h2 (p2.rp _ _ r1) r2 q2 (k.from (p1.trans p2))
theorem je_op {op : Operator} {r : R2} {f : DF} (ho : OpR X (binaryOp op) r) (hf : R2S r f) (ha : JE X E a ta) (hb : JE X E b tb) : JE X E (.BinOp a op b pos) (jBin f ta tb) := by
  obtain ⟨ra, pa, sa⟩ := ha
  obtain ⟨rb, pb, sb⟩ := hb
  exact ⟨_, pe_op ho pa pb, se_bin hf sa sb⟩
theorem je_cmp {op : CmpOp} {r : R2} {f : DF} (ho : OpR X (compareOp op) r) (hf : R2S r f) (ha : JE X E a ta) (hb : JE X E b tb) (hm : behindInMarks op b = false) : JE X E (.Compare a [op] [b] pos) (jBin f ta tb) := by
  obtain ⟨ra, pa, sa⟩ := ha
  obtain ⟨rb, pb, sb⟩ := hb
  exact ⟨_, pe_cmpR ho pa pb hm, se_bin hf sa sb⟩
/-- a bool told as data -/
def onB (Q : KB) : KD := fun d μ => match d with | .bl b => Q b μ | _ => False
theorem onB_ok {B : List Addr} {μ : Mu} {H : Hp} {Q : KB} {Q0 : Bool → Hp → Prop} (k : ContB B μ H Q Q0) : Cont B μ H (onB Q) (fun x H' => ∃ c, x = .bl c ∧ Q0 c H') := fun v H' d μ' h p r q => by
  unfold onB at q
  split at q
  · cases r; exact ⟨_, rfl, k _ _ _ h p q⟩
  · exact q.elim
def jTV (t : TD) : TDB := fun Ex Δ μ Q => t Ex Δ μ (onB Q)
theorem jt_cmp {op : CmpOp} {r : R2} {f : DF} (ho : OpR X (compareOp op) r) (hf : R2S r f) (ha : JE X E a ta) (hb : JE X E b tb) (hm : behindInMarks op b = false) : JT X E (.Compare a [op] [b] pos) (jTV (jBin f ta tb)) := by
  obtain ⟨ra, pa, sa⟩ := ha
  obtain ⟨rb, pb, sb⟩ := hb
  exact ⟨_, pt_cmpR ho pa pb hm, fun B H0 μ0 Ex σ H Δ μ Q Q0 ex g h k => se_bin hf sa sb B H0 μ0 Ex σ H Δ μ (onB Q) _ ex g h (onB_ok k)⟩
theorem jt_val (h : JE X E e t) (he : ∀ whole, isTrue e X.env whole = (do let v ← whole; standAt e.pos; holding [v] (truthy v)) := by intro _; rfl) : JT X E e (jTV t) := by
  obtain ⟨r, p, s⟩ := h
  exact ⟨_, pt_val p he, fun B H0 μ0 Ex σ H Δ μ Q Q0 ex g h k => s B H0 μ0 Ex σ H Δ μ (onB Q) _ ex g h (onB_ok k)⟩
/-- a < b < c -/
def jChain (f f' : DF) (ta tb tc : TD) : TD := fun Ex Δ μ Q => ta Ex Δ μ fun x μ1 => tb Ex Δ μ1 fun y μ2 => f x y μ2 fun z μ3 => match z with
  | .bl true => tc Ex Δ μ3 fun w μ4 => f' y w μ4 Q
  | .bl false => Q (.bl false) μ3
  | _ => False
theorem se_chain {r r' : R2} {f f' : DF} {ra rb rc : TE} (hf : R2S r f) (hf' : R2S r' f') (ha : SE E ra ta) (hb : SE E rb tb) (hc : SE E rc tc) : SE E (tChain r r' ra rb rc) (jChain f f' ta tb tc) := by
  intro B H0 μ0 Ex σ H Δ μ Q Q0 ex g h k
  refine ha B H0 μ0 Ex σ H Δ μ _ _ ex g h fun v H1 d μ1 h1 p1 r1 q1 => ?_
  refine hb B H0 μ0 Ex σ H1 Δ μ1 _ _ ex (g.step h1 p1) q1 fun w H2 d2 μ2 h2 p2 r2 q2 => ?_
  refine hf B v w d d2 μ2 H2 _ _ h2 (p2.rp _ _ r1) r2 q2 fun z H3 d3 μ3 h3 p3 r3 q3 => ?_
  have p13 := (p1.trans p2).trans p3
  split at q3
  · cases r3
    refine ⟨true, rfl, ?_⟩
    refine iteT (hc B H0 μ0 Ex σ H3 Δ μ3 _ _ ex (g.step h3 p13) q3 fun w' H4 d4 μ4 h4 p4 r4 q4 => ?_)
    exact hf' B w w' d2 d4 μ4 H4 Q Q0 h4 ((p3.trans p4).rp _ _ r2) r4 q4 (k.from (p13.trans p4))
  · cases r3
    exact ⟨false, rfl, iteF (k _ _ _ _ h3 p13 (.bl false) q3)⟩
  · exact q3.elim
theorem je_chain {op op' : CmpOp} {r r' : R2} {f f' : DF} (ho : OpR X (compareOp op) r) (hf : R2S r f) (ho' : OpR X (compareOp op') r') (hf' : R2S r' f') (ha : JE X E a ta) (hb : JE X E b tb) (hc : JE X E c tc)
    (hm : lastMarks [op, op'] [b, c] = false := by with_unfolding_all rfl) : JE X E (.Compare a [op, op'] [b, c] pos) (jChain f f' ta tb tc) := by
  obtain ⟨ra, pa, sa⟩ := ha
  obtain ⟨rb, pb, sb⟩ := hb
  obtain ⟨rc, pc, sc⟩ := hc
  exact ⟨_, pe_chain ho ho' pa pb pc hm, se_chain hf hf' sa sb sc⟩
theorem jt_chain {op op' : CmpOp} {r r' : R2} {f f' : DF} (ho : OpR X (compareOp op) r) (hf : R2S r f) (ho' : OpR X (compareOp op') r') (hf' : R2S r' f') (ha : JE X E a ta) (hb : JE X E b tb) (hc : JE X E c tc)
    (hm : lastMarks [op, op'] [b, c] = false := by with_unfolding_all rfl) : JT X E (.Compare a [op, op'] [b, c] pos) (jTV (jChain f f' ta tb tc)) := by
  obtain ⟨ra, pa, sa⟩ := ha
  obtain ⟨rb, pb, sb⟩ := hb
  obtain ⟨rc, pc, sc⟩ := hc
  exact ⟨_, pt_chain ho ho' pa pb pc hm, fun B H0 μ0 Ex σ H Δ μ Q Q0 ex g h k => se_chain hf hf' sa sb sc B H0 μ0 Ex σ H Δ μ (onB Q) _ ex g h (onB_ok k)⟩

/-! ### and, or, not, if -/
def jAnd (u ub : TDB) : TDB := fun Ex Δ μ Q => u Ex Δ μ fun b μ1 => match b with | true => ub Ex Δ μ1 Q | false => Q false μ1
def jOr (u ub : TDB) : TDB := fun Ex Δ μ Q => u Ex Δ μ fun b μ1 => match b with | true => Q true μ1 | false => ub Ex Δ μ1 Q
def jNot (u : TDB) : TDB := fun Ex Δ μ Q => u Ex Δ μ fun b μ1 => Q (!b) μ1
def JW (X : Cx) (E : XK) (e : Expr) (t : TDB) : Prop := ∃ tr, PW X e tr ∧ SB E tr t
theorem JW.pt (h : JW X E e u) : JT X E e u := by
  obtain ⟨r, p, s⟩ := h
  exact ⟨r, p.pt, s⟩
theorem jw_and1 (h : JT X E a u) : JW X E (.BoolOp .And [a] pos) u := by
  obtain ⟨r, p, s⟩ := h
  exact ⟨r, pw_and1 p, s⟩
theorem jw_or1 (h : JT X E a u) : JW X E (.BoolOp .Or [a] pos) u := by
  obtain ⟨r, p, s⟩ := h
  exact ⟨r, pw_or1 p, s⟩
theorem jw_and (h : JT X E a u) (h2 : JW X E (.BoolOp .And (b :: es) pos) ub) : JW X E (.BoolOp .And (a :: b :: es) pos) (jAnd u ub) := by
  obtain ⟨r, p, s⟩ := h
  obtain ⟨r2, p2, s2⟩ := h2
  refine ⟨_, pw_and p p2, fun B H0 μ0 Ex σ H Δ μ Q Q0 ex g h k => ?_⟩
  refine s B H0 μ0 Ex σ H Δ μ _ _ ex g h fun c H1 μ1 h1 p1 q1 => ?_
  cases c with
  | true => exact iteT (s2 B H0 μ0 Ex σ H1 Δ μ1 Q Q0 ex (g.step h1 p1) q1 (k.from p1))
  | false => exact iteF (k _ _ _ h1 p1 q1)
theorem jw_or (h : JT X E a u) (h2 : JW X E (.BoolOp .Or (b :: es) pos) ub) : JW X E (.BoolOp .Or (a :: b :: es) pos) (jOr u ub) := by
  obtain ⟨r, p, s⟩ := h
  obtain ⟨r2, p2, s2⟩ := h2
  refine ⟨_, pw_or p p2, fun B H0 μ0 Ex σ H Δ μ Q Q0 ex g h k => ?_⟩
  refine s B H0 μ0 Ex σ H Δ μ _ _ ex g h fun c H1 μ1 h1 p1 q1 => ?_
  cases c with
  | false => exact iteF (s2 B H0 μ0 Ex σ H1 Δ μ1 Q Q0 ex (g.step h1 p1) q1 (k.from p1))
  | true => exact iteT (k _ _ _ h1 p1 q1)
theorem jt_not (h : JT X E a u) : JT X E (.UnaryOp .Not a pos) (jNot u) := by
  obtain ⟨r, p, s⟩ := h
  exact ⟨_, pt_not p, fun B H0 μ0 Ex σ H Δ μ Q Q0 ex g h k => s B H0 μ0 Ex σ H Δ μ _ _ ex g h fun c H1 μ1 h1 p1 q1 => k _ _ _ h1 p1 q1⟩
/-- .. as values -/
def jAndV (ta tb : TD) : TD := fun Ex Δ μ Q => ta Ex Δ μ fun x μ1 => match x with | .bl true => tb Ex Δ μ1 Q | .bl false => Q (.bl false) μ1 | _ => False
def jOrV (ta tb : TD) : TD := fun Ex Δ μ Q => ta Ex Δ μ fun x μ1 => match x with | .bl true => Q (.bl true) μ1 | .bl false => tb Ex Δ μ1 Q | _ => False
def jNotV (ta : TD) : TD := fun Ex Δ μ Q => ta Ex Δ μ fun x μ1 => match x with | .bl b => Q (.bl (!b)) μ1 | _ => False
theorem je_one {op : BoolOp} (h : JE X E a t) : JE X E (.BoolOp op [a] pos) t := by
  obtain ⟨r, p, s⟩ := h
  exact ⟨r, pe_one p, s⟩
theorem je_and (h : JE X E a ta) (h2 : JE X E (.BoolOp .And (b :: es) pos) tb) : JE X E (.BoolOp .And (a :: b :: es) pos) (jAndV ta tb) := by
  obtain ⟨r, p, s⟩ := h
  obtain ⟨r2, p2, s2⟩ := h2
  refine ⟨_, pe_and p p2, fun B H0 μ0 Ex σ H Δ μ Q Q0 ex g h k => ?_⟩
  refine s B H0 μ0 Ex σ H Δ μ _ _ ex g h fun v H1 d μ1 h1 p1 r1 q1 => ?_
  split at q1
  · cases r1; exact ⟨true, rfl, iteT (s2 B H0 μ0 Ex σ H1 Δ μ1 Q Q0 ex (g.step h1 p1) q1 (k.from p1))⟩
  · cases r1; exact ⟨false, rfl, iteF (k _ _ _ _ h1 p1 (.bl _) q1)⟩
  · exact q1.elim
theorem je_or (h : JE X E a ta) (h2 : JE X E (.BoolOp .Or (b :: es) pos) tb) : JE X E (.BoolOp .Or (a :: b :: es) pos) (jOrV ta tb) := by
  obtain ⟨r, p, s⟩ := h
  obtain ⟨r2, p2, s2⟩ := h2
  refine ⟨_, pe_or p p2, fun B H0 μ0 Ex σ H Δ μ Q Q0 ex g h k => ?_⟩
  refine s B H0 μ0 Ex σ H Δ μ _ _ ex g h fun v H1 d μ1 h1 p1 r1 q1 => ?_
  split at q1
  · cases r1; exact ⟨true, rfl, iteT (k _ _ _ _ h1 p1 (.bl _) q1)⟩
  · cases r1; exact ⟨false, rfl, iteF (s2 B H0 μ0 Ex σ H1 Δ μ1 Q Q0 ex (g.step h1 p1) q1 (k.from p1))⟩
  · exact q1.elim
theorem je_not (h : JE X E a ta) : JE X E (.UnaryOp .Not a pos) (jNotV ta) := by
  obtain ⟨r, p, s⟩ := h
  refine ⟨_, pe_not p, fun B H0 μ0 Ex σ H Δ μ Q Q0 ex g h k => ?_⟩
  refine s B H0 μ0 Ex σ H Δ μ _ _ ex g h fun v H1 d μ1 h1 p1 r1 q1 => ?_
  split at q1
  · cases r1; exact ⟨_, rfl, k _ _ _ _ h1 p1 (.bl _) q1⟩
  · exact q1.elim
def jIf (u : TDB) (ta tb : TD) : TD := fun Ex Δ μ Q => u Ex Δ μ fun b μ1 => match b with | true => ta Ex Δ μ1 Q | false => tb Ex Δ μ1 Q
theorem je_if (h : JT X E c u) (h1 : JE X E a ta) (h2 : JE X E b tb) : JE X E (.IfExp c a b pos) (jIf u ta tb) := by
  obtain ⟨r, p, s⟩ := h
  obtain ⟨r1, p1, s1⟩ := h1
  obtain ⟨r2, p2, s2⟩ := h2
  refine ⟨_, pe_ifExp p p1 p2, fun B H0 μ0 Ex σ H Δ μ Q Q0 ex g h k => ?_⟩
  refine s B H0 μ0 Ex σ H Δ μ _ _ ex g h fun v H1 μ1 h1 p1 q1 => ?_
  cases v with
  | true => exact iteT (s1 B H0 μ0 Ex σ H1 Δ μ1 Q Q0 ex (g.step h1 p1) q1 (k.from p1))
  | false => exact iteF (s2 B H0 μ0 Ex σ H1 Δ μ1 Q Q0 ex (g.step h1 p1) q1 (k.from p1))

/-! ### one operand -/
def jUn (f : D → Mu → KD → Prop) (ta : TD) : TD := fun Ex Δ μ Q => ta Ex Δ μ fun x μ1 => f x μ1 Q
def dNeg (d : D) (μ : Mu) (Q : KD) : Prop := match d with | .int i => Q (.int (-i)) μ | _ => False
theorem je_neg (h : JE X E a ta) : JE X E (.UnaryOp .USub a pos) (jUn dNeg ta) := by
  obtain ⟨r, p, s⟩ := h
  refine ⟨_, pe_un un_neg p, fun B H0 μ0 Ex σ H Δ μ Q Q0 ex g h k => ?_⟩
  refine s B H0 μ0 Ex σ H Δ μ _ _ ex g h fun v H1 d μ1 h1 p1 r1 q1 => ?_
  unfold dNeg at q1
  split at q1
  · cases r1; exact ⟨_, rfl, k _ _ _ _ h1 p1 (.int _) q1⟩
  · exact q1.elim

/-! ### arguments, displays -/
def jNil : TDL := fun _ _ μ Q => Q [] μ
def jCons (ta : TD) (tl : TDL) : TDL := fun Ex Δ μ Q => ta Ex Δ μ fun x μ1 => tl Ex Δ μ1 fun xs μ2 => Q (x :: xs) μ2
theorem ja_nil : JA X E [] jNil := ⟨_, pa_nil, fun _ _ _ _ _ _ _ _ _ _ _ g h k => k _ _ _ _ g.hok Pres.refl .nil h⟩
theorem ja_cons (ha : JE X E e ta) (hr : JA X E es tl) (hs : starEach (e :: es) X.env = (false, eval e X.env) :: starEach es X.env := by rfl) : JA X E (e :: es) (jCons ta tl) := by
  obtain ⟨r, p, s⟩ := ha
  obtain ⟨r2, p2, s2⟩ := hr
  refine ⟨_, pa_cons p p2 hs, fun B H0 μ0 Ex σ H Δ μ Q Q0 ex g h k => ?_⟩
  refine s B H0 μ0 Ex σ H Δ μ _ _ ex g h fun v H1 d μ1 h1 p1 r1 q1 => ?_
  refine s2 B H0 μ0 Ex σ H1 Δ μ1 _ _ ex (g.step h1 p1) q1 fun vs H2 ds μ2 h2 p2 r2 q2 => ?_
  exact k _ _ _ _ h2 (p1.trans p2) (.cons (p2.rp _ _ r1) r2) q2
def jTup (tl : TDL) : TD := fun Ex Δ μ Q => tl Ex Δ μ fun xs μ1 => xs.length ≤ sizeLine ∧ Q (.tup xs) μ1
def jLst (tl : TDL) : TD := fun Ex Δ μ Q => tl Ex Δ μ fun xs μ1 => xs.length ≤ sizeLine ∧ Q (.lst xs) μ1
theorem je_tup {x1 : Nat} (h : JA X E es tl) : JE X E (.Tuple es x1 pos) (jTup tl) := by
  obtain ⟨r, p, s⟩ := h
  refine ⟨_, pe_tup p, fun B H0 μ0 Ex σ H Δ μ Q Q0 ex g h k => ?_⟩
  refine s B H0 μ0 Ex σ H Δ μ _ _ ex g h fun vs H1 ds μ1 h1 p1 r1 q1 => ⟨by rw [r1.len]; exact q1.1, fun p hp => ?_⟩
  exact (k.from p1).newT h1 r1 q1.2 hp
theorem je_lst (h : JA X E es tl) : JE X E (.List es pos) (jLst tl) := by
  obtain ⟨r, p, s⟩ := h
  refine ⟨_, pe_lst p, fun B H0 μ0 Ex σ H Δ μ Q Q0 ex g h k => ?_⟩
  refine s B H0 μ0 Ex σ H Δ μ _ _ ex g h fun vs H1 ds μ1 h1 p1 r1 q1 => ⟨by rw [r1.len]; exact q1.1, fun p hp => ?_⟩
  exact (k.from p1).newL h1 r1 q1.2 hp

/-! ### statements -/
structure EndsD where
  nx : Del → Mu → Prop
  rt : KD
  bk : Del → Mu → Prop := fun _ _ => False
  ct : Del → Mu → Prop := fun _ _ => False
abbrev TSD := KX → EndsD → Del → Mu → Prop
structure EndsLe (B : List Addr) (H0 : Hp) (μ0 : Mu) (D' : EndsD) (D : Ends) : Prop where
  nx : ∀ σ H Δ μ, Go B H0 μ0 σ H Δ μ → D'.nx Δ μ → D.nx σ H
  rt : ∀ v H d μ, HOK B μ H → Pres B μ0 H0 μ H → Rp B μ H v d → D'.rt d μ → D.rt v H
  bk : ∀ σ H Δ μ, Go B H0 μ0 σ H Δ μ → D'.bk Δ μ → D.bk σ H
  ct : ∀ σ H Δ μ, Go B H0 μ0 σ H Δ μ → D'.ct Δ μ → D.ct σ H
def SS (E : XK) (tr : TS) (t : TSD) : Prop := ∀ (B : List Addr) (H0 : Hp) (μ0 : Mu) (Ex : KX) (D' : EndsD) (D : Ends) (σ : St) (H : Hp) (Δ : Del) (μ : Mu), ExLe E B H0 μ0 Ex → EndsLe B H0 μ0 D' D → Go B H0 μ0 σ H Δ μ → t Ex D' Δ μ → tr D σ H
def JS (X : Cx) (E : XK) (st : Stmt) (t : TSD) : Prop := ∃ tr, PS X st tr ∧ SS E tr t
def JSs (X : Cx) (E : XK) (st : List Stmt) (t : TSD) : Prop := ∃ tr, PSs X st tr ∧ SS E tr t
variable {s s1 s2 : Stmt} {ss ss1 ss2 : List Stmt} {ts ts1 ts2 : TSD}
def jSeq (t1 t2 : TSD) : TSD := fun Ex D Δ μ => t1 Ex { D with nx := t2 Ex D } Δ μ
theorem jss_one (h : JS X E s ts) : JSs X E [s] ts := by
  obtain ⟨r, p, q⟩ := h
  exact ⟨r, pss_one p, q⟩
theorem jss_cons (h : JS X E s ts1) (h2 : JSs X E ss ts2) : JSs X E (s :: ss) (jSeq ts1 ts2) := by
  obtain ⟨r, p, q⟩ := h
  obtain ⟨r2, p2, q2⟩ := h2
  refine ⟨_, pss_cons p p2, fun B H0 μ0 Ex D' D σ H Δ μ ex el g h => ?_⟩
  exact q B H0 μ0 Ex { D' with nx := ts2 Ex D' } _ σ H Δ μ ex ⟨fun σ' H' Δ' μ' g' z => q2 B H0 μ0 Ex D' D σ' H' Δ' μ' ex el g' z, el.rt, el.bk, el.ct⟩ g h
def jNext : TSD := fun _ D Δ μ => D.nx Δ μ
theorem jss_nil : JSs X E [] jNext := ⟨_, pss_nil, fun B H0 μ0 Ex D' D σ H Δ μ ex el g h => el.nx _ _ _ _ g h⟩
theorem js_pass : JS X E (.Pass pos) jNext := ⟨_, ps_pass, fun B H0 μ0 Ex D' D σ H Δ μ ex el g h => el.nx _ _ _ _ g h⟩
def jRet (t : TD) : TSD := fun Ex D Δ μ => t Ex Δ μ D.rt
theorem js_ret (h : JE X E e t) : JS X E (.Return (some e) pos) (jRet t) := by
  obtain ⟨r, p, q⟩ := h
  refine ⟨_, ps_ret p, fun B H0 μ0 Ex D' D σ H Δ μ ex el g h => ?_⟩
  exact q B H0 μ0 Ex σ H Δ μ _ _ ex g h fun v H' d μ' h' p' r' q' => el.rt _ _ _ _ h' (g.pr.trans p') r' q'
def jIfS (u : TDB) (t1 t2 : TSD) : TSD := fun Ex D Δ μ => u Ex Δ μ fun b μ1 => match b with | true => t1 Ex D Δ μ1 | false => t2 Ex D Δ μ1
theorem js_if (h : JT X E c u) (h1 : JSs X E ss1 ts1) (h2 : JSs X E ss2 ts2) : JS X E (.If c ss1 ss2 pos) (jIfS u ts1 ts2) := by
  obtain ⟨r, p, q⟩ := h
  obtain ⟨r1, p1, q1⟩ := h1
  obtain ⟨r2, p2, q2⟩ := h2
  refine ⟨_, ps_if p p1 p2, fun B H0 μ0 Ex D' D σ H Δ μ ex el g h => ?_⟩
  refine q B H0 μ0 Ex σ H Δ μ _ _ ex g h fun b H1 μ1 h1 p1 z => ?_
  cases b with
  | true => exact iteT (q1 B H0 μ0 Ex D' D σ H1 Δ μ1 ex el (g.step h1 p1) z)
  | false => exact iteF (q2 B H0 μ0 Ex D' D σ H1 Δ μ1 ex el (g.step h1 p1) z)
def jDrop (t : TD) : TSD := fun Ex D Δ μ => t Ex Δ μ fun _ μ1 => D.nx Δ μ1
theorem js_expr (h : JE X E e t) (hs : swapsWith e none pos.line X.env = pure false := by rfl) : JS X E (.Expr e pos) (jDrop t) := by
  obtain ⟨r, p, q⟩ := h
  refine ⟨_, ps_expr p hs, fun B H0 μ0 Ex D' D σ H Δ μ ex el g h => ?_⟩
  exact q B H0 μ0 Ex σ H Δ μ _ _ ex g h fun v H' d μ' h' p' r' q' => el.nx _ _ _ _ (g.step h' p') q'
def jSet (i : Nat) (t : TD) : TSD := fun Ex D Δ μ => t Ex Δ μ fun d μ1 => D.nx (Δ.set i (some d)) μ1
theorem js_set (i : Nat) {x : Str} {pos' : Pos} (hN : X.N.Nodup) (h : JE X E e t) (hi : X.N[i]? = some x := by rfl) (hx : Loc X.env.scope x := by first | exact .inl rfl | exact .inr rfl) (hs : swapsWith e (some (.Name x pos')) pos.line X.env = pure false := by rfl) (hf : X.fn x = true ∨ X.env.scope.names.lookup x = some .local := by first | exact .inl rfl | exact .inr rfl | assumption) :
    JS X E (.Assign [.Name x pos'] e pos) (jSet i t) := by
  obtain ⟨r, p, q⟩ := h
  refine ⟨_, ps_set hN hi hx p hs hf, fun B H0 μ0 Ex D' D σ H Δ μ ex el g h => ?_⟩
  exact q B H0 μ0 Ex σ H Δ μ _ _ ex g h fun v H' d μ' h' p' r' q' => el.nx _ _ _ _ ((g.step h' p').set i r') q'

/-! ### calls of defs -/
abbrev Ct := List D → Mu → KD → KX → Prop
/-- a contract as a promise: what it says of the data -/
def spOf (C : Ct) : Sp := fun vs H Q E => ∃ (B : List Addr) (ds : List D) (μ : Mu) (Q' : KD) (Ex : KX), HOK B μ H ∧ RpL B μ H vs ds ∧ C ds μ Q' Ex ∧ Cont B μ H Q' Q ∧ ExLe E B H μ Ex
def jCall (C : Ct) (tl : TDL) : TD := fun Ex Δ μ Q => tl Ex Δ μ fun ds μ1 => C ds μ1 Q Ex
variable {CX : CXT} {k : Nat} {f : Addr} {fd : FuncData} {ps : List Str} {C : Ct} {x : Str} {p : Pos}
theorem je_call (F : FnOk X.prog X.w X.K X.mg X.base CX k f fd ps (spOf C)) (hr : Room k X.A) (hg : Gl X x) (hm : X.mg x = some (.ref f)) (hk : PySem.W.keepIn X.K (.ref f) = true) (hb : Binds X.K fd ps []) (hx : Passes CX X E)
    (ha : JA X E (e :: es) tl) (hdb : (x == ("__debug__" : Str)) = false := by decide) (he : starEach (e :: es) X.env = (false, eval e X.env) :: starEach es X.env := by rfl) (hpl : (backTo pos (starEach es X.env)).any (·.1) = false := by rfl) :
    JE X E (.Call (.Name x p) (e :: es) [] pos) (jCall C tl) := by
  obtain ⟨r, p, s⟩ := ha
  refine ⟨_, pe_call F hr hg hm hk hb .nil hx p hdb he hpl, fun B H0 μ0 Ex σ H Δ μ Q Q0 ex g h k => ?_⟩
  refine s B H0 μ0 Ex σ H Δ μ _ _ ex g h fun vs H1 ds μ1 h1 p1 r1 q1 => ?_
  rw [List.append_nil]
  exact ⟨B, ds, μ1, Q, Ex, h1, r1, q1, k.from p1, ex.base (g.pr.trans p1)⟩
/-- what is wanted at a def's end: its own objects are let go -/
def endsOf (Q : KD) : EndsD := { nx := fun _ μ => ∃ l o, μ.own = l ++ o ∧ Q .non ⟨μ.bag, o⟩, rt := fun d μ => ∃ l o, μ.own = l ++ o ∧ Q d ⟨μ.bag, o⟩ }
def startD (N : List Str) (ds : List D) : Del := ds.map some ++ List.replicate (N.length - ds.length) none

theorem HOK.drop {B : List Addr} {μ : Mu} {H : Hp} {l o : List (Addr × MO)} (h : HOK B μ H) (e : μ.own = l ++ o) : Keeps B μ H B ⟨μ.bag, o⟩ H ∧ HOK B ⟨μ.bag, o⟩ H := by
  have sub : ∀ a, Bl B ⟨μ.bag, o⟩ a → Bl B μ a := fun a b => by
    rcases b with b | b | b
    · exact .inl b
    · exact .inr (.inl b)
    · refine .inr (.inr ?_)
      rw [e, List.map_append]
      exact List.mem_append_right _ b
  have k : Keeps B μ H B ⟨μ.bag, o⟩ H := ⟨fun a u q b => ⟨q, fun z => b (sub a z)⟩, fun _ z => z⟩
  have mem : ∀ p ∈ o, p ∈ μ.own := fun p hp => by rw [e]; exact List.mem_append_right _ hp
  have memk : ∀ a, a ∈ o.map (·.1) → a ∈ μ.own.map (·.1) := fun a ha => by
    rw [e, List.map_append]; exact List.mem_append_right _ ha
  refine ⟨k, fun b hb => (h.bag b hb).keep k rfl, fun p hp => (h.own p (mem p hp)).keep (k.pres fun _ _ => rfl) rfl, ?_, fun b hb z => h.bo b hb (memk _ z), h.bt, fun a ha => ⟨(h.bd a ha).1, fun z => (h.bd a ha).2 (memk _ z)⟩⟩
  have := h.nd
  rw [e, List.map_append] at this
  exact (List.nodup_append.mp this).2.1
theorem ends_le {B : List Addr} {μ : Mu} {H : Hp} {Q' : KD} {Q : VK} (c : Cont B μ H Q' Q) : EndsLe B H μ (endsOf Q') { nx := fun _ H' => Q .non H', rt := Q } where
  nx := fun σ H' Δ μ' g ⟨l, o, e, q⟩ => by
    obtain ⟨k, h'⟩ := g.hok.drop e
    exact c _ _ _ _ h' (g.pr.trans (k.pres fun _ _ => rfl)) .non q
  rt := fun v H' d μ' h p r ⟨l, o, e, q⟩ => by
    obtain ⟨k, h'⟩ := h.drop e
    exact c _ _ _ _ h' (p.trans (k.pres fun _ _ => rfl)) (r.keep k) q
  bk := fun _ _ _ _ _ z => z.elim
  ct := fun _ _ _ _ _ z => z.elim
theorem start_ok {B : List Addr} {μ : Mu} {H : Hp} {N : List Str} {vs : List V} {ds : List D} (r : RpL B μ H vs ds) (h : HOK B μ H) : Go B H μ (L2.start N vs) H (startD N ds) μ := by
  refine ⟨h, ⟨?_, fun i d e => ?_⟩, Pres.refl⟩
  · unfold L2.start startD
    simp [r.len]
  · unfold startD at e
    rcases Nat.lt_or_ge i ds.length with hi | hi
    · rw [List.getElem?_append_left (by simpa using hi), List.getElem?_map] at e
      cases hd : ds[i]? with
      | none => rw [hd] at e; cases e
      | some d' =>
        rw [hd] at e
        cases e
        obtain ⟨v, e1, r1⟩ := r.get hd
        refine ⟨v, ?_, r1⟩
        unfold L2.start
        rw [List.getElem?_append_left (by simpa [r.len] using hi), List.getElem?_map, e1]
        rfl
    · rw [List.getElem?_append_right (by simpa using hi), List.getElem?_replicate] at e
      split at e <;> cases e
variable {P : Program} {w : World} {K : PySem.W.Frag} {mg : Str → Option Value} {base : Heap} {qual : Str} {st : Stmt} {N : List Str}
/-- THE RULE for a def that lets no exception out -/
theorem fn0 (F : Fun K x qual st f fd) (S : FnScope N ps (defScope st)) (C : Ct) (t : TSD) (len : ∀ ds μ Q Ex, C ds μ Q Ex → ds.length = ps.length)
    (hd : ∀ (cdv : Value) (A : Around) (outer : List Env) (s : Shared) (H : Hp) (E : XK), Room k (A.deeper (PyProof.Rows.envOfC qual (defScope st) s.heap.objs.size f cdv)) → JSs (cxOf CX0 P w K mg base N qual (defScope st) f cdv A outer s H E).nox E (defBody st) t)
    (ht : ∀ ds μ Q Ex, C ds μ Q Ex → t Ex (endsOf Q) (startD N ds) μ) : FnOk P w K mg base CX0 (k + 1) f fd ps (spOf C) := by
  refine F.ok S (fun vs H Q E ⟨B, ds, μ, Q', Ex, h, r, c, _⟩ => ?_) (fun cdv A outer s H vs Q E hr ⟨B, ds, μ, Q', Ex, h, r, c, k, ex⟩ => ?_)
  · rw [r.len]; exact len _ _ _ _ c
  · obtain ⟨tr, p, q⟩ := hd cdv A outer s H E hr
    exact ⟨tr, p, q B H μ Ex (endsOf Q') _ _ H _ μ ex (ends_le k) (start_ok r h) (ht _ _ _ _ c)⟩
/-- .. for one that may -/
theorem fnX (F : Fun K x qual st f fd) (S : FnScope N ps (defScope st)) (C : Ct) (t : TSD) (len : ∀ ds μ Q Ex, C ds μ Q Ex → ds.length = ps.length)
    (hd : ∀ (cdv : Value) (A : Around) (outer : List Env) (s : Shared) (H : Hp) (E : XK), Room k (A.deeper (PyProof.Rows.envOfC qual (defScope st) s.heap.objs.size f cdv)) → JSs (cxOf (L2.CX P w) P w K mg base N qual (defScope st) f cdv A outer s H E) E (defBody st) t)
    (ht : ∀ ds μ Q Ex, C ds μ Q Ex → t Ex (endsOf Q) (startD N ds) μ) : FnOk P w K mg base (L2.CX P w) (k + 1) f fd ps (spOf C) := by
  refine F.okX S (fun vs H Q E ⟨B, ds, μ, Q', Ex, h, r, c, _⟩ => ?_) (fun cdv A outer s H vs Q E hr ⟨B, ds, μ, Q', Ex, h, r, c, k, ex⟩ => ?_)
  · rw [r.len]; exact len _ _ _ _ c
  · obtain ⟨tr, p, q⟩ := hd cdv A outer s H E hr
    exact ⟨tr, p, q B H μ Ex (endsOf Q') _ _ H _ μ ex (ends_le k) (start_ok r h) (ht _ _ _ _ c)⟩
end J

set_option Elab.async false
set_option linter.all false
set_option maxRecDepth 100000
set_option maxHeartbeats 1000000
namespace J
open PySem L2
variable {X : Cx} {E : XK} {e e1 e2 e3 a b c : Expr} {es : List Expr} {pos p2 : Pos} {t ta tb tc te : TD} {tl : TDL} {u ub : TDB}

/-! ### lists that are read: values, or one's own -/
def asL (μ : Mu) : D → Option (List D)
  | .lst ds => some ds
  | .ref a => match μ.own.lookup a with | some (.lst ds) => some ds | _ => none
  | _ => none
def asS (μ : Mu) : D → Option (List D)
  | .tup ds => some ds
  | d => asL μ d
theorem lookup_mem : ∀ {l : List (Addr × MO)} {a : Addr} {o : MO}, l.lookup a = some o → (a, o) ∈ l
  | [], _, _, h => by simp at h
  | (b, q) :: r, a, o, h => by
    rw [List.lookup_cons] at h
    by_cases e : a == b
    · rw [e] at h; cases h; rw [eq_of_beq e]; exact List.mem_cons_self
    · rw [Bool.eq_false_iff.mpr e] at h; exact List.mem_cons_of_mem _ (lookup_mem h)
section
variable {B : List Addr} {μ : Mu} {H : Hp} {v : V} {d : D} {ds : List D}
theorem asL_ok (h : HOK B μ H) (r : Rp B μ H v d) (e : asL μ d = some ds) : ∃ a xs, v = .ref a ∧ H a = some (.lst xs) ∧ RpL B μ H xs ds := by
  unfold asL at e
  split at e
  · cases e
    cases r with
    | lst h n r => exact ⟨_, _, rfl, h, r⟩
  · rename_i a
    split at e
    · rename_i ds' e2
      cases e
      cases r
      obtain ⟨xs, q, r⟩ := h.own _ (lookup_mem e2)
      exact ⟨_, xs, rfl, q, r⟩
    · cases e
  · cases e
theorem asS_ok (h : HOK B μ H) (r : Rp B μ H v d) (e : asS μ d = some ds) : ∃ a xs, v = .ref a ∧ (H a = some (.lst xs) ∨ H a = some (.tup xs)) ∧ RpL B μ H xs ds := by
  unfold asS at e
  split at e
  · cases e
    cases r with
    | tup h n r => exact ⟨_, _, rfl, .inr h, r⟩
  · obtain ⟨a, xs, q, h, r⟩ := asL_ok h r e
    exact ⟨a, xs, q, .inl h, r⟩
end
theorem sqL {K : PySem.W.Frag} {H : Hp} {a : Addr} {xs : List V} (h : H a = some (.lst xs)) : SqL K H a xs := .inl (.inl h)
theorem sqT {K : PySem.W.Frag} {H : Hp} {a : Addr} {xs : List V} (h : H a = some (.tup xs)) : SqT K H a xs := .inl (.inl h)

/-! ### arithmetic -/
def dAdd : DF := fun x y μ Q => match x, y with
  | .int i, .int j => Q (.int (i + j)) μ
  | .str a, .str b => a.length + b.length ≤ sizeLine ∧ Q (.str (a ++ b)) μ
  | .tup a, .tup b => a.length + b.length ≤ sizeLine ∧ Q (.tup (a ++ b)) μ
  | .lst a, .lst b => a.length + b.length ≤ sizeLine ∧ Q (.lst (a ++ b)) μ
  | _, _ => False
def rAddJ (X : Cx) : R2 := fun x y H Q => rI0 (fun i j => .int (i + j)) x y H Q ∨ (∃ i j, x = .str i ∧ y = .str j ∧ i.length + j.length ≤ sizeLine ∧ Q (.str (i ++ j)) H) ∨ rCatA X.K x y H Q ∨ rCat x y H Q
theorem or_add : OpR X (binaryOp .Add) (rAddJ X) := op_add.or (op_add_str.or (op_catA.or op_cat))
theorem rs_add : R2S (rAddJ X) dAdd := by
  intro B x y d e μ H Q Q0 h rx ry q k
  unfold dAdd at q
  split at q
  · cases rx; cases ry; exact .inl ⟨_, _, rfl, rfl, k.here h (.int _) q⟩
  · cases rx; cases ry; exact .inr (.inl ⟨_, _, rfl, rfl, q.1, k.here h (.str _) q.2⟩)
  · cases rx with
    | tup hx nx r1 =>
      cases ry with
      | tup hy ny r2 =>
        refine .inr (.inr (.inl ⟨_, _, _, _, rfl, rfl, sqT hx, sqT hy, by rw [r1.len, r2.len]; exact q.1, fun z => ?_, fun z1 z2 => ?_, fun _ _ p hp => k.newT h (r1.app r2) q.2 hp⟩))
        · subst z; cases r1
          exact k.here h (.tup hy ny r2) q.2
        · subst z2; cases r2
          refine k.here h (.tup hx nx r1) ?_
          have := q.2
          rwa [List.append_nil] at this
  · cases rx with
    | lst hx nx r1 =>
      cases ry with
      | lst hy ny r2 =>
        exact .inr (.inr (.inr ⟨_, _, _, _, rfl, rfl, hx, hy, by rw [r1.len, r2.len]; exact q.1, fun p hp => k.newL h (r1.app r2) q.2 hp⟩))
  · exact q.elim
def dSub : DF := fun x y μ Q => match x, y with | .int i, .int j => Q (.int (i - j)) μ | _, _ => False
theorem rs_sub : R2S (rI0 fun i j => .int (i - j)) dSub := by
  intro B x y d e μ H Q Q0 h rx ry q k
  unfold dSub at q
  split at q
  · cases rx; cases ry; exact ⟨_, _, rfl, rfl, k.here h (.int _) q⟩
  · exact q.elim
def dMul : DF := fun x y μ Q => match x, y with
  | .int i, .int j => (CMul i j ∨ CMulW i j) ∧ Q (.int (i * j)) μ
  | .lst a, .int n => (-(2 ^ 63) ≤ n ∧ n < 2 ^ 63 ∧ a.length * n.toNat ≤ sizeLine) ∧ Q (.lst (List.replicate n.toNat a).flatten) μ
  | _, _ => False
def rMulJ : R2 := fun x y H Q => rI CMul (fun i j => .int (i * j)) x y H Q ∨ rI CMulW (fun i j => .int (i * j)) x y H Q ∨ rRep x y H Q
theorem or_mul : OpR X (binaryOp .Mult) rMulJ := op_mul.or (op_mulW.or op_rep)
def dDiv : DF := fun x y μ Q => match x, y with | .int i, .int j => CDivW i j ∧ Q (.int (i / j)) μ | _, _ => False
theorem rs_div : R2S (rI CDivW fun i j => .int (i / j)) dDiv := by
  intro B x y d e μ H Q Q0 h rx ry q k
  unfold dDiv at q
  split at q
  · cases rx; cases ry; exact ⟨_, _, rfl, rfl, q.1, k.here h (.int _) q.2⟩
  · exact q.elim
def dMod : DF := fun x y μ Q => match x, y with | .int i, .int j => 0 < j ∧ Q (.int (i % j)) μ | _, _ => False
theorem rs_mod : R2S (rI (fun _ j => 0 < j) fun i j => .int (i % j)) dMod := by
  intro B x y d e μ H Q Q0 h rx ry q k
  unfold dMod at q
  split at q
  · cases rx; cases ry; exact ⟨_, _, rfl, rfl, q.1, k.here h (.int _) q.2⟩
  · exact q.elim
def dPow : DF := fun x y μ Q => match x, y with | .int i, .int j => CPow i j ∧ Q (.int (i ^ j.toNat)) μ | _, _ => False
theorem rs_pow : R2S (rI CPow fun i j => .int (i ^ j.toNat)) dPow := by
  intro B x y d e μ H Q Q0 h rx ry q k
  unfold dPow at q
  split at q
  · cases rx; cases ry; exact ⟨_, _, rfl, rfl, q.1, k.here h (.int _) q.2⟩
  · exact q.elim

/-! ### comparisons -/
def sLt (a b : Str) : Bool := decide (a.cps.toList < b.cps.toList)
def dCmp (fi : Int → Int → Bool) (fs : Str → Str → Bool) : DF := fun x y μ Q => match x, y with
  | .int i, .int j => Q (.bl (fi i j)) μ
  | .str i, .str j => Q (.bl (fs i j)) μ
  | _, _ => False
def rCmpJ (fi : Int → Int → Bool) (fs : Str → Str → Bool) : R2 := fun x y H Q => rI0 (fun i j => .bl (fi i j)) x y H Q ∨ (∃ i j, x = .str i ∧ y = .str j ∧ Q (.bl (fs i j)) H)
theorem rs_cmp {fi : Int → Int → Bool} {fs : Str → Str → Bool} : R2S (rCmpJ fi fs) (dCmp fi fs) := by
  intro B x y d e μ H Q Q0 h rx ry q k
  unfold dCmp at q
  split at q
  · cases rx; cases ry; exact .inl ⟨_, _, rfl, rfl, k.here h (.bl _) q⟩
  · cases rx; cases ry; exact .inr ⟨_, _, rfl, rfl, k.here h (.bl _) q⟩
  · exact q.elim
def dLt : DF := dCmp (fun i j => decide (i < j)) (fun i j => decide (i.cps.toList < j.cps.toList))
theorem or_lt : OpR X (compareOp .Lt) (rCmpJ (fun i j => decide (i < j)) (fun i j => decide (i.cps.toList < j.cps.toList))) := op_lt.or op_lt_str
def dLe : DF := dCmp (fun i j => decide (i ≤ j)) (fun _ _ => false)
def dGt : DF := dCmp (fun i j => decide (j < i)) (fun _ _ => false)
def dGe : DF := dCmp (fun i j => decide (j ≤ i)) (fun _ _ => false)
def dCmpI (fi : Int → Int → Bool) : DF := fun x y μ Q => match x, y with
  | .int i, .int j => Q (.bl (fi i j)) μ
  | _, _ => False
theorem rs_cmpI {fi : Int → Int → Bool} : R2S (rI0 (fun i j => .bl (fi i j))) (dCmpI fi) := by
  intro B x y d e μ H Q Q0 h rx ry q k
  unfold dCmpI at q
  split at q
  · cases rx; cases ry; exact ⟨_, _, rfl, rfl, k.here h (.bl _) q⟩
  · exact q.elim

/-! ### == of plain data -/
mutual
def toP : D → Option PyData
  | .non => some .none
  | .bl b => some (.bool b)
  | .int i => some (.int i)
  | .str s => some (.str s)
  | .lst ds => (toPs ds).map .list
  | .tup ds => (toPs ds).map .tuple
  | _ => none
def toPs : List D → Option (List PyData)
  | [] => some []
  | d :: ds => (toP d).bind fun p => (toPs ds).map fun ps => p :: ps
end
mutual
theorem toP_ok {K : PySem.W.Frag} {B : List Addr} {μ : Mu} {H : Hp} : ∀ {d : D} {v : V} {p : PyData}, Rp B μ H v d → toP d = some p → Dp K H v p
  | .non, _, _, r, e => by cases r; unfold toP at e; cases e; exact .non
  | .bl b, _, _, r, e => by cases r; unfold toP at e; cases e; exact .bl b
  | .int b, _, _, r, e => by cases r; unfold toP at e; cases e; exact .int b
  | .str b, _, _, r, e => by cases r; unfold toP at e; cases e; exact .str b
  | .lst ds, _, _, r, e => by
    unfold toP at e
    obtain ⟨ps, e1, e2⟩ := Option.map_eq_some_iff.mp e
    subst e2
    cases r with | lst h n r => exact .lst (sqL h) (toPs_ok r e1)
  | .tup ds, _, _, r, e => by
    unfold toP at e
    obtain ⟨ps, e1, e2⟩ := Option.map_eq_some_iff.mp e
    subst e2
    cases r with | tup h n r => exact .tup (sqT h) (toPs_ok r e1)
  | .ty n, _, _, _, e => by unfold toP at e; cases e
  | .dic _ _, _, _, _, e => by unfold toP at e; cases e
  | .obj _ _ _, _, _, _, e => by unfold toP at e; cases e
  | .ref _, _, _, _, e => by unfold toP at e; cases e
  | .dct _ _, _, _, _, e => by unfold toP at e; cases e
  | .bag, _, _, _, e => by unfold toP at e; cases e
theorem toPs_ok {K : PySem.W.Frag} {B : List Addr} {μ : Mu} {H : Hp} : ∀ {ds : List D} {vs : List V} {ps : List PyData}, RpL B μ H vs ds → toPs ds = some ps → DpAll K H vs ps
  | [], _, _, r, e => by cases r; unfold toPs at e; cases e; exact .nil
  | d :: ds, _, _, r, e => by
    unfold toPs at e
    obtain ⟨p, e1, e2⟩ := Option.bind_eq_some_iff.mp e
    obtain ⟨ps, e3, e4⟩ := Option.map_eq_some_iff.mp e2
    subst e4
    cases r with | cons r1 r2 => exact .cons (toP_ok r1 e1) (toPs_ok r2 e3)
end
/-- a value's plain data, one's own list too -/
def plain (μ : Mu) (d : D) : Option PyData := match d with
  | .ref a => (asL μ (.ref a)).bind fun ds => (toPs ds).map .list
  | d => toP d
theorem plain_ok {K : PySem.W.Frag} {B : List Addr} {μ : Mu} {H : Hp} {d : D} {v : V} {p : PyData} (h : HOK B μ H) (r : Rp B μ H v d) (e : plain μ d = some p) : Dp K H v p := by
  unfold plain at e
  split at e
  · obtain ⟨ds, e1, e2⟩ := Option.bind_eq_some_iff.mp e
    obtain ⟨ps, e3, e4⟩ := Option.map_eq_some_iff.mp e2
    subst e4
    obtain ⟨a, xs, e5, hx, rx⟩ := asL_ok h r e1
    subst e5
    exact .lst (sqL hx) (toPs_ok rx e3)
  · exact toP_ok r e
def scalEq : D → D → Option Bool
  | .int i, .int j => some (i == j)
  | .str a, .str b => some (a == b)
  | .bl a, .bl b => some (a == b)
  | .str _, .non => some false
  | .non, .str _ => some false
  | .int _, .non => some false
  | .non, .int _ => some false
  | .int _, .str _ => some false
  | .str _, .int _ => some false
  | .non, .non => some true
  | _, _ => none
def dEq (neg : Bool) : DF := fun x y μ Q => match scalEq x y with
  | some b => Q (.bl (neg ^^ b)) μ
  | none => match plain μ x, plain μ y with
    | some p, some q => SeqAt.shaped p = true ∧ SeqAt.shaped q = true ∧ Q (.bl (neg ^^ PyData.eqv p q)) μ
    | _, _ => False
def rEqJ (X : Cx) : R2 := fun x y H Q => rEq x y H Q ∨ rEqD X.K x y H Q
def rNeJ (X : Cx) : R2 := fun x y H Q => rNe x y H Q ∨ rNeD X.K x y H Q
theorem or_eq (hu : X.A.units + 64 < cLine) : OpR X (compareOp .Eq) (rEqJ X) := op_eq.or (op_eqD hu)
theorem or_ne (hu : X.A.units + 64 < cLine) : OpR X (compareOp .NotEq) (rNeJ X) := op_ne.or (op_neD hu)
theorem rs_eq : R2S (rEqJ X) (dEq false) := by
  intro B x y d e μ H Q Q0 h rx ry q k
  unfold dEq at q
  split at q
  · rename_i b eb
    rw [Bool.false_xor] at q
    refine .inl ?_
    unfold scalEq at eb
    split at eb <;> cases eb <;> cases rx <;> cases ry <;> refine ⟨rfl, k.here h ?_ q⟩
    · rw [dec_int]; exact .bl _
    · rw [dec_str]; exact .bl _
    · rw [dec_bl]; exact .bl _
    all_goals exact .bl _
  · split at q
    · rename_i p1 q1 e1 e2
      exact .inr ⟨_, _, plain_ok h rx e1, plain_ok h ry e2, q.1, q.2.1, k.here h (.bl _) (by have := q.2.2; rwa [Bool.false_xor] at this)⟩
    · exact q.elim
theorem rs_ne : R2S (rNeJ X) (dEq true) := by
  intro B x y d e μ H Q Q0 h rx ry q k
  unfold dEq at q
  split at q
  · rename_i b eb
    rw [Bool.true_xor] at q
    refine .inl ?_
    unfold scalEq at eb
    split at eb <;> cases eb <;> cases rx <;> cases ry <;> refine ⟨rfl, k.here h ?_ q⟩
    · rw [dec_int]; exact .bl _
    · rw [dec_str]; exact .bl _
    · rw [dec_bl]; exact .bl _
    all_goals exact .bl _
  · split at q
    · rename_i p1 q1 e1 e2
      exact .inr ⟨_, _, plain_ok h rx e1, plain_ok h ry e2, q.1, q.2.1, k.here h (.bl _) (by have := q.2.2; rwa [Bool.true_xor] at this)⟩
    · exact q.elim

/-! ### in -/
def flatD : D → Bool
  | .non => true | .bl _ => true | .int _ => true | .str _ => true | _ => false
/-- y == x of flat data -/
def eqF : D → D → Bool
  | .non, .non => true
  | .bl a, .bl b => a == b
  | .bl a, .int b => (if a then 1 else 0) == b
  | .int a, .bl b => a == (if b then 1 else 0)
  | .int a, .int b => a == b
  | .str a, .str b => a == b
  | _, _ => false
theorem flat_ok {B : List Addr} {μ : Mu} {H : Hp} {v : V} {d : D} (r : Rp B μ H v d) (f : flatD d = true) : flatV v = true := by
  cases r <;> first | rfl | cases f
theorem flats_ok {B : List Addr} {μ : Mu} {H : Hp} : ∀ {ds : List D} {vs : List V}, RpL B μ H vs ds → ds.all flatD = true → vs.all flatV = true
  | [], _, r, _ => by cases r; rfl
  | d :: ds, _, r, f => by
    cases r with
    | cons r1 r2 =>
      rw [List.all_cons, Bool.and_eq_true] at f
      rw [List.all_cons, flat_ok r1 f.1, flats_ok r2 f.2]; rfl
theorem eqF_ok {B : List Addr} {μ : Mu} {H : Hp} {v w : V} {d e : D} (r : Rp B μ H v d) (r2 : Rp B μ H w e) (f : flatD d = true) (f2 : flatD e = true) : eqV w v = eqF e d := by
  cases r <;> cases r2 <;> first | rfl | (cases f; done) | (cases f2; done)
theorem inV_ok {B : List Addr} {μ : Mu} {H : Hp} {v : V} {d : D} (r : Rp B μ H v d) (f : flatD d = true) : ∀ {ds : List D} {vs : List V}, RpL B μ H vs ds → ds.all flatD = true → inV v vs = ds.any (fun y => eqF y d)
  | [], _, r2, _ => by cases r2; rfl
  | e :: ds, _, r2, f2 => by
    cases r2 with
    | cons r1 r3 =>
      rw [List.all_cons, Bool.and_eq_true] at f2
      have ih := inV_ok r f r3 f2.2
      unfold inV at ih ⊢
      rw [List.any_cons, List.any_cons, eqF_ok r r1 f f2.1, ih]
def dIn (neg : Bool) : DF := fun x y μ Q => match y with
  | .str z => match x with
    | .str a => match a.cps.toList with
      | [c] => Q (.bl (neg ^^ decide (c ∈ z.cps.toList))) μ
      | _ => False
    | _ => False
  | y => match asS μ y with
    | some ds => flatD x = true ∧ ds.all flatD = true ∧ Q (.bl (neg ^^ ds.any fun y => eqF y x)) μ
    | none => False
def rInJ (X : Cx) (neg : Bool) : R2 := fun x y H Q => rIn X.K neg x y H Q ∨ (∃ (c : Nat) (z : Str), x = .str ⟨#[c]⟩ ∧ y = .str z ∧ Q (.bl (neg ^^ decide (c ∈ z.cps.toList))) H)
theorem or_in : OpR X (compareOp .In) (rInJ X false) := op_in_seq.or (by simpa using (op_in_sign (X := X)))
theorem or_notIn : OpR X (compareOp .NotIn) (rInJ X true) := op_notIn_seq.or (by simpa using (op_notIn_sign (X := X)))
theorem rs_in {neg : Bool} : R2S (rInJ X neg) (dIn neg) := by
  intro B x y d e μ H Q Q0 h rx ry q k
  unfold dIn at q
  split at q
  · split at q
    · split at q
      · rename_i z _ a l c hc
        cases rx; cases ry
        refine .inr ⟨_, _, ?_, rfl, k.here h (.bl _) q⟩
        have : a.cps = #[c] := by rw [← Array.toList_inj]; simpa using hc
        rw [← this]
      · exact q.elim
    · exact q.elim
  · split at q
    · rename_i ds hd
      obtain ⟨a, xs, rfl, hx, r⟩ := asS_ok h ry hd
      refine .inl ⟨a, xs, rfl, hx.elim (fun z => .inl (sqL z)) fun z => .inr (sqT z), flat_ok rx q.1, flats_ok r q.2.1, ?_⟩
      rw [inV_ok rx q.1 r q.2.1]
      cases neg with
      | true => rw [if_pos rfl]; exact k.here h (.bl _) (by have := q.2.2; rwa [Bool.true_xor] at this)
      | false => rw [if_neg Bool.false_ne_true]; exact k.here h (.bl _) (by have := q.2.2; rwa [Bool.false_xor] at this)
    · exact q.elim
end J

set_option Elab.async false
set_option linter.all false
set_option maxRecDepth 100000
set_option maxHeartbeats 1000000
namespace J
open PySem L2
variable {X : Cx} {E : XK} {e e1 e2 e3 a b c : Expr} {es : List Expr} {pos p2 : Pos} {t ta tb tc te : TD} {tl : TDL} {u ub : TDB}

/-! ### subscripts -/
def oneSign (c : Nat) : Str := ⟨#[c]⟩
def dIx : DF := fun x y μ Q => match y with
  | .int i => match x with
    | .str z => z.length ≤ sizeLine ∧ match atI z.cps.toList i with | some c => Q (.str (oneSign c)) μ | none => False
    | x => match asS μ x with
      | some ds => match atI ds i with | some d => Q d μ | none => False
      | none => False
  | _ => False
theorem atI_rp {B : List Addr} {μ : Mu} {H : Hp} {vs : List V} {ds : List D} {i : Int} {d : D} (r : RpL B μ H vs ds) (e : atI ds i = some d) : ∃ v, atI vs i = some v ∧ Rp B μ H v d := by
  unfold atI at e ⊢
  rw [r.len]
  cases q : ixN ds.length i with
  | none => rw [q] at e; cases e
  | some j =>
    rw [q] at e
    exact r.get e
theorem rs_ix : R2S (rIx X.K) dIx := by
  intro B x y d e μ H Q Q0 h rx ry q k
  unfold dIx at q
  split at q
  · cases ry
    split at q
    · cases rx
      obtain ⟨h1, q⟩ := q
      split at q
      · rename_i c hc
        exact .inr (.inr ⟨_, _, _, rfl, rfl, h1, hc, k.here h (.str _) q⟩)
      · exact q.elim
    · split at q
      · rename_i ds hd
        split at q
        · rename_i d hat
          obtain ⟨a, xs, rfl, hx, r⟩ := asS_ok h rx hd
          obtain ⟨v, hv, rv⟩ := atI_rp r hat
          rcases hx with hx | hx
          · exact .inl ⟨_, _, _, _, rfl, rfl, sqL hx, hv, k.here h rv q⟩
          · exact .inr (.inl ⟨_, _, _, _, rfl, rfl, sqT hx, hv, k.here h rv q⟩)
        · exact q.elim
      · exact q.elim
  · exact q.elim
theorem je_ix (ha : JE X E a ta) (hb : JE X E b tb) (hs : PlainIx b := by exact fun _ _ => rfl) : JE X E (.Subscript a b pos) (jBin dIx ta tb) := by
  obtain ⟨ra, pa, sa⟩ := ha
  obtain ⟨rb, pb, sb⟩ := hb
  exact ⟨_, pe_ix ix_seq pa pb hs, se_bin rs_ix sa sb⟩

/-! ### slices -/
abbrev TDO := KX → Del → Mu → (Option Int → Mu → Prop) → Prop
def SO (E : XK) (tr : TO) (t : TDO) : Prop := ∀ (B : List Addr) (H0 : Hp) (μ0 : Mu) (Ex : KX) (σ : St) (H : Hp) (Δ : Del) (μ : Mu) (Q : Option Int → Mu → Prop) (Q0 : Option Int → Hp → Prop), ExLe E B H0 μ0 Ex → Go B H0 μ0 σ H Δ μ → t Ex Δ μ Q →
  (∀ o H' μ', HOK B μ' H' → Pres B μ H μ' H' → Q o μ' → Q0 o H') → tr σ H Q0
def JO (X : Cx) (E : XK) (e : Option Expr) (t : TDO) : Prop := ∃ tr, PO X e tr ∧ SO E tr t
def jNo : TDO := fun _ _ μ Q => Q none μ
def jPart (t : TD) : TDO := fun Ex Δ μ Q => t Ex Δ μ fun d μ1 => match d with | .int i => Q (some i) μ1 | _ => False
theorem jo_none : JO X E none jNo := ⟨_, po_none, fun _ _ _ _ _ _ _ _ _ _ _ g h k => k _ _ _ g.hok Pres.refl h⟩
theorem jo_some (h : JE X E e t) : JO X E (some e) (jPart t) := by
  obtain ⟨r, p, s⟩ := h
  refine ⟨_, po_some p, fun B H0 μ0 Ex σ H Δ μ Q Q0 ex g h k => ?_⟩
  refine s B H0 μ0 Ex σ H Δ μ _ _ ex g h fun v H' d μ' h' p' r' q' => ?_
  split at q'
  · cases r'; exact ⟨_, rfl, k _ _ _ h' p' q'⟩
  · exact q'.elim
def cutL {α : Type} (xs : List α) (lo hi : Option Int) : List α := (xs.drop (HT.sIx xs.length 0 lo)).take (HT.sIx xs.length xs.length hi - HT.sIx xs.length 0 lo)
def dSl (x : D) (lo hi : Option Int) (μ : Mu) (Q : KD) : Prop := match x with
  | .str z => z.length ≤ sizeLine ∧ Q (.str (cutS z lo hi)) μ
  | .tup ds => Q (.tup (cutL ds lo hi)) μ
  | x => match asL μ x with | some ds => Q (.lst (cutL ds lo hi)) μ | none => False
def jSl (t : TD) (tl th : TDO) : TD := fun Ex Δ μ Q => t Ex Δ μ fun x μ1 => tl Ex Δ μ1 fun lo μ2 => th Ex Δ μ2 fun hi μ3 => dSl x lo hi μ3 Q
def rSlJ (X : Cx) : V → Option Int → Option Int → Hp → VK → Prop := fun x lo hi H Q => rSlL X.K x lo hi H Q ∨ rSlA X.K x lo hi H Q ∨ rSlS x lo hi H Q
theorem cut_rp {B : List Addr} {μ : Mu} {H : Hp} {vs : List V} {ds : List D} {lo hi : Option Int} (r : RpL B μ H vs ds) : RpL B μ H (cutV vs lo hi) (cutL ds lo hi) := by
  unfold cutV cutL
  rw [r.len]
  exact (r.drop _).take _
theorem rs_sl {B : List Addr} {x : V} {lo hi : Option Int} {d : D} {μ : Mu} {H : Hp} {Q : KD} {Q0 : VK} (h : HOK B μ H) (rx : Rp B μ H x d) (q : dSl d lo hi μ Q) (k : Cont B μ H Q Q0) : rSlJ X x lo hi H Q0 := by
  unfold dSl at q
  split at q
  · cases rx; exact .inr (.inr ⟨_, rfl, q.1, k.here h (.str _) q.2⟩)
  · cases rx with
    | tup hx nx r =>
      refine .inr (.inl ⟨_, _, rfl, sqT hx, fun z => k.here h (.tup hx nx r) ?_, fun _ p hp => k.newT h (cut_rp r) q hp⟩)
      unfold cutL at q
      rw [← r.len, z.1, z.2] at q
      simpa [r.len] using q
  · split at q
    · rename_i ds hd
      obtain ⟨a, xs, rfl, hx, r⟩ := asL_ok h rx hd
      exact .inl ⟨_, _, rfl, sqL hx, fun p hp => k.newL h (cut_rp r) q hp⟩
    · exact q.elim
theorem je_slice {lo hi : Option Expr} {tlo thi : TDO} (he : JE X E e t) (hl : JO X E lo tlo) (hh : JO X E hi thi) : JE X E (.Subscript e (.Slice lo hi none p2) pos) (jSl t tlo thi) := by
  obtain ⟨r, p, s⟩ := he
  obtain ⟨r1, p1, s1⟩ := hl
  obtain ⟨r2, p2, s2⟩ := hh
  refine ⟨_, pe_slice (sl_list.or (sl_tupA.or sl_str)) p p1 p2, fun B H0 μ0 Ex σ H Δ μ Q Q0 ex g h k => ?_⟩
  refine s B H0 μ0 Ex σ H Δ μ _ _ ex g h fun v H1 d μ1 h1 p1 r1 q1 => ?_
  refine s1 B H0 μ0 Ex σ H1 Δ μ1 _ _ ex (g.step h1 p1) q1 fun lo H2 μ2 h2 p2 q2 => ?_
  refine s2 B H0 μ0 Ex σ H2 Δ μ2 _ _ ex (g.step h2 (p1.trans p2)) q2 fun hi H3 μ3 h3 p3 q3 => ?_
  exact rs_sl h3 ((p2.trans p3).rp _ _ r1) q3 (k.from ((p1.trans p2).trans p3))
def dRev (x : D) (μ : Mu) (Q : KD) : Prop := match asL μ x with | some ds => Q (.lst ds.reverse) μ | none => False
theorem je_revL {k0 : Nat} {p1 p3 : Pos} (he : JE X E e t) : JE X E (.Subscript e (.Slice none none (some (.UnaryOp .USub (.Constant (.int 1) k0 p1) p2)) p3) pos) (jUn dRev t) := by
  obtain ⟨r, p, s⟩ := he
  refine ⟨_, pe_revL p, fun B H0 μ0 Ex σ H Δ μ Q Q0 ex g h k => ?_⟩
  refine s B H0 μ0 Ex σ H Δ μ _ _ ex g h fun v H1 d μ1 h1 p1 r1 q1 => ?_
  unfold dRev at q1
  split at q1
  · rename_i ds hd
    obtain ⟨a, xs, rfl, hx, r⟩ := asL_ok h1 r1 hd
    exact ⟨_, _, rfl, sqL hx, fun p hp => (k.from p1).newL h1 r.rev q1 hp⟩
  · exact q1.elim

/-! ### calls of built-ins -/
abbrev CF := List D → Mu → KD → Prop
def RLS (r : List V → Hp → VK → Prop) (f : CF) : Prop := ∀ (B : List Addr) (vs : List V) (ds : List D) (μ : Mu) (H : Hp) (Q : KD) (Q0 : VK), HOK B μ H → RpL B μ H vs ds → f ds μ Q → Cont B μ H Q Q0 → r vs H Q0
def jCB (f : CF) (tl : TDL) : TD := fun Ex Δ μ Q => tl Ex Δ μ fun ds μ1 => f ds μ1 Q
theorem se_cb {r : List V → Hp → VK → Prop} {f : CF} {ra : TA} (hf : RLS r f) (sa : SA E ra tl) : SE E (tCB r ra) (jCB f tl) := by
  intro B H0 μ0 Ex σ H Δ μ Q Q0 ex g h k
  refine sa B H0 μ0 Ex σ H Δ μ _ _ ex g h fun vs H1 ds μ1 h1 p1 r1 q1 => ?_
  exact hf B vs ds μ1 H1 Q Q0 h1 r1 q1 (k.from p1)
section
variable {id T : String} {r : List V → Hp → VK → Prop} {f : CF} {x : Str} {p : Pos}
theorem je_callB (hc : CallR X (.builtin id) r) (hf : RLS r f) (hg : Gl X x) (hm : X.mg x = none) (hv : bootBuiltins x = some (.builtin id)) (ha : JA X E (e :: es) tl) (hn : x ≠ "__name__" := by decide) (hdb : (x == ("__debug__" : Str)) = false := by decide)
    (he : starEach (e :: es) X.env = (false, eval e X.env) :: starEach es X.env := by rfl) (hpl : (backTo pos (starEach es X.env)).any (·.1) = false := by rfl) : JE X E (.Call (.Name x p) (e :: es) [] pos) (jCB f tl) := by
  obtain ⟨ra, pa, sa⟩ := ha
  exact ⟨_, pe_callB hc hg hm hv pa hn hdb he hpl, se_cb hf sa⟩
theorem je_callTy (hc : CallR X (.type T) r) (hf : RLS r f) (hg : Gl X x) (hm : X.mg x = none) (hv : bootBuiltins x = some (.type T)) (ha : JA X E (e :: es) tl) (hn : x ≠ "__name__" := by decide) (hdb : (x == ("__debug__" : Str)) = false := by decide)
    (he : starEach (e :: es) X.env = (false, eval e X.env) :: starEach es X.env := by rfl) (hpl : (backTo pos (starEach es X.env)).any (·.1) = false := by rfl) : JE X E (.Call (.Name x p) (e :: es) [] pos) (jCB f tl) := by
  obtain ⟨ra, pa, sa⟩ := ha
  exact ⟨_, pe_callTy hc hg hm hv pa hn hdb he hpl, se_cb hf sa⟩
end
theorem rp1 {B : List Addr} {μ : Mu} {H : Hp} {vs : List V} {d : D} (r : RpL B μ H vs [d]) : ∃ v, vs = [v] ∧ Rp B μ H v d := by
  cases r with | cons h t => cases t; exact ⟨_, rfl, h⟩
theorem rp2 {B : List Addr} {μ : Mu} {H : Hp} {vs : List V} {d d2 : D} (r : RpL B μ H vs [d, d2]) : ∃ v w, vs = [v, w] ∧ Rp B μ H v d ∧ Rp B μ H w d2 := by
  cases r with | cons h t => cases t with | cons h2 t => cases t; exact ⟨_, _, rfl, h, h2⟩
def dLen : CF := fun ds μ Q => match ds with
  | [.str s] => s.length ≤ sizeLine ∧ Q (.int (s.length : Nat)) μ
  | [d] => match asS μ d with | some xs => Q (.int (xs.length : Nat)) μ | none => False
  | _ => False
def rLenJ (X : Cx) : List V → Hp → VK → Prop := fun xs H Q => ∃ x n, xs = [x] ∧ LenV X.K x H n ∧ Q (.int (n : Nat)) H
theorem cr_len : CallR X (.builtin "len") (rLenJ X) := call_len
theorem rl_len : RLS (rLenJ X) dLen := by
  intro B vs ds μ H Q Q0 h r q k
  unfold dLen at q
  split at q
  · obtain ⟨v, rfl, r1⟩ := rp1 r
    cases r1
    exact ⟨_, _, rfl, ⟨q.1, rfl⟩, k.here h (.int _) q.2⟩
  · obtain ⟨v, rfl, r1⟩ := rp1 r
    split at q
    · rename_i xs hd
      obtain ⟨a, ys, rfl, hx, rr⟩ := asS_ok h r1 hd
      refine ⟨_, ys.length, rfl, ?_, ?_⟩
      · exact hx.elim (fun z => .inl ⟨_, sqL z, rfl⟩) fun z => .inr ⟨_, sqT z, rfl⟩
      · rw [rr.len]; exact k.here h (.int _) q
    · exact q.elim
  · exact q.elim
def dList : CF := fun ds μ Q => match ds with
  | [d] => match asS μ d with | some xs => Q (.lst xs) μ | none => False
  | _ => False
def rListJ (X : Cx) : List V → Hp → VK → Prop := fun xs H Q => ∃ p ys, xs = [.ref p] ∧ (SqL X.K H p ys ∨ SqT X.K H p ys) ∧ ∀ l, H l = none → Q (.ref l) (upd H l (.lst ys))
theorem cr_list : CallR X (.type "list") (rListJ X) := call_list_of
theorem rl_list : RLS (rListJ X) dList := by
  intro B vs ds μ H Q Q0 h r q k
  unfold dList at q
  split at q
  · obtain ⟨v, rfl, r1⟩ := rp1 r
    split at q
    · rename_i xs hd
      obtain ⟨a, ys, rfl, hx, rr⟩ := asS_ok h r1 hd
      exact ⟨_, ys, rfl, hx.elim (fun z => .inl (sqL z)) fun z => .inr (sqT z), fun l hl => k.newL h rr q hl⟩
    · exact q.elim
  · exact q.elim
def dTuple : CF := fun ds μ Q => match ds with
  | [.tup xs] => Q (.tup xs) μ
  | [d] => match asL μ d with | some xs => Q (.tup xs) μ | none => False
  | _ => False
def rTupleJ (X : Cx) : List V → Hp → VK → Prop := fun xs H Q => ∃ p ys, xs = [.ref p] ∧ ((SqL X.K H p ys ∧ ∀ l, H l = none → Q (.ref l) (upd H l (.tup ys))) ∨ (SqT X.K H p ys ∧ Q (.ref p) H))
theorem cr_tuple : CallR X (.type "tuple") (rTupleJ X) := call_tuple_of
theorem rl_tuple : RLS (rTupleJ X) dTuple := by
  intro B vs ds μ H Q Q0 h r q k
  unfold dTuple at q
  split at q
  · obtain ⟨v, rfl, r1⟩ := rp1 r
    cases r1 with
    | tup hx n rr => exact ⟨_, _, rfl, .inr ⟨sqT hx, k.here h (.tup hx n rr) q⟩⟩
  · obtain ⟨v, rfl, r1⟩ := rp1 r
    split at q
    · rename_i xs hd
      obtain ⟨a, ys, rfl, hx, rr⟩ := asL_ok h r1 hd
      exact ⟨_, ys, rfl, .inl ⟨sqL hx, fun l hl => k.newT h rr q hl⟩⟩
    · exact q.elim
  · exact q.elim
def dAbs : CF := fun ds μ Q => match ds with
  | [.int i] => Q (.int (if i < 0 then -i else i)) μ
  | _ => False
def rAbsJ : List V → Hp → VK → Prop := fun xs H Q => ∃ i, xs = [.int i] ∧ Q (.int (if i < 0 then -i else i)) H
theorem cr_abs : CallR X (.builtin "abs") rAbsJ := call_abs
theorem rl_abs : RLS rAbsJ dAbs := by
  intro B vs ds μ H Q Q0 h r q k
  unfold dAbs at q
  split at q
  · obtain ⟨v, rfl, r1⟩ := rp1 r
    cases r1
    exact ⟨_, rfl, k.here h (.int _) q⟩
  · exact q.elim
def dInt : CF := fun ds μ Q => match ds with
  | [.int i] => Q (.int i) μ
  | _ => False
def rIntJ : List V → Hp → VK → Prop := fun xs H Q => (∃ i, xs = [.int i] ∧ Q (.int i) H) ∨ ∃ k, xs = [.bl k] ∧ Q (.int (if k then 1 else 0)) H
theorem cr_int : CallR X (.type "int") rIntJ := call_int1
theorem rl_int : RLS rIntJ dInt := by
  intro B vs ds μ H Q Q0 h r q k
  unfold dInt at q
  split at q
  · obtain ⟨v, rfl, r1⟩ := rp1 r
    cases r1
    exact .inl ⟨_, rfl, k.here h (.int _) q⟩
  · exact q.elim
/-- all, any of a list of bools -/
def boolsOf : List D → Option (List Bool)
  | [] => some []
  | .bl b :: ds => (boolsOf ds).map (b :: ·)
  | _ => none
theorem boolsOf_ok {B : List Addr} {μ : Mu} {H : Hp} : ∀ {ds : List D} {vs : List V} {bs : List Bool}, RpL B μ H vs ds → boolsOf ds = some bs → vs = bs.map V.bl
  | [], _, _, r, e => by cases r; cases e; rfl
  | d :: ds, _, _, r, e => by
    cases r with
    | cons r1 r2 =>
      cases r1 <;> first
        | (unfold boolsOf at e
           obtain ⟨cs, e1, e2⟩ := Option.map_eq_some_iff.mp e
           subst e2
           rw [boolsOf_ok r2 e1]; rfl)
        | (unfold boolsOf at e; cases e)
def dAll (f : List Bool → Bool) : CF := fun ds μ Q => match ds with
  | [d] => match asL μ d with
    | some xs => match boolsOf xs with | some bs => Q (.bl (f bs)) μ | none => False
    | none => False
  | _ => False
theorem rl_all : RLS (rAll X.K) (dAll fun bs => bs.all id) := by
  intro B vs ds μ H Q Q0 h r q k
  unfold dAll at q
  split at q
  · obtain ⟨v, rfl, r1⟩ := rp1 r
    split at q
    · rename_i xs hd
      split at q
      · rename_i bs hb
        obtain ⟨a, ys, rfl, hx, rr⟩ := asL_ok h r1 hd
        have := boolsOf_ok rr hb
        subst this
        exact ⟨_, _, rfl, sqL hx, k.here h (.bl _) q⟩
      · exact q.elim
    · exact q.elim
  · exact q.elim
theorem rl_any : RLS (rAny X.K) (dAll fun bs => bs.any id) := by
  intro B vs ds μ H Q Q0 h r q k
  unfold dAll at q
  split at q
  · obtain ⟨v, rfl, r1⟩ := rp1 r
    split at q
    · rename_i xs hd
      split at q
      · rename_i bs hb
        obtain ⟨a, ys, rfl, hx, rr⟩ := asL_ok h r1 hd
        have := boolsOf_ok rr hb
        subst this
        exact ⟨_, _, rfl, sqL hx, k.here h (.bl _) q⟩
      · exact q.elim
    · exact q.elim
  · exact q.elim
/-- texts -/
def strsOf : List D → Option (List Str)
  | [] => some []
  | .str b :: ds => (strsOf ds).map (b :: ·)
  | _ => none
theorem strsOf_ok {B : List Addr} {μ : Mu} {H : Hp} : ∀ {ds : List D} {vs : List V} {bs : List Str}, RpL B μ H vs ds → strsOf ds = some bs → vs = bs.map V.str
  | [], _, _, r, e => by cases r; cases e; rfl
  | d :: ds, _, _, r, e => by
    cases r with
    | cons r1 r2 =>
      cases r1 <;> first
        | (unfold strsOf at e
           obtain ⟨cs, e1, e2⟩ := Option.map_eq_some_iff.mp e
           subst e2
           rw [strsOf_ok r2 e1]; rfl)
        | (unfold strsOf at e; cases e)
theorem rp_strs {B : List Addr} {μ : Mu} {H : Hp} : ∀ xs : List Str, RpL B μ H (xs.map V.str) (xs.map D.str)
  | [] => .nil
  | x :: xs => .cons (.str x) (rp_strs xs)
/-- sorted of fewer than 64 texts -/
def dSortS : CF := fun ds μ Q => match ds with
  | [d] => match asL μ d with
    | some xs => match strsOf xs with | some bs => bs.length < 64 ∧ ∀ ys : List Str, ys.Perm bs → PyProof.Rows.sortedS ys = true → Q (.lst (ys.map D.str)) μ | none => False
    | none => False
  | _ => False
theorem rl_sortS : RLS (rSortedS X.K) dSortS := by
  intro B vs ds μ H Q Q0 h r q k
  unfold dSortS at q
  split at q
  · obtain ⟨v, rfl, r1⟩ := rp1 r
    split at q
    · rename_i xs hd
      split at q
      · rename_i bs hb
        obtain ⟨a, ys, rfl, hx, rr⟩ := asL_ok h r1 hd
        have e := strsOf_ok rr hb
        subst e
        exact ⟨_, _, rfl, sqL hx, q.1, fun ys p hp hs hn => k.newL h (rp_strs ys) (q.2 ys hp hs) hn⟩
      · exact q.elim
    · exact q.elim
  · exact q.elim

/-! ### isinstance of built-in classes -/
def tyD (μ : Mu) : D → Option String
  | .non => some "NoneType" | .bl _ => some "bool" | .int _ => some "int" | .str _ => some "str"
  | .lst _ => some "list" | .tup _ => some "tuple" | .dic _ _ => some "dict"
  | .ref a => match asL μ (.ref a) with | some _ => some "list" | none => none
  | _ => none
theorem tyD_ok {K : PySem.W.Frag} {B : List Addr} {μ : Mu} {H : Hp} {v : V} {d : D} {T : String} (h : HOK B μ H) (r : Rp B μ H v d) (e : tyD μ d = some T) : TyX K H v (.type T) := by
  unfold tyD at e
  split at e <;> first
    | (cases e; cases r; first | exact .base .non | exact .base (.bl _) | exact .base (.int _) | exact .base (.str _))
    | (cases e; cases r with | lst h n r => exact .base (.lst h))
    | (cases e; cases r with | tup h n r => exact .base (.tup h))
    | (cases e; cases r with | dic h n k r => exact .base (.dK h))
    | (split at e
       · rename_i ds e1
         cases e
         obtain ⟨a, xs, rfl, hx, _⟩ := asL_ok h r e1
         exact .base (.lst hx)
       · cases e)
    | cases e
def tysOf : List D → Option (List String)
  | [] => some []
  | .ty n :: ds => (tysOf ds).map (n :: ·)
  | _ => none
theorem tysOf_ok {B : List Addr} {μ : Mu} {H : Hp} : ∀ {ds : List D} {vs : List V} {ns : List String}, RpL B μ H vs ds → tysOf ds = some ns → Paired ClsV vs (ns.map Value.type)
  | [], _, _, r, e => by cases r; cases e; exact .nil
  | d :: ds, _, _, r, e => by
    cases r with
    | cons r1 r2 =>
      cases r1 <;> first
        | (unfold tysOf at e
           obtain ⟨cs, e1, e2⟩ := Option.map_eq_some_iff.mp e
           subst e2
           exact .cons (.ty _) (tysOf_ok r2 e1))
        | (unfold tysOf at e; cases e)
def kitBs (T : String) : List String → Option Bool
  | [] => some false
  | n :: ns => match kitB T n with
    | some true => some true
    | some false => kitBs T ns
    | none => none
theorem kitBs_ok {K : PySem.W.Frag} {T : String} : ∀ {ns : List String} {b : Bool}, kitBs T ns = some b → PySem.W.kitAny K (.type T) (ns.map Value.type) = some b
  | [], b, e => by cases e; rfl
  | n :: ns, b, e => by
    unfold kitBs at e
    split at e
    · rename_i h; cases e; exact kitAny_cons (b := true) (kit_ty h) (fun z => by cases z) (fun _ => rfl)
    · rename_i h; exact kitAny_cons (b := false) (kit_ty h) (fun _ => kitBs_ok e) (fun z => by cases z)
    · cases e
def dIs : CF := fun ds μ Q => match ds with
  | [x, .ty n] => ∃ T b, tyD μ x = some T ∧ kitB T n = some b ∧ Q (.bl b) μ
  | [x, .tup cs] => ∃ T ns b, tyD μ x = some T ∧ tysOf cs = some ns ∧ kitBs T ns = some b ∧ Q (.bl b) μ
  | _ => False
def rIsJ (X : Cx) : List V → Hp → VK → Prop := fun xs H Q => rIsi X.K xs H Q ∨ rIsiT X.K xs H Q
theorem cr_is : CallR X (.builtin "isinstance") (rIsJ X) := fun pins s σ H xs us Q I r h => h.elim (call_isi pins s σ H xs us Q I r) (call_isiT pins s σ H xs us Q I r)
theorem rl_is : RLS (rIsJ X) dIs := by
  intro B vs ds μ H Q Q0 h r q k
  unfold dIs at q
  split at q
  · obtain ⟨v, w, rfl, r1, r2⟩ := rp2 r
    obtain ⟨T, b, e1, e2, q⟩ := q
    cases r2
    exact .inl ⟨_, _, _, _, b, rfl, .ty _, tyD_ok h r1 e1, kit_ty e2, k.here h (.bl _) q⟩
  · obtain ⟨v, w, rfl, r1, r2⟩ := rp2 r
    obtain ⟨T, ns, b, e1, e2, e3, q⟩ := q
    cases r2 with
    | tup hx n rr => exact .inr ⟨_, _, _, _, _, b, rfl, hx, tysOf_ok rr e2, tyD_ok h r1 e1, kitBs_ok e3, k.here h (.bl _) q⟩
  · exact q.elim

/-! ### methods of texts, append -/
abbrev MF := D → List D → Mu → KD → Prop
def jM0 (f : MF) (t : TD) : TD := fun Ex Δ μ Q => t Ex Δ μ fun x μ1 => f x [] μ1 Q
def jM1 (f : MF) (t ta : TD) : TD := fun Ex Δ μ Q => t Ex Δ μ fun x μ1 => ta Ex Δ μ1 fun y μ2 => f x [y] μ2 Q
def dS0b (g : Str → Bool) : MF := fun x xs μ Q => match x with | .str a => xs = [] ∧ Q (.bl (g a)) μ | _ => False
/-- a test of a text -/
def rS0b (g : Str → Bool) : V → List V → Hp → VK → Prop := fun x xs H Q => ∃ a, x = .str a ∧ xs = [] ∧ True ∧ Q (.bl (g a)) H
def dJoin : MF := fun x xs μ Q => match x with
  | .str a => match xs with
    | [d] => match asS μ d with
      | some ds => match strsOf ds with | some ys => (ys.map (·.length)).sum + ys.length * a.length ≤ 16777216 ∧ Q (.str (Txt.join a ys)) μ | none => False
      | none => False
    | _ => False
  | _ => False
/-- a method of a text with one argument, with none -/
def MRS (r : V → List V → Hp → VK → Prop) (f : MF) : Prop := ∀ (B : List Addr) (x : V) (xs : List V) (d : D) (ds : List D) (μ : Mu) (H : Hp) (Q : KD) (Q0 : VK), HOK B μ H → Rp B μ H x d → RpL B μ H xs ds → f d ds μ Q → Cont B μ H Q Q0 → r x xs H Q0
def onS (d : D) (k : Prop) : Prop := match d with | .str _ => k | _ => False
theorem onS_ok {B : List Addr} {μ : Mu} {H : Hp} {v : V} {d : D} {k : Prop} (r : Rp B μ H v d) (h : onS d k) : (∃ a, v = .str a) ∧ k := by
  unfold onS at h
  split at h
  · cases r; exact ⟨⟨_, rfl⟩, h⟩
  · exact h.elim
def jT0 (f : MF) (t : TD) : TD := fun Ex Δ μ Q => t Ex Δ μ fun x μ1 => onS x (f x [] μ1 Q)
def jT1 (f : MF) (t ta : TD) : TD := fun Ex Δ μ Q => t Ex Δ μ fun x μ1 => onS x (ta Ex Δ μ1 fun y μ2 => f x [y] μ2 Q)
theorem je_t0 {id : String} {name : Str} {apos cpos : Pos} {r : V → List V → Hp → VK → Prop} {f : MF} (slot : Slot "str" name id) (ty : typeOf (.builtin id) = pure (.type "method_descriptor")) (rule : MtR X id r) (hf : MRS r f) (ho : JE X E e t)
    (hbase : attributeBase e name X.env (eval e X.env) = eval e X.env := by rfl) (hline : (apos.endLine == cpos.line) = true := by rfl) : JE X E (.Call (.Attribute e name apos) [] [] cpos) (jT0 f t) := by
  obtain ⟨r, p, s⟩ := ho
  refine ⟨_, pe_m0 slot ty rule p hbase hline, fun B H0 μ0 Ex σ H Δ μ Q Q0 ex g h k => ?_⟩
  refine s B H0 μ0 Ex σ H Δ μ _ _ ex g h fun v H1 d μ1 h1 p1 r1 q1 => ?_
  obtain ⟨e1, q2⟩ := onS_ok r1 q1
  exact ⟨e1, hf B _ _ _ _ _ _ _ _ h1 r1 .nil q2 (k.from p1)⟩
theorem je_t1 {id : String} {name : Str} {apos cpos : Pos} {r : V → List V → Hp → VK → Prop} {f : MF} (slot : Slot "str" name id) (ty : typeOf (.builtin id) = pure (.type "method_descriptor")) (rule : MtR X id r) (hf : MRS r f) (ho : JE X E e t) (he : JE X E e2 ta)
    (hs : starEach [e2] X.env = [(false, eval e2 X.env)] := by rfl) (hbase : attributeBase e name X.env (eval e X.env) = eval e X.env := by rfl) (hline : (apos.endLine == cpos.line) = true := by rfl) : JE X E (.Call (.Attribute e name apos) [e2] [] cpos) (jT1 f t ta) := by
  obtain ⟨r, p, s⟩ := ho
  obtain ⟨r2, p2, s2⟩ := he
  refine ⟨_, pe_m1 slot ty rule p p2 hs hbase hline, fun B H0 μ0 Ex σ H Δ μ Q Q0 ex g h k => ?_⟩
  refine s B H0 μ0 Ex σ H Δ μ _ _ ex g h fun v H1 d μ1 h1 p1 r1 q1 => ?_
  obtain ⟨e1, q2⟩ := onS_ok r1 q1
  refine ⟨e1, ?_⟩
  refine s2 B H0 μ0 Ex σ H1 Δ μ1 _ _ ex (g.step h1 p1) q2 fun w H2 d2 μ2 h2 p2 r2 q3 => ?_
  exact hf B _ _ _ _ _ _ _ _ h2 (p2.rp _ _ r1) (.cons r2 .nil) q3 (k.from (p1.trans p2))
def rJoinJ (X : Cx) : V → List V → Hp → VK → Prop := fun x xs H Q => ∃ a p, ∃ ys : List Str, x = .str a ∧ xs = [.ref p] ∧ (SqL X.K H p (ys.map V.str) ∨ SqT X.K H p (ys.map V.str)) ∧
    (ys.map (·.length)).sum + ys.length * a.length ≤ 16777216 ∧ Q (.str (Txt.join a ys)) H
theorem mr_join0 : MtR X "str.join" (rJoinJ X) := mt_join
theorem mr_join : MRS (rJoinJ X) dJoin := by
  intro B x xs d ds μ H Q Q0 h r rs q k
  unfold dJoin at q
  split at q
  · split at q
    · obtain ⟨v, rfl, r1⟩ := rp1 rs
      split at q
      · rename_i ds' hd
        split at q
        · rename_i ys hy
          obtain ⟨a, zs, rfl, hx, rr⟩ := asS_ok h r1 hd
          have e := strsOf_ok rr hy
          subst e
          cases r
          exact ⟨_, _, ys, rfl, rfl, hx.elim (fun z => .inl (sqL z)) fun z => .inr (sqT z), q.1, k.here h (.str _) q.2⟩
        · exact q.elim
      · exact q.elim
    · exact q.elim
  · exact q.elim
theorem mr_s0b {g : Str → Bool} : MRS (rS0b g) (dS0b g) := by
  intro B x xs d ds μ H Q Q0 h r rs q k
  unfold dS0b at q
  split at q
  · cases r
    obtain ⟨e, q⟩ := q
    subst e
    cases rs
    exact ⟨_, rfl, rfl, trivial, k.here h (.bl _) q⟩
  · exact q.elim
end J

set_option Elab.async false
set_option linter.all false
set_option maxRecDepth 100000
set_option maxHeartbeats 1000000
namespace J
open PySem L2
variable {X : Cx} {E : XK} {e e1 e2 e3 a b c elt tg iter : Expr} {es ifs : List Expr} {pos p2 : Pos} {t ta tb tc te : TD} {tl : TDL} {u ub : TDB}

/-! ### an object is shut while it is made -/
section
variable {B : List Addr} {μ μ' μ1 : Mu} {H H' H1 : Hp} {p : Addr} {o o1 o2 : HO}
theorem Bl.cons {a : Addr} (h : Bl B μ a) : Bl (p :: B) μ a := h.elim (fun z => .inl (List.mem_cons_of_mem _ z)) .inr
theorem Bl.uncons {a : Addr} (h : Bl (p :: B) μ a) : a = p ∨ Bl B μ a := h.elim (fun z => (List.mem_cons.mp z).elim .inl fun z => .inr (.inl z)) fun z => .inr (.inr z)
theorem Bl.self : Bl (p :: B) μ p := .inl List.mem_cons_self
theorem shut_keep (n : H p = none) : Keeps B μ H (p :: B) μ (upd H p o) where
  obj := fun a u e b => ⟨by rw [upd_ne (ne_of_none e n)]; exact e, fun z => z.uncons.elim (ne_of_none e n) b⟩
  bag := fun _ h => h
theorem open_keep : Keeps (p :: B) μ H B μ (upd H p o) where
  obj := fun a u e b => ⟨by rw [upd_ne (fun z : a = p => b (by rw [z]; exact Bl.self))]; exact e, fun z => b z.cons⟩
  bag := fun _ h => h
theorem upd_keep : Keeps (p :: B) μ H (p :: B) μ (upd H p o) where
  obj := fun a u e b => ⟨by rw [upd_ne (fun z : a = p => b (by rw [z]; exact Bl.self))]; exact e, b⟩
  bag := fun _ h => h
theorem wk_keep : Keeps (p :: B) μ H B μ H where
  obj := fun a u e b => ⟨e, fun z => b z.cons⟩
  bag := fun _ h => h
theorem BagOk.keep' {B' : List Addr} {b : Addr} (k : Keeps B μ H B' μ' H') (s : H' b = H b) (h : BagOk B μ H b) : BagOk B' μ' H' b := by
  obtain ⟨c, cs, i, d, s', n, e, ec, nb, r⟩ := h
  exact ⟨c, cs, i, d, s', n, by rw [s]; exact e, (k.obj _ _ ec nb).1, (k.obj _ _ ec nb).2, r⟩
theorem RpL.keep' {B' : List Addr} (k : Keeps B μ H B' μ' H') {ds : List D} {vs : List V} (r : RpL B μ H vs ds) : RpL B' μ' H' vs ds := r.keep k
theorem OwnOk.keep' {B' : List Addr} {a : Addr} {o : MO} (k : Keeps B μ H B' μ' H') (s : H' a = H a) (h : OwnOk B μ H a o) : OwnOk B' μ' H' a o := by
  cases o with
  | lst ds => obtain ⟨xs, e, r⟩ := h; exact ⟨xs, by rw [s]; exact e, r.keep k⟩
  | dic ks ds => obtain ⟨xs, e, q, r⟩ := h; exact ⟨xs, by rw [s]; exact e, q, r.keep k⟩
  | obj C ks ds => obtain ⟨dx, xs, e, q, r⟩ := h; exact ⟨dx, xs, by rw [s]; exact e, q, r.keep k⟩
  | dct ks ds => obtain ⟨xs, e, q, r⟩ := h; exact ⟨xs, by rw [s]; exact e, q, r.keep k⟩
theorem shut_hok (h : HOK B μ H) (n : H p = none) : HOK (p :: B) μ (upd H p o) where
  bag := fun b e => by
    obtain ⟨u, hu⟩ := h.there (.inr (.inl e))
    exact (h.bag b e).keep' (shut_keep n) (upd_ne (ne_of_none hu n))
  own := fun q hq => by
    obtain ⟨u, hu⟩ := h.there (.inr (.inr (List.mem_map.mpr ⟨q, hq, rfl⟩)))
    exact (h.own q hq).keep' (shut_keep n) (upd_ne (ne_of_none hu n))
  nd := h.nd
  bo := h.bo
  bt := fun a ha => (List.mem_cons.mp ha).elim (fun z => ⟨o, by rw [z]; exact upd_same⟩) fun z => by rw [h.freeB n a z]; exact h.bt a z
  bd := fun a ha => (List.mem_cons.mp ha).elim (fun z => by
    subst z
    refine ⟨fun e => ?_, fun e => ?_⟩
    · obtain ⟨u, hu⟩ := h.there (.inr (.inl e)); rw [n] at hu; cases hu
    · obtain ⟨u, hu⟩ := h.there (.inr (.inr e)); rw [n] at hu; cases hu) fun z => h.bd a z
theorem HOK.shutne (h : HOK (p :: B) μ H) {a : Addr} (b : μ.bag = some a ∨ a ∈ μ.own.map (·.1)) : a ≠ p := fun z => by
  subst z
  obtain ⟨x, y⟩ := h.bd a List.mem_cons_self
  exact b.elim x y
theorem upd_hok (h : HOK (p :: B) μ H) : HOK (p :: B) μ (upd H p o) where
  bag := fun b e => (h.bag b e).keep' upd_keep (upd_ne (h.shutne (.inl e)))
  own := fun q hq => (h.own q hq).keep' upd_keep (upd_ne (h.shutne (.inr (List.mem_map.mpr ⟨q, hq, rfl⟩))))
  nd := h.nd
  bo := h.bo
  bt := fun a ha => by
    by_cases z : a = p
    · exact ⟨o, by rw [z]; exact upd_same⟩
    · rw [upd_ne z]; exact h.bt a ha
  bd := h.bd
theorem wk_hok (h : HOK (p :: B) μ H) : HOK B μ H where
  bag := fun b e => (h.bag b e).keep' wk_keep rfl
  own := fun q hq => (h.own q hq).keep' wk_keep rfl
  nd := h.nd
  bo := h.bo
  bt := fun a ha => h.bt a (List.mem_cons_of_mem _ ha)
  bd := fun a ha => h.bd a (List.mem_cons_of_mem _ ha)
theorem open_hok (h : HOK (p :: B) μ H) : HOK B μ (upd H p o) := wk_hok (upd_hok h)
theorem shut_ex {μ0 : Mu} {H0 : Hp} {Ex : KX} (x : ExLe E B H0 μ0 Ex) (h : HOK B μ H) (q : Pres B μ0 H0 μ H) (n : H p = none) : ExLe E (p :: B) (upd H p o) μ Ex := fun C d H' μ' fs ds h' q' e1 e2 r z => by
  refine x C d H' μ' fs ds (wk_hok h') (q.trans ⟨fun v d' r' => ((q'.rp v d' (r'.keep (shut_keep n))).keep wk_keep), fun a ha => ?_⟩) e1 e2 (r.keep wk_keep) z
  rw [q'.blk a (List.mem_cons_of_mem _ ha)]
  exact h.freeB n a ha
end

/-! ### what is walked -/
def ItOk (J : It) (B : List Addr) (μ : Mu) (H : Hp) (ds : List D) : Prop := ∀ (B' : List Addr) (μ' : Mu) (H' : Hp), HOK B' μ' H' → (∀ v d, Rp B μ H v d → Rp B' μ' H' v d) → ∀ i : Nat,
  (i < ds.length → J.go i H' ∧ ∀ x H'', J.yld i H' x H'' → HOK B' μ' H'' ∧ Pres B' μ' H' μ' H'' ∧ ∃ d, ds[i]? = some d ∧ Rp B' μ' H'' x d) ∧ (i = ds.length → J.stop i H')
def SI (E : XK) (wi : TI) (t : TDL) : Prop := ∀ (B : List Addr) (H0 : Hp) (μ0 : Mu) (Ex : KX) (σ : St) (H : Hp) (Δ : Del) (μ : Mu) (Q : KDL) (R : It → Hp → Prop), ExLe E B H0 μ0 Ex → Go B H0 μ0 σ H Δ μ → t Ex Δ μ Q →
  (∀ J H' ds μ', HOK B μ' H' → Pres B μ H μ' H' → ItOk J B μ' H' ds → Q ds μ' → R J H') → wi σ H R
def JI (X : Cx) (E : XK) (tg iter : Expr) (t : TDL) : Prop := ∃ wi, PI X tg iter wi ∧ SI E wi t
theorem itl_ok {K : PySem.W.Frag} {B : List Addr} {μ : Mu} {H : Hp} {a : Addr} {ds : List D} (r : Rp B μ H (.ref a) (.lst ds)) : ItOk (Itl K a) B μ H ds := fun B' μ' H' h' k i => by
  have r' := k _ _ r
  cases r' with
  | lst hx nx rr =>
    refine ⟨fun hi => ?_, fun hi => ⟨_, sqL hx, by rw [rr.len, hi]; exact Nat.le_refl _⟩⟩
    obtain ⟨v, hv, rv⟩ := rr.get (List.getElem?_eq_getElem hi)
    refine ⟨⟨_, v, sqL hx, hv⟩, fun x H'' ⟨e1, e2⟩ => ?_⟩
    subst e1
    have e3 := e2 _ (sqL hx)
    rw [hv] at e3; cases e3
    exact ⟨h', Pres.refl, _, List.getElem?_eq_getElem hi, rv⟩
theorem itt_ok {K : PySem.W.Frag} {B : List Addr} {μ : Mu} {H : Hp} {a : Addr} {ds : List D} (r : Rp B μ H (.ref a) (.tup ds)) : ItOk (Itt K a) B μ H ds := fun B' μ' H' h' k i => by
  have r' := k _ _ r
  cases r' with
  | tup hx nx rr =>
    refine ⟨fun hi => ?_, fun hi => ⟨_, sqT hx, by rw [rr.len, hi]; exact Nat.le_refl _⟩⟩
    obtain ⟨v, hv, rv⟩ := rr.get (List.getElem?_eq_getElem hi)
    refine ⟨⟨_, v, sqT hx, hv⟩, fun x H'' ⟨e1, e2⟩ => ?_⟩
    subst e1
    have e3 := e2 _ (sqT hx)
    rw [hv] at e3; cases e3
    exact ⟨h', Pres.refl, _, List.getElem?_eq_getElem hi, rv⟩
def signs (z : Str) : List D := z.cps.toList.map fun c => .str (oneSign c)
theorem its_ok {B : List Addr} {μ : Mu} {H : Hp} {z : Str} : ItOk (Its z) B μ H (signs z) := fun B' μ' H' h' k i => by
  unfold signs
  rw [List.length_map, Array.length_toList]
  refine ⟨fun hi => ⟨hi, fun x H'' ⟨e1, c, hc, e2⟩ => ?_⟩, fun hi => by subst hi; exact Nat.le_refl _⟩
  subst e1 e2
  refine ⟨h', Pres.refl, .str (oneSign c), ?_, .str _⟩
  rw [List.getElem?_map, Array.getElem?_toList, hc]; rfl
/-- a list, a tuple, a text -/
def dItems (d : D) (μ : Mu) (Q : KDL) : Prop := match d with
  | .lst ds => Q ds μ
  | .tup ds => Q ds μ
  | .str z => Q (signs z) μ
  | _ => False
def jSeqI (t : TD) : TDL := fun Ex Δ μ Q => t Ex Δ μ fun d μ1 => dItems d μ1 Q
/-- a reading by what is wanted of it -/
def liftE (E : XK) (t : TD) : TE := fun σ H Q0 => ∃ (B : List Addr) (H0 : Hp) (μ0 : Mu) (Ex : KX) (Δ : Del) (μ : Mu) (Q : KD), ExLe E B H0 μ0 Ex ∧ Go B H0 μ0 σ H Δ μ ∧ t Ex Δ μ Q ∧ Cont B μ H Q Q0
def liftB (E : XK) (t : TDB) : TT := fun σ H Q0 => ∃ (B : List Addr) (H0 : Hp) (μ0 : Mu) (Ex : KX) (Δ : Del) (μ : Mu) (Q : KB), ExLe E B H0 μ0 Ex ∧ Go B H0 μ0 σ H Δ μ ∧ t Ex Δ μ Q ∧ ContB B μ H Q Q0
theorem JE.lift (h : JE X E e t) : PE X e (liftE E t) := by
  obtain ⟨r, p, s⟩ := h
  exact ⟨fun pins s' σ H Q0 I ⟨B, H0, μ0, Ex, Δ, μ, Q, ex, g, q, k⟩ => p.run pins s' σ H Q0 I (s B H0 μ0 Ex σ H Δ μ Q Q0 ex g q k)⟩
def JTs (X : Cx) (E : XK) (ifs : List Expr) (t : TDB) : Prop := ∃ tr, PTs X ifs tr ∧ SB E tr t
theorem JTs.lift (h : JTs X E ifs u) : PTs X ifs (liftB E u) := by
  obtain ⟨r, p, s⟩ := h
  exact ⟨fun pins s' σ H Q0 I ⟨B, H0, μ0, Ex, Δ, μ, Q, ex, g, q, k⟩ => p.run pins s' σ H Q0 I (s B H0 μ0 Ex σ H Δ μ Q Q0 ex g q k)⟩
def jYes : TDB := fun _ _ μ Q => Q true μ
theorem jts_nil : JTs X E [] jYes := ⟨_, pts_nil, fun _ _ _ _ _ _ _ _ _ _ _ g h k => k _ _ _ g.hok Pres.refl h⟩
theorem jts_one (h : JT X E c u) : JTs X E [c] u := by
  obtain ⟨r, p, s⟩ := h
  exact ⟨r, pts_one p, s⟩
def iSeqJ (K : PySem.W.Frag) (te : TE) : TI := fun σ H R => te σ H fun x H1 => (∃ a, x = .ref a ∧ (∃ xs, SqL K H1 a xs) ∧ R (Itl K a) H1) ∨ (∃ a, x = .ref a ∧ (∃ xs, SqT K H1 a xs) ∧ R (Itt K a) H1) ∨ (∃ z, x = .str z ∧ R (Its z) H1)
theorem pi_seqJ {te : TE} (he : PE X iter te) : PI X tg iter (iSeqJ X.K te) := by
  refine ⟨fun pins s σ H R I h => ?_⟩
  refine thn (he.run pins s σ H _ I h) fun v s1 ⟨x, H1, I1, r1, q1⟩ => ?_
  rcases q1 with ⟨a, e, ⟨xs, hq⟩, q⟩ | ⟨a, e, ⟨xs, hq⟩, q⟩ | ⟨z, e, q⟩
  · subst e
    cases r1
    obtain ⟨its, rv, p, hz⟩ := I1.list hq
    refine wpAny_pyIter_list p.isList ?_
    refine ⟨s1.heap.objs.size, [s1.heap.objs.size], _, _, H1, rfl, I1.kept (t' := s1.toks) fun b o e => Heap.get?_push_of_some _ e, turn_list a _, ⟨_, Heap.get?_push_size _ rfl, rfl, rfl⟩, fun b hb => ?_, q⟩
    have e : b = s1.heap.objs.size := by simpa using hb
    subst e
    exact I1.fpOk (Nat.le_refl _) (I1.hok.fresh (Nat.le_refl _))
  · subst e
    cases r1
    obtain ⟨its, rv, p, hz⟩ := I1.tuple hq
    refine wpAny_pyIter_tuple (show s1.heap.IsTuple a its.toArray from p) ?_
    refine ⟨s1.heap.objs.size, [s1.heap.objs.size], _, _, H1, rfl, I1.kept (t' := s1.toks) fun b o e => Heap.get?_push_of_some _ e, turn_tuple a _, ⟨_, Heap.get?_push_size _ rfl, rfl, rfl⟩, fun b hb => ?_, q⟩
    have e : b = s1.heap.objs.size := by simpa using hb
    subst e
    exact I1.fpOk (Nat.le_refl _) (I1.hok.fresh (Nat.le_refl _))
  · subst e
    obtain ⟨t, rfl⟩ := r1
    cases ha : z.cps.all (· < 128)
    · exact wpAny_pyIter_wide ha (pi_one (tk := s1.toks) I1 _ (turn_str _ z t "str_iterator" (.inr rfl)) ⟨_, Heap.get?_push_size _ rfl, rfl, rfl⟩ q)
    · exact wpAny_pyIter_ascii ha (pi_one (tk := s1.toks) I1 _ (turn_str _ z t "str_ascii_iterator" (.inl rfl)) ⟨_, Heap.get?_push_size _ rfl, rfl, rfl⟩ q)
theorem ji_seq (h : JE X E iter t) : JI X E tg iter (jSeqI t) := by
  obtain ⟨r, p, s⟩ := h
  refine ⟨_, pi_seqJ p, fun B H0 μ0 Ex σ H Δ μ Q R ex g h k => ?_⟩
  refine s B H0 μ0 Ex σ H Δ μ _ _ ex g h fun v H1 d μ1 h1 p1 r1 q1 => ?_
  unfold dItems at q1
  split at q1
  · have rr := r1
    cases r1 with | lst hx n r => exact .inl ⟨_, rfl, ⟨_, sqL hx⟩, k _ _ _ _ h1 p1 (itl_ok rr) q1⟩
  · have rr := r1
    cases r1 with | tup hx n r => exact .inr (.inl ⟨_, rfl, ⟨_, sqT hx⟩, k _ _ _ _ h1 p1 (itt_ok rr) q1⟩)
  · cases r1; exact .inr (.inr ⟨_, rfl, k _ _ _ _ h1 p1 its_ok q1⟩)
  · exact q1.elim
/-- range -/
def rangeD (a b : Int) : List D := (List.range (b - a).toNat).map fun i => .int (a + (i : Nat))
theorem itr_ok {B : List Addr} {μ : Mu} {H : Hp} {a b : Int} : ItOk (Itr a (b - a).toNat) B μ H (rangeD a b) := fun B' μ' H' h' k i => by
  unfold rangeD
  rw [List.length_map, List.length_range]
  refine ⟨fun hi => ⟨hi, fun x H'' ⟨e1, e2⟩ => ?_⟩, fun hi => by subst hi; exact Nat.le_refl _⟩
  subst e1 e2
  refine ⟨h', Pres.refl, .int (a + i), ?_, .int _⟩
  rw [List.getElem?_map, List.getElem?_range hi]; rfl
def RgB (i : Int) : Prop := -(2 ^ 62) ≤ i ∧ i < 2 ^ 62
def jRange1 (t : TD) : TDL := fun Ex Δ μ Q => t Ex Δ μ fun d μ1 => match d with | .int j => RgB j ∧ Q (rangeD 0 j) μ1 | _ => False
def jRange2 (t u : TD) : TDL := fun Ex Δ μ Q => t Ex Δ μ fun d μ1 => u Ex Δ μ1 fun d2 μ2 => match d with | .int i => (match d2 with | .int j => RgB i ∧ RgB j ∧ Q (rangeD i j) μ2 | _ => False) | _ => False
theorem ji_range1 {p pos : Pos} (hg : Gl X "range") (hm : X.mg "range" = none) (ha : JE X E a t) (hs : starEach [a] X.env = [(false, eval a X.env)] := by rfl) : JI X E tg (.Call (.Name "range" p) [a] [] pos) (jRange1 t) := by
  obtain ⟨r, pa, s⟩ := ha
  refine ⟨_, pi_range1 hg hm (pa_cons pa pa_nil hs) hs, fun B H0 μ0 Ex σ H Δ μ Q R ex g h k => ?_⟩
  refine s B H0 μ0 Ex σ H Δ μ _ _ ex g h fun v H1 d μ1 h1 p1 r1 q1 => ?_
  split at q1
  · cases r1
    rename_i j
    refine ⟨j, rfl, q1.1.1, q1.1.2, k _ _ _ _ h1 p1 ?_ q1.2⟩
    have := itr_ok (B := B) (μ := μ1) (H := H1) (a := 0) (b := j)
    rwa [Int.sub_zero] at this
  · exact q1.elim
theorem ji_range2 {p pos : Pos} (hg : Gl X "range") (hm : X.mg "range" = none) (ha : JE X E a ta) (hb : JE X E b tb) (hs : starEach [a, b] X.env = [(false, eval a X.env), (false, eval b X.env)] := by rfl) (hs2 : starEach [b] X.env = [(false, eval b X.env)] := by rfl) :
    JI X E tg (.Call (.Name "range" p) [a, b] [] pos) (jRange2 ta tb) := by
  obtain ⟨r, pa, s⟩ := ha
  obtain ⟨r2, pb, s2⟩ := hb
  refine ⟨_, pi_range2 hg hm (pa_cons pa (pa_cons pb pa_nil hs2) (by rw [hs, hs2])) hs hs2, fun B H0 μ0 Ex σ H Δ μ Q R ex g h k => ?_⟩
  refine s B H0 μ0 Ex σ H Δ μ _ _ ex g h fun v H1 d μ1 h1 p1 r1 q1 => ?_
  refine s2 B H0 μ0 Ex σ H1 Δ μ1 _ _ ex (g.step h1 p1) q1 fun w H2 d2 μ2 h2 p2 r2 q2 => ?_
  split at q2
  · cases r1
    split at q2
    · cases r2
      exact ⟨_, _, rfl, ⟨q2.1.1, q2.1.2, q2.2.1.1, q2.2.1.2⟩, k _ _ _ _ h2 (p1.trans p2) itr_ok q2.2.2⟩
    · exact q2.elim
  · exact q2.elim
/-- zip of two lists, of two tuples -/
def zipD (xs ys : List D) : List D := (xs.zip ys).map fun p => .tup [p.1, p.2]
theorem zip_get {xs ys : List D} {i : Nat} (h : i < (zipD xs ys).length) : ∃ x y, xs[i]? = some x ∧ ys[i]? = some y ∧ (zipD xs ys)[i]? = some (.tup [x, y]) := by
  unfold zipD at h ⊢
  rw [List.length_map, List.length_zip] at h
  have h1 : i < xs.length := by omega
  have h2 : i < ys.length := by omega
  refine ⟨xs[i], ys[i], List.getElem?_eq_getElem h1, List.getElem?_eq_getElem h2, ?_⟩
  rw [List.getElem?_map, List.getElem?_eq_getElem (by rw [List.length_zip]; omega), List.getElem_zip]; rfl
theorem zip_len {xs ys : List D} : (zipD xs ys).length = min xs.length ys.length := by
  unfold zipD; rw [List.length_map, List.length_zip]
theorem itz_ok {K : PySem.W.Frag} {B : List Addr} {μ : Mu} {H : Hp} {a b : Addr} {xs ys : List D} (r : Rp B μ H (.ref a) (.lst xs)) (r2 : Rp B μ H (.ref b) (.lst ys)) : ItOk (Itz K a b) B μ H (zipD xs ys) := fun B' μ' H' h' k i => by
  have r' := k _ _ r
  have r2' := k _ _ r2
  cases r' with
  | lst hx nx rr =>
    cases r2' with
    | lst hy ny rr2 =>
      refine ⟨fun hi => ?_, fun hi => ⟨_, _, sqL hx, sqL hy, ?_⟩⟩
      · obtain ⟨x, y, e1, e2, e3⟩ := zip_get hi
        obtain ⟨v, hv, rv⟩ := rr.get e1
        obtain ⟨w, hw, rw'⟩ := rr2.get e2
        refine ⟨⟨_, _, v, w, sqL hx, sqL hy, hv, hw⟩, fun z H'' ⟨T, x', y', e4, nT, e5, f1, f2⟩ => ?_⟩
        have g1 := f1 _ (sqL hx)
        have g2 := f2 _ (sqL hy)
        rw [hv] at g1; rw [hw] at g2
        cases g1; cases g2
        subst e4 e5
        exact ⟨h'.new nT, h'.pnew nT, _, e3, newT h' (.cons rv (.cons rw' .nil)) nT⟩
      · rw [rr.len, rr2.len, hi, zip_len]; omega
theorem itzT_ok {K : PySem.W.Frag} {B : List Addr} {μ : Mu} {H : Hp} {a b : Addr} {xs ys : List D} (r : Rp B μ H (.ref a) (.tup xs)) (r2 : Rp B μ H (.ref b) (.tup ys)) : ItOk (RZ.ItzT K a b) B μ H (zipD xs ys) := fun B' μ' H' h' k i => by
  have r' := k _ _ r
  have r2' := k _ _ r2
  cases r' with
  | tup hx nx rr =>
    cases r2' with
    | tup hy ny rr2 =>
      refine ⟨fun hi => ?_, fun hi => ⟨_, _, sqT hx, sqT hy, ?_⟩⟩
      · obtain ⟨x, y, e1, e2, e3⟩ := zip_get hi
        obtain ⟨v, hv, rv⟩ := rr.get e1
        obtain ⟨w, hw, rw'⟩ := rr2.get e2
        refine ⟨⟨_, _, v, w, sqT hx, sqT hy, hv, hw⟩, fun z H'' ⟨T, x', y', e4, nT, e5, f1, f2⟩ => ?_⟩
        have g1 := f1 _ (sqT hx)
        have g2 := f2 _ (sqT hy)
        rw [hv] at g1; rw [hw] at g2
        cases g1; cases g2
        subst e4 e5
        exact ⟨h'.new nT, h'.pnew nT, _, e3, newT h' (.cons rv (.cons rw' .nil)) nT⟩
      · rw [rr.len, rr2.len, hi, zip_len]; omega
def dZip (x y : D) (μ : Mu) (Q : KDL) : Prop := match x with
  | .lst xs => (match y with | .lst ys => Q (zipD xs ys) μ | _ => False)
  | .tup xs => (match y with | .tup ys => Q (zipD xs ys) μ | _ => False)
  | _ => False
def jZip (t u : TD) : TDL := fun Ex Δ μ Q => t Ex Δ μ fun x μ1 => u Ex Δ μ1 fun y μ2 => dZip x y μ2 Q
theorem ji_zip {p pos tpos : Pos} {elts : List Expr} {kk : Nat} (hg : Gl X "zip") (hm : X.mg "zip" = none) (ha : JE X E a ta) (hb : JE X E b tb)
    (hs : starEach [a, b] X.env = (false, eval a X.env) :: starEach [b] X.env := by rfl) (hs2 : starEach [b] X.env = (false, eval b X.env) :: starEach [] X.env := by rfl) (hpl : (backTo pos (starEach [b] X.env)).any (·.1) = false := by rfl) :
    JI X E (.Tuple elts kk tpos) (.Call (.Name "zip" p) [a, b] [] pos) (jZip ta tb) := by
  obtain ⟨r, pa, s⟩ := ha
  obtain ⟨r2, pb, s2⟩ := hb
  refine ⟨_, RZ.pi_zipA hg hm (pa_cons pa (pa_cons pb pa_nil hs2) hs) hs hpl, fun B H0 μ0 Ex σ H Δ μ Q R ex g h k => ?_⟩
  refine s B H0 μ0 Ex σ H Δ μ _ _ ex g h fun v H1 d μ1 h1 p1 r1 q1 => ?_
  refine s2 B H0 μ0 Ex σ H1 Δ μ1 _ _ ex (g.step h1 p1) q1 fun w H2 d2 μ2 h2 p2 r2 q2 => ?_
  have r1' := p2.rp _ _ r1
  unfold dZip at q2
  split at q2
  · split at q2
    · have z1 := r1'
      have z2 := r2
      cases r1' with | lst hx _ _ => cases r2 with | lst hy _ _ => exact ⟨_, _, _, _, rfl, .inl ⟨sqL hx, sqL hy, k _ _ _ _ h2 (p1.trans p2) (itz_ok z1 z2) q2⟩⟩
    · exact q2.elim
  · split at q2
    · have z1 := r1'
      have z2 := r2
      cases r1' with | tup hx _ _ => cases r2 with | tup hy _ _ => exact ⟨_, _, _, _, rfl, .inr ⟨sqT hx, sqT hy, k _ _ _ _ h2 (p1.trans p2) (itzT_ok z1 z2) q2⟩⟩
    · exact q2.elim
  · exact q2.elim

/-! ### targets -/
abbrev GD := D → Del → Mu → (Del → Mu → Prop) → Prop
abbrev GDL := List D → Del → Mu → (Del → Mu → Prop) → Prop
def SG (gg : TG) (g : GD) (ws : List Nat) : Prop := ∀ (B : List Addr) (H0 : Hp) (μ0 : Mu) (σ : St) (H : Hp) (Δ : Del) (μ : Mu) (v : V) (d : D) (K : Del → Mu → Prop) (K0 : St → Hp → Prop), Go B H0 μ0 σ H Δ μ → Rp B μ H v d → g d Δ μ K →
  (∀ σ' H' Δ' μ', Go B H0 μ0 σ' H' Δ' μ' → (∀ j, j ∉ ws → σ'[j]? = σ[j]?) → σ'.length = σ.length → K Δ' μ' → K0 σ' H') → gg v σ H K0
def SGs (gg : TGs) (g : GDL) (ws : List Nat) : Prop := ∀ (B : List Addr) (H0 : Hp) (μ0 : Mu) (σ : St) (H : Hp) (Δ : Del) (μ : Mu) (v : List V) (d : List D) (K : Del → Mu → Prop) (K0 : St → Hp → Prop), Go B H0 μ0 σ H Δ μ → RpL B μ H v d → g d Δ μ K →
  (∀ σ' H' Δ' μ', Go B H0 μ0 σ' H' Δ' μ' → Pres B μ H μ' H' → (∀ j, j ∉ ws → σ'[j]? = σ[j]?) → σ'.length = σ.length → K Δ' μ' → K0 σ' H') → gg v σ H K0
def JG (X : Cx) (tg : Expr) (g : GD) (ws : List Nat) : Prop := ∃ gg, PG X tg gg ∧ SG gg g ws
def gN (i : Nat) : GD := fun d Δ μ K => K (Δ.set i (some d)) μ
theorem jg_name (i : Nat) {x : Str} (hN : X.N.Nodup) (hi : X.N[i]? = some x := by rfl) (hx : Loc X.env.scope x := by first | exact .inl rfl | exact .inr rfl) (hf : X.fn x = true ∨ X.env.scope.names.lookup x = some .local := by first | exact .inl rfl | exact .inr rfl | assumption) : JG X (.Name x pos) (gN i) [i] :=
  ⟨_, pg_name hN hi hx hf, fun B H0 μ0 σ H Δ μ v d K K0 g r q k => k _ _ _ _ (g.set i r) (fun j hj => List.getElem?_set_ne (fun z => hj (by rw [z]; exact List.mem_cons_self))) (by simp) q⟩
/-- (x, y), names -/
def gPair (i j : Nat) : GD := fun d Δ μ K => match d with | .tup [x, y] => K ((Δ.set i (some x)).set j (some y)) μ | _ => False
theorem jg_pair (i j : Nat) {x y : Str} {px py : Pos} {k0 : Nat} (hc : X.calm = true) (hN : X.N.Nodup) (hi : X.N[i]? = some x := by rfl) (hj : X.N[j]? = some y := by rfl) (hx : Loc X.env.scope x := by first | exact .inl rfl | exact .inr rfl) (hy : Loc X.env.scope y := by first | exact .inl rfl | exact .inr rfl)
    (hf : X.fn x = true ∨ X.env.scope.names.lookup x = some .local := by first | exact .inl rfl | exact .inr rfl | assumption) (hf2 : X.fn y = true ∨ X.env.scope.names.lookup y = some .local := by first | exact .inl rfl | exact .inr rfl | assumption)
    (hn : (assignEach [.Name x px, .Name y py] X.env).length = 2 := by rfl) (hst : (assignEach [.Name x px, .Name y py] X.env).findIdx? (·.1) = none := by rfl)
    (h1 : (assignEach [.Name x px, .Name y py] X.env).map (·.2) = assign (.Name x px) X.env :: (assignEach [.Name y py] X.env).map (·.2) := by rfl) (h2 : (assignEach [.Name y py] X.env).map (·.2) = assign (.Name y py) X.env :: (assignEach [] X.env).map (·.2) := by rfl) :
    JG X (.Tuple [.Name x px, .Name y py] k0 pos) (gPair i j) [i, j] := by
  refine ⟨_, pg_tup hc (pgs_cons (pg_name hN hi hx hf) (pgs_cons (pg_name hN hj hy hf2) pgs_nil h2) h1) hn hst, fun B H0 μ0 σ H Δ μ v d K K0 g r q k => ?_⟩
  unfold gPair at q
  split at q
  · cases r with
    | tup h n rr =>
      obtain ⟨v1, v2, rfl, r1, r2⟩ := rp2 rr
      refine ⟨_, _, rfl, sqT h, rfl, _, _, rfl, _, _, rfl, rfl, ?_⟩
      exact k _ _ _ _ ((g.set i r1).set j r2) (fun l hl => by
        rw [List.getElem?_set_ne (fun z => hl (by rw [z]; simp)), List.getElem?_set_ne (fun z => hl (by rw [z]; simp))]) (by simp) q
  · exact q.elim

/-! ### for -/
def forD (g : GD) (body : TSD) (Ex : KX) (D' : EndsD) : List D → Del → Mu → Prop
  | [], Δ, μ => D'.nx Δ μ
  | d :: ds, Δ, μ => g d Δ μ fun Δ1 μ1 => body Ex { nx := forD g body Ex D' ds, rt := D'.rt, bk := D'.nx, ct := forD g body Ex D' ds } Δ1 μ1
def jFor (ti : TDL) (g : GD) (body : TSD) : TSD := fun Ex D' Δ μ => ti Ex Δ μ fun ds μ1 => forD g body Ex D' ds Δ μ1
theorem js_for {ss : List Stmt} {ti : TDL} {g : GD} {ws : List Nat} {body : TSD} (hp : PassesOwn (model X.prog X.w) X.A X.env X.xe) (hc : X.calm = true) (hi : JI X E tg iter ti) (hg : JG X tg g ws) (hb : JSs X E ss body)
    (hs : ∀ x, foldedSetIterable iter X.env x = pure x := by intro _; rfl) : JS X E (.For tg iter ss [] pos) (jFor ti g body) := by
  obtain ⟨wi, pi, si⟩ := hi
  obtain ⟨gg, pg, sg⟩ := hg
  obtain ⟨tb, pb, sb⟩ := hb
  refine ⟨_, ps_for hp hc pi pg pb hs, fun B H0 μ0 Ex D' D σ H Δ μ ex el go h => ?_⟩
  refine si B H0 μ0 Ex σ H Δ μ _ _ ex go h fun J H1 ds μ1 h1 p1 it q1 => ?_
  refine ⟨fun i m σ' H' => m = ds.length - i ∧ i ≤ ds.length ∧ ∃ Δ' μ', Go B H1 μ1 σ' H' Δ' μ' ∧ forD g body Ex D' (ds.drop i) Δ' μ', ⟨ds.length, rfl, Nat.zero_le _, Δ, μ1, ⟨h1, go.st.pres p1, Pres.refl⟩, q1⟩, ?_⟩
  rintro i m σ' H' ⟨rfl, hi, Δ', μ', g', q'⟩
  have p0 : Pres B μ0 H0 μ' H' := (go.pr.trans p1).trans g'.pr
  obtain ⟨go1, stop1⟩ := it B μ' H' g'.hok g'.pr.rp i
  rcases Nat.lt_or_ge i ds.length with hlt | hge
  · obtain ⟨jg, jy⟩ := go1 hlt
    refine .inr ⟨jg, fun σ2 H2 => ∃ Δ2 μ2, Go B H1 μ1 σ2 H2 Δ2 μ2 ∧ forD g body Ex D' (ds.drop (i + 1)) Δ2 μ2, fun σ2 H2 z => ⟨ds.length - (i + 1), by omega, rfl, hlt, z⟩, fun x H2 y => ?_⟩
    obtain ⟨h2, p2, d, hd, rx⟩ := jy x H2 y
    rw [List.drop_eq_getElem_cons hlt] at q'
    have ed : ds[i] = d := by rw [List.getElem?_eq_getElem hlt] at hd; exact Option.some.inj hd
    rw [ed] at q'
    refine sg B H1 μ1 σ' H2 Δ' μ' x d _ _ (g'.step h2 p2) rx q' fun σ3 H3 Δ3 μ3 g3 _ _ q3 => ?_
    have pb1 : Pres B μ0 H0 μ1 H1 := go.pr.trans p1
    exact sb B H1 μ1 Ex { nx := forD g body Ex D' (ds.drop (i + 1)), rt := D'.rt, bk := D'.nx, ct := forD g body Ex D' (ds.drop (i + 1)) } _ σ3 H3 Δ3 μ3 (ex.base pb1) ⟨fun σ4 H4 Δ4 μ4 g4 z => ⟨Δ4, μ4, g4, z⟩, fun v H4 d μ4 h4 p4 r4 z => el.rt v H4 d μ4 h4 (pb1.trans p4) r4 z,
      fun σ4 H4 Δ4 μ4 g4 z => el.nx σ4 H4 Δ4 μ4 ⟨g4.hok, g4.st, pb1.trans g4.pr⟩ z, fun σ4 H4 Δ4 μ4 g4 z => ⟨Δ4, μ4, g4, z⟩⟩ g3 q3
  · have e : i = ds.length := by omega
    rw [e, List.drop_length] at q'
    exact .inl ⟨stop1 e, el.nx _ _ _ _ ⟨g'.hok, g'.st, p0⟩ q'⟩

/-! ### comprehensions -/
def wipeD (Δ : Del) : List Nat → Del
  | [] => Δ
  | v :: vs => (wipeD Δ vs).set v none
theorem wipe_get {σ : St} {i : Nat} : ∀ {vs : List Nat}, (wipe σ vs)[i]? = if i ∈ vs then (if i < σ.length then some none else none) else σ[i]?
  | [] => by simp [wipe]
  | v :: vs => by
    unfold wipe
    by_cases h : v = i
    · subst h
      rw [if_pos List.mem_cons_self]
      by_cases hl : v < σ.length
      · rw [if_pos hl, List.getElem?_set_self (by rw [wipe_length]; exact hl)]
      · rw [if_neg hl, List.getElem?_eq_none (by simp [wipe_length]; omega)]
    · rw [List.getElem?_set_ne h, wipe_get]
      by_cases hm : i ∈ vs
      · rw [if_pos hm, if_pos (List.mem_cons_of_mem _ hm)]
      · rw [if_neg hm, if_neg (by simp only [List.mem_cons, not_or]; exact ⟨fun z => h z.symm, hm⟩)]
theorem wipeD_get {Δ : Del} {i : Nat} {d : D} : ∀ {vs : List Nat}, (wipeD Δ vs)[i]? = some (some d) → Δ[i]? = some (some d) ∧ i ∉ vs
  | [], h => ⟨h, by simp⟩
  | v :: vs, h => by
    unfold wipeD at h
    by_cases hi : v = i
    · subst hi
      by_cases hv : v < (wipeD Δ vs).length
      · rw [List.getElem?_set_self hv] at h; cases h
      · rw [List.getElem?_eq_none (by simpa using hv)] at h; cases h
    · rw [List.getElem?_set_ne hi] at h
      obtain ⟨h1, h2⟩ := wipeD_get h
      exact ⟨h1, by simp only [List.mem_cons, not_or]; exact ⟨fun e => hi e.symm, h2⟩⟩
theorem wipeD_len {Δ : Del} : ∀ {vs : List Nat}, (wipeD Δ vs).length = Δ.length
  | [] => rfl
  | v :: vs => by unfold wipeD; rw [List.length_set, wipeD_len]
theorem StOk.wipe {B : List Addr} {μ : Mu} {H : Hp} {σ : St} {Δ : Del} {vs : List Nat} (s : StOk B μ H σ Δ) : StOk B μ H (L2.wipe σ vs) (wipeD Δ vs) :=
  ⟨by rw [wipe_length, wipeD_len]; exact s.len, fun i d e => by
    obtain ⟨e1, hn⟩ := wipeD_get e
    obtain ⟨v, h, r⟩ := s.at_ i d e1
    exact ⟨v, by rw [wipe_get, if_neg hn]; exact h, r⟩⟩
theorem wipe_same {σ σ' : St} {vs ws : List Nat} (sub : ∀ i ∈ ws, i ∈ vs) (h : ∀ j, j ∉ ws → σ'[j]? = (wipe σ vs)[j]?) (hl : σ'.length = (wipe σ vs).length) : wipe σ' vs = wipe σ vs := by
  apply List.ext_getElem?
  intro i
  rw [wipe_get, wipe_get, hl, wipe_length]
  by_cases hm : i ∈ vs
  · rw [if_pos hm, if_pos hm]
  · rw [if_neg hm, if_neg hm, h i (fun z => hm (sub i z)), wipe_get, if_neg hm]
def lcD (g : GD) (tt : TDB) (te : TD) (Ex : KX) (Δ : Del) (Q : KDL) : List D → List D → Mu → Prop
  | [], acc, μ => Q acc μ
  | d :: ds, acc, μ => g d Δ μ fun Δ1 μ1 => tt Ex Δ1 μ1 fun b μ2 => match b with
    | true => te Ex Δ1 μ2 fun e μ3 => acc.length < sizeLine ∧ lcD g tt te Ex Δ Q ds (acc ++ [e]) μ3
    | false => lcD g tt te Ex Δ Q ds acc μ2
def exF : KX := fun _ _ _ => False
theorem exF_ok {E : XK} {B : List Addr} {H0 : Hp} {μ0 : Mu} : ExLe E B H0 μ0 exF := fun _ _ _ _ _ _ _ _ _ _ _ z => z.elim
theorem StOk.map {B B' : List Addr} {μ μ' : Mu} {H H' : Hp} {σ : St} {Δ : Del} (f : ∀ v d, Rp B μ H v d → Rp B' μ' H' v d) (s : StOk B μ H σ Δ) : StOk B' μ' H' σ Δ :=
  ⟨s.len, fun i d e => by obtain ⟨v, h, r⟩ := s.at_ i d e; exact ⟨v, h, f _ _ r⟩⟩
def jLc (ti : TDL) (g : GD) (tt : TDB) (te : TD) (vs : List Nat) : TD := fun Ex Δ μ Q => ti Ex Δ μ fun ds μ1 => lcD g tt te exF (wipeD Δ vs) (fun xs μ2 => Q (.lst xs) μ2) ds [] μ1
def liftG (g : GD) (ws : List Nat) : TG := fun v σ H K0 => ∃ (B : List Addr) (H0 : Hp) (μ0 : Mu) (Δ : Del) (μ : Mu) (d : D) (K : Del → Mu → Prop), Go B H0 μ0 σ H Δ μ ∧ Rp B μ H v d ∧ g d Δ μ K ∧
  (∀ σ' H' Δ' μ', Go B H0 μ0 σ' H' Δ' μ' → (∀ j, j ∉ ws → σ'[j]? = σ[j]?) → σ'.length = σ.length → K Δ' μ' → K0 σ' H')
theorem JG.lift {g : GD} {ws : List Nat} (h : JG X tg g ws) : PG X tg (liftG g ws) := by
  obtain ⟨r, p, s⟩ := h
  exact ⟨fun pins s' σ H v u K0 I rv ⟨B, H0, μ0, Δ, μ, d, K, go, rd, q, k⟩ => p.run pins s' σ H v u K0 I rv (s B H0 μ0 σ H Δ μ v d K K0 go rd q k)⟩
theorem se_lc {wi : TI} {ti : TDL} {g : GD} {ws vs : List Nat} {tt : TDB} {E1 : XK} (si : SI E wi ti) (sub : ∀ i ∈ ws, i ∈ vs) : SE E (tLc wi (liftG g ws) (liftB E1 tt) (liftE E1 te) vs) (jLc ti g tt te vs) := by
  intro B H0 μ0 Ex σ H Δ μ Q Q0 ex go h k
  refine si B H0 μ0 Ex σ H Δ μ _ _ ex go h fun J H1 ds μ1 h1 p1 it q1 => ?_
  intro D nD
  have neD : ∀ a ∈ B, a ≠ D := fun a ha => by
    obtain ⟨o, ho⟩ := h1.bt a ha
    exact ne_of_none ho nD
  refine ⟨fun i m H' => m = ds.length - i ∧ i ≤ ds.length ∧ ∃ accV acc μ', HOK (D :: B) μ' H' ∧ H' D = some (.lst accV) ∧ RpL (D :: B) μ' H' accV acc ∧ (∀ v d, Rp B μ1 H1 v d → Rp (D :: B) μ' H' v d) ∧ (∀ a ∈ B, H' a = H1 a) ∧
      lcD g tt te exF (wipeD Δ vs) (fun xs μ2 => Q (.lst xs) μ2) (ds.drop i) acc μ',
    ⟨ds.length, rfl, Nat.zero_le _, [], [], μ1, shut_hok h1 nD, upd_same, .nil, fun v d r => r.keep (shut_keep nD), h1.freeB nD, q1⟩, ?_⟩
  rintro i m H' ⟨rfl, hi, accV, acc, μ', h', eD, rA, kp, bB, q'⟩
  obtain ⟨go1, stop1⟩ := it (D :: B) μ' H' h' kp i
  rcases Nat.lt_or_ge i ds.length with hlt | hge
  · obtain ⟨jg, jy⟩ := go1 hlt
    refine .inr ⟨jg, fun H'' => ∃ accV acc μ', HOK (D :: B) μ' H'' ∧ H'' D = some (.lst accV) ∧ RpL (D :: B) μ' H'' accV acc ∧ (∀ v d, Rp B μ1 H1 v d → Rp (D :: B) μ' H'' v d) ∧ (∀ a ∈ B, H'' a = H1 a) ∧
      lcD g tt te exF (wipeD Δ vs) (fun xs μ2 => Q (.lst xs) μ2) (ds.drop (i + 1)) acc μ', fun H'' z => ⟨ds.length - (i + 1), by omega, rfl, hlt, z⟩, fun x H2 y => ?_⟩
    obtain ⟨h2, p2, d, hd, rx⟩ := jy x H2 y
    rw [List.drop_eq_getElem_cons hlt] at q'
    have ed : ds[i] = d := by rw [List.getElem?_eq_getElem hlt] at hd; exact Option.some.inj hd
    rw [ed] at q'
    have st2 : StOk (D :: B) μ' H2 (wipe σ vs) (wipeD Δ vs) := (((go.st.pres p1).map kp).pres p2).wipe
    refine ⟨D :: B, H2, μ', wipeD Δ vs, μ', d, _, ⟨h2, st2, Pres.refl⟩, rx, q', fun σ3 H3 Δ3 μ3 g3 ag lw q3 => ⟨wipe_same sub ag lw, ?_⟩⟩
    refine ⟨D :: B, H2, μ', exF, Δ3, μ3, _, exF_ok, g3, q3, fun b H4 μ4 h4 p4 q4 => ?_⟩
    have P4 : Pres (D :: B) μ' H' μ4 H4 := (p2.trans g3.pr).trans p4
    cases b with
    | false =>
      refine iteF ⟨accV, acc, μ4, h4, ?_, P4.all rA, fun v d r => P4.rp _ _ (kp v d r), fun a ha => ?_, q4⟩
      · rw [P4.blk D List.mem_cons_self]; exact eD
      · rw [P4.blk a (List.mem_cons_of_mem _ ha)]; exact bB a ha
    | true =>
      refine iteT ⟨D :: B, H2, μ', exF, Δ3, μ4, _, exF_ok, g3.step h4 p4, q4, fun y H5 e μ5 h5 p5 r5 q5 => ?_⟩
      have P5 := P4.trans p5
      refine ⟨accV, ?_, ?_, accV ++ [y], acc ++ [e], μ5, upd_hok h5, upd_same, ((P5.all rA).app (.cons r5 .nil)).keep upd_keep, fun v d r => (P5.rp _ _ (kp v d r)).keep upd_keep, fun a ha => ?_, q5.2⟩
      · rw [P5.blk D List.mem_cons_self]; exact eD
      · rw [rA.len]; exact q5.1
      · rw [upd_ne (neD a ha), P5.blk a (List.mem_cons_of_mem _ ha)]; exact bB a ha
  · have e : i = ds.length := by omega
    rw [e, List.drop_length] at q'
    refine .inl ⟨stop1 e, k _ _ (.lst acc) μ' (wk_hok h') (p1.trans ⟨fun v d r => (kp v d r).keep wk_keep, bB⟩) (.lst eD (fun z => ?_) (rA.keep wk_keep)) q'⟩
    rcases z with z | z | z
    · exact neD D z rfl
    · exact (h'.bd D List.mem_cons_self).1 z
    · exact (h'.bd D List.mem_cons_self).2 z
theorem je_lc {scope : Scope} {own : List (Str × Nat)} {ti : TDL} {g : GD} {ws : List Nat} {tt : TDB} (hc : X.calm = true) (hN : X.N.Nodup) (hi : JI X E tg iter ti) (ok : BlkOk X.N X.env.scope scope own)
    (hg : ∀ (s : Shared) (H : Hp) (C : Addr) (cl : List (Str × Addr)) (fp : List Addr), JG (X.blk s H scope (compEnvC scope cl C X.env) fp) tg g ws) (ht : ∀ (s : Shared) (H : Hp) (C : Addr) (cl : List (Str × Addr)) (fp : List Addr), JTs (X.blk s H scope (compEnvC scope cl C X.env) fp) E ifs tt)
    (he : ∀ (s : Shared) (H : Hp) (C : Addr) (cl : List (Str × Addr)) (fp : List Addr), JE (X.blk s H scope (compEnvC scope cl C X.env) fp) E elt te) (sub : ∀ i ∈ ws, i ∈ own.map (·.2)) (hs : ∀ x, foldedSetIterable iter X.env x = pure x := by intro _; rfl) :
    JE X E (.ListComp elt [⟨tg, iter, ifs, 0⟩] scope pos) (jLc ti g tt te (own.map (·.2))) := by
  obtain ⟨wi, pi, si⟩ := hi
  exact ⟨_, pe_lc hc hN pi ok (fun s H C cl fp => (hg s H C cl fp).lift) (fun s H C cl fp => (ht s H C cl fp).lift) (fun s H C cl fp => (he s H C cl fp).lift) hs, se_lc si sub⟩
theorem js_setLc (i : Nat) {y : Str} {py spos : Pos} {scope : Scope} {own : List (Str × Nat)} {ti : TDL} {g : GD} {ws : List Nat} {tt : TDB} (hc : X.calm = true) (hN : X.N.Nodup) (hsw : swapsWith (.ListComp elt [⟨tg, iter, ifs, 0⟩] scope pos) (some (.Name y py)) spos.line X.env = pure true) (hi : JI X E tg iter ti) (ok : BlkOk X.N X.env.scope scope own)
    (hg : ∀ (s : Shared) (H : Hp) (C : Addr) (cl : List (Str × Addr)) (fp : List Addr), JG (X.blk s H scope (compEnvC scope cl C X.env) fp) tg g ws) (ht : ∀ (s : Shared) (H : Hp) (C : Addr) (cl : List (Str × Addr)) (fp : List Addr), JTs (X.blk s H scope (compEnvC scope cl C X.env) fp) E ifs tt)
    (he : ∀ (s : Shared) (H : Hp) (C : Addr) (cl : List (Str × Addr)) (fp : List Addr), JE (X.blk s H scope (compEnvC scope cl C X.env) fp) E elt te) (sub : ∀ i ∈ ws, i ∈ own.map (·.2)) (hy : X.N[i]? = some y := by rfl) (hyl : X.env.scope.names.lookup y = some .local := by rfl) (hs : ∀ x, foldedSetIterable iter X.env x = pure x := by intro _; rfl) :
    JS X E (.Assign [.Name y py] (.ListComp elt [⟨tg, iter, ifs, 0⟩] scope pos) spos) (jSet i (jLc ti g tt te (own.map (·.2)))) := by
  obtain ⟨wi, pi, si⟩ := hi
  refine ⟨_, ps_setLc hc hN hy hyl hsw pi ok (fun s H C cl fp => (hg s H C cl fp).lift) (fun s H C cl fp => (ht s H C cl fp).lift) (fun s H C cl fp => (he s H C cl fp).lift) hs, fun B H0 μ0 Ex D' D σ H Δ μ ex el g h => ?_⟩
  exact se_lc si sub B H0 μ0 Ex σ H Δ μ _ _ ex g h fun v H' d μ' h' p' r' q' => el.nx _ _ _ _ ((g.step h' p').set i r') q'

/-! ### a list of one's own -/
def dropO (a : Addr) : List (Addr × MO) → List (Addr × MO)
  | [] => []
  | (b, o) :: r => if b = a then r else (b, o) :: dropO a r
theorem dropO_sub {a : Addr} : ∀ {l : List (Addr × MO)} {p : Addr × MO}, p ∈ dropO a l → p ∈ l
  | [], _, h => by cases h
  | (b, o) :: r, p, h => by
    unfold dropO at h
    split at h
    · exact List.mem_cons_of_mem _ h
    · rcases List.mem_cons.mp h with e | h
      · rw [e]; exact List.mem_cons_self
      · exact List.mem_cons_of_mem _ (dropO_sub h)
theorem dropO_out {a : Addr} : ∀ {l : List (Addr × MO)}, (l.map (·.1)).Nodup → a ∉ (dropO a l).map (·.1)
  | [], _ => by simp [dropO]
  | (b, o) :: r, h => by
    unfold dropO
    rw [List.map_cons, List.nodup_cons] at h
    split
    · rename_i e; rw [← e]; exact h.1
    · rename_i e
      rw [List.map_cons, List.mem_cons, not_or]
      exact ⟨fun z => e z.symm, dropO_out h.2⟩
theorem dropO_nd {a : Addr} : ∀ {l : List (Addr × MO)}, (l.map (·.1)).Nodup → ((dropO a l).map (·.1)).Nodup
  | [], _ => by simp [dropO]
  | (b, o) :: r, h => by
    unfold dropO
    rw [List.map_cons, List.nodup_cons] at h
    split
    · exact h.2
    · rw [List.map_cons, List.nodup_cons]
      refine ⟨fun z => h.1 ?_, dropO_nd h.2⟩
      obtain ⟨p, hp, e⟩ := List.mem_map.mp z
      exact List.mem_map.mpr ⟨p, dropO_sub hp, e⟩
def Mu.push (μ : Mu) (a : Addr) (o : MO) : Mu := ⟨μ.bag, (a, o) :: μ.own⟩
def Mu.rid (μ : Mu) (a : Addr) : Mu := ⟨μ.bag, dropO a μ.own⟩
def setO (a : Addr) (o : MO) : List (Addr × MO) → List (Addr × MO)
  | [] => []
  | (b, q) :: r => if b = a then (b, o) :: r else (b, q) :: setO a o r
def Mu.put (μ : Mu) (a : Addr) (o : MO) : Mu := ⟨μ.bag, setO a o μ.own⟩
theorem setO_keys {a : Addr} {o : MO} : ∀ {l : List (Addr × MO)}, (setO a o l).map (·.1) = l.map (·.1)
  | [] => rfl
  | (b, q) :: r => by
    unfold setO
    split
    · rfl
    · rw [List.map_cons, List.map_cons, setO_keys]
theorem setO_mem {a : Addr} {o : MO} : ∀ {l : List (Addr × MO)} {p : Addr × MO}, (l.map (·.1)).Nodup → p ∈ setO a o l → (p = (a, o)) ∨ (p ∈ l ∧ p.1 ≠ a)
  | [], _, _, h => by cases h
  | (b, q) :: r, p, nd, h => by
    unfold setO at h
    rw [List.map_cons, List.nodup_cons] at nd
    split at h
    · rename_i e
      rcases List.mem_cons.mp h with e2 | h
      · left; rw [e2, e]
      · right
        refine ⟨List.mem_cons_of_mem _ h, fun z => nd.1 ?_⟩
        rw [e, ← z]
        exact List.mem_map.mpr ⟨p, h, rfl⟩
    · rename_i e
      rcases List.mem_cons.mp h with e2 | h
      · right; rw [e2]; exact ⟨List.mem_cons_self, e⟩
      · rcases setO_mem nd.2 h with z | ⟨z1, z2⟩
        · exact .inl z
        · exact .inr ⟨List.mem_cons_of_mem _ z1, z2⟩
section
variable {B : List Addr} {μ : Mu} {H : Hp} {p : Addr} {xs : List V} {ds : List D}
/-- a new list becomes one's own -/
theorem push_ok (h : HOK B μ H) (r : RpL B μ H xs ds) (n : H p = none) : HOK B (μ.push p (.lst ds)) (upd H p (.lst xs)) ∧ Pres B μ H (μ.push p (.lst ds)) (upd H p (.lst xs)) := by
  have k : Keeps B μ H B (μ.push p (.lst ds)) (upd H p (.lst xs)) := ⟨fun a o e b => ⟨by rw [upd_ne (ne_of_none e n)]; exact e, fun z => by
    rcases z with z | z | z
    · exact b (.inl z)
    · exact b (.inr (.inl z))
    · rcases List.mem_cons.mp z with z | z
      · exact ne_of_none e n z
      · exact b (.inr (.inr z))⟩, fun _ z => z⟩
  have nb := h.free n
  refine ⟨⟨fun b e => ?_, fun q hq => ?_, ?_, fun b e z => ?_, fun a ha => by rw [h.freeB n a ha]; exact h.bt a ha, fun a ha => ⟨(h.bd a ha).1, fun z => ?_⟩⟩, k.pres (h.freeB n)⟩
  · obtain ⟨u, hu⟩ := h.there (.inr (.inl e))
    exact (h.bag b e).keep k (upd_ne (ne_of_none hu n))
  · rcases List.mem_cons.mp hq with e | hq
    · subst e
      exact ⟨xs, upd_same, (k.pres (h.freeB n)).all r⟩
    · obtain ⟨u, hu⟩ := h.there (.inr (.inr (List.mem_map.mpr ⟨q, hq, rfl⟩)))
      exact (h.own q hq).keep (k.pres (h.freeB n)) (upd_ne (ne_of_none hu n))
  · show ((p, MO.lst ds) :: μ.own |>.map (·.1)).Nodup
    rw [List.map_cons, List.nodup_cons]
    exact ⟨fun z => nb (.inr (.inr z)), h.nd⟩
  · rcases List.mem_cons.mp z with z | z
    · rw [z] at e; exact nb (.inr (.inl e))
    · exact h.bo b e z
  · rcases List.mem_cons.mp z with z | z
    · rw [z] at ha; exact nb (.inl ha)
    · exact (h.bd a ha).2 z
/-- .. is let go: from now on a value -/
theorem rid_ok (h : HOK B μ H) : HOK B (μ.rid p) H ∧ Pres B μ H (μ.rid p) H := by
  have memk : ∀ a, a ∈ (dropO p μ.own).map (·.1) → a ∈ μ.own.map (·.1) := fun a ha => by
    obtain ⟨q, hq, e⟩ := List.mem_map.mp ha
    exact List.mem_map.mpr ⟨q, dropO_sub hq, e⟩
  have k : Keeps B μ H B (μ.rid p) H := ⟨fun a o e b => ⟨e, fun z => by
    rcases z with z | z | z
    · exact b (.inl z)
    · exact b (.inr (.inl z))
    · exact b (.inr (.inr (memk a z)))⟩, fun _ z => z⟩
  exact ⟨⟨fun b e => (h.bag b e).keep k rfl, fun q hq => (h.own q (dropO_sub hq)).keep (k.pres fun _ _ => rfl) rfl, dropO_nd h.nd, fun b e z => h.bo b e (memk _ z), h.bt, fun a ha => ⟨(h.bd a ha).1, fun z => (h.bd a ha).2 (memk _ z)⟩⟩, k.pres fun _ _ => rfl⟩
theorem rid_rp (h : HOK B μ H) (hm : (p, MO.lst ds) ∈ μ.own) : Rp B (μ.rid p) H (.ref p) (.lst ds) := by
  obtain ⟨xs, e, r⟩ := h.own _ hm
  refine .lst e (fun z => ?_) ((rid_ok (p := p) h).2.all r)
  rcases z with z | z | z
  · exact (h.bd p z).2 (List.mem_map.mpr ⟨_, hm, rfl⟩)
  · exact h.bo p z (List.mem_map.mpr ⟨_, hm, rfl⟩)
  · exact dropO_out h.nd z
/-- .. changes -/
theorem put_ok (h : HOK B μ H) (hm : p ∈ μ.own.map (·.1)) (r : RpL B μ H xs ds) : HOK B (μ.put p (.lst ds)) (upd H p (.lst xs)) ∧ Pres B μ H (μ.put p (.lst ds)) (upd H p (.lst xs)) := by
  have hp : Bl B μ p := .inr (.inr hm)
  have neB : ∀ a ∈ B, a ≠ p := fun a ha z => (h.bd a ha).2 (by rw [z]; exact hm)
  have eb : ∀ a, Bl B (μ.put p (.lst ds)) a → Bl B μ a := fun a z => by
    rcases z with z | z | z
    · exact .inl z
    · exact .inr (.inl z)
    · have z : a ∈ (setO p (.lst ds) μ.own).map (·.1) := z
      rw [setO_keys] at z
      exact .inr (.inr z)
  have k : Keeps B μ H B (μ.put p (.lst ds)) (upd H p (.lst xs)) := ⟨fun a o e b => ⟨by rw [upd_ne (fun z => b (by rw [z]; exact hp))]; exact e, fun z => b (eb a z)⟩, fun _ z => z⟩
  have kb : ∀ a ∈ B, (upd H p (.lst xs)) a = H a := fun a ha => upd_ne (neB a ha)
  refine ⟨⟨fun b e => ?_, fun q hq => ?_, ?_, fun b e z => ?_, fun a ha => by rw [kb a ha]; exact h.bt a ha, fun a ha => ⟨(h.bd a ha).1, fun z => ?_⟩⟩, k.pres kb⟩
  · exact (h.bag b e).keep k (upd_ne (fun z => h.bo b e (by rw [z]; exact hm)))
  · rcases setO_mem h.nd hq with e | ⟨e1, e2⟩
    · subst e
      exact ⟨xs, upd_same, (k.pres kb).all r⟩
    · exact (h.own q e1).keep (k.pres kb) (upd_ne e2)
  · show ((setO p (.lst ds) μ.own).map (·.1)).Nodup
    rw [setO_keys]; exact h.nd
  · have z : b ∈ (setO p (.lst ds) μ.own).map (·.1) := z
    rw [setO_keys] at z
    exact h.bo b e z
  · have z : a ∈ (setO p (.lst ds) μ.own).map (·.1) := z
    rw [setO_keys] at z
    exact (h.bd a ha).2 z
end
/-- [..], one's own -/
def jOwn (tl : TDL) : TD := fun Ex Δ μ Q => tl Ex Δ μ fun xs μ1 => xs.length ≤ sizeLine ∧ ∀ p, p ∉ μ1.own.map (·.1) → Q (.ref p) (μ1.push p (.lst xs))
theorem je_own (h : JA X E es tl) : JE X E (.List es pos) (jOwn tl) := by
  obtain ⟨r, p, s⟩ := h
  refine ⟨_, pe_lst p, fun B H0 μ0 Ex σ H Δ μ Q Q0 ex g h k => ?_⟩
  refine s B H0 μ0 Ex σ H Δ μ _ _ ex g h fun vs H1 ds μ1 h1 p1 r1 q1 => ⟨by rw [r1.len]; exact q1.1, fun p hp => ?_⟩
  obtain ⟨h2, p2⟩ := push_ok h1 r1 hp
  exact k _ _ _ _ h2 (p1.trans p2) (.ref p) (q1.2 p fun z => h1.free hp (.inr (.inr z)))
/-- a name whose list is let go -/
def jRid (i : Nat) : TD := fun _ Δ μ Q => match Δ[i]? with
  | some (some (.ref a)) => (match μ.own.lookup a with | some (.lst ds) => Q (.lst ds) (μ.rid a) | _ => False)
  | _ => False
theorem je_rid (i : Nat) {x : Str} (hN : X.N[i]? = some x := by rfl) (hv : Vis X.env.scope x := by first | exact Or.inl rfl | exact Or.inr (Or.inl rfl) | exact Or.inr (Or.inr rfl)) (hd : (x == ("__debug__" : Str)) = false := by decide)
    (hcd : (x == ("__classdict__" : Str)) = false := by decide) : JE X E (.Name x pos) (jRid i) := by
  refine ⟨_, pe_var hN hv hd hcd, fun B H0 μ0 Ex σ H Δ μ Q Q0 ex g h k => ?_⟩
  unfold jRid at h
  split at h
  · rename_i a e
    obtain ⟨v, e1, r⟩ := g.st.at_ i _ e
    split at h
    · rename_i ds e2
      cases r
      obtain ⟨h1, p1⟩ := rid_ok (p := a) g.hok
      exact ⟨_, e1, k _ _ _ _ h1 p1 (rid_rp g.hok (lookup_mem e2)) h⟩
    · exact h.elim
  · exact h.elim
/-- xs.append(e), xs one's own -/
def ownL (μ : Mu) (a : Addr) (k : List D → Prop) : Prop := match μ.own.lookup a with | some (.lst ds) => k ds | _ => False
theorem ownL_ok {B : List Addr} {μ : Mu} {H : Hp} {a : Addr} {k : List D → Prop} (h : HOK B μ H) (q : ownL μ a k) : ∃ ds xs, (a, MO.lst ds) ∈ μ.own ∧ H a = some (.lst xs) ∧ RpL B μ H xs ds ∧ k ds := by
  unfold ownL at q
  split at q
  · rename_i ds e
    obtain ⟨xs, hx, r⟩ := h.own _ (lookup_mem e)
    exact ⟨ds, xs, lookup_mem e, hx, r, q⟩
  · exact q.elim
def onRef (d : D) (k : Addr → Prop) : Prop := match d with | .ref a => k a | _ => False
theorem onRef_ok {B : List Addr} {μ : Mu} {H : Hp} {v : V} {d : D} {k : Addr → Prop} (r : Rp B μ H v d) (h : onRef d k) : ∃ a, v = .ref a ∧ d = .ref a ∧ k a := by
  unfold onRef at h
  split at h
  · cases r; exact ⟨_, rfl, rfl, h⟩
  · exact h.elim
def jApp (t u : TD) : TD := fun Ex Δ μ Q => t Ex Δ μ fun x μ1 => onRef x fun a => ownL μ1 a fun _ => u Ex Δ μ1 fun y μ2 => ownL μ2 a fun ds => ds.length < sizeLine ∧ Q .non (μ2.put a (.lst (ds ++ [y])))
theorem je_app {apos cpos : Pos} (ho : JE X E e t) (he : JE X E e2 ta) (hbase : attributeBase e "append" X.env (eval e X.env) = eval e X.env := by rfl)
    (hfew : ((backTo cpos (starEach [e2] X.env)).all (fun x => !x.1) && (backToKw cpos (keywordEach [] X.env)).all (fun x => x.1.isSome)
      && decide ([e2].length + ([] : List Keyword).length + (if ([] : List Keyword).isEmpty then 0 else 1) < 30)) = true := by rfl)
    (hline : (apos.endLine == cpos.line) = true := by rfl) (hs : starEach [e2] X.env = (false, eval e2 X.env) :: starEach [] X.env := by rfl) (hplain : (backTo cpos (starEach [] X.env)).any (·.1) = false := by rfl) :
    JE X E (.Call (.Attribute e "append" apos) [e2] [] cpos) (jApp t ta) := by
  obtain ⟨r, p, s⟩ := ho
  obtain ⟨r2, p2, s2⟩ := he
  refine ⟨_, pe_bm PySem.F.plainAttrs_list PySem.F.slot_list_append PySem.F.type_list_append mt_append p (pa_cons p2 pa_nil hs) hbase hfew hline hs hplain, fun B H0 μ0 Ex σ H Δ μ Q Q0 ex g h k => ?_⟩
  refine s B H0 μ0 Ex σ H Δ μ _ _ ex g h fun v H1 d μ1 h1 p1 r1 q1 => ?_
  obtain ⟨a, rfl, rfl, q2⟩ := onRef_ok r1 q1
  obtain ⟨ds, xs, m1, hx, rr, q3⟩ := ownL_ok h1 q2
  refine ⟨.inl ⟨rfl, _, sqL hx⟩, ?_⟩
  refine s2 B H0 μ0 Ex σ H1 Δ μ1 _ _ ex (g.step h1 p1) q3 fun w H2 d2 μ2 h2 p2 r2 q4 => ?_
  obtain ⟨ds2, xs2, m2, hx2, rr2, q5⟩ := ownL_ok h2 q4
  obtain ⟨h3, p3⟩ := put_ok h2 (List.mem_map.mpr ⟨_, m2, rfl⟩) (rr2.app (.cons r2 .nil))
  exact ⟨a, xs2, w, rfl, rfl, hx2, by rw [rr2.len]; exact q5.1, k _ _ _ _ h3 ((p1.trans p2).trans p3) .non q5.2⟩

/-! ### {..} -/
def jDic0 : TD := fun _ _ μ Q => Q (.dic [] []) μ
theorem je_dic0 : JE X E (.Dict [] [] pos) jDic0 := ⟨_, pe_dnewK, fun B H0 μ0 Ex σ H Δ μ Q Q0 ex g h k p hp => k _ _ _ _ (g.hok.new hp) (g.hok.pnew hp) (newK g.hok rfl .nil hp) h⟩
/-- {'k': e}: one written text as a key -/
def jDic1 (x : Str) (t : TD) : TD := fun Ex Δ μ Q => t exF Δ μ fun d μ1 => Q (.dic [.inr x] [d]) μ1
theorem je_dic1 {x : Str} {j : Nat} {px : Pos} (he : JE X E e t) : JE X E (.Dict [some (.Constant (.str x) j px)] [e] pos) (jDic1 x t) := by
  obtain ⟨r, p, s⟩ := he
  refine ⟨_, pe_disp (pps_cons pe_str p pps_nil) rfl rfl (fun z => by cases z) (by show 1 ≤ 15; decide), fun B H0 μ0 Ex σ H Δ μ Q Q0 ex g h k D nD => ?_⟩
  have h1 : HOK (D :: B) μ (upd H D (.dK [])) := shut_hok g.hok nD
  refine s (D :: B) (upd H D (.dK [])) μ exF σ _ Δ μ _ _ exF_ok ⟨h1, g.st.map fun v d r => r.keep (shut_keep nD), Pres.refl⟩ h fun v H2 d μ2 h2 p2 r2 q2 => ?_
  have eD : H2 D = some (.dK []) := by rw [p2.blk D List.mem_cons_self]; exact upd_same
  refine ⟨eD, [(.inr x, v)], rfl, by show 1 ≤ 15; decide, ?_⟩
  have neD : ∀ a ∈ B, a ≠ D := fun a ha => by
    obtain ⟨o, ho⟩ := g.hok.bt a ha
    exact ne_of_none ho nD
  refine k _ _ (.dic [.inr x] [d]) μ2 (open_hok h2) ⟨fun w e rw' => (p2.rp _ _ (rw'.keep (shut_keep nD))).keep open_keep, fun a ha => ?_⟩ (.dic upd_same (fun z => ?_) rfl (.cons (r2.keep open_keep) .nil)) q2
  · rw [upd_ne (neD a ha), p2.blk a (List.mem_cons_of_mem _ ha)]
    exact upd_ne (neD a ha)
  · rcases z with z | z | z
    · exact neD D z rfl
    · exact (h2.bd D List.mem_cons_self).1 z
    · exact (h2.bd D List.mem_cons_self).2 z
end J

set_option Elab.async false
set_option linter.all false
set_option maxRecDepth 100000
set_option maxHeartbeats 1000000
namespace J
open PySem L2 PySem.Spec PyProof.Rows
/-! ### sets of texts: their members L, in the order of the entries -/
def txtOf (v : Value) : Str := match v with | .str x _ => x | _ => ⟨#[]⟩
def TxtE (w : World) (e : Int × Value) : Prop := ∃ x t, e = (hashStr w x, Value.str x t)
abbrev ledOk (w : World) (t : SetTable) : Prop := w.params.followText "set-order" = true ∨ t.led = true
structure SetIn (w : World) (es : Array (Int × Value)) (t : SetTable) (L : List Str) : Prop where
  txt : ∀ e ∈ es.toList, TxtE w e
  mem : es.toList.map (fun e => txtOf e.2) = L
  nd : L.Nodup
  few : es.size < scanBound
  fits : t.fits es.size = true
  ris : Ris t.place.toList
  led : ledOk w t
def SetS (w : World) (h : Heap) (a : Addr) (L : List Str) : Prop := ∃ o es ep t, h.get? a = some o ∧ o.ExactSet ∧ o.data = .set es ep t ∧ SetIn w es t L
section
variable {P : Program} {w : World} {A : Around} {E : Value → Shared → Prop} {s : Shared} {a : Addr} {L : List Str}
theorem SetS.at {h h' : Heap} (R : SetS w h a L) (k : ∀ o, h.get? a = some o → h'.get? a = some o) : SetS w h' a L := by
  obtain ⟨o, es, ep, t, ho, r⟩ := R
  exact ⟨o, es, ep, t, k o ho, r⟩
theorem txt_elems {l : List (Int × Value)} (g : ∀ e ∈ l, TxtE w e) : ElemsOf (strKind P w) l := fun e he => by
  obtain ⟨x, t, rfl⟩ := g e he
  exact ⟨⟨x, strKind_is P w x t, rfl⟩, rfl⟩
theorem txt_is {e : Int × Value} (g : TxtE w e) (k : Str) : (strKind P w).is k e.2 = true ↔ txtOf e.2 = k := by
  obtain ⟨x, t, rfl⟩ := g
  refine ⟨fun h => ?_, fun h => by subst h; exact strKind_is P w _ t⟩
  obtain ⟨u, e⟩ := Value.isStrOf_shape (x := k) (v := .str x t) h
  cases e
  rfl
theorem set_put {h : Heap} {o : Obj} {es es' : Array (Int × Value)} {ep : Nat} {t t' : SetTable} (ho : h.get? a = some o) (hd : o.data = .set es ep t) :
    (h.update a (Obj.putSet es' t')).get? a = some { o with data := .set es' (ep + 1) t' } := by
  have e := putSet_of es' t' hd
  have q := Heap.get?_update_self (Obj.putSet es' t') ho (by rw [e]; rfl)
  rwa [e] at q
theorem SetIn.perm {es es' : Array (Int × Value)} {t t' : SetTable} (I : SetIn w es t L) (p : es'.toList.Perm es.toList) (f : t'.fits es'.size = true) (r : Ris t'.place.toList) (l : ledOk w t') :
    SetIn w es' t' (es'.toList.map fun e => txtOf e.2) ∧ (es'.toList.map fun e => txtOf e.2).Perm L := by
  have q : (es'.toList.map fun e => txtOf e.2).Perm L := by rw [← I.mem]; exact p.map _
  refine ⟨⟨fun e he => I.txt e (p.mem_iff.mp he), rfl, q.nodup_iff.mpr I.nd, ?_, f, r, l⟩, q⟩
  have := p.length_eq
  simp only [Array.length_toList] at this
  rw [this]; exact I.few
/-- the store at the end of an addition, and the table laid anew where it is too full -/
theorem add_end {g : Bool → Sem Unit} (hg : ∀ (b : Bool) (s₁ : Shared) (Q' : Unit → Shared → Prop), Q' () s₁ → wpAny (model P w) A (g b) Q' E s₁)
    {o : Obj} {es es1 : Array (Int × Value)} {ep : Nat} {t t2 : SetTable} (ho : s.heap.get? a = some o) (hx : o.ExactSet) (hd : o.data = .set es ep t) (I : SetIn w es1 t2 L) {dm : Bool} {R : Option Bool → Shared → Prop}
    (hR : ∀ h' L', Heap.SameBut a s.heap h' → SetS w h' a L' → L'.Perm L → R (some true) { s with heap := h' }) :
    wpAny (model P w) A (do
      storeSet a es1 t2
      if (!dm && t2.tooFull) = true then do
          g (relayAll t2 es1 (SetTable.grown es1.size)).2.2
          storeSet a (relayAll t2 es1 (SetTable.grown es1.size)).1 (relayAll t2 es1 (SetTable.grown es1.size)).2.1
          pure (some true)
        else pure (some true)) R E s := by
  have fit1 := fits_of_scanBound I.few
  refine wpAny_bind (wpAny_storeSet_of ho hd ?_ fit1)
  have h1 := set_put (es' := es1) (t' := t2) ho hd
  have same := Heap.SameBut.update s.heap a (Obj.putSet es1 t2)
  by_cases c : (!dm && t2.tooFull) = true
  · rw [if_pos c]
    have p := relayAll_perm t2 es1 (SetTable.grown es1.size)
    obtain ⟨J, q⟩ := I.perm p (relayAll_fits t2 es1 (SetTable.grown es1.size)) (relayAll_ris t2 es1 (SetTable.grown es1.size)) (by
      unfold ledOk
      rw [relayAll_led t2 es1 (SetTable.grown es1.size)]
      exact I.led)
    refine wpAny_bind (hg _ _ _ (wpAny_bind (wpAny_storeSet_of h1 rfl ?_ (fits_of_scanBound J.few))))
    exact wpAny_pure (hR _ _ (same.trans (Heap.SameBut.update _ a _)) ⟨_, _, _, _, set_put h1 rfl, hx, rfl, J⟩ q)
  · rw [if_neg c]
    exact wpAny_pure (hR _ _ same ⟨_, es1, _, t2, h1, hx, rfl, I⟩ (List.Perm.refl _))
def withS (k : Str) (L : List Str) : List Str := if k ∈ L then L else k :: L
theorem set_add {k : Str} {tk : Tok} {Q : Bool → Shared → Prop} (R : SetS w s.heap a L) (room : L.length + 1 < scanBound)
    (hQ : ∀ b h' L', Heap.SameBut a s.heap h' → SetS w h' a L' → L'.Perm (withS k L) → Q b { s with heap := h' }) : wpAny (model P w) A (setAddHashed a (.str k tk) ((strKind P w).hash k)) Q E s := by
  obtain ⟨o, es, ep, t, ho, hx, hd, I⟩ := R
  have key : (strKind P w).is k (.str k tk) = true := strKind_is P w k tk
  have el : ElemsOf (strKind P w) es.toList := txt_elems I.txt
  unfold setAddHashed setAddHashedIn
  refine wpAny_holding (wpAny_bind (wpAny_setState_of ho hd I.fits ?_))
  dsimp only
  rw [byScan_of (x := .str k tk) rfl I.few el]
  simp only [↓reduceIte]
  unfold setAddByScan
  refine wpAny_bind (wpAny_bind (wpAny_rule (wpAny_bind (wpAny_setScan_of key ho hd I.fits el ?_))))
  cases fi : List.findIdx? (fun e => (strKind P w).is k e.2) es.toList with
  | some j =>
    obtain ⟨hj, pj, _⟩ := List.findIdx?_eq_some_iff_getElem.mp fi
    have hm : k ∈ L := by
      rw [← I.mem]
      exact List.mem_map.mpr ⟨_, List.getElem_mem hj, (txt_is (I.txt _ (List.getElem_mem hj)) k).1 pj⟩
    exact wpAny_pure (wpAny_pure (hQ _ s.heap L (Heap.SameBut.refl a s.heap) ⟨o, es, ep, t, ho, hx, hd, I⟩ (by unfold withS; rw [if_pos hm])))
  | none =>
    dsimp only
    have hm : k ∉ L := fun z => by
      rw [← I.mem] at z
      obtain ⟨e, he, q⟩ := List.mem_map.mp z
      have c := List.findIdx?_eq_none_iff.mp fi e he
      rw [(txt_is (P := P) (I.txt e he) k).2 q] at c
      cases c
    have way : ∀ (b : Bool) (s₁ : Shared) (Q' : Unit → Shared → Prop), Q' () s₁ → wpAny (model P w) A (match b with | true => rule "set.scan.the-table-gave-way" | false => pure ()) Q' E s₁ := fun b s₁ Q' q => by
      cases b with
      | true => exact wpAny_rule q
      | false => exact wpAny_pure q
    have pm := layNew_perm t es ((strKind P w).hash k) (.str k tk)
    have hf1 := layNew_fits t es ((strKind P w).hash k) (.str k tk)
    have hr1 := layNew_ris t es ((strKind P w).hash k) (.str k tk) I.ris
    have hl1 := layNew_led t es ((strKind P w).hash k) (.str k tk)
    generalize layNew t es ((strKind P w).hash k) (.str k tk) = Z at pm hf1 hr1 hl1 ⊢
    obtain ⟨es1, t1, dm, gave⟩ := Z
    dsimp only at pm hf1 hr1 hl1 ⊢
    rw [Array.toList_push] at pm
    have pc : es1.toList.Perm ((hashStr w k, Value.str k tk) :: es.toList) := pm.trans (List.perm_append_singleton _ _)
    have pk : (es1.toList.map fun e => txtOf e.2).Perm (k :: L) := by
      have := pc.map fun e => txtOf e.2
      rwa [List.map_cons, I.mem] at this
    have len1 : es1.size = L.length + 1 := by
      have := pk.length_eq
      rwa [List.length_map, Array.length_toList] at this
    have J : ∀ t', t'.fits es1.size = true → Ris t'.place.toList → ledOk w t' → SetIn w es1 t' (es1.toList.map fun e => txtOf e.2) := fun t' f r l =>
      ⟨fun e he => (List.mem_cons.mp (pc.mem_iff.mp he)).elim (fun z => ⟨k, tk, z⟩) (I.txt e), rfl, pk.nodup_iff.mpr (List.nodup_cons.mpr ⟨hm, I.nd⟩), by rw [len1]; exact room, f, r, l⟩
    have led1 : ledOk w t1 := I.led.imp (fun z => z) fun z => by rw [hl1]; exact z
    have fin : ∀ h' L', Heap.SameBut a s.heap h' → SetS w h' a L' → L'.Perm (es1.toList.map fun e => txtOf e.2) → Q true { s with heap := h' } := fun h' L' sb r p =>
      hQ true h' L' sb r (by unfold withS; rw [if_neg hm]; exact p.trans pk)
    refine wpAny_bind (way _ _ _ ?_)
    split
    · refine wpAny_bind ?_
      rw [hashByValue_scannable 8 (x := .str k tk) rfl]
      refine wpAny_pure ?_
      refine add_end ?_ ho hx hd (J _ ?_ ?_ ?_) ?_
      · intro b s₁ Q' q; cases b <;> first | exact wpAny_pure q | exact wpAny_rule q
      · first | exact hf1 | (split <;> first | exact hf1 | exact SetTable.fits_plain_off hf1)
      · first | exact hr1 | (split <;> exact hr1)
      · first | exact led1 | (split <;> exact led1)
      · exact fun h' L' sb r p => wpAny_pure (fin h' L' sb r p)
    · refine wpAny_bind (wpAny_pure ?_)
      simp only [↓reduceIte]
      refine add_end ?_ ho hx hd (J _ hf1 hr1 led1) ?_
      · intro b s₁ Q' q; cases b <;> first | exact wpAny_pure q | exact wpAny_rule q
      · exact fun h' L' sb r p => wpAny_pure (fin h' L' sb r p)
end
/-! ### set(..) of a list, of a tuple of texts -/
abbrev emptySet (w : World) : Obj := { cls := .type "set", dict := none, data := .set #[] 0 (.fresh 0 0 (!w.params.followText "set-order")) }
def SetFrom (w : World) (h : Heap) (a : Addr) (xs : List Str) : Prop := ∃ L, SetS w h a L ∧ L.length ≤ xs.length ∧ ∀ x, x ∈ L ↔ x ∈ xs
theorem set_none {w : World} {h : Heap} {a : Addr} (ho : h.get? a = some (emptySet w)) : SetFrom w h a [] := by
  refine ⟨[], ⟨_, #[], 0, _, ho, ⟨rfl, rfl, rfl⟩, rfl, ⟨fun e he => by simp at he, rfl, List.nodup_nil, by decide, by rfl, List.Pairwise.nil, ?_⟩⟩, Nat.le_refl _, fun x => Iff.rfl⟩
  show w.params.followText "set-order" = true ∨ (!w.params.followText "set-order") = true
  cases w.params.followText "set-order" <;> simp
section
variable {P : Program} {w : World} {A : Around} {E : Value → Shared → Prop} {s : Shared}
theorem set_loop {I : Addr} {fp wr : List Addr} {G : Array GenState → Array GenState → Prop} {n : Nat} {Pv : Nat → Value → Prop} {St : Nat → Shared → Prop} {R : Result → Shared → Prop} (W : WalksS P w A.in1 I fp wr G n Pv St) (S : Addr) (hS : S ∉ fp)
    (xs : List Str) (hn : n = xs.length) (few : xs.length + 1 < scanBound) (val : ∀ i v, Pv i v → ∃ x t, xs[i]? = some x ∧ v = .str x t) :
    ∀ (m i : Nat) (s : Shared), n - i = m → i ≤ n → St i s → SetFrom w s.heap S (xs.take i) → (∀ s', Moved (S :: wr) G s s' → SetFrom w s'.heap S xs → R (.ok (.ret .none)) s') → codeAny (model P w) A (.builtin "set.update.loop" ⟨[.ref S, .ref I], []⟩) R s := by
  have hw : S ∉ wr := fun z => hS (W.sub _ z)
  have up : ∀ b ∈ wr, b ∈ S :: wr := fun b hb => List.mem_cons_of_mem _ hb
  intro m
  induction m with
  | zero =>
    intro i s hm hi st ⟨L, hL, le, mem⟩ hR
    obtain rfl : i = n := by omega
    refine codeAny_builtin F.entry_set_update_loop ?_
    rw [Around.under_plainId F.plain_set_update_loop _]
    show wpAny _ A.in1 (pyNext (.ref I) >>= _) _ _ s
    refine wpAny_bind (W.done s _ _ st fun s' mv => wpAny_pure (hR s' (mv.mono up) ⟨L, hL.at fun o e => mv.heap S o hw e, ?_, ?_⟩))
    · rw [List.take_of_length_le (by omega)] at le; exact le
    · rw [List.take_of_length_le (by omega)] at mem; exact mem
  | succ m ih =>
    intro i s hm hi st ⟨L, hL, le, mem⟩ hR
    have lt : i < n := by omega
    refine codeAny_builtin F.entry_set_update_loop ?_
    rw [Around.under_plainId F.plain_set_update_loop _]
    show wpAny _ A.in1 (pyNext (.ref I) >>= _) _ _ s
    refine wpAny_bind (W.item i s _ _ lt st fun v s' hv st' mv => ?_)
    obtain ⟨x, t, ex, rfl⟩ := val i v hv
    have hL' : SetS w s'.heap S L := hL.at fun o e => mv.heap S o hw e
    have le' : L.length ≤ i := Nat.le_trans le (by rw [List.length_take]; omega)
    show wpAny _ A.in1 (holding [Value.str x t] (setAdd S (.str x t)) >>= _) _ _ s'
    refine wpAny_bind (wpAny_holding ?_)
    unfold setAdd
    refine wpAny_holding (wpAny_bind ((strKind P w).pyHash (strKind_is P w x t) ?_))
    refine set_add (s := { s' with toks := s'.toks + 1 }) hL' (by omega) fun b h' L2 sb hL2 pm => ?_
    have next : SetFrom w h' S (xs.take (i + 1)) := by
      have et : xs.take (i + 1) = xs.take i ++ [x] := by rw [List.take_add_one, ex]; rfl
      refine ⟨L2, hL2, ?_, fun y => ?_⟩
      · rw [pm.length_eq, List.length_take, Nat.min_eq_left (by omega)]
        unfold withS
        split
        · omega
        · rw [List.length_cons]; omega
      · rw [pm.mem_iff, et, List.mem_append, List.mem_singleton, ← mem y]
        unfold withS
        split
        · rename_i hx
          exact ⟨.inl, fun z => z.elim id fun z => by rw [z]; exact hx⟩
        · rw [List.mem_cons]; exact Or.comm
    refine wpAny_pure ⟨plainId_quiet F.plain_set_update_loop _, ih (i + 1) _ (by omega) lt (W.frame _ s' _ _ st' (Nat.le_succ _) fun b hb o e => ?_) next fun s'' mv2 fin => hR s'' (Moved.trans W.gtrans ((mv.mono up).then_heap (Nat.le_succ _) fun b o hb e => ?_) mv2) fin⟩
    · rw [sb.2 b (fun z : b = S => hS (by rw [← z]; exact hb))]; exact e
    · rw [sb.2 b (fun z : b = S => hb (by rw [z]; exact List.mem_cons_self))]; exact e
end
section
variable {P : Program} {w : World} {A : Around} {E : Value → Shared → Prop} {s : Shared}
theorem StrsAre.at : ∀ {vs : List Value} {xs : List Str} {i : Nat} {v : Value}, StrsAre vs xs → vs[i]? = some v → ∃ x t, xs[i]? = some x ∧ v = .str x t
  | _, _, _, _, .nil, h => by simp at h
  | _, _, 0, _, .cons y t r, h => by simp at h; exact ⟨y, t, rfl, h.symm⟩
  | _, _, i + 1, _, .cons y t r, h => by
    obtain ⟨x, u, e1, e2⟩ := J.StrsAre.at (i := i) r (by simpa using h)
    exact ⟨x, u, by simpa using e1, e2⟩
theorem StrsAre.length : ∀ {vs : List Value} {xs : List Str}, StrsAre vs xs → vs.length = xs.length
  | _, _, .nil => rfl
  | _, _, .cons _ _ r => by simp [J.StrsAre.length r]

set_option maxHeartbeats 3200000 in
theorem call_setL {l : Addr} {items : Array Value} (xs : List Str) {Q : Value → Shared → Prop} (hh : A.handled = none) (hl : s.heap.IsList l items) (it : StrsAre items.toList xs) (few : xs.length + 1 < scanBound)
    (h : ∀ (h' : Heap) (tk : Nat), SetFrom w h' s.heap.objs.size xs → (∀ b o, s.heap.get? b = some o → h'.get? b = some o) → Q (.ref s.heap.objs.size) { s with heap := h', toks := tk }) : wpAny (model P w) A (call (.type "set") [.ref l]) Q E s := by
  have size : items.size = xs.length := by
    have q := J.StrsAre.length it
    rwa [Array.length_toList] at q
  obtain ⟨c, tl, mro⟩ := F.called_set.mro
  have made := F.called_set.made
  have sub := F.called_set.sub
  refine wpAny_call (codeAny_of_tree ?_)
  show wpAny _ _ (callAny (.type "set") ⟨[.ref l], []⟩) _ _ _
  refine wpAny_pure ⟨Code.quiet_builtin _ (by decide +kernel), codeAny_builtin F.entry_type_call ?_⟩
  rw [Around.under_plain (weight_type_call_type "set" [.ref l] []) rfl]
  have nt := F.called_set.notType
  have cc := F.called_set.canCreate
  have tc := F.typeCall_set_1 (.ref l)
  repeat (any_goals (first | assumption | wp_step))
  refine codeAny_mono (code_set_led1 (.ref l) (E := E) (Q₁ := fun u s₁ => u = .ref s.heap.objs.size ∧ s₁ = { s with heap := s.heap.push (emptySet w) }) ⟨rfl, rfl⟩) fun r s₁ hr => ?_
  cases r with
  | error e => exact hr
  | ok fl =>
    cases fl with
    | ret u =>
      obtain ⟨rfl, rfl⟩ := hr
      have got : (s.heap.push (emptySet w)).get? s.heap.objs.size = some (emptySet w) := Heap.get?_push_size _ rfl
      have typ : Shared.TypeIs { s with heap := s.heap.push (emptySet w) } (.ref s.heap.objs.size) "set" := ⟨_, got, rfl⟩
      have li := F.called_set.init.lookup
      have bi := F.called_set.init.bind (.ref s.heap.objs.size)
      repeat (any_goals (first | assumption | wp_step))
      refine codeAny_mono (codeAny_call_builtin (R := wants (fun r s₂ => r = .none ∧ ∃ h' tk, s₂ = { s with heap := h', toks := tk } ∧ SetFrom w h' s.heap.objs.size xs ∧ ∀ b o, s.heap.get? b = some o → h'.get? b = some o) E)
        F.called_set.init.plain F.entry_set_init (check_set_init_1 typ ?_)) fun r₂ s₂ hr₂ => ?_
      · obtain ⟨⟨oc, od, dt, sl⟩, ho, hc, n0, hd⟩ := hl
        dsimp only at hc hd
        subst hc
        subst hd
        have ho' := Heap.get?_push_of_some (emptySet w) ho
        have s1 := PySem.F.sub_list_set
        have s2 := PySem.F.sub_list_frozenset
        have nd : (Value.type "list" == Value.type "dict") = false := by decide
        have hl1 : (s.heap.push (emptySet w)).IsList l items := ⟨_, ho', rfl, n0, rfl⟩
        unfold Builtin.«set.__init__» noKeywords Builtin.Frozenset.updateFrom
        generalize keep : pyIter = PI
        wp_walk
        subst keep
        refine wpAny_pyIter_list hl1 (wpAny_bind (wpAny_runValue ?_))
        have lt : l < s.heap.objs.size := Heap.lt_size ho
        have z1 : (s.heap.push (emptySet w)).objs.size = s.heap.objs.size + 1 := Heap.size_push ..
        have calm : A.in1.in1.in1.handled = none := by simp [hh]
        have ne : l ≠ (s.heap.push (emptySet w)).objs.size := by rw [z1]; exact Nat.ne_of_lt (Nat.lt_succ_of_lt lt)
        have off : s.heap.objs.size ∉ [(s.heap.push (emptySet w)).objs.size, l] := by
          rw [z1]
          intro z
          rcases List.mem_cons.mp z with z | z
          · exact absurd z (Nat.ne_of_lt (Nat.lt_succ_self _))
          · exact absurd (List.mem_singleton.mp z) (Nat.ne_of_gt lt)
        have val : ∀ (i : Nat) (v : Value), items[i]? = some v → ∃ x t, xs[i]? = some x ∧ v = .str x t := fun i v hv => J.StrsAre.at it (by rw [Array.getElem?_toList]; exact hv)
        refine set_loop ((Walks.list calm _ l ne items).toS) s.heap.objs.size off xs size few val (items.size - 0) 0 _ rfl (Nat.zero_le _) ⟨⟨_, Heap.get?_push_size _ rfl, rfl, rfl⟩, hl1.push _⟩ ?first ?last
        case first => exact set_none (Heap.get?_push_of_some _ got)
        case last =>
          intro s' mv fin
          obtain ⟨h', g2, d', tk', os'⟩ := s'
          obtain rfl : g2 = s.gens := mv.gens
          obtain rfl : d' = s.drawn := mv.drawn
          obtain rfl : os' = s.os := mv.os
          show wpAny _ _ _ _ _ _
          refine wpAny_pure ?_
          show wpAny _ _ (ret Value.none) _ _ _
          refine wpAny_pure ⟨rfl, h', tk', rfl, fin, fun b o e => mv.heap b o (fun z => ?_) (Heap.get?_push_of_some _ (Heap.get?_push_of_some _ e))⟩
          have b0 : b < s.heap.objs.size := Heap.lt_size e
          rcases List.mem_cons.mp z with z | z
          · exact Nat.ne_of_lt b0 z
          · exact Nat.lt_irrefl _ (Nat.lt_of_lt_of_le b0 (by rw [List.mem_singleton.mp z, z1]; exact Nat.le_succ _))
      · cases r₂ with
        | error e => exact hr₂
        | ok fl₂ =>
          cases fl₂ with
          | ret r =>
            obtain ⟨rfl, h', tk, rfl, fin, kp⟩ := hr₂
            repeat (any_goals (first | assumption | wp_step))
            exact h _ _ fin kp
          | _ => exact hr₂.elim
    | _ => exact hr.elim

set_option maxHeartbeats 3200000 in
theorem call_setT {l : Addr} {items : Array Value} (xs : List Str) {Q : Value → Shared → Prop} (hh : A.handled = none) (hl : s.heap.IsTuple l items) (it : StrsAre items.toList xs) (few : xs.length + 1 < scanBound)
    (h : ∀ (h' : Heap) (tk : Nat), SetFrom w h' s.heap.objs.size xs → (∀ b o, s.heap.get? b = some o → h'.get? b = some o) → Q (.ref s.heap.objs.size) { s with heap := h', toks := tk }) : wpAny (model P w) A (call (.type "set") [.ref l]) Q E s := by
  have size : items.size = xs.length := by
    have q := J.StrsAre.length it
    rwa [Array.length_toList] at q
  obtain ⟨c, tl, mro⟩ := F.called_set.mro
  have made := F.called_set.made
  have sub := F.called_set.sub
  refine wpAny_call (codeAny_of_tree ?_)
  show wpAny _ _ (callAny (.type "set") ⟨[.ref l], []⟩) _ _ _
  refine wpAny_pure ⟨Code.quiet_builtin _ (by decide +kernel), codeAny_builtin F.entry_type_call ?_⟩
  rw [Around.under_plain (weight_type_call_type "set" [.ref l] []) rfl]
  have nt := F.called_set.notType
  have cc := F.called_set.canCreate
  have tc := F.typeCall_set_1 (.ref l)
  repeat (any_goals (first | assumption | wp_step))
  refine codeAny_mono (code_set_led1 (.ref l) (E := E) (Q₁ := fun u s₁ => u = .ref s.heap.objs.size ∧ s₁ = { s with heap := s.heap.push (emptySet w) }) ⟨rfl, rfl⟩) fun r s₁ hr => ?_
  cases r with
  | error e => exact hr
  | ok fl =>
    cases fl with
    | ret u =>
      obtain ⟨rfl, rfl⟩ := hr
      have got : (s.heap.push (emptySet w)).get? s.heap.objs.size = some (emptySet w) := Heap.get?_push_size _ rfl
      have typ : Shared.TypeIs { s with heap := s.heap.push (emptySet w) } (.ref s.heap.objs.size) "set" := ⟨_, got, rfl⟩
      have li := F.called_set.init.lookup
      have bi := F.called_set.init.bind (.ref s.heap.objs.size)
      repeat (any_goals (first | assumption | wp_step))
      refine codeAny_mono (codeAny_call_builtin (R := wants (fun r s₂ => r = .none ∧ ∃ h' tk, s₂ = { s with heap := h', toks := tk } ∧ SetFrom w h' s.heap.objs.size xs ∧ ∀ b o, s.heap.get? b = some o → h'.get? b = some o) E)
        F.called_set.init.plain F.entry_set_init (check_set_init_1 typ ?_)) fun r₂ s₂ hr₂ => ?_
      · obtain ⟨⟨oc, od, dt, sl⟩, ho, hc, n0, hd⟩ := hl
        dsimp only at hc hd
        subst hc
        subst hd
        have ho' := Heap.get?_push_of_some (emptySet w) ho
        have s1 := F.sub_tuple_set
        have s2 := F.sub_tuple_frozenset
        have nd : (Value.type "tuple" == Value.type "dict") = false := by decide
        have hl1 : (s.heap.push (emptySet w)).IsTuple l items := ⟨_, ho', rfl, n0, rfl⟩
        unfold Builtin.«set.__init__» noKeywords Builtin.Frozenset.updateFrom
        generalize keep : pyIter = PI
        wp_walk
        subst keep
        refine wpAny_pyIter_tuple hl1 (wpAny_bind (wpAny_runValue ?_))
        have lt : l < s.heap.objs.size := Heap.lt_size ho
        have z1 : (s.heap.push (emptySet w)).objs.size = s.heap.objs.size + 1 := Heap.size_push ..
        have calm : A.in1.in1.in1.handled = none := by simp [hh]
        have ne : l ≠ (s.heap.push (emptySet w)).objs.size := by rw [z1]; exact Nat.ne_of_lt (Nat.lt_succ_of_lt lt)
        have off : s.heap.objs.size ∉ [(s.heap.push (emptySet w)).objs.size, l] := by
          rw [z1]
          intro z
          rcases List.mem_cons.mp z with z | z
          · exact absurd z (Nat.ne_of_lt (Nat.lt_succ_self _))
          · exact absurd (List.mem_singleton.mp z) (Nat.ne_of_gt lt)
        have val : ∀ (i : Nat) (v : Value), items[i]? = some v → ∃ x t, xs[i]? = some x ∧ v = .str x t := fun i v hv => J.StrsAre.at it (by rw [Array.getElem?_toList]; exact hv)
        refine set_loop ((Walks.tuple calm _ l ne items).toS) s.heap.objs.size off xs size few val (items.size - 0) 0 _ rfl (Nat.zero_le _) ⟨⟨_, Heap.get?_push_size _ rfl, rfl, rfl⟩, hl1.push _⟩ ?first ?last
        case first => exact set_none (Heap.get?_push_of_some _ got)
        case last =>
          intro s' mv fin
          obtain ⟨h', g2, d', tk', os'⟩ := s'
          obtain rfl : g2 = s.gens := mv.gens
          obtain rfl : d' = s.drawn := mv.drawn
          obtain rfl : os' = s.os := mv.os
          show wpAny _ _ _ _ _ _
          refine wpAny_pure ?_
          show wpAny _ _ (ret Value.none) _ _ _
          refine wpAny_pure ⟨rfl, h', tk', rfl, fin, fun b o e => mv.heap b o (fun z => ?_) (Heap.get?_push_of_some _ (Heap.get?_push_of_some _ e))⟩
          have b0 : b < s.heap.objs.size := Heap.lt_size e
          rcases List.mem_cons.mp z with z | z
          · exact Nat.ne_of_lt b0 z
          · exact Nat.lt_irrefl _ (Nat.lt_of_lt_of_le b0 (by rw [List.mem_singleton.mp z, z1]; exact Nat.le_succ _))
      · cases r₂ with
        | error e => exact hr₂
        | ok fl₂ =>
          cases fl₂ with
          | ret r =>
            obtain ⟨rfl, h', tk, rfl, fin, kp⟩ := hr₂
            repeat (any_goals (first | assumption | wp_step))
            exact h _ _ fin kp
          | _ => exact hr₂.elim
    | _ => exact hr.elim
end
section
variable {P : Program} {w : World} {A : Around} {E : Value → Shared → Prop} {s : Shared} {a : Addr}
theorem strs_all : ∀ (l : List Value), (∀ v ∈ l, ∃ x t, v = Value.str x t) → StrsAre l (l.map txtOf)
  | [], _ => .nil
  | v :: l, h => by
    obtain ⟨x, t, rfl⟩ := h v List.mem_cons_self
    exact .cons x t (strs_all l fun u hu => h u (List.mem_cons_of_mem _ hu))
/-- sorted(..) of a set of texts -/
theorem sorted_setS {L : List Str} {Q : Value → Shared → Prop} (R : SetS w s.heap a L) (hh : A.handled = none) (few : L.length < 64)
    (hQ : ∀ s' p (out : Array Value) (c : Nat) (ys : List Str), (∀ b o, s.heap.get? b = some o → s'.heap.get? b = some o) → s'.gens = s.gens → s'.os = s.os → s.heap.objs.size ≤ p → s'.heap.get? p = some (seqObj "list" out c) →
      StrsAre out.toList ys → ys.Perm L → sortedS ys = true → Q (.ref p) s') : wpAny (model P w) A (call (.builtin "sorted") [.ref a]) Q E s := by
  obtain ⟨o, es, ep, t, ho, hx, hd, I⟩ := R
  refine Calls.call_function_entry kind_sorted plain_sorted entry_sorted (args_sorted1 _) ?_
  unfold Builtin.«sorted»
  refine wpAny_bind (m := checkCount "sorted" 1 1 _) (wpAny_pure (wpAny_bind (collect_set (A := A.in1) hh ⟨o, ho, hx.1, hd⟩ I.fits I.few I.ris I.led fun s1 vs k1 z1 g1 o1 pm => ?_)))
  have sv : StrsAre vs (vs.map txtOf) := strs_all vs fun v hv => by
    obtain ⟨e, he, q⟩ := List.mem_map.mp (pm.mem_iff.mp hv)
    obtain ⟨x, u, ee⟩ := I.txt e he
    exact ⟨x, u, by rw [← q, ee]⟩
  have pk : (vs.map txtOf).Perm L := by
    have q := pm.map txtOf
    rw [List.map_map] at q
    rw [← I.mem]; exact q
  have len : vs.length = L.length := by
    have := pk.length_eq
    rwa [List.length_map] at this
  refine wpAny_bind (wpAny_newList ?_ (by rw [len, sizeLine_eq]; omega))
  have hL : (s1.heap.push (seqObj "list" vs.toArray 0)).get? s1.heap.objs.size = some (seqObj "list" vs.toArray 0) := Heap.get?_push_size _ rfl
  refine wpAny_bind (wpAny_holding (wpAny_call_entry slot_list_sort ⟨_, hL, rfl⟩ entry_list_sort (list_sort_treeK strKind_oneLt hL sv.keysOf (fun v₁ v₂ r e => keyKind_strs (by rw [← e]; exact sv)) (by rw [len]; exact few) fun st' hp hs => ⟨_, rfl, ?_⟩) (args_list_sort _)))
  obtain ⟨ys, y1, y2, y3⟩ := sorted_out_str sv hp hs
  obtain ⟨c, hc⟩ := sortedHeap_at (vs := vs) (out := (arrOf st').map (·.2)) hL
  refine wpAny_pure ⟨_, rfl, hQ _ s1.heap.objs.size _ c ys (fun b u e => ?_) g1 o1 z1 hc y1 (y2.trans pk) y3⟩
  have q := k1 b u e
  have lt := Heap.lt_size q
  have := sortedHeap_old (h := s1.heap.push (seqObj "list" vs.toArray 0)) (vs := vs) (out := (arrOf st').map (·.2)) (Nat.ne_of_lt lt) (by rw [Heap.size_push]; exact Nat.lt_succ_of_lt lt)
  exact this.trans (Heap.get?_push_of_some _ q)
end

end J

set_option Elab.async false
set_option linter.all false
set_option maxRecDepth 100000
set_option maxHeartbeats 1000000
namespace J
open PySem L2 PySem.Spec PyProof.Rows
/-! ### sorted(set(e)), e a list or a tuple of texts -/
def SetTxt (w : World) (p : Addr) (xs : List Str) : HO := .ext fun h => SetFrom w h p xs
section
variable {X : Cx} {E : XK} {e : Expr} {t : TD} {pos p1 p2 p3 : Pos}
theorem SetFrom.at {w : World} {h h' : Heap} {a : Addr} {xs : List Str} (R : SetFrom w h a xs) (k : ∀ o, h.get? a = some o → h'.get? a = some o) : SetFrom w h' a xs := by
  obtain ⟨L, r, q⟩ := R
  exact ⟨L, r.at k, q⟩
theorem setTxt_ok {P : Program} {w : World} {H : Hp} {h : Heap} {a : Addr} {xs : List Str} (R : SetFrom w h a xs) : ObjOk P w H h a (SetTxt w a xs) := by
  refine ⟨R, ?_, fun h1 h2 r k => r.at k⟩
  obtain ⟨L, ⟨o, es, ep, t, ho, _⟩, _⟩ := R
  exact ⟨o, ho⟩
theorem strsAre_of : ∀ {xs : List Str} {us : List Value}, Vals (xs.map V.str) us → StrsAre us xs
  | [], _, r => by cases r; exact .nil
  | x :: xs, _, r => by
    cases r with
    | cons r1 r2 =>
      obtain ⟨t, rfl⟩ := r1
      exact .cons x t (strsAre_of r2)
def rSetTxt (X : Cx) : List V → Hp → VK → Prop := fun vs H Q => ∃ p xs, vs = [V.ref p] ∧ (SqL X.K H p (xs.map V.str) ∨ SqT X.K H p (xs.map V.str)) ∧ xs.length + 1 < scanBound ∧ ∀ q, H q = none → Q (.ref q) (upd H q (SetTxt X.w q xs))
theorem cr_setTxt (hc : X.calm = true) : CallR X (.type "set") (rSetTxt X) := by
  intro pins s σ H vs us Q I r ⟨p, xs, e, hs, few, q⟩
  subst e
  rw [Vals.ref1 r]
  have fin : ∀ (h' : Heap) (tk : Nat), SetFrom X.w h' s.heap.objs.size xs → (∀ b o, s.heap.get? b = some o → h'.get? b = some o) → EP X pins σ Q (.ref s.heap.objs.size) { s with heap := h', toks := tk } := fun h' tk f k =>
    ⟨.ref s.heap.objs.size, _, I.laid (t' := tk) k (Nat.le_refl _) (setTxt_ok f), rfl, q _ (I.hok.fresh (Nat.le_refl _))⟩
  rcases hs with hs | hs
  · obtain ⟨its, rv, hl, _⟩ := I.list hs
    exact call_setL xs (I.ok.hd hc) hl.isList (by rw [List.toList_toArray]; exact strsAre_of rv) few fin
  · obtain ⟨its, rv, hl, _⟩ := I.tuple hs
    exact call_setT xs (I.ok.hd hc) (show s.heap.IsTuple p its.toArray from hl) (by rw [List.toList_toArray]; exact strsAre_of rv) few fin
def Distinct (xs ys : List Str) : Prop := ys.Nodup ∧ sortedS ys = true ∧ ∀ x, x ∈ ys ↔ x ∈ xs
def rSortTxt (X : Cx) : List V → Hp → VK → Prop := fun vs H Q => ∃ p xs, vs = [V.ref p] ∧ H p = some (SetTxt X.w p xs) ∧ xs.length < 64 ∧ ∀ ys q, Distinct xs ys → H q = none → Q (.ref q) (upd H q (.lst (ys.map V.str)))
theorem cr_sortTxt (hc : X.calm = true) : CallR X (.builtin "sorted") (rSortTxt X) := by
  intro pins s σ H vs us Q I r ⟨p, xs, e, hp, few, q⟩
  subst e
  rw [Vals.ref1 r]
  obtain ⟨L, R, le, mem⟩ := (show ObjOk X.prog X.w H s.heap p (SetTxt X.w p xs) from I.hok p _ hp).1
  refine sorted_setS R (I.ok.hd hc) (by omega) fun s' a out c ys k g o ha hg hy pm so => ?_
  have hn : H a = none := I.hok.fresh ha
  have nd : L.Nodup := by
    obtain ⟨_, _, _, _, _, _, _, z⟩ := R
    exact z.nd
  have len : (ys.map V.str).length ≤ sizeLine := by rw [List.length_map, pm.length_eq, sizeLine_eq]; omega
  have J : Inv X pins σ (upd H a (.lst (ys.map V.str))) { s with heap := s'.heap, gens := s'.gens, drawn := s'.drawn, toks := s'.toks } :=
    I.call (ch := []) (Un.laid k ha hn) (I.hok.laid k ha ⟨len, out.toList, c, vals_of_strs hy, hg⟩) (by rw [g]; exact I.bare) (fun _ z => nomatch z)
  have e : s' = { s with heap := s'.heap, gens := s'.gens, drawn := s'.drawn, toks := s'.toks } := by
    cases s'; cases s; cases o; rfl
  rw [e]
  exact ⟨.ref a, _, J, rfl, q ys a ⟨pm.nodup_iff.mpr nd, so, fun x => by rw [pm.mem_iff, mem x]⟩ hn⟩
/-- the texts of a list or a tuple -/
def txts (μ : Mu) (d : D) (k : List Str → Prop) : Prop := match asS μ d with
  | some ds => (match strsOf ds with | some xs => k xs | none => False)
  | none => False
theorem txts_ok {B : List Addr} {μ : Mu} {H : Hp} {v : V} {d : D} {k : List Str → Prop} (h : HOK B μ H) (r : Rp B μ H v d) (q : txts μ d k) : ∃ a xs, v = .ref a ∧ (H a = some (.lst (xs.map V.str)) ∨ H a = some (.tup (xs.map V.str))) ∧ k xs := by
  unfold txts at q
  split at q
  · rename_i ds hd
    split at q
    · rename_i xs hx
      obtain ⟨a, vs, rfl, ha, rr⟩ := asS_ok h r hd
      obtain rfl := strsOf_ok rr hx
      exact ⟨a, xs, rfl, ha, q⟩
    · exact q.elim
  · exact q.elim
def jSS (t : TD) : TD := fun Ex Δ μ Q => t Ex Δ μ fun d μ1 => txts μ1 d fun xs => xs.length < 64 ∧ ∀ ys, Distinct xs ys → Q (.lst (ys.map D.str)) μ1
theorem je_sortSet (hc : X.calm = true) (hg : Gl X "sorted") (hm : X.mg "sorted" = none) (hg2 : Gl X "set") (hm2 : X.mg "set" = none) (he : JE X E e t)
    (hs : starEach [e] X.env = (false, eval e X.env) :: starEach [] X.env := by rfl) (hs2 : starEach [.Call (.Name "set" p2) [e] [] p3] X.env = (false, eval (.Call (.Name "set" p2) [e] [] p3) X.env) :: starEach [] X.env := by rfl)
    (h0 : (backTo pos (starEach [] X.env)).any (·.1) = false := by rfl) (h1 : (backTo p3 (starEach [] X.env)).any (·.1) = false := by rfl) :
    JE X E (.Call (.Name "sorted" p1) [.Call (.Name "set" p2) [e] [] p3] [] pos) (jSS t) := by
  obtain ⟨r, p, s⟩ := he
  refine ⟨_, pe_callB (cr_sortTxt hc) hg hm PyProof.Rows.boot_sorted (pa_cons (pe_callTy (cr_setTxt hc) hg2 hm2 PyProof.Rows.boot_set (pa_cons p pa_nil hs) (by decide) (by decide) hs h1) pa_nil hs2) (by decide) (by decide) hs2 h0, fun B H0 μ0 Ex σ H Δ μ Q Q0 ex g h k => ?_⟩
  refine s B H0 μ0 Ex σ H Δ μ _ _ ex g h fun v H1 d μ1 k1 p1 r1 q1 => ?_
  obtain ⟨a, xs, rfl, ha, few, q2⟩ := txts_ok k1 r1 q1
  refine ⟨a, xs, rfl, ha.elim (fun z => .inl (sqL z)) fun z => .inr (sqT z), Nat.lt_trans (Nat.succ_lt_succ few) (by decide), fun b nb => ?_⟩
  refine ⟨b, xs, rfl, upd_same, few, fun ys c dy nc => ?_⟩
  have k2 := k1.new (o := SetTxt X.w b xs) nb
  have p2 := k1.pnew (o := SetTxt X.w b xs) nb
  exact (k.from (p1.trans p2)).newL k2 (rp_strs ys) (q2 ys dy) nc

/-! ### list(e), e a list, a tuple or a text -/
def rListX (X : Cx) : List V → Hp → VK → Prop := fun vs H Q => rListJ X vs H Q ∨ ∃ z, vs = [V.str z] ∧ z.cps.size ≤ sizeLine ∧ ∀ q, H q = none → Q (.ref q) (upd H q (.lst (z.cps.toList.map fun c => V.str (oneSign c))))
theorem cr_listX (hc : X.calm = true) : CallR X (.type "list") (rListX X) := by
  intro pins s σ H vs us Q I r h
  rcases h with h | ⟨z, e, hz, q⟩
  · exact cr_list pins s σ H vs us Q I r h
  · subst e
    obtain ⟨u, rfl, t, rfl⟩ := vals1 r
    refine call_list_str (hn := hz) (I.ok.hd hc) z t fun h' tk acc c' k got items => ?_
    refine ⟨.ref s.heap.objs.size, _, I.laid (t' := tk) k (Nat.le_refl _) (show ObjOk X.prog X.w _ _ _ (.lst (z.cps.toList.map fun c => V.str (oneSign c))) from ⟨by simpa using hz, acc.toList, c', ?_, by rw [Array.toArray_toList]; exact got⟩), rfl, q _ (I.hok.fresh (Nat.le_refl _))⟩
    refine vals_of_at (by simp [items.1]) fun j x w hx hw => ?_
    have hw' := items.2 j w (by rw [← Array.getElem?_toList]; exact hw)
    rw [List.getElem?_map] at hx
    cases hc : z.cps.toList[j]? with
    | none => rw [hc] at hx; cases hx
    | some c =>
      rw [hc] at hx; cases hx
      obtain ⟨c', u, h1, rfl⟩ := hw'
      rw [← Array.getElem?_toList, hc] at h1
      cases h1
      exact ⟨u, rfl⟩
def dListX : CF := fun ds μ Q => match ds with
  | [.str z] => z.cps.size ≤ sizeLine ∧ Q (.lst (signs z)) μ
  | ds => dList ds μ Q
theorem rp_signs {B : List Addr} {μ : Mu} {H : Hp} : ∀ cs : List Nat, RpL B μ H (cs.map fun c => V.str (oneSign c)) (cs.map fun c => D.str (oneSign c))
  | [] => .nil
  | c :: cs => .cons (.str _) (rp_signs cs)
theorem rl_listX : RLS (rListX X) dListX := by
  intro B vs ds μ H Q Q0 h r q k
  unfold dListX at q
  split at q
  · obtain ⟨v, rfl, r1⟩ := rp1 r
    cases r1
    exact .inr ⟨_, rfl, q.1, fun p hp => k.newL h (rp_signs _) q.2 hp⟩
  · exact .inl (rl_list B vs _ μ H Q Q0 h r q k)
end
end J

set_option Elab.async false
set_option linter.all false
set_option maxRecDepth 100000
set_option maxHeartbeats 1000000
namespace J
open PySem L2 PySem.Spec PyProof.Rows
/-! ### t[::-1] of a tuple -/
section
variable {prog : Program} {w : World} {A : Around} {E : Value → Shared → Prop} {s : Shared}
theorem adjust_back (n : Nat) : Builtin.Slice.sliceAdjust none none (-1) (n : Int) = ((n : Int) - 1, -1) := by
  cases n with
  | zero => rfl
  | succ n => simp [Builtin.Slice.sliceAdjust]; try omega
theorem places_back (n : Nat) : Builtin.Slice.slicePlaces ((n : Int) - 1) (-1) (-1) = n := by
  cases n with
  | zero => rfl
  | succ n => simp [Builtin.Slice.slicePlaces]; try omega
theorem applied_back {sl : Addr} {vl vu vs : Value} {n : Nat} {Q : Int × Int × Nat → Shared → Prop} (hs : s.heap.IsSliceOf sl vl vu vs) (pl : IsPart vl none) (pu : IsPart vu none) (ps : IsPart vs (some (-1)))
    (h : Q ((n : Int) - 1, -1, n) s) : wpAny (model prog w) A (Builtin.Slice.sliceApplied (.ref sl) (pure (n : Int))) Q E s := by
  obtain ⟨o, ho, hc, hd⟩ := hs
  unfold Builtin.Slice.sliceApplied Builtin.Slice.sliceFields
  refine wpAny_bind (wpAny_bind (wpAny_field ho hd (x := vl) rfl (wpAny_bind (wpAny_field ho hd (x := vu) rfl (wpAny_bind (wpAny_field ho hd (x := vs) rfl (wpAny_pure ?_)))))))
  refine wpAny_bind (HT.slicePart_ ps ?_)
  show wpAny _ _ (if ((-1 : Int) == 0) = true then _ else _) _ _ s
  rw [if_neg (by decide)]
  refine wpAny_bind (HT.slicePart_ pl (wpAny_bind (HT.slicePart_ pu (wpAny_bind (wpAny_pure ?_)))))
  show wpAny _ _ (match Builtin.Slice.sliceAdjust none none (-1) (n : Int) with | (lo, hi) => pure (lo, (-1 : Int), Builtin.Slice.slicePlaces lo hi (-1))) _ _ s
  rw [adjust_back n]
  show wpAny _ _ (pure ((n : Int) - 1, (-1 : Int), Builtin.Slice.slicePlaces ((n : Int) - 1) (-1) (-1))) _ _ s
  rw [places_back n]
  exact wpAny_pure h
theorem pick_back (xs : Array Value) : ((List.range xs.size).filterMap fun (k : Nat) => xs[((xs.size : Int) - 1 + (k : Int) * (-1)).toNat]?) = xs.toList.reverse := by
  have e : ∀ k ∈ List.range xs.size, xs[((xs.size : Int) - 1 + (k : Int) * (-1)).toNat]? = some (xs.toList.reverse.getD k Value.none) := fun k hk => by
    have hk := List.mem_range.mp hk
    have e1 : ((xs.size : Int) - 1 + (k : Int) * (-1)).toNat = xs.size - 1 - k := by omega
    rw [e1, List.getD_eq_getElem?_getD, List.getElem?_reverse (by simpa using hk), ← Array.getElem?_toList, Array.length_toList]
    rw [List.getElem?_eq_getElem (by rw [Array.length_toList]; omega)]; rfl
  have all : ∀ l : List Nat, (∀ k ∈ l, xs[((xs.size : Int) - 1 + (k : Int) * (-1)).toNat]? = some (xs.toList.reverse.getD k Value.none)) → (l.filterMap fun (k : Nat) => xs[((xs.size : Int) - 1 + (k : Int) * (-1)).toNat]?) = l.map fun k => xs.toList.reverse.getD k Value.none := by
    intro l
    induction l with
    | nil => intro _; rfl
    | cons k l ih =>
      intro h
      rw [List.filterMap_cons, h k List.mem_cons_self, List.map_cons, ih fun k' hk => h k' (List.mem_cons_of_mem _ hk)]
  rw [all _ e]
  apply List.ext_getElem
  · simp
  · intro i h1 h2
    rw [List.getElem_map, List.getElem_range, List.getD_eq_getElem?_getD, List.getElem?_eq_getElem h2]; rfl
theorem getTup_back {t sl : Addr} {items : Array Value} {vl vu vs : Value} {Q : Value → Shared → Prop} (ht : IsTup s.heap t items) (hs : s.heap.IsSliceOf sl vl vu vs) (pl : IsPart vl none) (pu : IsPart vu none) (ps : IsPart vs (some (-1)))
    (h : Q (.ref s.heap.objs.size) { s with heap := s.heap.push { cls := .type "tuple", data := .seq items.toList.reverse.toArray } }) (hsz : items.size ≤ sizeLine) : wpAny (model prog w) A (getItem (.ref t) (.ref sl)) Q E s := by
  have fits : sizeOk (.seq items.toList.reverse.toArray) := by
    show items.toList.reverse.toArray.size ≤ sizeLine
    simpa using hsz
  obtain ⟨os, hos, hcs, hds⟩ := id hs
  have ty : s.TypeIs (.ref sl) "slice" := ⟨os, hos, hcs⟩
  unfold getItem
  try with_reducible refine wpAny_holding ?_
  first | refine wpAny_bind (wpAny_pure ?_) | skip
  refine wpAny_bind (wpAny_sequenceKey ht.typeIs (by decide) ?_)
  refine wpAny_bind (wpAny_callSpecial?_slot (name := Str.ofString "__getitem__") ht.typeIs slot_tuple_getitem (wpAny_call_entry slot_tuple_getitem ht.typeIs PyProof.Rows.entry_tuple_getitem ?_ (PyProof.Rows.args_tuple_getitem _ _)))
  show wpAny _ _ (Builtin.Tuple.tupleItemsOf (.ref t) >>= _) _ _ s
  refine wpAny_bind (tupleItemsOf_ ht (wpAny_bind (wpAny_typeOf ty ?_)))
  rw [if_pos (by decide)]
  refine wpAny_bind (applied_back hs pl pu ps ?_)
  show wpAny _ _ (if (((items.size : Int) - 1) == 0 && (-1 : Int) == 1 && items.size == items.size) = true then _ else _) _ _ s
  rw [if_neg (by rw [show ((-1 : Int) == 1) = false by decide, Bool.and_false, Bool.false_and]; decide), pick_back]
  first
    | exact wpAny_bind (m := Builtin.Tuple.tupleExact _) (wpAny_newObj_type (wpAny_pure ⟨_, rfl, wpAny_pure h⟩) fits)
    | exact wpAny_bind (m := Builtin.Tuple.tupleExact _) (wpAny_newObj_type (wpAny_bind (wpAny_pure (wpAny_pure ⟨_, rfl, wpAny_pure h⟩))) fits)
    | exact wpAny_bind (wpAny_bind (m := Builtin.Tuple.tupleExact _) (wpAny_newObj_type (wpAny_pure (wpAny_pure ⟨_, rfl, wpAny_pure h⟩)) fits))
    | exact wpAny_bind (wpAny_bind (m := Builtin.Tuple.tupleExact _) (wpAny_newObj_type (wpAny_pure ⟨_, rfl, wpAny_pure h⟩) fits))
end
section
variable {X : Cx} {E : XK} {e e2 a b : Expr} {t ta tb : TD} {pos p1 p2 p3 : Pos} {es : List Expr} {tl : TDL}
def tRevT (K : PySem.W.Frag) (te : TE) : TE := fun σ H Q => te σ H fun x H1 => ∃ a xs, x = .ref a ∧ SqT K H1 a xs ∧ ∀ p, H1 p = none → Q (.ref p) (upd H1 p (.tup xs.reverse))
theorem pe_revT {te : TE} {k : Nat} (he : PE X e te) : PE X (.Subscript e (.Slice none none (some (.UnaryOp .USub (.Constant (.int 1) k p1) p2)) p3) pos) (tRevT X.K te) := by
  refine ⟨fun pins s σ H Q I h => ?_⟩
  refine Subscript_ (thn (he.run pins s σ H _ I h) fun v s1 ⟨x, H1, I1, r1, a, xs, ex, hx, q⟩ => ?_)
  subst ex
  cases r1
  have back : PO X (some (.UnaryOp .USub (.Constant (.int 1) k p1) p2)) (tPart (tUn (rU fun i => .int (-i)) (tC (.int 1)))) := po_some (pe_un un_neg pe_int)
  refine wpAny_Slice (thn (po_none.run pins s1 σ H1 (fun o G => o = none ∧ G = H1) I1 ⟨rfl, rfl⟩) fun vl s2 ⟨l, H2, I2, pl, el, e2⟩ => ?_)
  subst el e2
  refine thn (po_none.run pins s2 σ H2 (fun o G => o = none ∧ G = H2) I2 ⟨rfl, rfl⟩) fun vu s3 ⟨u, H3, I3, pu, eu, e3⟩ => ?_
  subst eu e3
  refine thn (back.run pins s3 σ H3 (fun o G => o = some (-1) ∧ G = H3) I3 ⟨1, rfl, -1, rfl, rfl, rfl⟩) fun vs s4 ⟨o, H4, I4, ps, eo, e4⟩ => ?_
  subst eo e4
  have I5 : Inv X pins σ H4 { s4 with heap := s4.heap.push { cls := .type "slice", data := .fields #[vl, vu, vs] } } := I4.kept (t' := s4.toks) fun b ob z => Heap.get?_push_of_some _ z
  obtain ⟨its, r, ht, hz⟩ := I5.tuple hx
  have hlen := r.length
  show wpAny (model X.prog X.w) X.A (subscriptTail e (.Slice none none (some (.UnaryOp .USub (.Constant (.int 1) k p1) p2)) p3) (.ref a) (.ref s4.heap.objs.size)) (EP X pins σ Q) X.xe { s4 with heap := s4.heap.push { cls := .type "slice", data := .fields #[vl, vu, vs] } }
  refine tail_any (ops := [.ref a, .ref s4.heap.objs.size]) ht.typeIs slot_tuple_getitem.lookup ?_ (by with_unfolding_all rfl)
  refine getTup_back ht (Heap.IsSliceOf.new _ vl vu vs) pl pu ps ?_ (by rw [List.size_toArray]; omega)
  refine ⟨.ref _, _, I5.laid (t' := s4.toks) (o := .tup xs.reverse) (fun b ob z => Heap.get?_push_of_some _ z) (Nat.le_refl _) ?_, rfl, q _ (I5.hok.fresh (Nat.le_refl _))⟩
  exact ⟨by rw [List.length_reverse]; exact hz, _, by simpa using r.reverse, IsTup.new _ _⟩
def dRevT (x : D) (μ : Mu) (Q : KD) : Prop := match x with | .tup ds => Q (.tup ds.reverse) μ | _ => False
theorem je_revT {k0 : Nat} (he : JE X E e t) : JE X E (.Subscript e (.Slice none none (some (.UnaryOp .USub (.Constant (.int 1) k0 p1) p2)) p3) pos) (jUn dRevT t) := by
  obtain ⟨r, p, s⟩ := he
  refine ⟨_, pe_revT p, fun B H0 μ0 Ex σ H Δ μ Q Q0 ex g h k => ?_⟩
  refine s B H0 μ0 Ex σ H Δ μ _ _ ex g h fun v H1 d μ1 h1 p1 r1 q1 => ?_
  unfold dRevT at q1
  split at q1
  · cases r1 with | tup hx n rr => exact ⟨_, _, rfl, sqT hx, fun p hp => (k.from p1).newT h1 rr.rev q1 hp⟩
  · exact q1.elim

/-! ### calls with keywords alone -/
def pick (idx : List Nat) {α : Type} (us : List α) : List α := idx.filterMap fun i => us[i]?
theorem pick_rp {B : List Addr} {μ : Mu} {H : Hp} {vs : List V} {ds : List D} (r : RpL B μ H vs ds) : ∀ idx : List Nat, RpL B μ H (pick idx vs) (pick idx ds)
  | [] => .nil
  | i :: idx => by
    have ih := pick_rp r idx
    unfold pick at ih ⊢
    rw [List.filterMap_cons, List.filterMap_cons]
    cases h : ds[i]? with
    | some d =>
      obtain ⟨v, hv, rv⟩ := r.get h
      rw [hv]; exact .cons rv ih
    | none =>
      have : vs[i]? = none := by
        rw [List.getElem?_eq_none_iff] at h ⊢
        rw [r.len]; exact h
      rw [this]; exact ih
theorem pick_vals {vs : List V} {us : List Value} (r : Vals vs us) : ∀ idx : List Nat, Vals (pick idx vs) (pick idx us)
  | [] => .nil
  | i :: idx => by
    have ih := pick_vals r idx
    unfold pick at ih ⊢
    rw [List.filterMap_cons, List.filterMap_cons]
    cases h : vs[i]? with
    | some d =>
      obtain ⟨u, hu, ru⟩ := r.get h
      rw [hu]; exact .cons ru ih
    | none => rw [r.none_of h]; exact ih
def KwTo (K : PySem.W.Frag) (fd : FuncData) (ps ks : List Str) (idx : List Nat) : Prop := ∀ (s : Shared) (ws : List Value), K.In s.heap → ws.length = ks.length → BindsTo s fd ⟨[], ks.zip ws⟩ (ps.zip (pick idx ws))
theorem kw_to {K : PySem.W.Frag} {x qual : Str} {st : Stmt} {f : Addr} {fd : FuncData} {ps ks : List Str} {idx : List Nat} (F : Fun K x qual st f fd)
    (h : ∀ (kV doc pm : Value) (an : Option Addr) (cdv ct : Value) (ws : List Value), ws.length = ks.length → bindArgs (PySem.W.fnOf x qual (defArgs st) (defBody st) (defScope st) .none kV doc pm an cdv ct) ⟨[], ks.zip ws⟩ = pure (ps.zip (pick idx ws))) : KwTo K fd ps ks idx := by
  obtain ⟨oc, od, kV, doc, pm, an, cdv, ct, osl, rfl, lk, hcd⟩ := F.ex
  exact fun s ws _ hl => .of_eq (h kV doc pm an cdv ct ws hl)
def JK (X : Cx) (E : XK) (kws : List Keyword) (t : TDL) : Prop := ∃ tr, PK X kws tr ∧ SA E tr t
theorem jk_nil : JK X E [] jNil := ⟨_, pk_nil, fun _ _ _ _ _ _ _ _ _ _ _ g h k => k _ _ _ _ g.hok Pres.refl .nil h⟩
theorem jk_cons {nm : Option Str} {kpos : Pos} {kws : List Keyword} (ha : JE X E e t) (hr : JK X E kws tl) : JK X E (⟨nm, e, kpos⟩ :: kws) (jCons t tl) := by
  obtain ⟨r, p, s⟩ := ha
  obtain ⟨r2, p2, s2⟩ := hr
  refine ⟨_, pk_cons p p2, fun B H0 μ0 Ex σ H Δ μ Q Q0 ex g h k => ?_⟩
  refine s B H0 μ0 Ex σ H Δ μ _ _ ex g h fun v H1 d μ1 h1 p1 r1 q1 => ?_
  refine s2 B H0 μ0 Ex σ H1 Δ μ1 _ _ ex (g.step h1 p1) q1 fun vs H2 ds μ2 h2 p2 r2 q2 => ?_
  exact k _ _ _ _ h2 (p1.trans p2) (.cons (p2.rp _ _ r1) r2) q2
def tCallKw (sp : Sp) (n : Nat) (idx : List Nat) (E : XK) (tk : TA) : TE := fun σ H Q => tk σ H fun zs H2 => zs.length = n ∧ sp (pick idx zs) H2 Q E
variable {CX : CXT} {k : Nat} {f : Addr} {fd : FuncData} {ps ks : List Str} {C : Ct} {x : Str} {p : Pos} {sp : Sp} {kws : List Keyword} {idx : List Nat}
theorem pe_callKw {tk : TA} (F : FnOk X.prog X.w X.K X.mg X.base CX k f fd ps sp) (hr : Room k X.A) (hg : Gl X x) (hm : X.mg x = some (.ref f)) (hk : PySem.W.keepIn X.K (.ref f) = true) (hb : KwTo X.K fd ps ks idx) (hx : Passes CX X E)
    (hkw : PK X kws tk) (hall : (backToKw pos (keywordEach kws X.env)).all (·.1.isSome) = true := by rfl) (hks : (backToKw pos (keywordEach kws X.env)).filterMap (·.1) = ks := by rfl)
    (hdb : (x == ("__debug__" : Str)) = false := by decide) (hpl : ((backTo pos (starEach [] X.env)).any (·.1) || (backToKw pos (keywordEach kws X.env)).any (·.1.isNone)) = false := by rfl) :
    PE X (.Call (.Name x p) [] kws pos) (tCallKw sp ks.length idx E tk) := by
  refine ⟨fun pins s σ H Q I h => ?_⟩
  refine wpAny_Call_Name_kw (ld_glob I hg hm ?_ hdb)
  refine PySem.W.callWith_KW0 (first := []) (h₀ := X.base) I.ok.mod.kin hk hall (thn (hkw.run pos pins s σ H _ I h) fun ws s1 ⟨zs, H1, I1, r, hl, q⟩ => ⟨I1.kIn, ?_⟩) hpl
  rw [hks]
  have rw' := r.length
  refine wpAny_call (codeAny_mono (F.run X.A X.stack s1 H1 ⟨[], ks.zip ws⟩ (pick idx ws) (pick idx zs) Q E hr I1.env0 (hb s1 ws I1.kIn (by omega)) (pick_vals r idx) q) fun r s' hq => ?_)
  cases r with
  | error e => exact hx pins σ H1 s1 e s' I1 hq
  | ok fl =>
    cases fl with
    | ret u => exact I1.after hq
    | next => exact False.elim hq
    | brk => exact False.elim hq
    | cont => exact False.elim hq
def jCallKw (C : Ct) (n : Nat) (idx : List Nat) (tl : TDL) : TD := fun Ex Δ μ Q => tl Ex Δ μ fun ds μ1 => ds.length = n ∧ C (pick idx ds) μ1 Q Ex
theorem je_callKw (F : FnOk X.prog X.w X.K X.mg X.base CX k f fd ps (spOf C)) (hr : Room k X.A) (hg : Gl X x) (hm : X.mg x = some (.ref f)) (hk : PySem.W.keepIn X.K (.ref f) = true) (hb : KwTo X.K fd ps ks idx) (hx : Passes CX X E)
    (hkw : JK X E kws tl) (hall : (backToKw pos (keywordEach kws X.env)).all (·.1.isSome) = true := by rfl) (hks : (backToKw pos (keywordEach kws X.env)).filterMap (·.1) = ks := by rfl)
    (hdb : (x == ("__debug__" : Str)) = false := by decide) (hpl : ((backTo pos (starEach [] X.env)).any (·.1) || (backToKw pos (keywordEach kws X.env)).any (·.1.isNone)) = false := by rfl) :
    JE X E (.Call (.Name x p) [] kws pos) (jCallKw C ks.length idx tl) := by
  obtain ⟨r, p, s⟩ := hkw
  refine ⟨_, pe_callKw F hr hg hm hk hb hx p hall hks hdb hpl, fun B H0 μ0 Ex σ H Δ μ Q Q0 ex g h k => ?_⟩
  refine s B H0 μ0 Ex σ H Δ μ _ _ ex g h fun vs H1 ds μ1 h1 p1 r1 q1 => ?_
  exact ⟨by rw [r1.len]; exact q1.1, B, pick idx ds, μ1, Q, Ex, h1, pick_rp r1 idx, q1.2, k.from p1, ex.base (g.pr.trans p1)⟩

/-! ### xs[i] = e, xs one's own -/
def jPut (te to ti : TD) : TSD := fun Ex D Δ μ => te Ex Δ μ fun y μ1 => to Ex Δ μ1 fun x μ2 => ti Ex Δ μ2 fun i μ3 => onRef x fun a => match i with
  | .int n => ownL μ3 a fun ds => (match ixN ds.length n with | some j => D.nx Δ (μ3.put a (.lst (ds.set j y))) | none => False)
  | _ => False
theorem js_put {o : Expr} {to ti : TD} (he : JE X E e t) (ho : JE X E o to) (hi : JE X E a ti)
    (ha : ∀ v, assign (.Subscript o a p1) X.env v = (do
      let ov ← holding [v] (eval o X.env)
      let iv ← holding [v, ov] (eval a X.env)
      standAt p1
      holding [v, ov, iv] (setItem ov iv v)
      release [v, ov, iv] []) := by intro _; rfl)
    (hs : swapsWithSole [.Subscript o a p1] e pos.line X.env = pure false := by rfl) (hw : swappedStores [.Subscript o a p1] e X.env = pure none := by rfl)
    (h1 : (assignEach [.Subscript o a p1] X.env).map (·.2) = [assign (.Subscript o a p1) X.env] := by rfl) : JS X E (.Assign [.Subscript o a p1] e pos) (jPut t to ti) := by
  obtain ⟨r, p, s⟩ := he
  obtain ⟨r2, p2, s2⟩ := ho
  obtain ⟨r3, p3, s3⟩ := hi
  refine ⟨_, ps_asg p (pg_sub p2 p3 set_list ha) hs hw h1, fun B H0 μ0 Ex D' D σ H Δ μ ex el g h => ?_⟩
  refine s B H0 μ0 Ex σ H Δ μ _ _ ex g h fun v H1 d μ1 k1 p1 r1 q1 => ?_
  refine s2 B H0 μ0 Ex σ H1 Δ μ1 _ _ ex (g.step k1 p1) q1 fun w H2 d2 μ2 k2 p2 r2 q2 => ?_
  have g2 := (g.step k1 p1).step k2 p2
  refine s3 B H0 μ0 Ex σ H2 Δ μ2 _ _ ex g2 q2 fun i H3 d3 μ3 k3 p3 r3 q3 => ?_
  have g3 := g2.step k3 p3
  obtain ⟨a, rfl, rfl, q4⟩ := onRef_ok ((p3).rp _ _ r2) q3
  split at q4
  · cases r3
    obtain ⟨ds, xs, m, hx, rr, q5⟩ := ownL_ok k3 q4
    split at q5
    · rename_i j hj
      obtain ⟨k4, p4⟩ := put_ok k3 (List.mem_map.mpr ⟨_, m, rfl⟩) (rr.set ((p2.trans p3).rp _ _ r1) j)
      exact ⟨a, xs, _, j, rfl, rfl, hx, by rw [rr.len]; exact hj, el.nx _ _ _ _ (g3.step k4 p4) q5⟩
    · exact q5.elim
  · exact q4.elim
end
end J

set_option Elab.async false
set_option linter.all false
set_option maxRecDepth 100000
set_option maxHeartbeats 1000000
namespace J
open PySem L2
variable {X : Cx} {E : XK}
/-! ### more operators -/
def isNonD : D → Option Bool
  | .non => some true | .ty _ => none | .ref _ => none | .bag => none | _ => some false
def dIsN (neg : Bool) : DF := fun x y μ Q => match y with
  | .non => (match isNonD x with | some b => Q (.bl (neg ^^ b)) μ | none => False)
  | _ => False
theorem isNonD_ok {B : List Addr} {μ : Mu} {H : Hp} {v : V} {d : D} {b : Bool} (r : Rp B μ H v d) (e : isNonD d = some b) : decide (v = .non) = b := by
  cases r <;> first
    | (cases e; done)
    | (cases e; first | rfl | exact decide_eq_false (fun z => nomatch z))
theorem rs_isN : R2S (fun x y H Q => y = .non ∧ Q (.bl (decide (x = .non))) H) (dIsN false) := by
  intro B x y d e μ H Q Q0 h rx ry q k
  unfold dIsN at q
  split at q
  · split at q
    · rename_i b hb
      cases ry
      rw [Bool.false_xor] at q
      exact ⟨rfl, by rw [isNonD_ok rx hb]; exact k.here h (.bl _) q⟩
    · exact q.elim
  · exact q.elim
theorem rs_notN : R2S (fun x y H Q => y = .non ∧ Q (.bl (!decide (x = .non))) H) (dIsN true) := by
  intro B x y d e μ H Q Q0 h rx ry q k
  unfold dIsN at q
  split at q
  · split at q
    · rename_i b hb
      cases ry
      rw [Bool.true_xor] at q
      exact ⟨rfl, by rw [isNonD_ok rx hb]; exact k.here h (.bl _) q⟩
    · exact q.elim
  · exact q.elim
theorem RpL.rep {B : List Addr} {μ : Mu} {H : Hp} {xs : List V} {ds : List D} (r : RpL B μ H xs ds) : ∀ n : Nat, RpL B μ H (List.replicate n xs).flatten (List.replicate n ds).flatten
  | 0 => .nil
  | n + 1 => by
    rw [List.replicate_succ, List.replicate_succ, List.flatten_cons, List.flatten_cons]
    exact r.app (r.rep n)
theorem rs_mul : R2S rMulJ dMul := by
  intro B x y d e μ H Q Q0 h rx ry q k
  unfold dMul at q
  split at q
  · cases rx; cases ry
    rcases q with ⟨q1 | q1, q2⟩
    · exact .inl ⟨_, _, rfl, rfl, q1, k.here h (.int _) q2⟩
    · exact .inr (.inl ⟨_, _, rfl, rfl, q1, k.here h (.int _) q2⟩)
  · cases ry
    cases rx with
    | lst hx n r =>
      obtain ⟨⟨q1, q2, q3⟩, q4⟩ := q
      exact .inr (.inr ⟨_, _, _, rfl, rfl, hx, q1, q2, by rw [r.len]; exact q3, fun p hp => k.newL h (r.rep _) q4 hp⟩)
  · exact q.elim
end J

set_option Elab.async false
set_option linter.all false
set_option maxRecDepth 100000
set_option maxHeartbeats 1000000
namespace J
open PySem L2
variable {Ex : KX} {Δ : Del} {μ : Mu} {Q : KD} {QB : KB} {QL : KDL} {D' : EndsD} {t ta tb tc : TD} {tl : TDL} {u ub : TDB} {s1 s2 : TSD}
/-! ### readings told by what is wanted: the forms that are reduced -/
def onD (d : D) (p q : Prop) : Prop := match d with | .bl true => p | .bl false => q | _ => False
@[simp] theorem onD_bl {b : Bool} {p q : Prop} : onD (.bl b) p q ↔ (if b = true then p else q) := by cases b <;> simp [onD]
@[simp] theorem onB_bl {b : Bool} : onB QB (.bl b) μ ↔ QB b μ := Iff.rfl
theorem jVar_r {i : Nat} {d : D} (h : Δ[i]? = some (some d)) : jVar i Ex Δ μ Q = Q d μ := by unfold jVar; rw [h]
@[simp] theorem jC_r {d : D} : jC d Ex Δ μ Q = Q d μ := rfl
@[simp] theorem jBin_r {f : DF} : jBin f ta tb Ex Δ μ Q = ta Ex Δ μ fun x μ1 => tb Ex Δ μ1 fun y μ2 => f x y μ2 Q := rfl
@[simp] theorem jTV_r : jTV t Ex Δ μ QB = t Ex Δ μ (onB QB) := rfl
@[simp] theorem jChain_r {f f' : DF} : jChain f f' ta tb tc Ex Δ μ Q = ta Ex Δ μ fun x μ1 => tb Ex Δ μ1 fun y μ2 => f x y μ2 fun z μ3 => onD z (tc Ex Δ μ3 fun w μ4 => f' y w μ4 Q) (Q (.bl false) μ3) := rfl
@[simp] theorem jAnd_r : jAnd u ub Ex Δ μ QB = u Ex Δ μ fun b μ1 => if b = true then ub Ex Δ μ1 QB else QB false μ1 := by
  unfold jAnd; congr 1; funext b μ1; cases b <;> rfl
@[simp] theorem jOr_r : jOr u ub Ex Δ μ QB = u Ex Δ μ fun b μ1 => if b = true then QB true μ1 else ub Ex Δ μ1 QB := by
  unfold jOr; congr 1; funext b μ1; cases b <;> rfl
@[simp] theorem jNot_r : jNot u Ex Δ μ QB = u Ex Δ μ fun b μ1 => QB (!b) μ1 := rfl
@[simp] theorem jAndV_r : jAndV ta tb Ex Δ μ Q = ta Ex Δ μ fun x μ1 => onD x (tb Ex Δ μ1 Q) (Q (.bl false) μ1) := rfl
@[simp] theorem jOrV_r : jOrV ta tb Ex Δ μ Q = ta Ex Δ μ fun x μ1 => onD x (Q (.bl true) μ1) (tb Ex Δ μ1 Q) := rfl
def onN (d : D) (k : Bool → Prop) : Prop := match d with | .bl b => k b | _ => False
@[simp] theorem onN_bl {b : Bool} {k : Bool → Prop} : onN (.bl b) k ↔ k b := Iff.rfl
@[simp] theorem jNotV_r : jNotV ta Ex Δ μ Q = ta Ex Δ μ fun x μ1 => onN x fun b => Q (.bl (!b)) μ1 := rfl
@[simp] theorem jIf_r : jIf u ta tb Ex Δ μ Q = u Ex Δ μ fun b μ1 => if b = true then ta Ex Δ μ1 Q else tb Ex Δ μ1 Q := by
  unfold jIf; congr 1; funext b μ1; cases b <;> rfl
@[simp] theorem jUn_r {f : D → Mu → KD → Prop} : jUn f ta Ex Δ μ Q = ta Ex Δ μ fun x μ1 => f x μ1 Q := rfl
@[simp] theorem jNil_r : jNil Ex Δ μ QL = QL [] μ := rfl
@[simp] theorem jCons_r : jCons ta tl Ex Δ μ QL = ta Ex Δ μ fun x μ1 => tl Ex Δ μ1 fun xs μ2 => QL (x :: xs) μ2 := rfl
@[simp] theorem jTup_r : jTup tl Ex Δ μ Q = tl Ex Δ μ fun xs μ1 => xs.length ≤ sizeLine ∧ Q (.tup xs) μ1 := rfl
@[simp] theorem jLst_r : jLst tl Ex Δ μ Q = tl Ex Δ μ fun xs μ1 => xs.length ≤ sizeLine ∧ Q (.lst xs) μ1 := rfl
theorem jSeq_r : jSeq s1 s2 Ex D' Δ μ = s1 Ex { D' with nx := s2 Ex D' } Δ μ := rfl
@[simp] theorem jNext_r : jNext Ex D' Δ μ = D'.nx Δ μ := rfl
@[simp] theorem jRet_r : jRet t Ex D' Δ μ = t Ex Δ μ D'.rt := rfl
@[simp] theorem jIfS_r : jIfS u s1 s2 Ex D' Δ μ = u Ex Δ μ fun b μ1 => if b = true then s1 Ex D' Δ μ1 else s2 Ex D' Δ μ1 := by
  unfold jIfS; congr 1; funext b μ1; cases b <;> rfl
@[simp] theorem jDrop_r : jDrop t Ex D' Δ μ = t Ex Δ μ fun _ μ1 => D'.nx Δ μ1 := rfl
@[simp] theorem jSet_r {i : Nat} : jSet i t Ex D' Δ μ = t Ex Δ μ fun d μ1 => D'.nx (Δ.set i (some d)) μ1 := rfl
@[simp] theorem jCall_r {C : Ct} : jCall C tl Ex Δ μ Q = tl Ex Δ μ fun ds μ1 => C ds μ1 Q Ex := rfl
@[simp] theorem jCallKw_r {C : Ct} {n : Nat} {idx : List Nat} : jCallKw C n idx tl Ex Δ μ Q = tl Ex Δ μ fun ds μ1 => ds.length = n ∧ C (pick idx ds) μ1 Q Ex := rfl
@[simp] theorem jCB_r {f : CF} : jCB f tl Ex Δ μ Q = tl Ex Δ μ fun ds μ1 => f ds μ1 Q := rfl
@[simp] theorem jSl_r {tlo thi : TDO} : jSl t tlo thi Ex Δ μ Q = t Ex Δ μ fun x μ1 => tlo Ex Δ μ1 fun lo μ2 => thi Ex Δ μ2 fun hi μ3 => dSl x lo hi μ3 Q := rfl
@[simp] theorem jNo_r {QO : Option Int → Mu → Prop} : jNo Ex Δ μ QO = QO none μ := rfl
def onI (d : D) (k : Int → Prop) : Prop := match d with | .int i => k i | _ => False
@[simp] theorem onI_int {i : Int} {k : Int → Prop} : onI (.int i) k ↔ k i := Iff.rfl
@[simp] theorem jPart_r {QO : Option Int → Mu → Prop} : jPart t Ex Δ μ QO = t Ex Δ μ fun d μ1 => onI d fun i => QO (some i) μ1 := rfl
@[simp] theorem jT0_r {f : MF} : jT0 f t Ex Δ μ Q = t Ex Δ μ fun x μ1 => onS x (f x [] μ1 Q) := rfl
@[simp] theorem jT1_r {f : MF} : jT1 f t ta Ex Δ μ Q = t Ex Δ μ fun x μ1 => onS x (ta Ex Δ μ1 fun y μ2 => f x [y] μ2 Q) := rfl
@[simp] theorem onS_str {s : Str} {k : Prop} : onS (.str s) k ↔ k := Iff.rfl
@[simp] theorem jSS_r : jSS t Ex Δ μ Q = t Ex Δ μ fun d μ1 => txts μ1 d fun xs => xs.length < 64 ∧ ∀ ys, Distinct xs ys → Q (.lst (ys.map D.str)) μ1 := rfl
@[simp] theorem jLc_r {ti : TDL} {g : GD} {tt : TDB} {te : TD} {vs : List Nat} : jLc ti g tt te vs Ex Δ μ Q = ti Ex Δ μ fun ds μ1 => lcD g tt te exF (wipeD Δ vs) (fun xs μ2 => Q (.lst xs) μ2) ds [] μ1 := rfl
@[simp] theorem jFor_r {ti : TDL} {g : GD} {body : TSD} : jFor ti g body Ex D' Δ μ = ti Ex Δ μ fun ds μ1 => forD g body Ex D' ds Δ μ1 := rfl
@[simp] theorem jSeqI_r : jSeqI t Ex Δ μ QL = t Ex Δ μ fun d μ1 => dItems d μ1 QL := rfl
@[simp] theorem jRange1_r : jRange1 t Ex Δ μ QL = t Ex Δ μ fun d μ1 => onI d fun j => RgB j ∧ QL (rangeD 0 j) μ1 := rfl
@[simp] theorem jRange2_r : jRange2 t ta Ex Δ μ QL = t Ex Δ μ fun d μ1 => ta Ex Δ μ1 fun d2 μ2 => onI d fun i => onI d2 fun j => RgB i ∧ RgB j ∧ QL (rangeD i j) μ2 := rfl
@[simp] theorem jZip_r : jZip t ta Ex Δ μ QL = t Ex Δ μ fun x μ1 => ta Ex Δ μ1 fun y μ2 => dZip x y μ2 QL := rfl
@[simp] theorem jYes_r : jYes Ex Δ μ QB = QB true μ := rfl
@[simp] theorem jOwn_r : jOwn tl Ex Δ μ Q = tl Ex Δ μ fun xs μ1 => xs.length ≤ sizeLine ∧ ∀ p, p ∉ μ1.own.map (·.1) → Q (.ref p) (μ1.push p (.lst xs)) := rfl
@[simp] theorem jApp_r : jApp t ta Ex Δ μ Q = t Ex Δ μ fun x μ1 => onRef x fun a => ownL μ1 a fun _ => ta Ex Δ μ1 fun y μ2 => ownL μ2 a fun ds => ds.length < sizeLine ∧ Q .non (μ2.put a (.lst (ds ++ [y]))) := rfl
@[simp] theorem onRef_ref {a : Addr} {k : Addr → Prop} : onRef (.ref a) k ↔ k a := Iff.rfl
@[simp] theorem jDic0_r : jDic0 Ex Δ μ Q = Q (.dic [] []) μ := rfl
@[simp] theorem jDic1_r {x : Str} : jDic1 x t Ex Δ μ Q = t exF Δ μ fun d μ1 => Q (.dic [.inr x] [d]) μ1 := rfl
theorem ret_ok {d : D} (h : Q d μ) : (endsOf Q).rt d μ := ⟨[], μ.own, rfl, h⟩
theorem nx_ok (h : Q .non μ) : (endsOf Q).nx Δ μ := ⟨[], μ.own, rfl, h⟩

section
variable {g : GD} {tt : TDB} {te : TD} {Q : KDL} {ds acc : List D}
/-- a comprehension without a test: what each item may come to -/
inductive All2 (R : D → D → Prop) : List D → List D → Prop
  | nil : All2 R [] []
  | cons {a b : D} {as bs : List D} (h : R a b) (t : All2 R as bs) : All2 R (a :: as) (b :: bs)
theorem All2.len {R : D → D → Prop} : ∀ {as bs : List D}, All2 R as bs → bs.length = as.length
  | _, _, .nil => rfl
  | _, _, .cons _ t => by simp [t.len]
theorem lc_any {R : D → D → Prop} (h : ∀ d ∈ ds, ∀ Q' : KD, (∀ e, R d e → Q' e μ) → g d Δ μ fun Δ1 μ1 => te exF Δ1 μ1 Q') (hn : acc.length + ds.length ≤ sizeLine)
    (q : ∀ es, All2 R ds es → Q (acc ++ es) μ) : lcD g jYes te exF Δ Q ds acc μ := by
  induction ds generalizing acc with
  | nil => have := q [] .nil; simpa [lcD] using this
  | cons d ds ih =>
    unfold lcD
    refine h d List.mem_cons_self _ fun e hr => ?_
    refine ⟨by simp at hn; omega, ih (fun d' hd => h d' (List.mem_cons_of_mem _ hd)) (by simp at hn ⊢; omega) fun es a => ?_⟩
    have := q (e :: es) (.cons hr a)
    simpa using this
theorem All2.map {f : D → D} : ∀ {as bs : List D}, All2 (fun a b => b = f a) as bs → bs = as.map f
  | _, _, .nil => rfl
  | _, _, .cons h t => by rw [h, t.map]; rfl
theorem lc_map (f : D → D) (h : ∀ d ∈ ds, ∀ Q' : KD, Q' (f d) μ → g d Δ μ fun Δ1 μ1 => te exF Δ1 μ1 Q') (hn : ds.length ≤ sizeLine)
    (q : Q (ds.map f) μ) : lcD g jYes te exF Δ Q ds [] μ :=
  lc_any (R := fun a b => b = f a) (fun d hd Q' hq => h d hd Q' (hq _ rfl)) (by simpa using hn) fun es a => by rw [a.map]; exact q
theorem boolsOf_map (f : D → Bool) : ∀ ds : List D, boolsOf (ds.map fun d => .bl (f d)) = some (ds.map f)
  | [] => rfl
  | d :: ds => by simp [boolsOf, boolsOf_map f ds]
theorem strsOf_map : ∀ xs : List Str, strsOf (xs.map D.str) = some xs
  | [] => rfl
  | x :: xs => by simp [strsOf, strsOf_map xs]
end
end J

set_option Elab.async false
set_option linter.all false
set_option maxRecDepth 100000
set_option maxHeartbeats 1000000
namespace J
open PySem L2 PySem.Spec PyProof.Rows
/-! ### words: of a to z -/
def lowC (c : Nat) : Bool := decide (97 ≤ c) && decide (c ≤ 122)
def wordS (s : Str) : Bool := decide (1 ≤ s.length) && decide (s.length ≤ 6) && s.cps.toList.all lowC
theorem ascii_signs : ∀ c : Fin 128, Unicode.isAlpha c.1 = (lowC c.1 || (decide (65 ≤ c.1) && decide (c.1 ≤ 90))) ∧ Unicode.isLower c.1 = lowC c.1 ∧ Unicode.isUpper c.1 = (decide (65 ≤ c.1) && decide (c.1 ≤ 90)) ∧ Unicode.isTitle c.1 = false := by decide +kernel
theorem lower_all : ∀ l : List Nat, (l.all (fun c => decide (c < 128)) && (l.all Unicode.isAlpha && (l.any Unicode.isLower && !l.any fun c => Unicode.isUpper c || Unicode.isTitle c))) = (l.all lowC && decide (l ≠ [])) := by
  intro l
  have e : ∀ l : List Nat, (l.all (fun c => decide (c < 128)) && (l.all Unicode.isAlpha && !l.any fun c => Unicode.isUpper c || Unicode.isTitle c)) = l.all lowC := by
    intro l
    induction l with
    | nil => rfl
    | cons c l ih =>
      rw [List.all_cons, List.all_cons, List.any_cons, List.all_cons, ← ih]
      by_cases h : c < 128
      · obtain ⟨h1, h2, h3, h4⟩ := ascii_signs ⟨c, h⟩
        simp only at h1 h2 h3 h4
        rw [h1, h3, h4, decide_eq_true h]
        have : (decide (65 ≤ c) && decide (c ≤ 90)) = true → lowC c = false := fun z => by
          unfold lowC
          simp at z ⊢; omega
        cases hb : (decide (65 ≤ c) && decide (c ≤ 90))
        · cases lowC c <;> simp
        · rw [this hb]; simp
      · rw [decide_eq_false h]
        have : lowC c = false := by unfold lowC; simp; omega
        rw [this]; rfl
  have e2 : l.all lowC = true → l.any Unicode.isLower = decide (l ≠ []) := fun h => by
    cases l with
    | nil => rfl
    | cons c l =>
      rw [List.all_cons, Bool.and_eq_true] at h
      have hc : c < 128 := by have := h.1; unfold lowC at this; simp at this; omega
      obtain ⟨_, h2, _⟩ := ascii_signs ⟨c, hc⟩
      simp only at h2
      rw [List.any_cons, h2, h.1]; simp
  rw [← e l]
  cases hl : l.all lowC
  · have := e l
    rw [hl] at this
    rw [this, Bool.false_and]
    revert this
    cases l.all (fun c => decide (c < 128)) <;> cases l.all Unicode.isAlpha <;> cases (l.any fun c => Unicode.isUpper c || Unicode.isTitle c) <;> cases l.any Unicode.isLower <;> simp
  · have := e l
    rw [hl] at this
    rw [this, Bool.true_and, ← e2 hl]
    revert this
    cases l.all (fun c => decide (c < 128)) <;> cases l.all Unicode.isAlpha <;> cases (l.any fun c => Unicode.isUpper c || Unicode.isTitle c) <;> cases l.any Unicode.isLower <;> simp
theorem len_pos (s : Str) : decide (s.cps.toList ≠ []) = decide (1 ≤ s.length) := by
  unfold Str.length
  rw [← Array.length_toList]
  cases s.cps.toList <;> simp
/-- the program's way to ask it -/
theorem wordS_is (s : Str) : (decide ((s.length : Int) ≤ 6) && (Txt.isascii s && (Txt.isalpha s && Txt.islower s))) = wordS s := by
  have h := lower_all s.cps.toList
  unfold Txt.isascii Txt.isalpha Txt.islower wordS
  rw [len_pos] at h
  simp only [Array.all_toList, Array.any_toList] at h
  have e : decide ((s.length : Int) ≤ 6) = decide (s.length ≤ 6) := by
    by_cases q : s.length ≤ 6 <;> simp [q] <;> omega
  rw [e]
  have e2 : decide (s.length > 0) = decide (1 ≤ s.length) := rfl
  rw [e2]
  have e3 : (s.cps.all (fun c => decide (c < 128)) && (s.cps.all Unicode.isAlpha && (s.cps.any Unicode.isLower && !s.cps.any fun c => Unicode.isUpper c || Unicode.isTitle c))) = (s.cps.toList.all lowC && decide (1 ≤ s.length)) := by
    first | (rw [← h]; done) | (simp only [Array.all_toList]; exact h) | (rw [Array.all_toList]; exact h)
  revert e3
  cases s.cps.all (fun c => decide (c < 128)) <;> cases s.cps.all Unicode.isAlpha <;> cases (s.cps.any fun c => Unicode.isUpper c || Unicode.isTitle c) <;> cases s.cps.any Unicode.isLower <;> cases s.cps.toList.all lowC <;> cases decide (1 ≤ s.length) <;> cases decide (s.length ≤ 6) <;> simp

/-! ### texts that rise -/
def tLt (a b : Str) : Prop := a.cps.toList < b.cps.toList
instance (a b : Str) : Decidable (tLt a b) := by unfold tLt; infer_instance
theorem tLt_trans {a b c : Str} (h : tLt a b) (h2 : tLt b c) : tLt a c := List.lt_trans h h2
theorem tLt_irrefl (a : Str) : ¬ tLt a a := List.lt_irrefl _
theorem tLt_total {a b : Str} (h : ¬ tLt a b) (n : a ≠ b) : tLt b a := by
  rcases Decidable.em (tLt b a) with z | z
  · exact z
  · exact (n (Str.ext' (Array.toList_inj.mp (List.le_antisymm (List.not_lt.mp z) (List.not_lt.mp h))))).elim
/-- each below the next -/
def risesS : List Str → Bool
  | [] => true
  | [_] => true
  | a :: b :: r => decide (tLt a b) && risesS (b :: r)
theorem rises_pw : ∀ {l : List Str}, risesS l = true ↔ l.Pairwise tLt
  | [] => by simp [risesS]
  | [a] => by simp [risesS]
  | a :: b :: r => by
    unfold risesS
    rw [Bool.and_eq_true, decide_eq_true_iff, rises_pw]
    constructor
    · rintro ⟨h, p⟩
      refine List.pairwise_cons.mpr ?_
      refine ⟨fun x hx => ?_, p⟩
      rcases List.mem_cons.mp hx with e | hx
      · rw [e]; exact h
      · exact tLt_trans h (List.rel_of_pairwise_cons p hx)
    · intro q
      obtain ⟨h, p⟩ := List.pairwise_cons.mp q
      exact ⟨h b List.mem_cons_self, p⟩
theorem risingS_pw : ∀ {p : Str} {l : List Str}, risingS p l = true → (p :: l).Pairwise (fun a b => ¬ tLt b a)
  | p, [], _ => by simp
  | p, x :: r, h => by
    unfold risingS at h
    rw [Bool.and_eq_true] at h
    have ih := risingS_pw h.2
    have h1 : ¬ tLt x p := fun z => by
      have e : ltCps x.cps.toList p.cps.toList = true := by rw [ltCps_eq]; exact decide_eq_true z
      rw [e] at h; exact absurd h.1 (by decide)
    refine List.pairwise_cons.mpr ⟨fun y hy => ?_, ih⟩
    rcases List.mem_cons.mp hy with e | hy
    · rw [e]; exact h1
    · have h2 : ¬ tLt y x := List.rel_of_pairwise_cons ih hy
      intro z
      rcases Decidable.em (x = y) with e | e
      · rw [← e] at z; exact h1 z
      · exact h1 (tLt_trans (tLt_total h2 fun q => e q.symm) z)
theorem sortedS_pw {l : List Str} (h : sortedS l = true) : l.Pairwise (fun a b => ¬ tLt b a) := by
  cases l with
  | nil => simp
  | cons x r => exact risingS_pw h
theorem distinct_pw {xs ys : List Str} (h : Distinct xs ys) : ys.Pairwise tLt := by
  have a := sortedS_pw h.2.1
  have b : ys.Pairwise (fun a b => a ≠ b) := h.1
  exact (a.and b).imp fun ⟨z1, z2⟩ => tLt_total z1 fun q => z2 q.symm
theorem pw_ext : ∀ {xs ys : List Str}, xs.Pairwise tLt → ys.Pairwise tLt → (∀ x, x ∈ xs ↔ x ∈ ys) → xs = ys
  | [], [], _, _, _ => rfl
  | [], y :: ys, _, _, h => by have := (h y).mpr List.mem_cons_self; cases this
  | x :: xs, [], _, _, h => by have := (h x).mp List.mem_cons_self; cases this
  | x :: xs, y :: ys, p, q, h => by
    have exy : x = y := by
      rcases List.mem_cons.mp ((h x).mp List.mem_cons_self) with e | hx
      · exact e
      · rcases List.mem_cons.mp ((h y).mpr List.mem_cons_self) with e | hy
        · exact e.symm
        · exact (tLt_irrefl x (tLt_trans (List.rel_of_pairwise_cons p hy) (List.rel_of_pairwise_cons q hx))).elim
    subst exy
    rw [pw_ext (List.pairwise_cons.mp p).2 (List.pairwise_cons.mp q).2 fun z => ?_]
    constructor
    · intro hz
      rcases List.mem_cons.mp ((h z).mp (List.mem_cons_of_mem _ hz)) with e | w
      · rw [e] at hz; exact (tLt_irrefl x (List.rel_of_pairwise_cons p hz)).elim
      · exact w
    · intro hz
      rcases List.mem_cons.mp ((h z).mpr (List.mem_cons_of_mem _ hz)) with e | w
      · rw [e] at hz; exact (tLt_irrefl x (List.rel_of_pairwise_cons q hz)).elim
      · exact w
/-- a list of texts is its own distinct members in order just when it rises -/
theorem distinct_eq {xs ys : List Str} (h : Distinct xs ys) : decide (xs = ys) = risesS xs := by
  rw [Bool.eq_iff_iff, decide_eq_true_iff, rises_pw]
  constructor
  · rintro rfl; exact distinct_pw h
  · intro p; exact pw_ext p (distinct_pw h) fun z => (h.2.2 z).symm

/-! ### == of lists of texts -/
theorem toPs_strs : ∀ xs : List Str, toPs (xs.map D.str) = some (xs.map PyData.str)
  | [] => by simp [toPs]
  | x :: xs => by simp [toPs, toP, toPs_strs xs]
theorem eqvAll_strs : ∀ xs ys : List Str, PyData.eqvAll (xs.map .str) (ys.map .str) = decide (xs = ys)
  | [], [] => by simp [PyData.eqvAll]
  | [], _ :: _ => by simp [PyData.eqvAll]
  | _ :: _, [] => by simp [PyData.eqvAll]
  | x :: xs, y :: ys => by
    rw [List.map_cons, List.map_cons]
    unfold PyData.eqvAll
    rw [eqvAll_strs xs ys]
    unfold PyData.eqv
    by_cases h : x = y <;> by_cases h2 : xs = ys <;> simp [h, h2]
theorem canLays {xs : List Str} (h : ∀ x ∈ xs, PyData.strOk x = true) : PyData.canLayAll0 (xs.map .str) = true := by
  induction xs with
  | nil => rfl
  | cons x xs ih =>
    rw [List.map_cons]
    unfold PyData.canLayAll0
    rw [ih fun y hy => h y (List.mem_cons_of_mem _ hy)]
    unfold PyData.canLay0
    rw [h x List.mem_cons_self]; rfl
theorem depths : ∀ xs : List Str, PyData.depthAll (xs.map .str) ≤ 1
  | [] => by simp [PyData.depthAll]
  | x :: xs => by
    rw [List.map_cons]
    unfold PyData.depthAll
    have := depths xs
    have e : PyData.depth (.str x) = 1 ∨ PyData.depth (.str x) = 0 := by first | exact .inl rfl | exact .inr rfl
    omega
theorem shaped_strs {xs : List Str} (h : ∀ x ∈ xs, PyData.strOk x = true) : SeqAt.shaped (.list (xs.map .str)) = true := by
  unfold SeqAt.shaped
  rw [Bool.and_eq_true, decide_eq_true_iff]
  refine ⟨?_, ?_⟩
  · unfold PyData.canLay0; exact canLays h
  · unfold PyData.depth
    have := depths xs
    omega
theorem dEq_strs {neg : Bool} {xs ys : List Str} {μ : Mu} {Q : KD} (h : ∀ x ∈ xs, PyData.strOk x = true) (h2 : ∀ x ∈ ys, PyData.strOk x = true) (q : Q (.bl (neg ^^ decide (xs = ys))) μ) : dEq neg (.lst (xs.map .str)) (.lst (ys.map .str)) μ Q := by
  unfold dEq
  simp only [scalEq, plain, toP, toPs_strs, Option.map_some]
  refine ⟨shaped_strs h, shaped_strs h2, ?_⟩
  unfold PyData.eqv
  rw [eqvAll_strs]; exact q
theorem strOk_of {s : Str} (h : s.cps.toList.all lowC = true) : PyData.strOk s = true := by
  unfold PyData.strOk
  rw [← Array.all_toList, List.all_eq_true] at *
  intro c hc
  have := h c hc
  unfold lowC at this
  simp at this ⊢; omega
end J

set_option Elab.async false
set_option linter.all false
set_option maxRecDepth 100000
set_option maxHeartbeats 1000000
namespace J
open PySem L2
@[simp] theorem kit_int_int : kitB "int" "int" = some true := by decide +kernel
@[simp] theorem kit_int_bool : kitB "int" "bool" = some false := by decide +kernel
@[simp] theorem kit_int_str : kitB "int" "str" = some false := by decide +kernel
@[simp] theorem kit_int_list : kitB "int" "list" = some false := by decide +kernel
@[simp] theorem kit_int_tuple : kitB "int" "tuple" = some false := by decide +kernel
@[simp] theorem kit_int_dict : kitB "int" "dict" = some false := by decide +kernel
@[simp] theorem kit_bool_int : kitB "bool" "int" = some true := by decide +kernel
@[simp] theorem kit_bool_bool : kitB "bool" "bool" = some true := by decide +kernel
@[simp] theorem kit_bool_str : kitB "bool" "str" = some false := by decide +kernel
@[simp] theorem kit_bool_list : kitB "bool" "list" = some false := by decide +kernel
@[simp] theorem kit_bool_tuple : kitB "bool" "tuple" = some false := by decide +kernel
@[simp] theorem kit_bool_dict : kitB "bool" "dict" = some false := by decide +kernel
@[simp] theorem kit_str_int : kitB "str" "int" = some false := by decide +kernel
@[simp] theorem kit_str_bool : kitB "str" "bool" = some false := by decide +kernel
@[simp] theorem kit_str_str : kitB "str" "str" = some true := by decide +kernel
@[simp] theorem kit_str_list : kitB "str" "list" = some false := by decide +kernel
@[simp] theorem kit_str_tuple : kitB "str" "tuple" = some false := by decide +kernel
@[simp] theorem kit_str_dict : kitB "str" "dict" = some false := by decide +kernel
@[simp] theorem kit_list_int : kitB "list" "int" = some false := by decide +kernel
@[simp] theorem kit_list_bool : kitB "list" "bool" = some false := by decide +kernel
@[simp] theorem kit_list_str : kitB "list" "str" = some false := by decide +kernel
@[simp] theorem kit_list_list : kitB "list" "list" = some true := by decide +kernel
@[simp] theorem kit_list_tuple : kitB "list" "tuple" = some false := by decide +kernel
@[simp] theorem kit_list_dict : kitB "list" "dict" = some false := by decide +kernel
@[simp] theorem kit_tuple_int : kitB "tuple" "int" = some false := by decide +kernel
@[simp] theorem kit_tuple_bool : kitB "tuple" "bool" = some false := by decide +kernel
@[simp] theorem kit_tuple_str : kitB "tuple" "str" = some false := by decide +kernel
@[simp] theorem kit_tuple_list : kitB "tuple" "list" = some false := by decide +kernel
@[simp] theorem kit_tuple_tuple : kitB "tuple" "tuple" = some true := by decide +kernel
@[simp] theorem kit_tuple_dict : kitB "tuple" "dict" = some false := by decide +kernel
@[simp] theorem kit_dict_int : kitB "dict" "int" = some false := by decide +kernel
@[simp] theorem kit_dict_bool : kitB "dict" "bool" = some false := by decide +kernel
@[simp] theorem kit_dict_str : kitB "dict" "str" = some false := by decide +kernel
@[simp] theorem kit_dict_list : kitB "dict" "list" = some false := by decide +kernel
@[simp] theorem kit_dict_tuple : kitB "dict" "tuple" = some false := by decide +kernel
@[simp] theorem kit_dict_dict : kitB "dict" "dict" = some true := by decide +kernel
@[simp] theorem kit_NoneType_int : kitB "NoneType" "int" = some false := by decide +kernel
@[simp] theorem kit_NoneType_bool : kitB "NoneType" "bool" = some false := by decide +kernel
@[simp] theorem kit_NoneType_str : kitB "NoneType" "str" = some false := by decide +kernel
@[simp] theorem kit_NoneType_list : kitB "NoneType" "list" = some false := by decide +kernel
@[simp] theorem kit_NoneType_tuple : kitB "NoneType" "tuple" = some false := by decide +kernel
@[simp] theorem kit_NoneType_dict : kitB "NoneType" "dict" = some false := by decide +kernel

theorem or_ltS {X : Cx} : OpR X (compareOp .Lt) (rCmpJ (fun i j => decide (i < j)) sLt) := or_lt
theorem sLt_is (a b : Str) : sLt a b = decide (tLt a b) := rfl
/-- any value: no object of one's own -/
inductive Any : D → Prop
  | non : Any .non | bl (b : Bool) : Any (.bl b) | int (i : Int) : Any (.int i) | str (s : Str) (h : s.length ≤ sizeLine) : Any (.str s)
  | lst (ds : List D) : Any (.lst ds) | tup (ds : List D) : Any (.tup ds) | dic (ks : List Key) (ds : List D) : Any (.dic ks ds)
/-- plain data, n levels deep -/
def Pl : Nat → D → Bool
  | 0, _ => false
  | n + 1, .lst ds => ds.all (Pl n) && decide (ds.length ≤ 100000)
  | n + 1, .tup ds => ds.all (Pl n) && decide (ds.length ≤ 100000)
  | _ + 1, .non => true
  | _ + 1, .bl _ => true
  | _ + 1, .int _ => true
  | _ + 1, .str _ => true
  | _ + 1, _ => false
theorem zip_self (xs : List D) : zipD xs xs = xs.map fun x => .tup [x, x] := by
  induction xs with
  | nil => rfl
  | cons x xs ih =>
    unfold zipD at ih ⊢
    rw [List.zip_cons_cons, List.map_cons, ih]; rfl
theorem all_true (xs : List D) : boolsOf (xs.map fun _ => D.bl true) = some (xs.map fun _ => true) := boolsOf_map (fun _ => true) xs
theorem sl2 : (2 : Nat) ≤ sizeLine := by rw [sizeLine_eq]; decide
end J

set_option Elab.async false
set_option linter.all false
set_option maxRecDepth 100000
set_option maxHeartbeats 1000000
namespace J
open PySem L2
/-! ### the bag as a list of one's own -/
mutual
def deb (b : Addr) : D → D
  | .bag => .ref b
  | .lst ds => .lst (debs b ds)
  | .tup ds => .tup (debs b ds)
  | .dic ks ds => .dic ks (debs b ds)
  | .obj C ks ds => .obj C ks (debs b ds)
  | .dct ks ds => .dct ks (debs b ds)
  | .non => .non
  | .bl x => .bl x
  | .int x => .int x
  | .str x => .str x
  | .ty x => .ty x
  | .ref x => .ref x
def debs (b : Addr) : List D → List D
  | [] => []
  | d :: ds => deb b d :: debs b ds
end
def debO (b : Addr) : MO → MO
  | .lst ds => .lst (debs b ds)
  | .dic ks ds => .dic ks (debs b ds)
  | .obj C ks ds => .obj C ks (debs b ds)
  | .dct ks ds => .dct ks (debs b ds)
def debW (b : Addr) (own : List (Addr × MO)) : List (Addr × MO) := own.map fun p => (p.1, debO b p.2)
theorem debW_keys {b : Addr} {own : List (Addr × MO)} : (debW b own).map (·.1) = own.map (·.1) := by
  unfold debW; rw [List.map_map]; rfl
section
variable {B : List Addr} {b : Addr} {own : List (Addr × MO)} {o : MO} {H H' : Hp}
theorem bl_to {a : Addr} : Bl B ⟨some b, own⟩ a ↔ Bl B ⟨none, (b, o) :: debW b own⟩ a := by
  unfold Bl
  simp only [List.map_cons, debW_keys, List.mem_cons]
  constructor
  · rintro (h | h | h)
    · exact .inl h
    · exact .inr (.inr (.inl (Option.some.inj h).symm))
    · exact .inr (.inr (.inr h))
  · rintro (h | h | h | h)
    · exact .inl h
    · cases h
    · exact .inr (.inl (by rw [h]))
    · exact .inr (.inr h)
mutual
theorem rp_to : ∀ {d : D} {v : V}, Rp B ⟨some b, own⟩ H v d → Rp B ⟨none, (b, o) :: debW b own⟩ H v (deb b d)
  | .non, _, h => by cases h; exact .non
  | .bl x, _, h => by cases h; exact .bl x
  | .int x, _, h => by cases h; exact .int x
  | .str x, _, h => by cases h; exact .str x
  | .ty x, _, h => by cases h; exact .ty x
  | .ref x, _, h => by cases h; exact .ref x
  | .bag, _, h => by cases h with | bag h => cases h; exact .ref b
  | .lst ds, _, h => by cases h with | lst h n r => exact .lst h (fun z => n (bl_to.mpr z)) (rpl_to r)
  | .tup ds, _, h => by cases h with | tup h n r => exact .tup h (fun z => n (bl_to.mpr z)) (rpl_to r)
  | .dic ks ds, _, h => by cases h with | dic h n e r => exact .dic h (fun z => n (bl_to.mpr z)) e (rpl_to r)
  | .obj C ks ds, _, h => by cases h with | obj h n e r => exact .obj h (fun z => n (bl_to.mpr z)) e (rpl_to r)
  | .dct ks ds, _, h => by cases h with | dct h n e r => exact .dct h (fun z => n (bl_to.mpr z)) e (rpl_to r)
theorem rpl_to : ∀ {ds : List D} {vs : List V}, RpL B ⟨some b, own⟩ H vs ds → RpL B ⟨none, (b, o) :: debW b own⟩ H vs (debs b ds)
  | [], _, h => by cases h; exact .nil
  | d :: ds, _, h => by cases h with | cons h t => exact .cons (rp_to h) (rpl_to t)
end
mutual
theorem rp_back : ∀ {d : D} {v : V}, Rp B ⟨none, (b, o) :: debW b own⟩ H v (deb b d) → Rp B ⟨some b, own⟩ H v d
  | .non, _, h => by unfold deb at h; cases h; exact .non
  | .bl x, _, h => by unfold deb at h; cases h; exact .bl x
  | .int x, _, h => by unfold deb at h; cases h; exact .int x
  | .str x, _, h => by unfold deb at h; cases h; exact .str x
  | .ty x, _, h => by unfold deb at h; cases h; exact .ty x
  | .ref x, _, h => by unfold deb at h; cases h; exact .ref x
  | .bag, _, h => by unfold deb at h; cases h; exact .bag rfl
  | .lst ds, _, h => by unfold deb at h; cases h with | lst h n r => exact .lst h (fun z => n (bl_to.mp z)) (rpl_back r)
  | .tup ds, _, h => by unfold deb at h; cases h with | tup h n r => exact .tup h (fun z => n (bl_to.mp z)) (rpl_back r)
  | .dic ks ds, _, h => by unfold deb at h; cases h with | dic h n e r => exact .dic h (fun z => n (bl_to.mp z)) e (rpl_back r)
  | .obj C ks ds, _, h => by unfold deb at h; cases h with | obj h n e r => exact .obj h (fun z => n (bl_to.mp z)) e (rpl_back r)
  | .dct ks ds, _, h => by unfold deb at h; cases h with | dct h n e r => exact .dct h (fun z => n (bl_to.mp z)) e (rpl_back r)
theorem rpl_back : ∀ {ds : List D} {vs : List V}, RpL B ⟨none, (b, o) :: debW b own⟩ H vs (debs b ds) → RpL B ⟨some b, own⟩ H vs ds
  | [], _, h => by unfold debs at h; cases h; exact .nil
  | d :: ds, _, h => by unfold debs at h; cases h with | cons h t => exact .cons (rp_back h) (rpl_back t)
end
theorem rp_ints {μ : Mu} : ∀ xs : List Int, RpL B μ H (xs.map V.int) (xs.map D.int)
  | [] => .nil
  | x :: xs => .cons (.int x) (rp_ints xs)
theorem ints_rp {μ : Mu} : ∀ {xs : List Int} {vs : List V}, RpL B μ H vs (xs.map D.int) → vs = xs.map V.int
  | [], _, h => by cases h; rfl
  | x :: xs, _, h => by cases h with | cons h t => cases h; rw [ints_rp t]; rfl
def bagL (cs : List Int) (i d s k : Int) : MO := .lst [.lst (cs.map .int), .int i, .int d, .int s, .int k]
def BagB (cs : List Int) (i d s : Int) : Prop := cs.length ≤ 63 ∧ 0 ≤ i ∧ 0 ≤ d ∧ 0 ≤ s ∧ s < 2147483323
theorem own_to {m : MO} {a : Addr} (h : OwnOk B ⟨some b, own⟩ H a m) : OwnOk B ⟨none, (b, o) :: debW b own⟩ H a (debO b m) := by
  cases m with
  | lst ds => obtain ⟨xs, e, r⟩ := h; exact ⟨xs, e, rpl_to r⟩
  | dic ks ds => obtain ⟨xs, e, k, r⟩ := h; exact ⟨xs, e, k, rpl_to r⟩
  | obj C ks ds => obtain ⟨dx, xs, e, k, r⟩ := h; exact ⟨dx, xs, e, k, rpl_to r⟩
  | dct ks ds => obtain ⟨xs, e, k, r⟩ := h; exact ⟨xs, e, k, rpl_to r⟩
theorem own_back {m : MO} {a : Addr} (h : OwnOk B ⟨none, (b, o) :: debW b own⟩ H a (debO b m)) : OwnOk B ⟨some b, own⟩ H a m := by
  cases m with
  | lst ds => obtain ⟨xs, e, r⟩ := h; exact ⟨xs, e, rpl_back r⟩
  | dic ks ds => obtain ⟨xs, e, k, r⟩ := h; exact ⟨xs, e, k, rpl_back r⟩
  | obj C ks ds => obtain ⟨dx, xs, e, k, r⟩ := h; exact ⟨dx, xs, e, k, rpl_back r⟩
  | dct ks ds => obtain ⟨xs, e, k, r⟩ := h; exact ⟨xs, e, k, rpl_back r⟩
theorem hok_to (h : HOK B ⟨some b, own⟩ H) : ∃ cs i d s k, HOK B ⟨none, (b, bagL cs i d s k) :: debW b own⟩ H ∧ BagB cs i d s := by
  obtain ⟨c, cs, i, d, s, k, e, ec, nb, l, z⟩ := h.bag b rfl
  refine ⟨cs, i, d, s, k, ⟨fun x hx => (by cases hx), fun p hp => ?_, ?_, fun x hx => (by cases hx), h.bt, fun a ha => ⟨fun z => (by cases z), fun z => ?_⟩⟩, l, z⟩
  · rcases List.mem_cons.mp hp with rfl | hp
    · exact ⟨_, e, .cons (.lst ec (fun z => nb (bl_to.mpr z)) (rp_ints cs)) (.cons (.int _) (.cons (.int _) (.cons (.int _) (.cons (.int _) .nil))))⟩
    · obtain ⟨q, hq, rfl⟩ := List.mem_map.mp hp
      exact own_to (h.own q hq)
  · show ((b, _) :: debW b own |>.map (·.1)).Nodup
    rw [List.map_cons, debW_keys, List.nodup_cons]
    exact ⟨h.bo b rfl, h.nd⟩
  · have z : a ∈ ((b, bagL cs i d s k) :: debW b own).map (·.1) := z
    rw [List.map_cons, debW_keys] at z
    rcases List.mem_cons.mp z with z | z
    · exact (h.bd a ha).1 (by rw [z])
    · exact (h.bd a ha).2 z
theorem hok_back {cs : List Int} {i d s k : Int} (h : HOK B ⟨none, (b, bagL cs i d s k) :: debW b own⟩ H) (z : BagB cs i d s) : HOK B ⟨some b, own⟩ H := by
  have nd := h.nd
  have nd : ((b, bagL cs i d s k) :: debW b own |>.map (·.1)).Nodup := nd
  rw [List.map_cons, debW_keys, List.nodup_cons] at nd
  refine ⟨fun x hx => ?_, fun p hp => ?_, nd.2, fun x hx => (by cases hx; exact nd.1), h.bt, fun a ha => ⟨fun e => ?_, fun e => (h.bd a ha).2 ?_⟩⟩
  · cases hx
    obtain ⟨xs, e, r⟩ := h.own (b, bagL cs i d s k) List.mem_cons_self
    cases r with
    | cons r1 r =>
      cases r1 with
      | lst ec nb rr =>
        cases r with
        | cons r2 r =>
          cases r with
          | cons r3 r =>
            cases r with
            | cons r4 r =>
              cases r with
              | cons r5 r =>
                cases r; cases r2; cases r3; cases r4; cases r5
                have := ints_rp rr
                subst this
                exact ⟨_, cs, i, d, s, k, e, ec, fun q => nb (bl_to.mp q), z⟩
  · exact own_back (h.own (p.1, debO b p.2) (List.mem_cons_of_mem _ (List.mem_map.mpr ⟨p, hp, rfl⟩)))
  · cases e
    exact (h.bd b ha).2 (by rw [List.map_cons]; exact List.mem_cons_self)
  · show a ∈ ((b, bagL cs i d s k) :: debW b own).map (·.1)
    rw [List.map_cons, debW_keys]
    exact List.mem_cons_of_mem _ e
theorem pres_back {o o' : MO} (p : Pres B ⟨none, (b, o) :: debW b own⟩ H ⟨none, (b, o') :: debW b own⟩ H') : Pres B ⟨some b, own⟩ H ⟨some b, own⟩ H' :=
  ⟨fun v d r => rp_back (p.rp _ _ (rp_to r)), p.blk⟩
/-- a draw: any of 0 .. m - 1 -/
def C_draw : Ct := fun ds μ Q _ => ∃ b m, ds = [.bag, .int m] ∧ μ.bag = some b ∧ 0 < m ∧ m.natAbs.log2 < 9000 ∧ ∀ r, 0 ≤ r → r < m → Q (.int r) μ
/-- .. as it is seen with the bag open -/
def C_draw2 : Ct := fun ds μ Q _ => ∃ b own cs i d s k m, ds = [.ref b, .int m] ∧ μ = ⟨none, (b, bagL cs i d s k) :: own⟩ ∧ 0 < m ∧ m.natAbs.log2 < 9000 ∧ BagB cs i d s ∧
  ∀ r i d s k, 0 ≤ r → r < m → BagB cs i d s → Q (.int r) ⟨none, (b, bagL cs i d s k) :: own⟩
theorem draw_imp {vs : List V} {Q : VK} {E : XK} (h : spOf C_draw vs H Q E) : spOf C_draw2 vs H Q E := by
  obtain ⟨B, ds, μ, Q', Ex, h, r, ⟨b, m, rfl, eb, hm, hl, q⟩, k, ex⟩ := h
  obtain ⟨bg, own⟩ := μ
  cases eb
  obtain ⟨cs, i, d, s, n, h2, z⟩ := hok_to h
  refine ⟨B, [.ref b, .int m], ⟨none, (b, bagL cs i d s n) :: debW b own⟩, fun e μ' => ∃ r i d s k, e = .int r ∧ 0 ≤ r ∧ r < m ∧ BagB cs i d s ∧ μ' = ⟨none, (b, bagL cs i d s k) :: debW b own⟩, exF, h2, rpl_to r, ⟨b, debW b own, cs, i, d, s, n, m, rfl, rfl, hm, hl, z, fun r i d s k h1 h2 z => ⟨r, i, d, s, k, rfl, h1, h2, z, rfl⟩⟩, ?_, exF_ok⟩
  rintro v H' e μ' h' p' r' ⟨r, i, d, s, k', rfl, h1, h3, z', rfl⟩
  cases r'
  exact k _ _ _ _ (hok_back h' z') (pres_back p') (.int r) (q r h1 h3)
theorem log2_lt {m : Int} (h : m < 2 ^ 63) (h0 : 0 ≤ m) : m.natAbs.log2 < 9000 := by
  have : m.natAbs.log2 < 64 := by
    by_cases z : m.natAbs = 0
    · rw [z]; decide
    · rw [Nat.log2_lt z]; omega
  omega
end
section
variable {Ex : KX} {Δ : Del} {μ : Mu} {D' : EndsD} {te to ti : TD}
def onO (o : Option Nat) (k : Nat → Prop) : Prop := match o with | some j => k j | none => False
@[simp] theorem onO_some {j : Nat} {k : Nat → Prop} : onO (some j) k ↔ k j := Iff.rfl
@[simp] theorem jPut_r : jPut te to ti Ex D' Δ μ = te Ex Δ μ fun y μ1 => to Ex Δ μ1 fun x μ2 => ti Ex Δ μ2 fun i μ3 => onRef x fun a => onI i fun n => ownL μ3 a fun ds => onO (ixN ds.length n) fun j => D'.nx Δ (μ3.put a (.lst (ds.set j y))) := rfl
@[simp] theorem at5_0 {a b c d e : D} : atI [a, b, c, d, e] 0 = some a := rfl
@[simp] theorem ix5_0 : ixN 5 0 = some 0 := rfl
@[simp] theorem at5_1 {a b c d e : D} : atI [a, b, c, d, e] 1 = some b := rfl
@[simp] theorem ix5_1 : ixN 5 1 = some 1 := rfl
@[simp] theorem at5_2 {a b c d e : D} : atI [a, b, c, d, e] 2 = some c := rfl
@[simp] theorem ix5_2 : ixN 5 2 = some 2 := rfl
@[simp] theorem at5_3 {a b c d e : D} : atI [a, b, c, d, e] 3 = some d := rfl
@[simp] theorem ix5_3 : ixN 5 3 = some 3 := rfl
@[simp] theorem at5_4 {a b c d e : D} : atI [a, b, c, d, e] 4 = some e := rfl
@[simp] theorem ix5_4 : ixN 5 4 = some 4 := rfl
theorem atI_ints {cs : List Int} {i : Int} (h0 : 0 ≤ i) (h : i < (cs.length : Nat)) : ∃ x, atI (cs.map D.int) i = some (.int x) := by
  unfold atI ixN
  rw [if_pos h0, List.length_map, if_pos h]
  have hi : i.toNat < cs.length := by omega
  exact ⟨cs[i.toNat], by simp [hi]⟩
theorem cm2 {i j : Int} (h1 : -(2 ^ 64) < j) (h2 : j < 2 ^ 64) : CMul i j ∨ CMulW i j := .inl (.inr ⟨h1, h2⟩)
theorem seq_N {s1 t2 : TSD} (h : ∀ N : Del → Mu → Prop, (∀ Δ' μ', t2 Ex D' Δ' μ' → N Δ' μ') → s1 Ex { D' with nx := N } Δ μ) : jSeq s1 t2 Ex D' Δ μ := h _ fun _ _ z => z

def pickP (μ : Mu) (x : D) (k : D → Prop) : Prop := match x with
  | .str z => 0 < z.length ∧ z.length ≤ 1000000 ∧ ∀ c ∈ z.cps.toList, k (.str (oneSign c))
  | x => match asS μ x with
    | some ds => 0 < ds.length ∧ ds.length ≤ 1000000 ∧ ∀ d ∈ ds, k d
    | none => False
theorem pick_lst {μ : Mu} {ds : List D} {k : D → Prop} (h : 0 < ds.length) (h2 : ds.length ≤ 1000000) (h3 : ∀ d ∈ ds, k d) : pickP μ (.lst ds) k := ⟨h, h2, h3⟩
theorem pick_tup {μ : Mu} {ds : List D} {k : D → Prop} (h : 0 < ds.length) (h2 : ds.length ≤ 1000000) (h3 : ∀ d ∈ ds, k d) : pickP μ (.tup ds) k := ⟨h, h2, h3⟩
theorem pick_str {μ : Mu} {z : Str} {k : D → Prop} (h : 0 < z.length) (h2 : z.length ≤ 1000000) (h3 : ∀ c ∈ z.cps.toList, k (.str (oneSign c))) : pickP μ (.str z) k := ⟨h, h2, h3⟩
theorem atI_mem {α : Type} {xs : List α} {r : Int} (h0 : 0 ≤ r) (h : r < (xs.length : Nat)) : ∃ x, atI xs r = some x ∧ x ∈ xs := by
  unfold atI ixN
  rw [if_pos h0, if_pos h]
  have hi : r.toNat < xs.length := by omega
  exact ⟨xs[r.toNat], by simp [hi], List.getElem_mem hi⟩
theorem pick_ok {μ : Mu} {x : D} {b : Addr} {Q : KD} (hb : μ.bag = some b) (h : pickP μ x fun d => Q d μ) {R : KD} (k : ∀ d, Q d μ → R d μ) : dLen [x] μ fun y μ1 => C_draw [.bag, y] μ1 (fun i μ2 => dIx x i μ2 R) Ex := by
  unfold pickP at h
  split at h
  · rename_i z
    obtain ⟨h1, h2, h3⟩ := h
    refine ⟨by rw [sizeLine_eq]; omega, b, _, rfl, hb, by omega, log2_lt (by omega) (by omega), fun r r0 r1 => ?_⟩
    obtain ⟨c, e, m⟩ := atI_mem (xs := z.cps.toList) r0 (by rw [Array.length_toList]; exact r1)
    show z.length ≤ sizeLine ∧ match atI z.cps.toList r with | some c => R (.str (oneSign c)) μ | none => False
    rw [e]
    exact ⟨by rw [sizeLine_eq]; omega, k _ (h3 c m)⟩
  · rename_i hx
    split at h
    · rename_i ds hd
      obtain ⟨h1, h2, h3⟩ := h
      have go : ∀ r : Int, 0 ≤ r → r < (ds.length : Nat) → dIx x (.int r) μ R := fun r r0 r1 => by
        obtain ⟨d, e, m⟩ := atI_mem (xs := ds) r0 r1
        cases x <;> first
          | (rename_i z; exact (hx z rfl).elim)
          | (simp only [dIx, hd, e]; exact k _ (h3 d m))
      have : dLen [x] μ (fun y μ1 => C_draw [.bag, y] μ1 (fun i μ2 => dIx x i μ2 R) Ex) ↔ C_draw [.bag, .int (ds.length : Nat)] μ (fun i μ2 => dIx x i μ2 R) Ex := by
        unfold dLen
        cases x <;> first | (rename_i z; exact (hx z rfl).elim) | (simp only [hd])
      rw [this]
      exact ⟨b, _, rfl, hb, by omega, log2_lt (by omega) (by omega), fun r r0 r1 => go r r0 r1⟩
    · exact h.elim
end
end J

set_option Elab.async false
set_option linter.all false
set_option maxRecDepth 100000
set_option maxHeartbeats 1000000
namespace J
open PySem L2
/-- the bag is made out of a script -/
def sp_bag (K : PySem.W.Frag) : Sp := fun vs H Q _ => ∃ (a : Addr) (ns : List Int), vs = [.ref a] ∧ SqL K H a (ns.map V.int) ∧ ns.length ≤ 63 ∧ ∀ H' b, HOK [] ⟨some b, []⟩ H' → Q (.ref b) H'
theorem bag_made {H : Hp} {c b : Addr} {cs : List Int} {i d s k : Int} (hc : H c = some (.lst (cs.map V.int))) (hb : H b = none) (hl : cs.length ≤ 63) (h : 0 ≤ i ∧ 0 ≤ d ∧ 0 ≤ s ∧ s < 2147483323) :
    HOK [] ⟨some b, []⟩ (upd H b (.lst [.ref c, .int i, .int d, .int s, .int k])) where
  bag := fun x hx => by
    cases hx
    have ne : c ≠ b := fun e => by rw [e, hb] at hc; cases hc
    refine ⟨c, cs, i, d, s, k, upd_same, by rw [upd_ne ne]; exact hc, fun z => ?_, hl, h⟩
    rcases z with z | z | z
    · cases z
    · exact ne (Option.some.inj z).symm
    · cases z
  own := fun p hp => by cases hp
  nd := by simp
  bo := fun b e z => by cases z
  bt := fun a ha => by cases ha
  bd := fun a ha => by cases ha
theorem cutV_len {xs : List V} {n : Nat} {lo hi : Option Int} (h : xs.length ≤ n) : (cutV xs lo hi).length ≤ n := by
  unfold cutV
  rw [List.length_take, List.length_drop]; omega
theorem cutV_ints {ns : List Int} {lo hi : Option Int} : cutV (ns.map V.int) lo hi = ((ns.drop (HT.sIx ns.length 0 lo)).take (HT.sIx ns.length ns.length hi - HT.sIx ns.length 0 lo)).map V.int := by
  unfold cutV
  rw [List.length_map, List.map_take, List.map_drop]
/-- where the law goes on, once the bag is made -/
def lawD (N : List Str) (a b : Addr) : Del := [some (.ref a), some .bag] ++ List.replicate (N.length - 2) none
def lawE (Q : VK) : EndsD := { nx := fun _ _ => False, rt := fun d _ => d = .bl true }
/-- the promise of a law's def -/
def spLaw (K : PySem.W.Frag) : Sp := fun vs H Q _ => ∃ (a : Addr) (ns : List Int), vs = [.ref a] ∧ SqL K H a (ns.map V.int) ∧ ns.length ≤ 63 ∧ ∀ H', Q (.bl true) H'
theorem go_law {E : XK} {N : List Str} {a b : Addr} {H' : Hp} {tr : TS} {t : TSD} {Q : VK} (q : SS E tr t) (hN : 2 ≤ N.length) (h : HOK [] ⟨some b, []⟩ H') (hQ : ∀ H', Q (.bl true) H') (ht : t exF (lawE Q) (lawD N a b) ⟨some b, []⟩) :
    tr { nx := fun _ H' => Q .non H', rt := Q } ((L2.start N [.ref a]).set 1 (some (.ref b))) H' := by
  refine q [] H' ⟨some b, []⟩ exF (lawE Q) _ _ H' (lawD N a b) ⟨some b, []⟩ exF_ok ⟨fun _ _ _ _ _ z => z.elim, fun v H2 d μ h2 p2 r2 e => by cases (show d = .bl true from e); cases r2; exact hQ _, fun _ _ _ _ _ z => z.elim, fun _ _ _ _ _ z => z.elim⟩ ⟨h, ⟨?_, fun i d e => ?_⟩, Pres.refl⟩ ht
  · unfold L2.start lawD
    simp; omega
  · unfold lawD at e
    obtain ⟨n, hn⟩ : ∃ n, N.length = n + 2 := ⟨N.length - 2, by omega⟩
    rcases i with _ | _ | i
    · simp at e; subst e
      exact ⟨.ref a, by unfold L2.start; simp, .ref a⟩
    · simp at e; subst e
      refine ⟨.ref b, ?_, .bag rfl⟩
      unfold L2.start
      rw [List.getElem?_set_self (by simp; omega)]
    · simp only [List.cons_append, List.nil_append, List.getElem?_cons_succ, List.getElem?_replicate] at e
      split at e <;> cases e
end J

set_option Elab.async false
set_option linter.all false
set_option maxRecDepth 100000
set_option maxHeartbeats 1000000
namespace J
open PySem L2
variable {Ex : KX} {Δ : Del} {μ : Mu} {Q : KD} {QB : KB} {QL : KDL} {D' : EndsD}
/-! ### join without a separator -/
theorem join0 {sep : Str} (hs : sep.cps.toList = []) : ∀ xs : List Str, (Txt.join sep xs).cps.toList = (xs.map fun x => x.cps.toList).flatten := by
  intro xs
  show (Builtin.Str.glued sep xs).cps.toList = _
  rw [StrLaws.glued_eq_join]
  induction xs with
  | nil => rfl
  | cons x xs ih =>
    cases xs with
    | nil => show x.cps.toList = _; simp
    | cons y ys =>
      show ((x ++ sep) ++ Str.join sep (y :: ys)).cps.toList = _
      have e1 : ∀ a b : Str, (a ++ b).cps.toList = a.cps.toList ++ b.cps.toList := fun a b => by
        show (a.cps ++ b.cps).toList = _
        rw [Array.toList_append]
      rw [e1, e1, ih, hs, List.append_nil, List.map_cons, List.map_cons, List.flatten_cons]
      simp
theorem app_list (a b : Str) : (a ++ b).cps.toList = a.cps.toList ++ b.cps.toList := by
  show (a.cps ++ b.cps).toList = _
  rw [Array.toList_append]
theorem app_len (a b : Str) : (a ++ b).length = a.length + b.length := by
  unfold Str.length
  rw [← Array.length_toList, app_list, List.length_append, Array.length_toList, Array.length_toList]
theorem len_list (a : Str) : a.length = a.cps.toList.length := by rw [Array.length_toList]; rfl
/-- items that are single signs -/
theorem signs_of {R : D → D → Prop} {p : Nat → Bool} (h : ∀ d e, R d e → ∃ c, p c = true ∧ e = .str (oneSign c)) : ∀ {ds es : List D}, All2 R ds es → ∃ cs : List Nat, es = cs.map (fun c => .str (oneSign c)) ∧ cs.length = ds.length ∧ cs.all p = true
  | _, _, .nil => ⟨[], rfl, rfl, rfl⟩
  | _, _, .cons a t => by
    obtain ⟨c, hc, rfl⟩ := h _ _ a
    obtain ⟨cs, e, l, q⟩ := signs_of h t
    exact ⟨c :: cs, by rw [e]; rfl, by simp [l], by simp [hc, q]⟩
theorem flat_signs : ∀ cs : List Nat, ((cs.map oneSign).map fun x => x.cps.toList).flatten = cs
  | [] => rfl
  | c :: cs => by
    rw [List.map_cons, List.map_cons, List.flatten_cons, flat_signs cs]; rfl
theorem sum_signs : ∀ cs : List Nat, ((cs.map oneSign).map (·.length)).sum = cs.length
  | [] => rfl
  | c :: cs => by
    rw [List.map_cons, List.map_cons, List.sum_cons, sum_signs cs, List.length_cons]
    show 1 + cs.length = _
    omega
theorem join_signs {cs : List Nat} {sep : Str} (hs : sep.cps.toList = []) {Q : KD} (hl : cs.length ≤ 16777216) (h : ∀ s : Str, s.cps.toList = cs → Q (.str s) μ) : dJoin (.str sep) [.lst (cs.map fun c => .str (oneSign c))] μ Q := by
  have e : (cs.map fun c => D.str (oneSign c)) = (cs.map oneSign).map D.str := by rw [List.map_map]; rfl
  rw [e]
  show (match strsOf ((cs.map oneSign).map D.str) with | some ys => (ys.map (·.length)).sum + ys.length * sep.length ≤ 16777216 ∧ Q (.str (Txt.join sep ys)) μ | none => False)
  rw [strsOf_map]
  refine ⟨?_, h _ ?_⟩
  · have : sep.length = 0 := by rw [len_list, hs]; rfl
    rw [this, sum_signs]; omega
  · rw [join0 hs, flat_signs]

/-! ### a comprehension with a test -/
theorem lc_filter {g : GD} {tt : TDB} {te : TD} {Q : KDL} {ds : List D} (f : D → D) (p : D → Bool)
    (h : ∀ d ∈ ds, ∀ (KT : KD) (KF : Mu → Prop), (p d = true → KT (f d) μ) → (p d = false → KF μ) → g d Δ μ fun Δ1 μ1 => tt exF Δ1 μ1 fun b μ2 => if b = true then te exF Δ1 μ2 KT else KF μ2)
    {acc : List D} (hn : acc.length + ds.length ≤ sizeLine) (q : Q (acc ++ (ds.filter p).map f) μ) : lcD g tt te exF Δ Q ds acc μ := by
  induction ds generalizing acc with
  | nil => simpa [lcD] using q
  | cons d ds ih =>
    unfold lcD
    simp only [List.length_cons] at hn
    have key := h d List.mem_cons_self (fun e μ3 => acc.length < sizeLine ∧ lcD g tt te exF Δ Q ds (acc ++ [e]) μ3) (fun μ2 => lcD g tt te exF Δ Q ds acc μ2) (fun hp => ⟨by omega, ih (fun d' hd => h d' (List.mem_cons_of_mem _ hd)) (by simp; omega) ?_⟩) (fun hp => ih (fun d' hd => h d' (List.mem_cons_of_mem _ hd)) (by omega) ?_)
    · refine Eq.mp (congrArg (g d Δ μ) ?_) key
      funext Δ1 μ1
      congr 1
      funext b μ2
      cases b <;> rfl
    · rw [List.filter_cons_of_pos hp] at q
      simpa using q
    · rw [List.filter_cons_of_neg (by rw [hp]; decide)] at q
      exact q

/-! ### for, by what holds before each round -/
theorem for_ok {g : GD} {body : TSD} (I : List D → Del → Mu → Prop) (step : ∀ d ds Δ μ, I (d :: ds) Δ μ → ∀ N : Del → Mu → Prop, (∀ Δ' μ', I ds Δ' μ' → N Δ' μ') → g d Δ μ fun Δ1 μ1 => body Ex { nx := N, rt := D'.rt, bk := D'.nx, ct := N } Δ1 μ1)
    (fin : ∀ Δ μ, I [] Δ μ → D'.nx Δ μ) : ∀ {ds : List D} {Δ : Del} {μ : Mu}, I ds Δ μ → forD g body Ex D' ds Δ μ
  | [], Δ, μ, h => by unfold forD; exact fin _ _ h
  | d :: ds, Δ, μ, h => by
    unfold forD
    exact step d ds Δ μ h _ fun Δ' μ' z => for_ok I step fin z
theorem jRid_r {i : Nat} {a : Addr} (h : Δ[i]? = some (some (.ref a))) : jRid i Ex Δ μ Q = ownL μ a fun ds => Q (.lst ds) (μ.rid a) := by
  unfold jRid; rw [h]; rfl
theorem rangeD_cons {a b : Int} (h : a < b) : rangeD a b = .int a :: rangeD (a + 1) b := by
  unfold rangeD
  obtain ⟨n, hn⟩ : ∃ n, (b - a).toNat = n + 1 := ⟨(b - a).toNat - 1, by omega⟩
  have e : (b - (a + 1)).toNat = n := by omega
  rw [hn, e, List.range_succ_eq_map, List.map_cons, List.map_map]
  refine congr (congrArg _ (by simp)) (List.map_congr_left fun x _ => ?_)
  simp; omega
theorem rangeD_nil {a b : Int} (h : b ≤ a) : rangeD a b = [] := by
  unfold rangeD
  have : (b - a).toNat = 0 := by omega
  rw [this]; rfl
theorem rangeD_len {a b : Int} : (rangeD a b).length = (b - a).toNat := by unfold rangeD; simp
/-- fewer names than places: one is left -/
theorem nd_le {α : Type} [DecidableEq α] : ∀ {xs ys : List α}, xs.Nodup → (∀ x ∈ xs, x ∈ ys) → xs.length ≤ ys.length
  | [], _, _, _ => Nat.zero_le _
  | x :: xs, ys, nd, h => by
    have hx := h x List.mem_cons_self
    rw [List.nodup_cons] at nd
    have := nd_le (xs := xs) (ys := ys.erase x) nd.2 fun y hy => by
      have ne : y ≠ x := fun e => nd.1 (by rw [← e]; exact hy)
      exact (List.mem_erase_of_ne ne).mpr (h y (List.mem_cons_of_mem _ hy))
    rw [List.length_erase_of_mem hx] at this
    have : 0 < ys.length := List.length_pos_of_mem hx
    simp only [List.length_cons]; omega
section
variable {p : Addr} {o o' : MO} {ds : List D}
@[simp] theorem push_bag : (μ.push p o).bag = μ.bag := rfl
@[simp] theorem push_put : (μ.push p o).put p o' = μ.push p o' := by simp [Mu.push, Mu.put, setO]
@[simp] theorem push_rid : (μ.push p o).rid p = μ := by simp [Mu.push, Mu.rid, dropO]
@[simp] theorem push_own {k : List D → Prop} : ownL (μ.push p (.lst ds)) p k ↔ k ds := by simp [ownL, Mu.push, List.lookup]
theorem push_asL : asL (μ.push p (.lst ds)) (.ref p) = some ds := by simp [asL, Mu.push, List.lookup]
theorem push_asS : asS (μ.push p (.lst ds)) (.ref p) = some ds := push_asL
theorem dEq_own {neg : Bool} {xs ys : List Str} (h : ∀ x ∈ xs, PyData.strOk x = true) (h2 : ∀ x ∈ ys, PyData.strOk x = true) (q : Q (.bl (neg ^^ decide (xs = ys))) (μ.push p (.lst (xs.map .str)))) : dEq neg (.ref p) (.lst (ys.map .str)) (μ.push p (.lst (xs.map .str))) Q := by
  unfold dEq
  simp only [scalEq, plain, toP, push_asL, toPs_strs, Option.map_some, Option.bind_some]
  refine ⟨shaped_strs h, shaped_strs h2, ?_⟩
  unfold PyData.eqv
  rw [eqvAll_strs]; exact q
end
theorem cutS_to {z : Str} {k : Int} (h : 0 ≤ k) : (cutS z none (some k)).cps.toList = z.cps.toList.take k.toNat := by
  unfold cutS HT.sIx
  simp only [List.drop_zero, Nat.sub_zero]
  rw [if_neg (by omega)]
  show List.take _ _ = _
  rw [len_list, ← List.take_eq_take_min]
theorem cutS_from {z : Str} {k : Int} (h : 0 ≤ k) : (cutS z (some k) none).cps.toList = z.cps.toList.drop k.toNat := by
  unfold cutS HT.sIx
  simp only
  rw [if_neg (by omega)]
  show List.take _ (List.drop (min k.toNat z.length) _) = _
  rw [len_list]
  rcases Nat.le_total k.toNat z.cps.toList.length with q | q
  · rw [Nat.min_eq_left q, List.take_of_length_le (by rw [List.length_drop]; omega)]
  · rw [Nat.min_eq_right q, List.drop_of_length_le (Nat.le_refl _), List.drop_of_length_le q]; simp
theorem wordS_iff {s : Str} : wordS s = true ↔ 1 ≤ s.length ∧ s.length ≤ 6 ∧ s.cps.toList.all lowC = true := by
  unfold wordS; simp [and_assoc]
theorem words_ok {xs : List Str} (h : xs.all wordS = true) : ∀ x ∈ xs, PyData.strOk x = true := fun x hx => strOk_of (wordS_iff.mp (List.all_eq_true.mp h x hx)).2.2
theorem in_strs {xs : List Str} {t : Str} : ((xs.map D.str).any fun y => eqF y (.str t)) = decide (t ∈ xs) := by
  rw [Bool.eq_iff_iff, List.any_eq_true, decide_eq_true_iff]
  constructor
  · rintro ⟨y, hy, e⟩
    obtain ⟨x, hx, rfl⟩ := List.mem_map.mp hy
    have : x = t := by simpa [eqF] using e
    rw [← this]; exact hx
  · intro h
    exact ⟨.str t, List.mem_map.mpr ⟨t, h, rfl⟩, by simp [eqF]⟩
theorem flat_strs {xs : List Str} : (xs.map D.str).all flatD = true := by
  rw [List.all_map]; simp [flatD, Function.comp_def]
section
variable {p : Addr}
theorem dIn_own {xs : List Str} {t : Str} (R : KD) (h : R (.bl (!decide (t ∈ xs))) (μ.push p (.lst (xs.map .str)))) : dIn true (.str t) (.ref p) (μ.push p (.lst (xs.map .str))) R := by
  simp only [dIn, push_asS]
  refine ⟨rfl, flat_strs, ?_⟩
  rw [in_strs, Bool.true_xor]; exact h
theorem pick_own {ds : List D} {k : D → Prop} (h : 0 < ds.length) (h2 : ds.length ≤ 1000000) (h3 : ∀ d ∈ ds, k d) : pickP (μ.push p (.lst ds)) (.ref p) k := by
  simp only [pickP, push_asS]
  exact ⟨h, h2, h3⟩
end
def abcp : Str := Str.ofString "abcdefghijklmnop"
def L16 : List Str := abcp.cps.toList.map oneSign
theorem L16_nd : L16.Nodup := by decide +kernel
theorem L16_len : L16.length = 16 := by decide +kernel
theorem L16_words : L16.all wordS = true := by decide +kernel
theorem abcp_size : abcp.cps.size = 16 := by decide +kernel
theorem signs16 : signs abcp = L16.map D.str := by unfold signs L16; rw [List.map_map]; rfl
theorem fresh16 {s : Str} {xs : List Str} (hs : wordS s = true) (hl : xs.length ≤ 15) : ∃ t r, (s :: L16).filter (fun t => !decide (t ∈ xs)) = t :: r ∧ wordS t = true ∧ t ∉ xs := by
  cases e : (s :: L16).filter (fun t => !decide (t ∈ xs)) with
  | nil =>
    exfalso
    have : ∀ t ∈ L16, t ∈ xs := fun t ht => by
      rcases Decidable.em (t ∈ xs) with z | z
      · exact z
      · have : t ∈ (s :: L16).filter (fun t => !decide (t ∈ xs)) := List.mem_filter.mpr ⟨List.mem_cons_of_mem _ ht, by simpa using z⟩
        rw [e] at this; cases this
    have := nd_le L16_nd this
    rw [L16_len] at this; omega
  | cons t r =>
    have m : t ∈ (s :: L16).filter (fun t => !decide (t ∈ xs)) := by rw [e]; exact List.mem_cons_self
    obtain ⟨m1, m2⟩ := List.mem_filter.mp m
    refine ⟨t, r, rfl, ?_, by simpa using m2⟩
    rcases List.mem_cons.mp m1 with z | z
    · rw [z]; exact hs
    · exact List.all_eq_true.mp L16_words t z
theorem dItems_lst {ds : List D} : dItems (.lst ds) μ QL = QL ds μ := rfl
theorem log2_nat {n : Nat} (h : n < 2 ^ 63) : n.log2 < 9000 := by
  have := log2_lt (m := (n : Int)) (by omega) (by omega)
  simpa using this
theorem cutS_le {z : Str} {lo hi : Option Int} : (cutS z lo hi).length ≤ z.length := by
  rw [len_list, len_list]
  unfold cutS
  simp only [List.toList_toArray, List.length_take, List.length_drop]
  omega
theorem cutS_low {z : Str} {lo hi : Option Int} (h : z.cps.toList.all lowC = true) : (cutS z lo hi).cps.toList.all lowC = true := by
  rw [List.all_eq_true] at h ⊢
  intro c hc
  unfold cutS at hc
  exact h c (List.mem_of_mem_drop (List.mem_of_mem_take hc))
theorem dIx_0 {d : D} {ds : List D} : dIx (.lst (d :: ds)) (.int 0) μ Q = Q d μ := by
  have e : atI (d :: ds) 0 = some d := by
    unfold atI ixN
    rw [if_pos (by decide), if_pos (by rw [List.length_cons]; omega)]
    rfl
  simp only [dIx, asS, asL, e]
/-- a word bent: still a word -/
theorem bent_word {o s : Str} {a b : Int} (ho : wordS o = true) (hs : wordS s = true) (ha : 0 ≤ a) (hb : 0 ≤ b) : wordS (cutS (cutS o none (some a) ++ cutS s none (some 1) ++ cutS o (some b) none) none (some 6)) = true := by
  obtain ⟨o1, o2, o3⟩ := wordS_iff.mp ho
  obtain ⟨s1, s2, s3⟩ := wordS_iff.mp hs
  have e : (cutS s none (some 1)).length = 1 := by
    rw [len_list, cutS_to (by decide), List.length_take, ← len_list]
    show min 1 s.length = 1
    omega
  refine wordS_iff.mpr ⟨?_, ?_, cutS_low ?_⟩
  · rw [len_list, cutS_to (by decide), List.length_take, ← len_list, app_len, app_len, e]
    show 1 ≤ min 6 _
    omega
  · rw [len_list, cutS_to (by decide), List.length_take]
    show min 6 _ ≤ 6
    omega
  · rw [app_list, app_list, List.all_append, List.all_append, cutS_low o3, cutS_low s3, cutS_low o3]; rfl
theorem jVar_0 {d : D} : jVar 0 Ex (some d :: Δ) μ Q = Q d μ := rfl
theorem jVar_s {i : Nat} {x : Option D} : jVar (i + 1) Ex (x :: Δ) μ Q = jVar i Ex Δ μ Q := rfl
theorem gN_r {i : Nat} {d : D} {k : Del → Mu → Prop} : gN i d Δ μ k = k (Δ.set i (some d)) μ := rfl
/-- words of m signs at most -/
def C_word : Ct := fun ds μ Q _ => ∃ b m, ds = [.bag, .int m] ∧ μ.bag = some b ∧ 0 < m ∧ m ≤ 1000 ∧ ∀ s : Str, 1 ≤ s.length → s.length ≤ m → s.cps.toList.all lowC = true → Q (.str s) μ
def C_names : Ct := fun ds μ Q _ => ∃ b m, ds = [.bag, .int m] ∧ μ.bag = some b ∧ 0 ≤ m ∧ m ≤ 15 ∧ ∀ xs : List Str, xs.length = m.toNat → xs.Nodup → xs.all wordS = true → Q (.lst (xs.map .str)) μ
/-- a law's def, its bag made -/
theorem law_go {X : Cx} {E E1 : XK} {K : PySem.W.Frag} {st : Stmt} {ss : List Stmt} {t : TSD} {N : List Str} {a : Addr} {ns : List Int} {H : Hp} {Q : VK} (hd : PS X st (tAsg (tCall (sp_bag K) [] E1 (tCons (tVar 0) tNil)) (gName 1))) (hb : JSs X E ss t) (hN : 2 ≤ N.length)
    (hS : SqL K H a (ns.map V.int)) (hl : ns.length ≤ 63) (hQ : ∀ H', Q (.bl true) H') (ht : ∀ b, t exF (lawE Q) (lawD N a b) ⟨some b, []⟩) : ∃ tr, PSs X (st :: ss) tr ∧ tr { nx := fun _ H' => Q .non H', rt := Q } (L2.start N [.ref a]) H := by
  obtain ⟨tr, p, q⟩ := hb
  refine ⟨_, pss_cons hd p, .ref a, ?_, a, ns, rfl, hS, hl, fun H' b hok => go_law q hN hok hQ (ht b)⟩
  unfold L2.start
  simp
end J

set_option Elab.async false
set_option linter.all false
set_option maxRecDepth 100000
set_option maxHeartbeats 1000000
namespace J
open PySem L2
variable {Ex : KX} {Δ : Del} {μ : Mu} {Q : KD} {QB : KB} {QL : KDL} {b : Addr}
/-! ### steps on values -/
theorem dAdd_ii {i j : Int} : dAdd (.int i) (.int j) μ Q = Q (.int (i + j)) μ := rfl
theorem dAdd_ss {x y : Str} : dAdd (.str x) (.str y) μ Q = (x.length + y.length ≤ sizeLine ∧ Q (.str (x ++ y)) μ) := rfl
theorem dAdd_ll {x y : List D} : dAdd (.lst x) (.lst y) μ Q = (x.length + y.length ≤ sizeLine ∧ Q (.lst (x ++ y)) μ) := rfl
theorem dAdd_tt {x y : List D} : dAdd (.tup x) (.tup y) μ Q = (x.length + y.length ≤ sizeLine ∧ Q (.tup (x ++ y)) μ) := rfl
theorem dSub_ii {i j : Int} : dSub (.int i) (.int j) μ Q = Q (.int (i - j)) μ := rfl
theorem dCmp_ii {fi : Int → Int → Bool} {fs : Str → Str → Bool} {i j : Int} : dCmp fi fs (.int i) (.int j) μ Q = Q (.bl (fi i j)) μ := rfl
theorem dCmp_ss {fi : Int → Int → Bool} {fs : Str → Str → Bool} {i j : Str} : dCmp fi fs (.str i) (.str j) μ Q = Q (.bl (fs i j)) μ := rfl
theorem dCmpI_ii {fi : Int → Int → Bool} {i j : Int} : dCmpI fi (.int i) (.int j) μ Q = Q (.bl (fi i j)) μ := rfl
theorem dLen_str {s : Str} : dLen [.str s] μ Q = (s.length ≤ sizeLine ∧ Q (.int (s.length : Nat)) μ) := rfl
theorem dLen_lst {ds : List D} : dLen [.lst ds] μ Q = Q (.int (ds.length : Nat)) μ := rfl
theorem dLen_tup {ds : List D} : dLen [.tup ds] μ Q = Q (.int (ds.length : Nat)) μ := rfl
theorem dSl_str {z : Str} {lo hi : Option Int} : dSl (.str z) lo hi μ Q = (z.length ≤ sizeLine ∧ Q (.str (cutS z lo hi)) μ) := rfl
theorem dSl_tup {ds : List D} {lo hi : Option Int} : dSl (.tup ds) lo hi μ Q = Q (.tup (cutL ds lo hi)) μ := rfl
theorem dSl_lst {ds : List D} {lo hi : Option Int} : dSl (.lst ds) lo hi μ Q = Q (.lst (cutL ds lo hi)) μ := rfl
theorem dRevT_tup {ds : List D} : dRevT (.tup ds) μ Q = Q (.tup ds.reverse) μ := rfl
theorem dListX_tup {ds : List D} : dListX [.tup ds] μ Q = Q (.lst ds) μ := rfl
theorem dListX_lst {ds : List D} : dListX [.lst ds] μ Q = Q (.lst ds) μ := rfl
theorem dTuple_lst {ds : List D} : dTuple [.lst ds] μ Q = Q (.tup ds) μ := rfl
theorem dNeg_int {i : Int} : dNeg (.int i) μ Q = Q (.int (-i)) μ := rfl
theorem dPow_ii {i j : Int} : dPow (.int i) (.int j) μ Q = (CPow i j ∧ Q (.int (i ^ j.toNat)) μ) := rfl
theorem dItems_tup {ds : List D} : dItems (.tup ds) μ QL = QL ds μ := rfl
theorem cmp_i {f : Int → Int → Bool} {i j : Int} (h : Q (.bl (f i j)) μ) : dCmpI f (.int i) (.int j) μ Q := h
theorem chain_i {f g : Int → Int → Bool} {i j k : Int} (h : Q (.bl (f i j && g j k)) μ) : dCmpI f (.int i) (.int j) μ (fun z μ3 => onD z (dCmpI g (.int j) (.int k) μ3 Q) (Q (.bl false) μ3)) := by
  show onD (.bl (f i j)) (Q (.bl (g j k)) μ) (Q (.bl false) μ)
  cases e : f i j
  · rw [e] at h; exact h
  · rw [e] at h; exact h
theorem pick_120 {α : Type} {x y z : α} : pick [1, 2, 0] [x, y, z] = [y, z, x] := rfl
def intB : D → Bool
  | .int _ => true
  | _ => false
theorem intB_ok {d : D} (h : intB d = true) : ∃ i, d = .int i := by
  cases d <;> first
    | (rename_i i; exact ⟨i, rfl⟩)
    | cases h
theorem szl {n : Nat} (h : Nat.ble n 16777216 = true := by rfl) : n ≤ sizeLine := by rw [sizeLine_eq]; exact Nat.le_of_ble_eq_true h
theorem szo {n : Nat} (h : n ≤ 16777216) : n ≤ sizeLine := by rw [sizeLine_eq]; exact h
/-- a pick: any item of a list, a tuple or a text -/
def C_pick : Ct := fun ds μ Q _ => ∃ b x, ds = [.bag, x] ∧ μ.bag = some b ∧ pickP μ x fun d => Q d μ
theorem draw_i {m : Int} (hb : μ.bag = some b) (h0 : 0 < m) (h1 : m < 2 ^ 63) (h : ∀ r, 0 ≤ r → r < m → Q (.int r) μ) : C_draw [.bag, .int m] μ Q Ex := ⟨b, m, rfl, hb, h0, log2_lt h1 (by omega), h⟩
theorem pick_p {p : D → Bool} {ds : List D} (hb : μ.bag = some b) (hp : ds.all p = true) (h0 : Nat.blt 0 ds.length = true := by rfl) (h1 : Nat.ble ds.length 1000000 = true := by rfl) (h : ∀ d, p d = true → Q d μ) : C_pick [.bag, .lst ds] μ Q Ex :=
  ⟨b, _, rfl, hb, pick_lst (Nat.le_of_ble_eq_true h0) (Nat.le_of_ble_eq_true h1) fun d hd => h d (List.all_eq_true.mp hp d hd)⟩
theorem pick_m {ds : List D} (hb : μ.bag = some b) (h0 : Nat.blt 0 ds.length = true := by rfl) (h1 : Nat.ble ds.length 1000000 = true := by rfl) (h : ∀ d, d ∈ ds → Q d μ) : C_pick [.bag, .lst ds] μ Q Ex :=
  ⟨b, _, rfl, hb, pick_lst (Nat.le_of_ble_eq_true h0) (Nat.le_of_ble_eq_true h1) h⟩
theorem mul_l {ds : List D} {n : Int} (h0 : 0 ≤ n) (h1 : n < 1000) (h : ds.length * n.toNat ≤ 16777216) (q : Q (.lst (List.replicate n.toNat ds).flatten) μ) : dMul (.lst ds) (.int n) μ Q := ⟨⟨by omega, by omega, szo h⟩, q⟩
theorem pick_1 {α : Type} {x : α} : pick [0] [x] = [x] := rfl
theorem sorted_names {xs : List Str} (hn : xs.length < 64) (h : ∀ ys : List Str, ys.Perm xs → PyProof.Rows.sortedS ys = true → Q (.lst (ys.map D.str)) μ) : dSortS [.lst (xs.map .str)] μ Q := by
  show (match strsOf (xs.map D.str) with | some bs => bs.length < 64 ∧ ∀ ys : List Str, ys.Perm bs → PyProof.Rows.sortedS ys = true → Q (.lst (ys.map D.str)) μ | none => False)
  rw [strsOf_map]
  exact ⟨hn, h⟩
theorem rises_sorted {ys xs : List Str} (p : ys.Perm xs) (s : PyProof.Rows.sortedS ys = true) (nd : xs.Nodup) : risesS ys = true := by
  rw [rises_pw]
  have a := sortedS_pw s
  have b : ys.Pairwise (fun a b => a ≠ b) := (p.nodup_iff).mpr nd
  exact (a.and b).imp fun ⟨z1, z2⟩ => tLt_total z1 fun q => z2 q.symm
/-- no text, no object of one's own -/
def oddB : D → Bool
  | .non => true | .bl _ => true | .int _ => true | .lst _ => true | .tup _ => true | .dic _ _ => true | _ => false
theorem oddB_any {d : D} (h : oddB d = true) : Any d := by
  cases d <;> first | (cases h; done) | constructor
def bentB : D → Bool
  | .str o => !(o.cps.toList.all lowC) && decide (o.length ≤ 10)
  | _ => false
theorem bentB_ok {d : D} (h : bentB d = true) : ∃ o, d = .str o ∧ o.cps.toList.all lowC = false ∧ o.length ≤ 10 := by
  cases d <;> first
    | (rename_i o; unfold bentB at h; rw [Bool.and_eq_true] at h; exact ⟨o, rfl, by simpa using h.1, of_decide_eq_true h.2⟩)
    | cases h
theorem bent_not {a c o : Str} (h : o.cps.toList.all lowC = false) : wordS (a ++ o ++ c) = false := by
  unfold wordS
  rw [app_list, app_list, List.all_append, List.all_append, h]; simp
def anyB : D → Bool
  | .non => true | .bl _ => true | .int _ => true | .lst _ => true | .tup _ => true | .dic _ _ => true | .str s => decide (s.length ≤ 16777216) | _ => false
theorem anyB_any {d : D} (h : anyB d = true) : Any d := by
  cases d <;> first | (cases h; done) | exact .str _ (szo (of_decide_eq_true h)) | constructor
def badB (d : D) : Bool := anyB d && (match d with | .tup es => es.all anyB | _ => true)
theorem badB_any {d : D} (h : badB d = true) : Any d ∧ ∀ es, d = .tup es → ∀ e ∈ es, Any e := by
  unfold badB at h
  rw [Bool.and_eq_true] at h
  refine ⟨anyB_any h.1, fun es e x hx => ?_⟩
  subst e
  exact anyB_any (List.all_eq_true.mp h.2 x hx)
theorem cutL_le {ds : List D} {lo hi : Option Int} : (cutL ds lo hi).length ≤ ds.length := by
  unfold cutL
  rw [List.length_take, List.length_drop]; omega
theorem cutL_all {ds : List D} {p : D → Bool} {lo hi : Option Int} (h : ds.all p = true) : (cutL ds lo hi).all p = true := by
  rw [List.all_eq_true] at h ⊢
  intro c hc
  unfold cutL at hc
  exact h c (List.mem_of_mem_drop (List.mem_of_mem_take hc))
theorem cutL_to {ds : List D} {k : Int} (h : 0 ≤ k) : cutL ds none (some k) = ds.take k.toNat := by
  unfold cutL HT.sIx
  simp only [List.drop_zero, Nat.sub_zero]
  rw [if_neg (by omega), ← List.take_eq_take_min]
def i12 : D → Bool
  | .int i => decide (0 ≤ i) && decide (i ≤ 12)
  | _ => false
theorem i12_ok {d : D} (h : i12 d = true) : ∃ i, d = .int i ∧ 0 ≤ i ∧ i ≤ 12 := by
  cases d <;> first
    | (rename_i i; unfold i12 at h; rw [Bool.and_eq_true] at h; exact ⟨i, rfl, of_decide_eq_true h.1, of_decide_eq_true h.2⟩)
    | cases h
theorem word_any {ys : List Str} (h : ys.all wordS = true) : (ys.map D.str).all anyB = true := by
  rw [List.all_map, List.all_eq_true]
  intro y hy
  have := (wordS_iff.mp (List.all_eq_true.mp h y hy)).2.1
  simp [anyB]; omega
theorem perm_all {xs ys : List Str} {p : Str → Bool} (h : ys.Perm xs) (a : xs.all p = true) : ys.all p = true := by
  rw [List.all_eq_true] at a ⊢
  intro y hy
  exact a y (h.mem_iff.mp hy)
theorem rises_take : ∀ {ys : List Str} {n : Nat}, risesS ys = true → risesS (ys.take n) = true := by
  intro ys n h
  rw [rises_pw] at h ⊢
  exact h.sublist (List.take_sublist n ys)
end J

set_option Elab.async false
set_option linter.all false
set_option maxRecDepth 100000
set_option maxHeartbeats 1000000
namespace J
open PySem L2
/-! ### objects of the program's classes -/
def asO (μ : Mu) : D → Option (Addr × List Str × List D)
  | .obj C ks ds => some (C, ks, ds)
  | .ref a => match μ.own.lookup a with | some (.obj C ks ds) => some (C, ks, ds) | _ => none
  | _ => none
section
variable {B : List Addr} {μ : Mu} {H : Hp} {v : V} {d : D} {C p : Addr} {ks : List Str} {ds : List D} {f : Str}
theorem asO_ok (h : HOK B μ H) (r : Rp B μ H v d) (e : asO μ d = some (C, ks, ds)) : ∃ a dx fs, v = .ref a ∧ H a = some (.ins C dx fs) ∧ fs.map (·.1) = ks ∧ RpL B μ H (fs.map (·.2)) ds := by
  unfold asO at e
  split at e
  · cases e
    cases r with
    | obj h n k r => exact ⟨_, _, _, rfl, h, k, r⟩
  · split at e
    · rename_i e2
      cases e
      cases r
      obtain ⟨dx, fs, q, k, r⟩ := h.own _ (lookup_mem e2)
      exact ⟨_, dx, fs, rfl, q, k, r⟩
    · cases e
  · cases e
def lookD (f : Str) : List Str → List D → Option D
  | k :: ks, d :: ds => if f == k then some d else lookD f ks ds
  | _, _ => none
theorem lookD_ok : ∀ {fs : List (Str × V)} {ks : List Str} {ds : List D} {d : D}, fs.map (·.1) = ks → RpL B μ H (fs.map (·.2)) ds → lookD f ks ds = some d → ∃ v, fs.lookup f = some v ∧ Rp B μ H v d
  | [], _, _, _, k, r, e => by cases k; cases r; cases e
  | (g, x) :: fs, _, _, _, k, r, e => by
    subst k
    cases r with
    | cons r1 r2 =>
      rw [List.map_cons] at e
      unfold lookD at e
      rw [List.lookup_cons]
      split at e
      · rename_i z; cases e; rw [z]; exact ⟨x, rfl, r1⟩
      · rename_i z
        rw [Bool.eq_false_iff.mpr z]
        exact lookD_ok rfl r2 e
def putD (f : Str) (y : D) : List Str → List D → List Str × List D
  | k :: ks, d :: ds => if k = f then (k :: ks, y :: ds) else (k :: (putD f y ks ds).1, d :: (putD f y ks ds).2)
  | _, _ => ([f], [y])
theorem putD_ok {w : V} {y : D} (rw' : Rp B μ H w y) : ∀ {fs : List (Str × V)} {ks : List Str} {ds : List D}, fs.map (·.1) = ks → RpL B μ H (fs.map (·.2)) ds → (putF f w fs).map (·.1) = (putD f y ks ds).1 ∧ RpL B μ H ((putF f w fs).map (·.2)) (putD f y ks ds).2
  | [], _, _, k, r => by cases k; cases r; exact ⟨rfl, .cons rw' .nil⟩
  | (g, x) :: fs, _, _, k, r => by
    subst k
    cases r with
    | cons r1 r2 =>
      rw [List.map_cons]
      unfold putF putD
      split
      · exact ⟨rfl, .cons rw' r2⟩
      · obtain ⟨h1, h2⟩ := putD_ok rw' (fs := fs) rfl r2
        exact ⟨by rw [List.map_cons, h1], .cons r1 h2⟩
/-- one's own object changes -/
theorem putO_ok {u : HO} {o : MO} (h : HOK B μ H) (hm : p ∈ μ.own.map (·.1)) (q : ∀ μ' H', Pres B μ H μ' H' → H' p = some u → OwnOk B μ' H' p o) : HOK B (μ.put p o) (upd H p u) ∧ Pres B μ H (μ.put p o) (upd H p u) := by
  have hp : Bl B μ p := .inr (.inr hm)
  have neB : ∀ a ∈ B, a ≠ p := fun a ha z => (h.bd a ha).2 (by rw [z]; exact hm)
  have eb : ∀ a, Bl B (μ.put p o) a → Bl B μ a := fun a z => by
    rcases z with z | z | z
    · exact .inl z
    · exact .inr (.inl z)
    · have z : a ∈ (setO p o μ.own).map (·.1) := z
      rw [setO_keys] at z
      exact .inr (.inr z)
  have k : Keeps B μ H B (μ.put p o) (upd H p u) := ⟨fun a o e b => ⟨by rw [upd_ne (fun z => b (by rw [z]; exact hp))]; exact e, fun z => b (eb a z)⟩, fun _ z => z⟩
  have kb : ∀ a ∈ B, (upd H p u) a = H a := fun a ha => upd_ne (neB a ha)
  refine ⟨⟨fun b e => ?_, fun q' hq => ?_, ?_, fun b e z => ?_, fun a ha => by rw [kb a ha]; exact h.bt a ha, fun a ha => ⟨(h.bd a ha).1, fun z => ?_⟩⟩, k.pres kb⟩
  · exact (h.bag b e).keep k (upd_ne (fun z => h.bo b e (by rw [z]; exact hm)))
  · rcases setO_mem h.nd hq with e | ⟨e1, e2⟩
    · subst e
      exact q _ _ (k.pres kb) upd_same
    · exact (h.own q' e1).keep (k.pres kb) (upd_ne e2)
  · show ((setO p o μ.own).map (·.1)).Nodup
    rw [setO_keys]; exact h.nd
  · have z : b ∈ (setO p o μ.own).map (·.1) := z
    rw [setO_keys] at z
    exact h.bo b e z
  · have z : a ∈ (setO p o μ.own).map (·.1) := z
    rw [setO_keys] at z
    exact (h.bd a ha).2 z
/-- a new one -/
theorem pushO_ok {u : HO} {o : MO} (h : HOK B μ H) (n : H p = none) (q : ∀ μ' H', Pres B μ H μ' H' → H' p = some u → OwnOk B μ' H' p o) : HOK B (μ.push p o) (upd H p u) ∧ Pres B μ H (μ.push p o) (upd H p u) := by
  have k : Keeps B μ H B (μ.push p o) (upd H p u) := ⟨fun a o e b => ⟨by rw [upd_ne (ne_of_none e n)]; exact e, fun z => by
    rcases z with z | z | z
    · exact b (.inl z)
    · exact b (.inr (.inl z))
    · rcases List.mem_cons.mp z with z | z
      · exact ne_of_none e n z
      · exact b (.inr (.inr z))⟩, fun _ z => z⟩
  have nb := h.free n
  refine ⟨⟨fun b e => ?_, fun q' hq => ?_, ?_, fun b e z => ?_, fun a ha => by rw [h.freeB n a ha]; exact h.bt a ha, fun a ha => ⟨(h.bd a ha).1, fun z => ?_⟩⟩, k.pres (h.freeB n)⟩
  · obtain ⟨u, hu⟩ := h.there (.inr (.inl e))
    exact (h.bag b e).keep k (upd_ne (ne_of_none hu n))
  · rcases List.mem_cons.mp hq with e | hq
    · subst e
      exact q _ _ (k.pres (h.freeB n)) upd_same
    · obtain ⟨u, hu⟩ := h.there (.inr (.inr (List.mem_map.mpr ⟨q', hq, rfl⟩)))
      exact (h.own q' hq).keep (k.pres (h.freeB n)) (upd_ne (ne_of_none hu n))
  · show ((p, o) :: μ.own |>.map (·.1)).Nodup
    rw [List.map_cons, List.nodup_cons]
    exact ⟨fun z => nb (.inr (.inr z)), h.nd⟩
  · rcases List.mem_cons.mp z with z | z
    · rw [z] at e; exact nb (.inr (.inl e))
    · exact h.bo b e z
  · rcases List.mem_cons.mp z with z | z
    · rw [z] at ha; exact nb (.inl ha)
    · exact (h.bd a ha).2 z
theorem rid_rpO (h : HOK B μ H) (hm : (p, MO.obj C ks ds) ∈ μ.own) : Rp B (μ.rid p) H (.ref p) (.obj C ks ds) := by
  obtain ⟨dx, fs, e, k, r⟩ := h.own _ hm
  refine .obj e (fun z => ?_) k ((rid_ok (p := p) h).2.all r)
  rcases z with z | z | z
  · exact (h.bd p z).2 (List.mem_map.mpr ⟨_, hm, rfl⟩)
  · exact h.bo p z (List.mem_map.mpr ⟨_, hm, rfl⟩)
  · exact dropO_out h.nd z
end
section
variable {X : Cx} {E : XK} {e o : Expr} {es : List Expr} {pos pos' p2 : Pos} {t ta te to : TD} {tl : TDL} {f : Str}
def onO3 (o : Option (Addr × List Str × List D)) (k : Addr → List Str → List D → Prop) : Prop := match o with | some (C, ks, ds) => k C ks ds | none => False
def onSm (o : Option D) (k : D → Prop) : Prop := match o with | some d => k d | none => False
/-- e.f -/
def jFld (K : PySem.W.Frag) (f : Str) (t : TD) : TD := fun Ex Δ μ Q => t Ex Δ μ fun x μ1 => onO3 (asO μ1 x) fun C ks ds => Cls K C ∧ NoAttr K C f ∧ onSm (lookD f ks ds) fun d => Q d μ1
theorem je_fld (h : JE X E e t) (hb : attributeBase e f X.env (eval e X.env) = eval e X.env := by rfl) : JE X E (.Attribute e f pos) (jFld X.K f t) := by
  obtain ⟨r, p, s⟩ := h
  refine ⟨_, pe_fld p hb, fun B H0 μ0 Ex σ H Δ μ Q Q0 ex g h k => ?_⟩
  refine s B H0 μ0 Ex σ H Δ μ _ _ ex g h fun v H1 d μ1 h1 p1 r1 q1 => ?_
  unfold onO3 at q1
  split at q1
  · rename_i C ks ds e1
    obtain ⟨c, n, q2⟩ := q1
    obtain ⟨a, dx, fs, rfl, ha, hk, rr⟩ := asO_ok h1 r1 e1
    unfold onSm at q2
    split at q2
    · rename_i d e2
      obtain ⟨w, hw, rw'⟩ := lookD_ok hk rr e2
      exact ⟨a, C, dx, fs, w, rfl, ha, c, n, hw, k _ _ _ _ h1 p1 rw' q2⟩
    · exact q2.elim
  · exact q1.elim
def ownO (μ : Mu) (a : Addr) (k : Addr → List Str → List D → Prop) : Prop := match μ.own.lookup a with | some (.obj C ks ds) => k C ks ds | _ => False
/-- o.f = e, o one's own -/
def jFldS (K : PySem.W.Frag) (f : Str) (to te : TD) : TSD := fun Ex D' Δ μ => te Ex Δ μ fun y μ1 => to Ex Δ μ1 fun x μ2 => onRef x fun a => ownO μ2 a fun C ks ds => Cls K C ∧ NoAttr K C f ∧ ks.length < 1000 ∧ D'.nx Δ (μ2.put a (.obj C (putD f y ks ds).1 (putD f y ks ds).2))
theorem js_fld (ho : JE X E o to) (he : JE X E e te) (hs : swapsWith e (some (.Attribute o f pos')) pos.line X.env = pure false := by rfl) : JS X E (.Assign [.Attribute o f pos'] e pos) (jFldS X.K f to te) := by
  obtain ⟨r, p, s⟩ := he
  obtain ⟨r2, p2, s2⟩ := ho
  refine ⟨_, ps_fld p2 p hs, fun B H0 μ0 Ex D' D σ H Δ μ ex el g h => ?_⟩
  refine s B H0 μ0 Ex σ H Δ μ _ _ ex g h fun v H1 d μ1 h1 p1 r1 q1 => ?_
  refine s2 B H0 μ0 Ex σ H1 Δ μ1 _ _ ex (g.step h1 p1) q1 fun w H2 d2 μ2 h2 p2 r2 q2 => ?_
  obtain ⟨a, rfl, rfl, q3⟩ := onRef_ok r2 q2
  unfold ownO at q3
  split at q3
  · rename_i C ks ds e1
    obtain ⟨c, n, l, q4⟩ := q3
    have hm := lookup_mem e1
    obtain ⟨dx, fs, ha, hk, rr⟩ := h2.own _ hm
    refine ⟨a, C, dx, fs, rfl, ha, c, n, by rw [← hk, List.length_map] at l; exact l, ?_⟩
    obtain ⟨h3, p3⟩ := putO_ok (u := .ins C dx (putF f v fs)) (o := .obj C (putD f d ks ds).1 (putD f d ks ds).2) h2 (List.mem_map.mpr ⟨_, hm, rfl⟩) fun μ' H' pr hp => by
      obtain ⟨z1, z2⟩ := putD_ok (f := f) (p2.rp _ _ r1) hk rr
      exact ⟨dx, _, hp, z1, pr.all z2⟩
    exact el.nx _ _ _ _ (((g.step h1 p1).step h2 p2).step h3 p3) q4
  · exact q3.elim
/-- C(e, ..): what __init__ does with a new object of one's own, which then becomes a value -/
def jMake (Cl : Addr) (Ci : Ct) (tl : TDL) : TD := fun Ex Δ μ Q => tl Ex Δ μ fun ds μ1 => ∀ x, x ∉ μ1.own.map (·.1) → Ci (.ref x :: ds) (μ1.push x (.obj Cl [] [])) (fun v μ2 => v = .non ∧ ownO μ2 x fun C ks es => Q (.obj C ks es) (μ2.rid x)) Ex
variable {CX : CXT} {k : Nat} {C fi : Addr} {fd : FuncData} {ps : List Str} {Ci : Ct} {x : Str} {p : Pos}
theorem je_make (M : Mk X.K C fi) (F : FnOk X.prog X.w X.K X.mg X.base CX k fi fd ps (spOf Ci)) (hr : Room (k + 1) X.A) (hg : Gl X x) (hm : X.mg x = some (.ref C)) (hb : Binds X.K fd ps []) (hx : Passes CX X E)
    (ha : JA X E (e :: es) tl) (hdb : (x == ("__debug__" : Str)) = false := by decide) (he : starEach (e :: es) X.env = (false, eval e X.env) :: starEach es X.env := by rfl) (hpl : (backTo pos (starEach es X.env)).any (·.1) = false := by rfl) :
    JE X E (.Call (.Name x p) (e :: es) [] pos) (jMake C Ci tl) := by
  obtain ⟨r, p, s⟩ := ha
  refine ⟨_, pe_make M F hr hg hm hb .nil hx p hdb he hpl, fun B H0 μ0 Ex σ H Δ μ Q Q0 ex g h k => ?_⟩
  refine s B H0 μ0 Ex σ H Δ μ _ _ ex g h fun vs H1 ds μ1 h1 p1 r1 q1 => ?_
  intro x dx nx ndx ne
  rw [List.append_nil]
  have h2 := h1.new (o := .own x) ndx
  have p2 := h1.pnew (o := .own x) ndx
  have nx2 : (upd H1 dx (.own x)) x = none := by rw [upd_ne (fun z => ne z.symm)]; exact nx
  obtain ⟨h3, p3⟩ := pushO_ok (u := .ins C dx []) (o := .obj C [] []) h2 nx2 fun μ' H' pr hp => ⟨dx, [], hp, rfl, .nil⟩
  have px := p2.trans p3
  refine ⟨B, .ref x :: ds, μ1.push x (.obj C [] []), _, Ex, h3, .cons (.ref x) (px.all r1), q1 x (fun z => h1.free nx (.inr (.inr z))), ?_, ex.base ((g.pr.trans p1).trans px)⟩
  rintro v H4 d μ4 h4 p4 r4 ⟨rfl, q4⟩
  cases r4
  refine ⟨rfl, ?_⟩
  unfold ownO at q4
  split at q4
  · rename_i C' ks es' e4
    obtain ⟨h5, p5⟩ := rid_ok (p := x) h4
    exact k _ _ _ _ h5 (((p1.trans px).trans p4).trans p5) (rid_rpO h4 (lookup_mem e4)) q4
  · exact q4.elim
/-- o.m(e, ..), o an object -/
def jMeth (Cl : Addr) (m : Str) (C : Ct) (to : TD) (tl : TDL) : TD := fun Ex Δ μ Q => to Ex Δ μ fun x μ1 => onO3 (asO μ1 x) fun D ks _ => D = Cl ∧ m ∉ ks ∧ tl Ex Δ μ1 fun ds μ2 => C (x :: ds) μ2 Q Ex
variable {m : Str} {apos : Pos} {g : Addr} {Cm : Ct}
theorem lookup_none {fs : List (Str × V)} (h : m ∉ fs.map (·.1)) : fs.lookup m = none := by
  induction fs with
  | nil => rfl
  | cons q fs ih =>
    obtain ⟨g, y⟩ := q
    rw [List.map_cons, List.mem_cons, not_or] at h
    rw [List.lookup_cons, beq_eq_false_iff_ne.mpr h.1]
    exact ih h.2
theorem je_meth {pl : Sem Bool} (ho : JE X E o to) (c : Cls X.K C) (hm : Meth X.K C m g) (F : FnOk X.prog X.w X.K X.mg X.base CX k g fd ps (spOf Cm)) (hr : Room k X.A) (hb : Binds X.K fd ps []) (hx : Passes CX X E) (ha : JA X E (e :: es) tl)
    (hst : starEach (e :: es) X.env = (false, eval e X.env) :: starEach es X.env := by rfl) (hpl : (backTo pos (starEach es X.env)).any (·.1) = false := by rfl)
    (ht : eval (.Call (.Attribute o m apos) (e :: es) [] pos) X.env = (do
      let ov ← eval o X.env
      standAt apos.atName
      let (f, first) ← holding [ov] (getMethod ov m pl)
      callWith pos f first (backTo pos (starEach (e :: es) X.env)) (backToKw pos (keywordEach [] X.env))) := by rfl) :
    JE X E (.Call (.Attribute o m apos) (e :: es) [] pos) (jMeth C m Cm to tl) := by
  obtain ⟨r, p, s⟩ := ho
  obtain ⟨r2, p2, s2⟩ := ha
  refine ⟨_, pe_meth p c hm F hr hb .nil hx p2 hst hpl ht, fun B H0 μ0 Ex σ H Δ μ Q Q0 ex gg h k => ?_⟩
  refine s B H0 μ0 Ex σ H Δ μ _ _ ex gg h fun v H1 d μ1 h1 p1 r1 q1 => ?_
  unfold onO3 at q1
  split at q1
  · rename_i C' ks ds e1
    obtain ⟨rfl, hn, q2⟩ := q1
    obtain ⟨a, dx, fs, rfl, ha, hk, rr⟩ := asO_ok h1 r1 e1
    refine ⟨a, dx, fs, rfl, ha, lookup_none (by rw [hk]; exact hn), ?_⟩
    refine s2 B H0 μ0 Ex σ H1 Δ μ1 _ _ ex (gg.step h1 p1) q2 fun vs H2 es' μ2 h2 p2 r2 q3 => ?_
    rw [List.append_nil]
    exact ⟨B, d :: es', μ2, Q, Ex, h2, .cons (p2.rp _ _ r1) r2, q3, k.from (p1.trans p2), ex.base (gg.pr.trans (p1.trans p2))⟩
  · exact q1.elim
theorem je_meth0 {pl : Sem Bool} (ho : JE X E o to) (c : Cls X.K C) (hm : Meth X.K C m g) (F : FnOk X.prog X.w X.K X.mg X.base CX k g fd ps (spOf Cm)) (hr : Room k X.A) (hb : Binds X.K fd ps []) (hx : Passes CX X E)
    (ht : eval (.Call (.Attribute o m apos) [] [] pos) X.env = (do
      let ov ← eval o X.env
      standAt apos.atName
      let (f, first) ← holding [ov] (getMethod ov m pl)
      callWith pos f first (backTo pos (starEach [] X.env)) (backToKw pos (keywordEach [] X.env))) := by rfl) :
    JE X E (.Call (.Attribute o m apos) [] [] pos) (jMeth C m Cm to jNil) := by
  obtain ⟨r, p, s⟩ := ho
  refine ⟨_, pe_meth0 p c hm F hr hb .nil hx ht, fun B H0 μ0 Ex σ H Δ μ Q Q0 ex gg h k => ?_⟩
  refine s B H0 μ0 Ex σ H Δ μ _ _ ex gg h fun v H1 d μ1 h1 p1 r1 q1 => ?_
  unfold onO3 at q1
  split at q1
  · rename_i C' ks ds e1
    obtain ⟨rfl, hn, q2⟩ := q1
    obtain ⟨a, dx, fs, rfl, ha, hk, rr⟩ := asO_ok h1 r1 e1
    refine ⟨a, dx, fs, rfl, ha, lookup_none (by rw [hk]; exact hn), ?_⟩
    exact ⟨B, [d], μ1, Q, Ex, h1, .cons r1 .nil, q2, k.from p1, ex.base (gg.pr.trans p1)⟩
  · exact q1.elim
end
end J

set_option Elab.async false
set_option linter.all false
set_option maxRecDepth 100000
set_option maxHeartbeats 1000000
namespace J
open PySem L2
/-! ### errors with a value and a code: raised -/
def spErr (C : Addr) (c : Str) : Sp := fun vs H Q _ => ∃ a v, vs = [.ref a, v] ∧ H a = some (exo a C none) ∧
  ∀ dx, H dx = none → dx ≠ a → Q .non (upd (upd (upd H dx (exd dx [("value", v)])) a (exo a C (some dx))) dx (exd dx [("code", .str c), ("value", v)]))
theorem err_tr {K : PySem.W.Frag} {C a : Addr} {c : Str} {v : V} {H : Hp} {Q : VK} (T : OexC K C) (n1 : PySem.W.findIn K (.ref C) "value" = some none) (n2 : PySem.W.findIn K (.ref C) "code" = some none) (ha : H a = some (exo a C none))
    (q : ∀ dx, H dx = none → dx ≠ a → Q .non (upd (upd (upd H dx (exd dx [("value", v)])) a (exo a C (some dx))) dx (exd dx [("code", .str c), ("value", v)]))) :
    tSeq (tOst K "value" (tVar 0) (tVar 1)) (tOst K "code" (tVar 0) (tC (.str c))) { nx := fun _ H' => Q .non H', rt := Q } (L2.start ["self", "value"] [.ref a, v]) H := by
  refine ⟨v, rfl, .ref a, rfl, a, C, rfl, T, n1, .inl ⟨ha, fun dx hdx ne => ?_⟩⟩
  refine ⟨.ref a, rfl, a, C, rfl, T, n2, .inr ⟨dx, [("value", v)], upd_same, ?_, by show 1 ≤ 900; decide, q dx hdx ne⟩⟩
  rw [upd_ne ne]; exact upd_same
section
variable {X : Cx} {E : XK} {e : Expr} {es : List Expr} {pos p2 : Pos} {tl : TDL} {C fI : Addr} {c x : Str} {k : Nat} {fd : FuncData} {p : Pos}
def jRaise (C : Addr) (c : Str) (tl : TDL) : TSD := fun Ex _ Δ μ => tl Ex Δ μ fun ds μ1 => ∃ d l o, ds = [d] ∧ μ1.own = l ++ o ∧ Ex C [("code", .str c), ("value", d)] ⟨μ1.bag, o⟩
theorem js_raise (hc : X.calm = true) (tk : Takes X (fun cls d _ H => E cls d H)) (T : OexC X.K C) (iC : PySem.W.findIn X.K (.ref C) "__init__" = some (some (.ref fI))) (tI : PySem.W.typeIn X.K (.ref fI) = some (.type "function"))
    (F1 : FnOk X.prog X.w X.K X.mg X.base CX0 k fI fd ["self", "value"] (spErr C c)) (hr : Room (k + 1) X.A) (hb : Binds X.K fd ["self", "value"] []) (hx : Passes CX0 X (fun _ _ _ => False)) (hg : Gl X x) (hm : X.mg x = some (.ref C)) (ha : JA X E (e :: es) tl)
    (hdb : (x == ("__debug__" : Str)) = false := by decide) (he : starEach (e :: es) X.env = (false, eval e X.env) :: starEach es X.env := by rfl) (hpl : (backTo p2 (starEach es X.env)).any (·.1) = false := by rfl) :
    JS X E (.Raise (some (.Call (.Name x p) (e :: es) [] p2)) none pos) (jRaise C c tl) := by
  obtain ⟨r, pa, s⟩ := ha
  refine ⟨_, ps_raise hc tk (pmk_oex T iC tI F1 hr hb .nil hx hg hm pa hdb he hpl), fun B H0 μ0 Ex D' D σ H Δ μ ex el g h => ?_⟩
  refine s B H0 μ0 Ex σ H Δ μ _ _ ex g h fun vs H1 ds μ1 h1 p1 r1 ⟨d, l, o, q0, q1, q2⟩ => ?_
  subst q0
  obtain ⟨v, rfl, rv⟩ := rp1 r1
  refine ⟨by show 1 ≤ 1000; decide, fun a na => ?_⟩
  have ea : ∀ dx, dx ≠ a → (upd H1 a (exo a C none)) dx = none → H1 dx = none := fun dx ne h => by rwa [upd_ne ne] at h
  refine ⟨a, v, rfl, upd_same, fun dx hdx ne => ⟨rfl, dx, [("code", .str c), ("value", v)], ?_, upd_same, ea dx ne hdx, ?_⟩⟩
  · rw [upd_ne ne.symm]; exact upd_same
  · have nd := ea dx ne hdx
    have eq : (upd (del (upd (upd (upd (upd H1 a (exo a C none)) dx (exd dx [("value", v)])) a (exo a C (some dx))) dx (exd dx [("code", .str c), ("value", v)])) a) dx (.xd [("code", .str c), ("value", v)])) = upd H1 dx (.xd [("code", .str c), ("value", v)]) := by
      funext b
      by_cases hb : b = dx
      · rw [hb, upd_same, upd_same]
      · rw [upd_ne hb, upd_ne hb]
        by_cases hba : b = a
        · rw [hba, del_same, na]
        · rw [del_ne hba, upd_ne hb, upd_ne hba, upd_ne hb, upd_ne hba]
    show E (.ref C) (some dx) _
    rw [eq]
    obtain ⟨kd, hd⟩ := h1.drop q1
    have h2 := hd.new (o := .xd [("code", .str c), ("value", v)]) nd
    have pd := kd.pres (fun _ _ => rfl)
    have p2 := hd.pnew (o := .xd [("code", .str c), ("value", v)]) nd
    refine ex C dx _ ⟨μ1.bag, o⟩ [("code", .str c), ("value", v)] [("code", .str c), ("value", d)] h2 (g.pr.trans ((p1.trans pd).trans p2)) upd_same rfl (.cons (.str c) (.cons ((pd.trans p2).rp _ _ rv) .nil)) q2
end
end J

set_option Elab.async false
set_option linter.all false
set_option maxRecDepth 100000
set_option maxHeartbeats 1000000
namespace J
open PySem L2
section
variable {X : Cx} {E : XK} {e c : Expr} {es : List Expr} {ss : List Stmt} {pos p2 : Pos} {t : TD} {tl : TDL} {u : TDB} {body : TSD}
/-! ### while, by what holds before each round and a number that falls -/
def jWhile (u : TDB) (body : TSD) : TSD := fun Ex D' Δ μ => ∃ I : Nat → Del → Mu → Prop, (∃ m, I m Δ μ) ∧ ∀ m Δ μ, I m Δ μ → u Ex Δ μ fun b μ1 =>
  if b = true then body Ex { nx := fun Δ' μ' => ∃ m', m' < m ∧ I m' Δ' μ', rt := D'.rt, bk := D'.nx, ct := fun Δ' μ' => ∃ m', m' < m ∧ I m' Δ' μ' } Δ μ1 else D'.nx Δ μ1
theorem js_while (hp : PassesOwn (model X.prog X.w) X.A X.env X.xe) (hc : JT X E c u) (hb : JSs X E ss body) : JS X E (.While c ss [] pos) (jWhile u body) := by
  obtain ⟨r, p, s⟩ := hc
  obtain ⟨r2, p2, s2⟩ := hb
  refine ⟨_, ps_while hp p p2, fun B H0 μ0 Ex D' D σ H Δ μ ex el g h => ?_⟩
  obtain ⟨I, ⟨m0, hi⟩, turn⟩ := h
  refine ⟨fun m σ' H' => ∃ Δ' μ', Go B H μ σ' H' Δ' μ' ∧ I m Δ' μ', ⟨m0, Δ, μ, ⟨g.hok, g.st, Pres.refl⟩, hi⟩, ?_⟩
  rintro m σ' H' ⟨Δ', μ', g', hi'⟩
  have ex' := ex.base g.pr
  refine s B H μ Ex σ' H' Δ' μ' _ _ ex' g' (turn m Δ' μ' hi') fun b H1 μ1 h1 p1 q1 => ?_
  have g1 := g'.step h1 p1
  cases b with
  | true =>
    rw [if_pos rfl] at q1 ⊢
    refine ⟨fun σ2 H2 => ∃ Δ2 μ2, Go B H μ σ2 H2 Δ2 μ2 ∧ ∃ m', m' < m ∧ I m' Δ2 μ2, fun σ2 H2 ⟨Δ2, μ2, g2, m', hm, hi2⟩ => ⟨m', hm, Δ2, μ2, g2, hi2⟩, ?_⟩
    exact s2 B H μ Ex { nx := fun Δ' μ' => ∃ m', m' < m ∧ I m' Δ' μ', rt := D'.rt, bk := D'.nx, ct := fun Δ' μ' => ∃ m', m' < m ∧ I m' Δ' μ' } _ σ' H1 Δ' μ1 ex' ⟨fun σ4 H4 Δ4 μ4 g4 z => ⟨Δ4, μ4, g4, z⟩, fun v H4 d μ4 h4 p4 r4 z => el.rt v H4 d μ4 h4 (g.pr.trans p4) r4 z, fun σ4 H4 Δ4 μ4 g4 z => el.nx σ4 H4 Δ4 μ4 ⟨g4.hok, g4.st, g.pr.trans g4.pr⟩ z, fun σ4 H4 Δ4 μ4 g4 z => ⟨Δ4, μ4, g4, z⟩⟩ g1 q1
  | false =>
    rw [if_neg Bool.false_ne_true] at q1 ⊢
    exact el.nx _ _ _ _ ⟨g1.hok, g1.st, g.pr.trans g1.pr⟩ q1
def jBreak : TSD := fun _ D' Δ μ => D'.bk Δ μ
theorem js_break : JS X E (.Break pos) jBreak := ⟨_, ps_break, fun B H0 μ0 Ex D' D σ H Δ μ ex el g h => el.bk _ _ _ _ g h⟩
def jCont : TSD := fun _ D' Δ μ => D'.ct Δ μ
theorem js_cont : JS X E (.Continue pos) jCont := ⟨_, ps_continue, fun B H0 μ0 Ex D' D σ H Δ μ ex el g h => el.ct _ _ _ _ g h⟩
/-! ### gcd -/
def dGcd : CF := fun ds μ Q => match ds with
  | [.int a, .int b] => Q (.int ((Nat.gcd a.natAbs b.natAbs : Nat) : Int)) μ
  | _ => False
theorem rl_gcd : RLS rGcd dGcd := by
  intro B vs ds μ H Q Q0 h r q k
  unfold dGcd at q
  split at q
  · obtain ⟨v, w, rfl, r1, r2⟩ := rp2 r
    cases r1; cases r2
    exact ⟨_, _, rfl, k.here h (.int _) q⟩
  · exact q.elim
theorem je_gcd {x : Str} {p : Pos} (hg : Gl X x) (hm : X.mg x = some (.builtin "math.gcd")) (ha : JA X E (e :: es) tl) (hdb : (x == ("__debug__" : Str)) = false := by decide)
    (he : starEach (e :: es) X.env = (false, eval e X.env) :: starEach es X.env := by rfl) (hpl : (backTo pos (starEach es X.env)).any (·.1) = false := by rfl) : JE X E (.Call (.Name x p) (e :: es) [] pos) (jCB dGcd tl) := by
  obtain ⟨ra, pa, sa⟩ := ha
  exact ⟨_, pe_callBfun cr_gcd hg hm pa hdb he hpl, se_cb rl_gcd sa⟩
end
end J

set_option Elab.async false
set_option linter.all false
set_option maxRecDepth 100000
set_option maxHeartbeats 1000000
namespace J
open PySem L2
section
variable {X : Cx} {E : XK} {e e2 e3 tg a b : Expr} {es : List Expr} {ss : List Stmt} {pos p2 : Pos} {t ta tb te : TD} {tl : TDL} {u : TDB}
/-- a, b = x, y -/
def jPar (i j : Nat) (tl : TDL) : TSD := fun Ex D' Δ μ => tl Ex Δ μ fun ds μ1 => match ds with | [x, y] => D'.nx ((Δ.set i (some x)).set j (some y)) μ1 | _ => False
theorem js_par (i j : Nat) {x y : Str} {px py pt : Pos} {kt k2 : Nat} {pt2 : Pos} (hc : X.calm = true) (hN : X.N.Nodup) (ha : JA X E [a, b] tl) (hi : X.N[i]? = some x := by rfl) (hj : X.N[j]? = some y := by rfl) (hij : i ≠ j := by decide)
    (hx : X.env.scope.names.lookup x = some .local := by rfl) (hy : X.env.scope.names.lookup y = some .local := by rfl)
    (hw : swappedStores [.Tuple [.Name x px, .Name y py] kt pt] (.Tuple [a, b] k2 pt2) X.env = pure (some [x, y]) := by rfl)
    (hs : swapsWithSole [.Tuple [.Name x px, .Name y py] kt pt] (.Tuple [a, b] k2 pt2) pos.line X.env = pure false := by rfl) : JS X E (.Assign [.Tuple [.Name x px, .Name y py] kt pt] (.Tuple [a, b] k2 pt2) pos) (jPar i j tl) := by
  obtain ⟨r, p, s⟩ := ha
  refine ⟨_, ps_par hc hN hi hj hij hx hy p hw hs, fun B H0 μ0 Ex D' D σ H Δ μ ex el g h => ?_⟩
  refine s B H0 μ0 Ex σ H Δ μ _ _ ex g h fun vs H1 ds μ1 h1 p1 r1 q1 => ?_
  split at q1
  · obtain ⟨v, w, rfl, rx, ry⟩ := rp2 r1
    exact ⟨v, w, rfl, el.nx _ _ _ _ (((g.step h1 p1).set i rx).set j ry) q1⟩
  · exact q1.elim
/-- target = e -/
def jAsg (g : GD) (te : TD) : TSD := fun Ex D' Δ μ => te Ex Δ μ fun d μ1 => g d Δ μ1 D'.nx
theorem js_asg {g : GD} {ws : List Nat} (he : JE X E e te) (hg : JG X tg g ws) (hs : swapsWithSole [tg] e pos.line X.env = pure false := by rfl) (hw : swappedStores [tg] e X.env = pure none := by rfl)
    (h1 : (assignEach [tg] X.env).map (·.2) = [assign tg X.env] := by rfl) : JS X E (.Assign [tg] e pos) (jAsg g te) := by
  obtain ⟨r, p, s⟩ := he
  obtain ⟨gg, pg, sg⟩ := hg
  refine ⟨_, ps_asg p pg hs hw h1, fun B H0 μ0 Ex D' D σ H Δ μ ex el g0 h => ?_⟩
  refine s B H0 μ0 Ex σ H Δ μ _ _ ex g0 h fun v H1 d μ1 h1 p1 r1 q1 => ?_
  exact sg B H0 μ0 σ H1 Δ μ1 v d _ _ (g0.step h1 p1) r1 q1 fun σ2 H2 Δ2 μ2 g2 _ _ q2 => el.nx _ _ _ _ g2 q2
/-- xs.insert(i, y), xs one's own -/
def jIns (t : TD) (tl : TDL) : TD := fun Ex Δ μ Q => t Ex Δ μ fun x μ1 => onRef x fun a => ownL μ1 a fun _ => tl Ex Δ μ1 fun ys μ2 => match ys with
  | [.int i, y] => ownL μ2 a fun ds => ds.length < sizeLine ∧ 0 ≤ i ∧ i < 2 ^ 63 ∧ Q .non (μ2.put a (.lst (ds.take i.toNat ++ [y] ++ ds.drop i.toNat)))
  | _ => False
theorem je_ins {apos cpos : Pos} (ho : JE X E e t) (ha : JA X E [e2, e3] tl) (hbase : attributeBase e "insert" X.env (eval e X.env) = eval e X.env := by rfl)
    (hfew : ((backTo cpos (starEach [e2, e3] X.env)).all (fun x => !x.1) && (backToKw cpos (keywordEach [] X.env)).all (fun x => x.1.isSome)
      && decide ([e2, e3].length + ([] : List Keyword).length + (if ([] : List Keyword).isEmpty then 0 else 1) < 30)) = true := by rfl)
    (hline : (apos.endLine == cpos.line) = true := by rfl) (hs : starEach [e2, e3] X.env = (false, eval e2 X.env) :: starEach [e3] X.env := by rfl) (hplain : (backTo cpos (starEach [e3] X.env)).any (·.1) = false := by rfl) :
    JE X E (.Call (.Attribute e "insert" apos) [e2, e3] [] cpos) (jIns t tl) := by
  obtain ⟨r, p, s⟩ := ho
  obtain ⟨r2, p2, s2⟩ := ha
  refine ⟨_, pe_bm PySem.F.plainAttrs_list PySem.F.slot_list_insert PySem.F.type_list_insert mt_insert p p2 hbase hfew hline hs hplain, fun B H0 μ0 Ex σ H Δ μ Q Q0 ex g h k => ?_⟩
  refine s B H0 μ0 Ex σ H Δ μ _ _ ex g h fun v H1 d μ1 h1 p1 r1 q1 => ?_
  obtain ⟨a, rfl, rfl, q2⟩ := onRef_ok r1 q1
  obtain ⟨ds, xs, m1, hx, rr, q3⟩ := ownL_ok h1 q2
  refine ⟨.inl ⟨rfl, _, sqL hx⟩, ?_⟩
  refine s2 B H0 μ0 Ex σ H1 Δ μ1 _ _ ex (g.step h1 p1) q3 fun ws H2 ys μ2 h2 p2 r2 q4 => ?_
  split at q4
  · rename_i i y
    obtain ⟨v1, v2, rfl, ri, ry⟩ := rp2 r2
    cases ri
    obtain ⟨ds2, xs2, m2, hx2, rr2, z1, z2, z3, q5⟩ := ownL_ok h2 q4
    obtain ⟨h3, p3⟩ := put_ok h2 (List.mem_map.mpr ⟨_, m2, rfl⟩) (((rr2.take i.toNat).app (.cons ry .nil)).app (rr2.drop i.toNat))
    exact ⟨a, xs2, i, v2, rfl, rfl, hx2, by rw [rr2.len]; exact z1, z2, z3, k _ _ _ _ h3 ((p1.trans p2).trans p3) .non q5⟩
  · exact q4.elim
end
end J

set_option Elab.async false
set_option linter.all false
set_option maxRecDepth 100000
set_option maxHeartbeats 1000000
namespace J
open PySem L2
section
variable {X : Cx} {E : XK} {pos : Pos}
/-- a number, a text of the module's own names -/
theorem je_gint {x : Str} {i : Int} {tk : Tok} (hg : Gl X x) (hm : X.mg x = some (.int i tk)) (hd : (x == ("__debug__" : Str)) = false := by decide) : JE X E (.Name x pos) (jC (.int i)) :=
  ⟨_, pe_glob (v := .int i) hg hm ⟨_, rfl⟩ hd, fun _ _ _ _ _ _ _ _ _ _ _ g h k => k.here g.hok (.int i) h⟩
theorem je_gstr {x : Str} {z : Str} {tk : Tok} (hg : Gl X x) (hm : X.mg x = some (.str z tk)) (hd : (x == ("__debug__" : Str)) = false := by decide) : JE X E (.Name x pos) (jC (.str z)) :=
  ⟨_, pe_glob (v := .str z) hg hm ⟨_, rfl⟩ hd, fun _ _ _ _ _ _ _ _ _ _ _ g h k => k.here g.hok (.str z) h⟩
/-- str of a number, of a text -/
def dStr : CF := fun ds μ Q => match ds with
  | [.int i] => i.natAbs.log2 < 1920 ∧ Q (.str (toString i)) μ
  | [.str s] => Q (.str s) μ
  | _ => False
def rStrJ : List V → Hp → VK → Prop := fun xs H Q => (∃ i : Int, xs = [.int i] ∧ i.natAbs.log2 < 1920 ∧ Q (.str (toString i)) H) ∨ (∃ a, xs = [.str a] ∧ Q (.str a) H)
theorem cr_str : CallR X (.type "str") rStrJ := fun pins s σ H xs us Q I r h => h.elim (call_str_int pins s σ H xs us Q I r) (SkE.call_str_str pins s σ H xs us Q I r)
theorem rl_str : RLS rStrJ dStr := by
  intro B vs ds μ H Q Q0 h r q k
  unfold dStr at q
  split at q
  · obtain ⟨v, rfl, r1⟩ := rp1 r
    cases r1
    exact .inl ⟨_, rfl, q.1, k.here h (.str _) q.2⟩
  · obtain ⟨v, rfl, r1⟩ := rp1 r
    cases r1
    exact .inr ⟨_, rfl, k.here h (.str _) q⟩
  · exact q.elim
/-- divmod -/
def dDivmod : CF := fun ds μ Q => match ds with
  | [.int i, .int j] => CDivP i j ∧ Q (.tup [.int (i / j), .int (i % j)]) μ
  | _ => False
def rDivmodJ : List V → Hp → VK → Prop := fun xs H Q => ∃ i j, xs = [.int i, .int j] ∧ CDivP i j ∧ ∀ p, H p = none → Q (.ref p) (upd H p (.tup [.int (i / j), .int (i % j)]))
theorem cr_divmod : CallR X (.builtin "divmod") rDivmodJ := call_divmodW
theorem rl_divmod : RLS rDivmodJ dDivmod := by
  intro B vs ds μ H Q Q0 h r q k
  unfold dDivmod at q
  split at q
  · obtain ⟨v, w, rfl, r1, r2⟩ := rp2 r
    cases r1; cases r2
    exact ⟨_, _, rfl, q.1, fun p hp => k.newT h (.cons (.int _) (.cons (.int _) .nil)) q.2 hp⟩
  · exact q.elim
/-- min, max of two numbers -/
def dMin2 : CF := fun ds μ Q => match ds with
  | [.int i, .int j] => Q (.int (if j < i then j else i)) μ
  | _ => False
def rMin2J : List V → Hp → VK → Prop := fun xs H Q => ∃ i j, xs = [.int i, .int j] ∧ Q (.int (if j < i then j else i)) H
theorem cr_min2 (hc : X.calm = true) : CallR X (.builtin "min") rMin2J := call_min2 hc
theorem rl_min2 : RLS rMin2J dMin2 := by
  intro B vs ds μ H Q Q0 h r q k
  unfold dMin2 at q
  split at q
  · obtain ⟨v, w, rfl, r1, r2⟩ := rp2 r
    cases r1; cases r2
    exact ⟨_, _, rfl, k.here h (.int _) q⟩
  · exact q.elim
/-- sum of numbers -/
def intsOf : List D → Option (List Int)
  | [] => some []
  | .int b :: ds => (intsOf ds).map (b :: ·)
  | _ => none
theorem intsOf_ok {B : List Addr} {μ : Mu} {H : Hp} : ∀ {ds : List D} {vs : List V} {bs : List Int}, RpL B μ H vs ds → intsOf ds = some bs → vs = bs.map V.int
  | [], _, _, r, e => by cases r; cases e; rfl
  | d :: ds, _, _, r, e => by
    cases r with
    | cons r1 r2 =>
      cases r1 <;> first
        | (unfold intsOf at e
           obtain ⟨cs, e1, e2⟩ := Option.map_eq_some_iff.mp e
           subst e2
           rw [intsOf_ok r2 e1]; rfl)
        | (unfold intsOf at e; cases e)
def dSum : CF := fun ds μ Q => match ds with
  | [d] => match asL μ d with
    | some xs => (match intsOf xs with | some ns => Q (.int ns.sum) μ | none => False)
    | none => False
  | _ => False
theorem rl_sum : RLS (rSum X.K) dSum := by
  intro B vs ds μ H Q Q0 h r q k
  unfold dSum at q
  split at q
  · obtain ⟨v, rfl, r1⟩ := rp1 r
    split at q
    · rename_i xs hd
      split at q
      · rename_i ns hn
        obtain ⟨a, ys, rfl, hx, rr⟩ := asL_ok h r1 hd
        have := intsOf_ok rr hn
        subst this
        exact ⟨_, _, rfl, sqL hx, k.here h (.int _) q⟩
      · exact q.elim
    · exact q.elim
  · exact q.elim
end
end J

set_option Elab.async false
set_option linter.all false
set_option maxRecDepth 100000
set_option maxHeartbeats 1000000
namespace J
open PySem L2
section
variable {X : Cx} {E : XK} {e a : Expr} {pos : Pos} {t ta : TD}
/-- enumerate of a list -/
def enumFrom (n : Nat) : List D → List D
  | [] => []
  | d :: ds => .tup [.int (n : Nat), d] :: enumFrom (n + 1) ds
theorem enum_len : ∀ {n : Nat} {ds : List D}, (enumFrom n ds).length = ds.length
  | _, [] => rfl
  | n, d :: ds => by unfold enumFrom; simp [enum_len]
theorem enum_get : ∀ {n i : Nat} {ds : List D} {d : D}, ds[i]? = some d → (enumFrom n ds)[i]? = some (.tup [.int ((n + i : Nat) : Int), d])
  | _, _, [], _, h => by simp at h
  | n, 0, d :: ds, _, h => by simp at h; subst h; rfl
  | n, i + 1, d :: ds, _, h => by
    have := enum_get (n := n + 1) (i := i) (ds := ds) (by simpa using h)
    unfold enumFrom
    rw [List.getElem?_cons_succ, this]
    have e : n + 1 + i = n + (i + 1) := by omega
    rw [e]
theorem ite_ok {K : PySem.W.Frag} {B : List Addr} {μ : Mu} {H : Hp} {a : Addr} {ds : List D} (r : Rp B μ H (.ref a) (.lst ds)) : ItOk (Ite K a) B μ H (enumFrom 0 ds) := fun B' μ' H' h' k i => by
  have r' := k _ _ r
  cases r' with
  | lst hx nx rr =>
    rw [enum_len]
    refine ⟨fun hi => ?_, fun hi => ⟨_, sqL hx, by rw [rr.len, hi]; exact Nat.le_refl _⟩⟩
    obtain ⟨v, hv, rv⟩ := rr.get (List.getElem?_eq_getElem hi)
    refine ⟨⟨_, v, sqL hx, hv⟩, fun z H'' ⟨T, x, e1, nT, e2, f⟩ => ?_⟩
    have g := f _ (sqL hx)
    rw [hv] at g; cases g
    subst e1 e2
    refine ⟨h'.new nT, h'.pnew nT, _, enum_get (List.getElem?_eq_getElem hi), ?_⟩
    rw [Nat.zero_add]
    exact newT h' (.cons (.int _) (.cons rv .nil)) nT
def jEnum (t : TD) : TDL := fun Ex Δ μ Q => t Ex Δ μ fun x μ1 => match x with | .lst ds => Q (enumFrom 0 ds) μ1 | _ => False
theorem ji_enum {p tpos : Pos} {elts : List Expr} {kk : Nat} (hg : Gl X "enumerate") (hm : X.mg "enumerate" = none) (ha : JE X E e t) (hs : starEach [e] X.env = [(false, eval e X.env)] := by rfl) :
    JI X E (.Tuple elts kk tpos) (.Call (.Name "enumerate" p) [e] [] pos) (jEnum t) := by
  obtain ⟨r, pa, s⟩ := ha
  refine ⟨_, pi_enum hg hm (pa_cons pa pa_nil hs) hs, fun B H0 μ0 Ex σ H Δ μ Q R ex g h k => ?_⟩
  refine s B H0 μ0 Ex σ H Δ μ _ _ ex g h fun v H1 d μ1 h1 p1 r1 q1 => ?_
  split at q1
  · have z := r1
    cases r1 with | lst hx _ _ => exact ⟨_, _, rfl, sqL hx, k _ _ _ _ h1 p1 (ite_ok z) q1⟩
  · exact q1.elim
/-- x += e, x -= e, numbers -/
def jAug (i : Nat) (f : Int → Int → Int) (t : TD) : TSD := fun Ex D' Δ μ => match Δ[i]? with
  | some (some (.int n)) => t Ex Δ μ fun d μ1 => match d with | .int m => D'.nx (Δ.set i (some (.int (f n m)))) μ1 | _ => False
  | _ => False
theorem js_aug {op : Operator} {f : Int → Int → Int} (ho : PIp X op (ipI f)) (i : Nat) {x : Str} {pos' : Pos} (hN : X.N.Nodup) (he : JE X E e t) (hi : X.N[i]? = some x := by rfl) (hx : Loc X.env.scope x := by first | exact .inl rfl | exact .inr rfl)
    (hf : X.fn x = true ∨ X.env.scope.names.lookup x = some .local := by first | exact .inl rfl | exact .inr rfl | assumption) : JS X E (.AugAssign (.Name x pos') op e pos) (jAug i f t) := by
  obtain ⟨r, p, s⟩ := he
  refine ⟨_, ps_aug hN hi hx p ho hf, fun B H0 μ0 Ex D' D σ H Δ μ ex el g h => ?_⟩
  unfold jAug at h
  split at h
  · rename_i n e1
    obtain ⟨v, hv, rv⟩ := g.st.at_ i _ e1
    cases rv
    refine ⟨_, hv, ?_⟩
    refine s B H0 μ0 Ex σ H Δ μ _ _ ex g h fun w H1 d μ1 h1 p1 r1 q1 => ?_
    split at q1
    · rename_i m
      cases r1
      exact ⟨n, m, rfl, rfl, el.nx _ _ _ _ ((g.step h1 p1).set i (.int _)) q1⟩
    · exact q1.elim
  · exact h.elim
end
end J

set_option Elab.async false
set_option linter.all false
set_option maxRecDepth 100000
set_option maxHeartbeats 1000000
namespace J
open PySem L2
/-! ### dicts whose keys are tuples of numbers and texts -/
def keyD : D → Option Key
  | .int i => some (.inl i)
  | .str s => some (.inr s)
  | _ => none
def keysD : List D → Option (List Key)
  | [] => some []
  | d :: ds => (keyD d).bind fun k => (keysD ds).map (k :: ·)
def asT (μ : Mu) : D → Option (List (List Key) × List D)
  | .dct ks ds => some (ks, ds)
  | .ref a => match μ.own.lookup a with | some (.dct ks ds) => some (ks, ds) | _ => none
  | _ => none
section
variable {B : List Addr} {μ : Mu} {H : Hp} {v : V} {d : D} {p : Addr} {ks : List (List Key)} {ds : List D}
theorem keyD_ok {k : Key} (r : Rp B μ H v d) (e : keyD d = some k) : v = kV k := by
  cases r <;> cases e <;> rfl
theorem keysD_ok : ∀ {ds : List D} {vs : List V} {k : List Key}, RpL B μ H vs ds → keysD ds = some k → vs = k.map kV
  | [], _, _, r, e => by cases r; cases e; rfl
  | d :: ds, _, _, r, e => by
    cases r with
    | cons r1 r2 =>
      unfold keysD at e
      obtain ⟨k, e1, e2⟩ := Option.bind_eq_some_iff.mp e
      obtain ⟨l, e3, e4⟩ := Option.map_eq_some_iff.mp e2
      subst e4
      rw [keyD_ok r1 e1, keysD_ok r2 e3]; rfl
theorem asT_ok (h : HOK B μ H) (r : Rp B μ H v d) (e : asT μ d = some (ks, ds)) : ∃ a kvs, v = .ref a ∧ H a = some (.dT kvs) ∧ kvs.map (·.1) = ks ∧ RpL B μ H (kvs.map (·.2)) ds := by
  unfold asT at e
  split at e
  · cases e
    cases r with
    | dct h n k r => exact ⟨_, _, rfl, h, k, r⟩
  · split at e
    · rename_i e2
      cases e
      cases r
      obtain ⟨kvs, q, k, r⟩ := h.own _ (lookup_mem e2)
      exact ⟨_, kvs, rfl, q, k, r⟩
    · cases e
  · cases e
def hasK (ks : List (List Key)) (k : List Key) : Bool := ks.any fun x => decide (x = k)
theorem val_has {kvs : List (List Key × V)} {k : List Key} : (valV kvs k).isSome = hasK (kvs.map (·.1)) k := by
  unfold valV hasK
  rw [Option.isSome_map, List.any_map, Bool.eq_iff_iff, List.find?_isSome, List.any_eq_true]
  rfl
end
section
variable {X : Cx} {E : XK} {e o i : Expr} {pos : Pos} {t ti td te : TD}
def dInT (neg : Bool) (x y : D) (μ : Mu) (Q : KD) : Prop := match x with
  | .tup ds => (match keysD ds with
    | some k => (match asT μ y with | some (ks, _) => Q (.bl (neg ^^ hasK ks k)) μ | none => False)
    | none => False)
  | _ => False
theorem dInT_ok {neg : Bool} {B : List Addr} {μ : Mu} {H : Hp} {v w : V} {x y : D} {Q : KD} (h : HOK B μ H) (rx : Rp B μ H v x) (ry : Rp B μ H w y) (q : dInT neg x y μ Q) : ∃ a o, w = .ref a ∧ DGet H a v o ∧ Q (.bl (neg ^^ o.isSome)) μ := by
  unfold dInT at q
  split at q
  · split at q
    · rename_i k hk
      split at q
      · rename_i ks es hy
        obtain ⟨a, kvs, rfl, ha, hks, _⟩ := asT_ok h ry hy
        cases rx with
        | tup hx n rr =>
          obtain rfl := keysD_ok rr hk
          refine ⟨a, _, rfl, .t ha hx, ?_⟩
          rw [val_has, hks]; exact q
      · exact q.elim
    · exact q.elim
  · exact q.elim
theorem je_inT (hu : X.A.units + 1 < cLine) (hi : JE X E i ti) (ho : JE X E o td) (hm : behindInMarks .In o = false := by rfl) : JE X E (.Compare i [.In] [o] pos) (jBin (dInT false) ti td) := by
  obtain ⟨r, p, s⟩ := hi
  obtain ⟨r2, p2, s2⟩ := ho
  refine ⟨_, pe_cmp (pc_din hu p p2) hm, fun B H0 μ0 Ex σ H Δ μ Q Q0 ex g h k => ?_⟩
  refine s B H0 μ0 Ex σ H Δ μ _ _ ex g h fun v H1 x μ1 h1 p1 r1 q1 => ?_
  refine s2 B H0 μ0 Ex σ H1 Δ μ1 _ _ ex (g.step h1 p1) q1 fun w H2 y μ2 h2 p2 r2 q2 => ?_
  obtain ⟨a, o, e1, gg, q⟩ := dInT_ok h2 (p2.rp _ _ r1) r2 q2
  rw [Bool.false_xor] at q
  exact ⟨a, o, e1, gg, k _ _ _ _ h2 (p1.trans p2) (.bl _) q⟩
theorem je_notInT (hu : X.A.units + 1 < cLine) (hi : JE X E i ti) (ho : JE X E o td) (hm : behindInMarks .NotIn o = false := by rfl) : JE X E (.Compare i [.NotIn] [o] pos) (jBin (dInT true) ti td) := by
  obtain ⟨r, p, s⟩ := hi
  obtain ⟨r2, p2, s2⟩ := ho
  refine ⟨_, pe_cmp (pc_dnotin hu p p2) hm, fun B H0 μ0 Ex σ H Δ μ Q Q0 ex g h k => ?_⟩
  refine s B H0 μ0 Ex σ H Δ μ _ _ ex g h fun v H1 x μ1 h1 p1 r1 q1 => ?_
  refine s2 B H0 μ0 Ex σ H1 Δ μ1 _ _ ex (g.step h1 p1) q1 fun w H2 y μ2 h2 p2 r2 q2 => ?_
  obtain ⟨a, o, e1, gg, q⟩ := dInT_ok h2 (p2.rp _ _ r1) r2 q2
  rw [Bool.true_xor] at q
  exact ⟨a, o, e1, gg, k _ _ _ _ h2 (p1.trans p2) (.bl _) q⟩
end
end J

set_option Elab.async false
set_option linter.all false
set_option maxRecDepth 100000
set_option maxHeartbeats 1000000
namespace J
open PySem L2
section
variable {X : Cx} {E : XK} {s : Stmt} {e : Expr} {pos : Pos}
/-! ### what is never reached -/
def jDeadS : TSD := fun _ _ _ _ => False
theorem js_dead : JS X E s jDeadS := ⟨fun _ _ _ => False, ⟨fun _ _ _ _ _ _ h => h.elim⟩, fun _ _ _ _ _ _ _ _ _ _ _ _ _ h => h⟩
theorem jss_dead {ss : List Stmt} : JSs X E ss jDeadS := ⟨fun _ _ _ => False, ⟨fun _ _ _ _ _ _ h => h.elim⟩, fun _ _ _ _ _ _ _ _ _ _ _ _ _ h => h⟩
def jDead : TD := fun _ _ _ _ => False
theorem je_dead : JE X E e jDead := ⟨fun _ _ _ => False, ⟨fun _ _ _ _ _ _ h => h.elim⟩, fun _ _ _ _ _ _ _ _ _ _ _ _ h _ => h⟩
end
/-! ### a class of the program's own -/
structure OCls (K : PySem.W.Frag) (C : Addr) : Prop where
  cl : Cls K C
  sf : PySem.W.selfFirst K C = true
  ca : PySem.W.findIn K (.ref C) "__class__" = some (some (.builtin "object.__class__"))
  cn : PySem.W.specialIn K (.builtin "object.__class__") "__get__" = some (some (.builtin "getset_descriptor.__get__"))
  ct : PySem.W.takesIn K (.builtin "object.__class__") = some true
  cm : PySem.W.mroIn K C (.type "object") = some true
section
variable {X : Cx} {CX : CXT} {pins : List (Addr × Obj)} {σ : L2.St} {H : Hp} {s : Shared} {n : Nat} {C f : Addr} {fd : FuncData} {ps : List Str} {sp : Sp} {E : XK}
/-- a def that is called from within the running body -/
theorem run_ok {A : Around} {Q : VK} {us : List Value} {vs : List V} (F : FnOk X.prog X.w X.K X.mg X.base CX n f fd ps sp) (hr : Room n A) (fr : A.frames = X.A.frames) (hb : Binds X.K fd ps []) (hx : Passes CX X E) (I : Inv X pins σ H s) (r : Vals vs us) (h : sp vs H Q E) :
    wpAny (model X.prog X.w) A (call (.ref f) us) (EP X pins σ Q) X.xe s := by
  have e0 : Env0 X.prog X.w X.K X.mg X.base A X.stack s H := by
    have e := I.env0
    exact ⟨by rw [fr]; exact e.frames, e.mod, e.bs, e.bsz, e.funs, e.frf, e.hok, e.bare⟩
  have hl := F.len _ _ _ _ h
  have hl2 : us.length = ps.length := by rw [← r.length]; exact hl
  refine wpAny_call (codeAny_mono (F.run A X.stack s H ⟨us, []⟩ us vs _ E hr e0 (by
    have := hb s us I.kIn (by simpa using hl2)
    simpa using this) r h) fun r s' hq => ?_)
  cases r with
  | error e => exact hx pins σ H s e s' I hq
  | ok fl =>
    cases fl with
    | ret w => exact I.after hq
    | next => exact False.elim hq
    | brk => exact False.elim hq
    | cont => exact False.elim hq
def rOwnB (C : Addr) (sp : Sp) (E : XK) : R2 := fun x y H Q => ∃ a b dx fs dy gs, x = .ref a ∧ y = .ref b ∧ H a = some (.ins C dx fs) ∧ H b = some (.ins C dy gs) ∧ sp [x, y] H Q E
theorem op_ownB {op : Operator} (c : OCls X.K C) (hs : PySem.W.findIn X.K (.ref C) (PySem.dunder op.info.2) = some (some (.ref f))) (hf : PySem.W.isFn X.K (.ref f) = true)
    (F : FnOk X.prog X.w X.K X.mg X.base CX n f fd ps sp) (hr : Room n X.A) (hb : Binds X.K fd ps []) (hx : Passes CX X E) : OpR X (binaryOp op) (rOwnB C sp E) := by
  intro pins s σ H x y v u Q I rx ry h
  obtain ⟨a, b, dx, fs, dy, gs, rfl, rfl, ha, hb', q⟩ := h
  cases (show v = Value.ref a from rx)
  cases (show u = Value.ref b from ry)
  obtain ⟨mA, J, _⟩ := ins_get I.hok ha
  obtain ⟨mB, J', _⟩ := ins_get I.hok hb'
  obtain ⟨od, J, _⟩ := J.look
  obtain ⟨od', J', _⟩ := J'.look
  obtain ⟨m, hF⟩ := I.fr
  refine PySem.W.binop_K hF I.ok.mod.kin J J'.type c.sf hs hf (wpAny_mono (run_ok (us := [.ref a, .ref b]) (vs := [.ref a, .ref b]) F hr rfl hb hx I (.cons rfl (.cons rfl .nil)) q) (fun w s' z => ?_) fun _ _ x => x)
  obtain ⟨z', H', I', rz, qz⟩ := z
  exact SlX.cmpback rz ⟨z', H', I', rz, qz⟩
theorem op_ownC {op : CmpOp} (hop : ∀ a b, compareOp op a b = richCompare op a b) (hs : PySem.W.findIn X.K (.ref C) (cmpInfo op).2.1 = some (some (.ref f))) (hf : PySem.W.isFn X.K (.ref f) = true)
    (F : FnOk X.prog X.w X.K X.mg X.base CX n f fd ps sp) (hr : Room n X.A) (hb : Binds X.K fd ps []) (hx : Passes CX X E) : OpR X (compareOp op) (rOwnB C sp E) := by
  intro pins s σ H x y v u Q I rx ry h
  obtain ⟨a, b, dx, fs, dy, gs, rfl, rfl, ha, hb', q⟩ := h
  cases (show v = Value.ref a from rx)
  cases (show u = Value.ref b from ry)
  obtain ⟨mA, J, _⟩ := ins_get I.hok ha
  obtain ⟨mB, J', _⟩ := ins_get I.hok hb'
  obtain ⟨od, J, _⟩ := J.look
  obtain ⟨od', J', _⟩ := J'.look
  obtain ⟨m, hF⟩ := I.fr
  rw [hop]
  refine PySem.W.cmp_K (op := op) (tb := .ref C) hr.units0 hF I.ok.mod.kin J J'.type (by simp [PySem.W.notFirst]) hs hf (wpAny_mono (run_ok (us := [.ref a, .ref b]) (vs := [.ref a, .ref b]) F hr rfl hb hx I (.cons rfl (.cons rfl .nil)) q) (fun w s' z => ?_) fun _ _ x => x)
  obtain ⟨z', H', I', rz, qz⟩ := z
  exact SlX.cmpback rz ⟨z', H', I', rz, qz⟩
/-- an object and a number -/
def rOwnI (C : Addr) (sp : Sp) (E : XK) : R2 := fun x y H Q => ∃ a dx fs i, x = .ref a ∧ y = .int i ∧ H a = some (.ins C dx fs) ∧ sp [x, y] H Q E
theorem op_ownI {op : Operator} {fo ro rc : Option Value} (c : OCls X.K C) (hs : PySem.W.findIn X.K (.ref C) (PySem.dunder op.info.2) = some (some (.ref f))) (hf : PySem.W.isFn X.K (.ref f) = true)
    (hrc : PySem.W.findIn X.K (.ref C) (dunderR op.info.2) = some rc) (hp : rc = none ∨ ∃ g : Addr, rc = some (.ref g))
    (h1 : PySem.W.findIn X.K (.type "int") (PySem.dunder op.info.2) = some fo) (h2 : PySem.W.findIn X.K (.type "int") (dunderR op.info.2) = some ro) (hsub : PySem.W.subIn X.K (.type "int") (.ref C) = some false)
    (F : FnOk X.prog X.w X.K X.mg X.base CX n f fd ps sp) (hr : Room n X.A) (hb : Binds X.K fd ps []) (hx : Passes CX X E) : OpR X (binaryOp op) (rOwnI C sp E) := by
  intro pins s σ H x y v u Q I rx ry h
  obtain ⟨a, dx, fs, i, rfl, rfl, ha, q⟩ := h
  cases (show v = Value.ref a from rx)
  obtain ⟨t, rfl⟩ := (show ∃ t, u = Value.int i t from ry)
  obtain ⟨mA, J, _⟩ := ins_get I.hok ha
  obtain ⟨od, J, _⟩ := J.look
  obtain ⟨m, hF⟩ := I.fr
  refine PySem.W.ksp_binT (T := "int") hF I.ok.mod.kin J rfl c.sf hs hf hrc hp h1 h2 hsub (wpAny_mono (run_ok (us := [.ref a, .int i t]) (vs := [.ref a, .int i]) F hr rfl hb hx I (.cons rfl (.cons ⟨t, rfl⟩ .nil)) q) (fun w s' z => ?_) fun _ _ x => x)
  obtain ⟨z', H', I', rz, qz⟩ := z
  exact SlX.cmpback rz ⟨z', H', I', rz, qz⟩
/-- a number and an object: the number's own operation declines -/
theorem int_mul_obj (a : Int) (t : Tok) (l : Addr) (o : Obj) (hd : o.data = .plain) :
    Meets (Builtin.«int.__mul__» ⟨[.int a t, .ref l], []⟩) (fun _ R s => s.heap.get? l = some o ∧ R (.ok (.ret Value.notImplemented)) s) :=
  .of_wp fun prog w A R s h => by
    obtain ⟨cls, dd, data, sl⟩ := o
    simp only at hd
    subst hd
    obtain ⟨hp, g, d, tk, os⟩ := s
    obtain ⟨hl, h⟩ := h
    wp_walk
    exact ⟨_, rfl, h⟩
set_option maxHeartbeats 0 in
theorem bin_rI {prog : Program} {w : World} {A : Around} {EE : Value → Shared → Prop} {s : Shared} {K : PySem.W.Frag} {x C f g : Addr} {ox : Obj} {od : Option Obj} {i : Int} {t : Tok} {Q : Value → Shared → Prop}
    (X : K.In s.heap) (I : PySem.W.InstAt s.heap x ox C od) (hc : PySem.W.selfFirst K C = true) (hdat : ox.data = .plain)
    (hm : PySem.W.findIn K (.ref C) (PySem.dunder "mul") = some (some (.ref f))) (hs : PySem.W.findIn K (.ref C) (dunderR "mul") = some (some (.ref g))) (hg : PySem.W.isFn K (.ref g) = true)
    (hsub : PySem.W.subIn K (.ref C) (.type "int") = some false)
    (h : wpAny (model prog w) A (call (.ref g) [.ref x, .int i t]) (PySem.W.CmpBack Q) EE s) : wpAny (model prog w) A (binaryOp .Mult (.int i t) (.ref x)) Q EE s := by
  obtain ⟨cd, rest, hcd, hmr⟩ := PySem.W.ksp_first hc
  have one := PySem.W.ksp_try X I hs hg h
  have L3 : PySem.W.Looks (model prog w) s.heap (fillsNumberSlot (.ref C) "mul") true := PySem.W.fills_K X hcd hmr hm
  have L5 : PySem.W.Looks (model prog w) s.heap (isSubtype (.ref C) (.type "int")) false := PySem.W.looks_subIn X hsub
  have hne : (Value.type "int" == Value.ref C) = false := Bool.eq_false_iff.mpr fun q => by cases beq_iff_eq.mp q
  simp only [binaryOp, Operator.info]
  refine wpAny_holding (wpAny_bind ?_)
  unfold binaryOp1
  refine wpAny_bind (wpAny_typeOf (typeIs_int s i t) (wpAny_bind (I.type.here (wpAny_bind (wpAny_of_eq F.fills_int_mul ?_)))))
  simp only [hne, Bool.false_eq_true, if_false]
  refine wpAny_bind (L3.here ?_)
  simp only [Bool.and_self, if_true]
  refine wpAny_bind (L5.here ?_)
  simp only [Bool.false_eq_true, if_false, Bool.not_false, Bool.and_self, if_true]
  have L7 : PySem.W.Looks (model prog w) s.heap (numberSlotInPython (.type "int") "mul") false := PySem.W.Looks.of_pure rfl
  refine wpAny_bind (L7.here ?_)
  simp only [Bool.false_eq_true, if_false]
  refine wpAny_bind ?_
  refine wpAny_tryMethod_declines (typeIs_int s i t) F.slot_int_mul ?_
  refine call_meets F.slot_int_mul (typeIs_int s i t) F.entry_int_mul (F.args_int_mul_2 _ _) (int_mul_obj i t x ox hdat) ?_
  refine ⟨I.at_, rfl, ?_⟩
  refine wpAny_bind (wpAny_mono one (fun r s' hr' => ?_) fun _ _ e => e)
  obtain ⟨v, rfl, hq⟩ := hr'
  exact wpAny_bind (wpAny_rule (wpAny_pure (wpAny_pure hq)))
def rOwnR (C : Addr) (sp : Sp) (E : XK) : R2 := fun x y H Q => ∃ b dx fs i, x = .int i ∧ y = .ref b ∧ H b = some (.ins C dx fs) ∧ sp [y, x] H Q E
theorem op_ownR {CX : CXT} {X : Cx} {n : Nat} {C f g : Addr} {fd : FuncData} {ps : List Str} {sp : Sp} {E : XK} (c : OCls X.K C) (hm : PySem.W.findIn X.K (.ref C) (PySem.dunder "mul") = some (some (.ref f))) (hs : PySem.W.findIn X.K (.ref C) (dunderR "mul") = some (some (.ref g))) (hg : PySem.W.isFn X.K (.ref g) = true)
    (hsub : PySem.W.subIn X.K (.ref C) (.type "int") = some false)
    (F : FnOk X.prog X.w X.K X.mg X.base CX n g fd ps sp) (hr : Room n X.A) (hb : Binds X.K fd ps []) (hx : Passes CX X E) : OpR X (binaryOp .Mult) (rOwnR C sp E) := by
  intro pins s σ H x y v u Q I rx ry h
  obtain ⟨b, dx, fs, i, rfl, rfl, ha, q⟩ := h
  obtain ⟨t, rfl⟩ := (show ∃ t, v = Value.int i t from rx)
  cases (show u = Value.ref b from ry)
  obtain ⟨mA, J, _⟩ := ins_get I.hok ha
  obtain ⟨od, J, _⟩ := J.look
  obtain ⟨m, hF⟩ := I.fr
  refine bin_rI (X := I.kIn) J c.sf rfl hm hs hg hsub (wpAny_mono (run_ok (us := [.ref b, .int i t]) (vs := [.ref b, .int i]) F hr rfl hb hx I (.cons rfl (.cons ⟨t, rfl⟩ .nil)) q) (fun w s' z => ?_) fun _ _ x => x)
  obtain ⟨z', H', I', rz, qz⟩ := z
  exact SlX.cmpback rz ⟨z', H', I', rz, qz⟩
end
end J

set_option Elab.async false
set_option linter.all false
set_option maxRecDepth 100000
set_option maxHeartbeats 1000000
namespace J
open PySem L2
section
variable {X : Cx} {E : XK} {a b e : Expr} {es : List Expr} {pos p1 p2 p3 : Pos} {t ta tb te : TD} {tl : TDL} {CX : CXT} {k n : Nat} {Cl f g : Addr} {fd : FuncData} {ps : List Str} {Cm : Ct} {ra rb : TE}
theorem onO3_ok {o : Option (Addr × List Str × List D)} {k : Addr → List Str → List D → Prop} (h : onO3 o k) : ∃ C ks ds, o = some (C, ks, ds) ∧ k C ks ds := by
  unfold onO3 at h
  split at h
  · exact ⟨_, _, _, rfl, h⟩
  · exact h.elim
/-! ### operations by a class's own defs -/
def jOwn2 (Cl : Addr) (C : Ct) (ta tb : TD) : TD := fun Ex Δ μ Q => ta Ex Δ μ fun x μ1 => tb Ex Δ μ1 fun y μ2 => onO3 (asO μ2 x) fun D _ _ => onO3 (asO μ2 y) fun D' _ _ => D = Cl ∧ D' = Cl ∧ C [x, y] μ2 Q Ex
theorem se_own2 (ha : SE E ra ta) (hb : SE E rb tb) : SE E (tOp (rOwnB Cl (spOf Cm) E) ra rb) (jOwn2 Cl Cm ta tb) := by
  intro B H0 μ0 Ex σ H Δ μ Q Q0 ex g h k
  refine ha B H0 μ0 Ex σ H Δ μ _ _ ex g h fun v H1 x μ1 h1 p1 r1 q1 => ?_
  refine hb B H0 μ0 Ex σ H1 Δ μ1 _ _ ex (g.step h1 p1) q1 fun w H2 y μ2 h2 p2 r2 q2 => ?_
  obtain ⟨D, ks, ds, e1, q3⟩ := onO3_ok q2
  obtain ⟨D', ks', ds', e2, rfl, rfl, q4⟩ := onO3_ok q3
  have r1' := p2.rp _ _ r1
  obtain ⟨a, dx, fs, rfl, ha, _⟩ := asO_ok h2 r1' e1
  obtain ⟨b, dy, gs, rfl, hb, _⟩ := asO_ok h2 r2 e2
  exact ⟨a, b, dx, fs, dy, gs, rfl, rfl, ha, hb, B, [x, y], μ2, Q, Ex, h2, .cons r1' (.cons r2 .nil), q4, k.from (p1.trans p2), ex.base (g.pr.trans (p1.trans p2))⟩
theorem je_own2 {op : Operator} (ho : OpR X (binaryOp op) (rOwnB Cl (spOf Cm) E)) (ha : JE X E a ta) (hb : JE X E b tb) : JE X E (.BinOp a op b pos) (jOwn2 Cl Cm ta tb) := by
  obtain ⟨ra, pa, sa⟩ := ha
  obtain ⟨rb, pb, sb⟩ := hb
  exact ⟨_, pe_op ho pa pb, se_own2 sa sb⟩
theorem je_ownC {op : CmpOp} (ho : OpR X (compareOp op) (rOwnB Cl (spOf Cm) E)) (ha : JE X E a ta) (hb : JE X E b tb) (hm : behindInMarks op b = false := by rfl) : JE X E (.Compare a [op] [b] pos) (jOwn2 Cl Cm ta tb) := by
  obtain ⟨ra, pa, sa⟩ := ha
  obtain ⟨rb, pb, sb⟩ := hb
  exact ⟨_, pe_cmpR ho pa pb hm, se_own2 sa sb⟩
def jOwnI (Cl : Addr) (C : Ct) (ta tb : TD) : TD := fun Ex Δ μ Q => ta Ex Δ μ fun x μ1 => tb Ex Δ μ1 fun y μ2 => onO3 (asO μ2 x) fun D _ _ => D = Cl ∧ (∃ i, y = .int i) ∧ C [x, y] μ2 Q Ex
theorem je_ownI {op : Operator} (ho : OpR X (binaryOp op) (rOwnI Cl (spOf Cm) E)) (ha : JE X E a ta) (hb : JE X E b tb) : JE X E (.BinOp a op b pos) (jOwnI Cl Cm ta tb) := by
  obtain ⟨ra, pa, sa⟩ := ha
  obtain ⟨rb, pb, sb⟩ := hb
  refine ⟨_, pe_op ho pa pb, fun B H0 μ0 Ex σ H Δ μ Q Q0 ex g h k => ?_⟩
  refine sa B H0 μ0 Ex σ H Δ μ _ _ ex g h fun v H1 x μ1 h1 p1 r1 q1 => ?_
  refine sb B H0 μ0 Ex σ H1 Δ μ1 _ _ ex (g.step h1 p1) q1 fun w H2 y μ2 h2 p2 r2 q2 => ?_
  obtain ⟨D, ks, ds, e1, rfl, ⟨i, rfl⟩, q4⟩ := onO3_ok q2
  have r1' := p2.rp _ _ r1
  obtain ⟨a, dx, fs, rfl, ha, _⟩ := asO_ok h2 r1' e1
  have r2' := r2
  cases r2
  exact ⟨a, dx, fs, i, rfl, rfl, ha, B, [x, .int i], μ2, Q, Ex, h2, .cons r1' (.cons r2' .nil), q4, k.from (p1.trans p2), ex.base (g.pr.trans (p1.trans p2))⟩
def jOwnR (Cl : Addr) (C : Ct) (ta tb : TD) : TD := fun Ex Δ μ Q => ta Ex Δ μ fun x μ1 => tb Ex Δ μ1 fun y μ2 => onO3 (asO μ2 y) fun D _ _ => D = Cl ∧ (∃ i, x = .int i) ∧ C [y, x] μ2 Q Ex
theorem je_ownR {op : Operator} (ho : OpR X (binaryOp op) (rOwnR Cl (spOf Cm) E)) (ha : JE X E a ta) (hb : JE X E b tb) : JE X E (.BinOp a op b pos) (jOwnR Cl Cm ta tb) := by
  obtain ⟨ra, pa, sa⟩ := ha
  obtain ⟨rb, pb, sb⟩ := hb
  refine ⟨_, pe_op ho pa pb, fun B H0 μ0 Ex σ H Δ μ Q Q0 ex g h k => ?_⟩
  refine sa B H0 μ0 Ex σ H Δ μ _ _ ex g h fun v H1 x μ1 h1 p1 r1 q1 => ?_
  refine sb B H0 μ0 Ex σ H1 Δ μ1 _ _ ex (g.step h1 p1) q1 fun w H2 y μ2 h2 p2 r2 q2 => ?_
  obtain ⟨D, ks, ds, e1, rfl, ⟨i, rfl⟩, q4⟩ := onO3_ok q2
  have r1' := p2.rp _ _ r1
  obtain ⟨b, dx, fs, rfl, hb, _⟩ := asO_ok h2 r2 e1
  cases r1
  exact ⟨b, dx, fs, i, rfl, rfl, hb, B, [y, .int i], μ2, Q, Ex, h2, .cons r2 (.cons r1' .nil), q4, k.from (p1.trans p2), ex.base (g.pr.trans (p1.trans p2))⟩
/-! ### isinstance of a class of the program's own -/
def isO (K : PySem.W.Frag) (Cl : Addr) (x : D) (μ : Mu) (k : Bool → Prop) : Prop := match asO μ x with
  | some (C, _, _) => C = Cl ∧ k true
  | none => match tyD μ x with | some T => PySem.W.kitOne K (.type T) (.ref Cl) = some false ∧ k false | none => False
def jIsO (K : PySem.W.Frag) (Cl : Addr) (t : TD) : TD := fun Ex Δ μ Q => t Ex Δ μ fun x μ1 => isO K Cl x μ1 fun r => Q (.bl r) μ1
theorem je_isO {x : Str} {p q : Pos} (c : OCls X.K Cl) (hg : Gl X "isinstance") (hm : X.mg "isinstance" = none) (hgC : Gl X x) (hmC : X.mg x = some (.ref Cl)) (he : JE X E e t) (hdb : (x == ("__debug__" : Str)) = false := by decide)
    (h1 : starEach [e, .Name x q] X.env = (false, eval e X.env) :: starEach [.Name x q] X.env := by rfl) (hpl : (backTo pos (starEach [.Name x q] X.env)).any (·.1) = false := by rfl) :
    JE X E (.Call (.Name "isinstance" p) [e, .Name x q] [] pos) (jIsO X.K Cl t) := by
  obtain ⟨r, pe, s⟩ := he
  refine ⟨_, pe_callB call_isi hg hm (by decide +kernel) (pa_cons pe (pa_cons (pe_glob (v := .ref Cl) hgC hmC rfl hdb) pa_nil) h1) (by decide) (by decide) h1 hpl, fun B H0 μ0 Ex σ H Δ μ Q Q0 ex g h k => ?_⟩
  refine s B H0 μ0 Ex σ H Δ μ _ _ ex g h fun v H1 d μ1 h1 p1 r1 q1 => ?_
  unfold isO at q1
  split at q1
  · rename_i C ks ds e1
    obtain ⟨rfl, q2⟩ := q1
    obtain ⟨a, dx, fs, rfl, ha, _⟩ := asO_ok h1 r1 e1
    exact ⟨_, _, _, _, true, rfl, .own _, .base (.ins ha c.cl c.ca c.cn c.ct c.cm), by unfold PySem.W.kitOne; rw [if_pos (beq_self_eq_true _)], k _ _ _ _ h1 p1 (.bl _) q2⟩
  · split at q1
    · rename_i T e2
      exact ⟨_, _, _, _, false, rfl, .own _, tyD_ok h1 r1 e2, q1.1, k _ _ _ _ h1 p1 (.bl _) q1.2⟩
    · exact q1.elim
/-! ### str of an object -/
def rStrO (C : Addr) (sp : Sp) (E : XK) : List V → Hp → VK → Prop := fun xs H Q => ∃ a dx fs, xs = [.ref a] ∧ H a = some (.ins C dx fs) ∧ sp [.ref a] H (fun z H' => ∃ s, z = .str s ∧ Q z H') E
theorem call_strO {sp : Sp} (hs : PySem.W.findIn X.K (.ref Cl) "__str__" = some (some (.ref f))) (hf : PySem.W.isFn X.K (.ref f) = true) (F : FnOk X.prog X.w X.K X.mg X.base CX n f fd ps sp) (hr : Room (n + 2) X.A) (hb : Binds X.K fd ps []) (hx : Passes CX X E) : CallR X (.type "str") (rStrO Cl sp E) := by
  intro pins s σ H xs us Q I r h
  obtain ⟨a, dx, fs, rfl, ha, q⟩ := h
  obtain ⟨u, rfl, ru⟩ := r.one
  cases (show u = Value.ref a from ru)
  obtain ⟨mA, J, _⟩ := ins_get I.hok ha
  obtain ⟨od, J, _⟩ := J.look
  have hr2 : Room n X.A.in1.in1 := (show Room (n + 1) X.A.in1 from Room.in1 hr).in1
  refine PySem.W.kso_call hr2.units0 I.kIn J hs hf (wpAny_mono (run_ok (us := [.ref a]) (vs := [.ref a]) F hr2 rfl hb hx I (.cons rfl .nil) q) (fun w s' z => ?_) fun _ _ x => x)
  obtain ⟨z', H', I', rz, i, ei, qz⟩ := z
  subst ei
  obtain ⟨t, e⟩ := (show ∃ t, w = Value.str i t from rz)
  cases e
  exact ⟨.str i, H', I', ⟨t, rfl⟩, qz⟩
def onStr (Q : KD) : KD := fun d μ => match d with | .str s => Q (.str s) μ | _ => False
def jStrO (Cl : Addr) (C : Ct) (t : TD) : TD := fun Ex Δ μ Q => t Ex Δ μ fun x μ1 => onO3 (asO μ1 x) fun D _ _ => D = Cl ∧ C [x] μ1 (onStr Q) Ex
theorem je_strO {p : Pos} (hc : CallR X (.type "str") (rStrO Cl (spOf Cm) E)) (hg : Gl X "str") (hm : X.mg "str" = none) (he : JE X E e t) (h1 : starEach [e] X.env = (false, eval e X.env) :: starEach [] X.env := by rfl) (hpl : (backTo pos (starEach [] X.env)).any (·.1) = false := by rfl) :
    JE X E (.Call (.Name "str" p) [e] [] pos) (jStrO Cl Cm t) := by
  obtain ⟨r, pe, s⟩ := he
  refine ⟨_, pe_callTy hc hg hm (by decide +kernel) (pa_cons pe pa_nil h1) (by decide) (by decide) h1 hpl, fun B H0 μ0 Ex σ H Δ μ Q Q0 ex g h k => ?_⟩
  refine s B H0 μ0 Ex σ H Δ μ _ _ ex g h fun v H1 d μ1 h1 p1 r1 q1 => ?_
  obtain ⟨D, ks, ds, e1, rfl, q2⟩ := onO3_ok q1
  obtain ⟨a, dx, fs, rfl, ha, _⟩ := asO_ok h1 r1 e1
  refine ⟨a, dx, fs, rfl, ha, B, [d], μ1, _, Ex, h1, .cons r1 .nil, q2, ?_, ex.base (g.pr.trans p1)⟩
  intro v H' d' μ' h' p' r' q'
  unfold onStr at q'
  split at q'
  · cases r'
    exact ⟨_, rfl, k _ _ _ _ h' (p1.trans p') (.str _) q'⟩
  · exact q'.elim
/-! ### f-strings -/
def onTxt (d : D) (k : Str → Prop) : Prop := match d with
  | .str y => y.length ≤ sizeLine ∧ k y
  | .int i => i.natAbs.log2 < 1920 ∧ k (toString i)
  | _ => False
def jFmt (t : TD) : TD := fun Ex Δ μ Q => t Ex Δ μ fun d μ1 => onTxt d fun y => Q (.str y) μ1
theorem je_fmt (he : JE X E e t) : JE X E (.FormattedValue e (-1) none pos) (jFmt t) := by
  obtain ⟨r, pe, s⟩ := he
  refine ⟨_, pe_fmt pe, fun B H0 μ0 Ex σ H Δ μ Q Q0 ex g h k => ?_⟩
  refine s B H0 μ0 Ex σ H Δ μ _ _ ex g h fun v H1 d μ1 h1 p1 r1 q1 => ?_
  unfold onTxt at q1
  split at q1
  · cases r1; exact .inl ⟨_, rfl, q1.1, k _ _ _ _ h1 p1 (.str _) q1.2⟩
  · cases r1; exact .inr ⟨_, rfl, q1.1, k _ _ _ _ h1 p1 (.str _) q1.2⟩
  · exact q1.elim
theorem je_join1 (he : JE X E e t) : JE X E (.JoinedStr [e] pos) t := by
  obtain ⟨r, pe, s⟩ := he
  exact ⟨_, pe_joined1 pe, s⟩
inductive JPs (X : Cx) (E : XK) : List Expr → List TD → Prop where
  | nil : JPs X E [] []
  | cons {e : Expr} {t : TD} {es : List Expr} {ts : List TD} (h : JE X E e t) (r : JPs X E es ts) : JPs X E (e :: es) (t :: ts)
def jJs : List TD → Str → KX → Del → Mu → (Str → Mu → Prop) → Prop
  | [], acc, _, _, μ, Q => Q acc μ
  | t :: ts, acc, Ex, Δ, μ, Q => t Ex Δ μ fun d μ1 => match d with | .str y => (acc ++ y).length ≤ sizeLine ∧ jJs ts (acc ++ y) Ex Δ μ1 Q | _ => False
theorem jps_ok {es : List Expr} {ts : List TD} (h : JPs X E es ts) : ∃ rs, PJ X es rs ∧ ∀ (acc : Str) (B : List Addr) (H0 : Hp) (μ0 : Mu) (Ex : KX) (σ : St) (H : Hp) (Δ : Del) (μ : Mu) (Q : Str → Mu → Prop) (Q0 : Str → Hp → Prop), ExLe E B H0 μ0 Ex → Go B H0 μ0 σ H Δ μ → jJs ts acc Ex Δ μ Q →
    (∀ s H' μ', HOK B μ' H' → Pres B μ H μ' H' → Q s μ' → Q0 s H') → tJs rs acc σ H Q0 := by
  induction h with
  | nil => exact ⟨[], .nil, fun acc B H0 μ0 Ex σ H Δ μ Q Q0 ex g h k => k _ _ _ g.hok Pres.refl h⟩
  | cons he r ih =>
    obtain ⟨rs, p, s⟩ := ih
    obtain ⟨r1, p1, s1⟩ := he
    refine ⟨r1 :: rs, .cons p1 p, fun acc B H0 μ0 Ex σ H Δ μ Q Q0 ex g h k => ?_⟩
    refine s1 B H0 μ0 Ex σ H Δ μ _ _ ex g h fun v H1 d μ1 h1 p1 r1 q1 => ?_
    split at q1
    · cases r1
      refine ⟨_, rfl, q1.1, ?_⟩
      exact s _ B H0 μ0 Ex σ H1 Δ μ1 Q Q0 ex (g.step h1 p1) q1.2 fun z H' μ' h' p' q' => k z H' μ' h' (p1.trans p') q'
    · exact q1.elim
def jJoin (ts : List TD) : TD := fun Ex Δ μ Q => jJs ts Str.empty Ex Δ μ fun s μ1 => Q (.str s) μ1
theorem je_joinN {v1 v2 : Expr} {rest : List Expr} {ts : List TD} (h : JPs X E (v1 :: v2 :: rest) ts) : JE X E (.JoinedStr (v1 :: v2 :: rest) pos) (jJoin ts) := by
  obtain ⟨rs, p, s⟩ := jps_ok h
  refine ⟨_, pe_joined p, fun B H0 μ0 Ex σ H Δ μ Q Q0 ex g h k => ?_⟩
  exact s Str.empty B H0 μ0 Ex σ H Δ μ _ _ ex g h fun z H' μ' h' p' q' => k _ _ _ _ h' p' (.str _) q'
/-! ### targets of several names -/
def setAll (Δ : Del) : List Nat → List D → Del
  | i :: is, d :: ds => setAll (Δ.set i (some d)) is ds
  | _, _ => Δ
def JGN (X : Cx) (es : List Expr) (is : List Nat) : Prop := ∃ gg, PGs X es gg ∧ ∀ (B : List Addr) (H0 : Hp) (μ0 : Mu) (σ : St) (H : Hp) (Δ : Del) (μ : Mu) (vs : List V) (ds : List D) (Q0 : St → Hp → Prop), Go B H0 μ0 σ H Δ μ → RpL B μ H vs ds → ds.length = is.length →
  (∀ σ', Go B H0 μ0 σ' H (setAll Δ is ds) μ → (∀ j, j ∉ is → σ'[j]? = σ[j]?) → σ'.length = σ.length → Q0 σ' H) → gg vs σ H Q0
theorem jgn_nil : JGN X [] [] := ⟨_, pgs_nil, fun B H0 μ0 σ H Δ μ vs ds Q0 g r l k => by
  cases ds with
  | nil => cases r; exact ⟨rfl, k _ g (fun _ _ => rfl) rfl⟩
  | cons d ds => cases l⟩
theorem jgn_cons (i : Nat) {x : Str} {px : Pos} {es : List Expr} {is : List Nat} (hN : X.N.Nodup) (h : JGN X es is) (hi : X.N[i]? = some x := by rfl) (hx : Loc X.env.scope x := by first | exact .inl rfl | exact .inr rfl) (hf : X.fn x = true ∨ X.env.scope.names.lookup x = some .local := by first | exact .inl rfl | exact .inr rfl | assumption)
    (hs : (assignEach (.Name x px :: es) X.env).map (·.2) = assign (.Name x px) X.env :: (assignEach es X.env).map (·.2) := by rfl) : JGN X (.Name x px :: es) (i :: is) := by
  obtain ⟨gg, p, s⟩ := h
  refine ⟨_, pgs_cons (pg_name hN hi hx hf) p hs, fun B H0 μ0 σ H Δ μ vs ds Q0 g r l k => ?_⟩
  cases ds with
  | nil => cases l
  | cons d ds =>
    cases r with
    | cons r1 r2 =>
      refine ⟨_, _, rfl, ?_⟩
      refine s B H0 μ0 _ H _ μ _ ds Q0 (g.set i r1) r2 (by simpa using l) fun σ' g' hj hl => k σ' g' (fun j hjj => ?_) (by rw [hl]; simp)
      rw [hj j (fun z => hjj (List.mem_cons_of_mem _ z)), List.getElem?_set_ne (fun z => hjj (by rw [z]; exact List.mem_cons_self))]
def gUnlD (is : List Nat) : GD := fun d Δ μ K => match asL μ d with | some ds => ds.length = is.length ∧ K (setAll Δ is ds) μ | none => False
theorem jg_unl {es : List Expr} {is : List Nat} {k0 : Nat} (hc : X.calm = true) (h : JGN X es is) (hn : (assignEach es X.env).length = is.length := by rfl) (hst : (assignEach es X.env).findIdx? (·.1) = none := by rfl) : JG X (.Tuple es k0 pos) (gUnlD is) is := by
  obtain ⟨gg, p, s⟩ := h
  refine ⟨_, pg_unl hc p hn hst, fun B H0 μ0 σ H Δ μ v d K K0 g r q k => ?_⟩
  unfold gUnlD at q
  split at q
  · rename_i ds e1
    obtain ⟨a, xs, rfl, hx, rr⟩ := asL_ok g.hok r e1
    exact ⟨_, _, rfl, sqL hx, by rw [rr.len]; exact q.1, s B H0 μ0 σ H Δ μ xs ds _ g rr q.1 fun σ' g' hj hl => k _ _ _ _ g' hj hl q.2⟩
  · exact q.elim
def gTupD (is : List Nat) : GD := fun d Δ μ K => match d with | .tup ds => ds.length = is.length ∧ K (setAll Δ is ds) μ | _ => False
theorem jg_tup {es : List Expr} {is : List Nat} {k0 : Nat} (hc : X.calm = true) (h : JGN X es is) (hn : (assignEach es X.env).length = is.length := by rfl) (hst : (assignEach es X.env).findIdx? (·.1) = none := by rfl) : JG X (.Tuple es k0 pos) (gTupD is) is := by
  obtain ⟨gg, p, s⟩ := h
  refine ⟨_, pg_tup hc p hn hst, fun B H0 μ0 σ H Δ μ v d K K0 g r q k => ?_⟩
  unfold gTupD at q
  split at q
  · cases r with
    | tup hx nx rr =>
      exact ⟨_, _, rfl, sqT hx, by rw [rr.len]; exact q.1, s B H0 μ0 σ H Δ μ _ _ _ g rr q.1 fun σ' g' hj hl => k _ _ _ _ g' hj hl q.2⟩
  · exact q.elim
end
end J

set_option Elab.async false
set_option linter.all false
set_option maxRecDepth 100000
set_option maxHeartbeats 1000000
namespace J
open PySem L2
section
variable {Ex : KX} {Δ : Del} {μ : Mu} {Q : KD} {QB : KB} {QL : KDL} {D' : EndsD} {t ta tb tc te to : TD} {tl : TDL} {u ub : TDB} {s1 s2 : TSD} {K : PySem.W.Frag} {f m : Str} {Cl C : Addr} {Cm Ci : Ct} {ks : List Str} {ds : List D}
theorem jFld_r : jFld K f t Ex Δ μ Q = t Ex Δ μ fun x μ1 => onO3 (asO μ1 x) fun C ks ds => Cls K C ∧ NoAttr K C f ∧ onSm (lookD f ks ds) fun d => Q d μ1 := rfl
theorem jFldS_r : jFldS K f to te Ex D' Δ μ = te Ex Δ μ fun y μ1 => to Ex Δ μ1 fun x μ2 => onRef x fun a => ownO μ2 a fun C ks ds => Cls K C ∧ NoAttr K C f ∧ ks.length < 1000 ∧ D'.nx Δ (μ2.put a (.obj C (putD f y ks ds).1 (putD f y ks ds).2)) := rfl
theorem jMake_r : jMake Cl Ci tl Ex Δ μ Q = tl Ex Δ μ fun ds μ1 => ∀ x, x ∉ μ1.own.map (·.1) → Ci (.ref x :: ds) (μ1.push x (.obj Cl [] [])) (fun v μ2 => v = .non ∧ ownO μ2 x fun C ks es => Q (.obj C ks es) (μ2.rid x)) Ex := rfl
theorem jMeth_r : jMeth Cl m Cm to tl Ex Δ μ Q = to Ex Δ μ fun x μ1 => onO3 (asO μ1 x) fun D ks _ => D = Cl ∧ m ∉ ks ∧ tl Ex Δ μ1 fun ds μ2 => Cm (x :: ds) μ2 Q Ex := rfl
theorem jOwn2_r : jOwn2 Cl Cm ta tb Ex Δ μ Q = ta Ex Δ μ fun x μ1 => tb Ex Δ μ1 fun y μ2 => onO3 (asO μ2 x) fun D _ _ => onO3 (asO μ2 y) fun D' _ _ => D = Cl ∧ D' = Cl ∧ Cm [x, y] μ2 Q Ex := rfl
theorem jOwnI_r : jOwnI Cl Cm ta tb Ex Δ μ Q = ta Ex Δ μ fun x μ1 => tb Ex Δ μ1 fun y μ2 => onO3 (asO μ2 x) fun D _ _ => D = Cl ∧ (∃ i, y = .int i) ∧ Cm [x, y] μ2 Q Ex := rfl
theorem jOwnR_r : jOwnR Cl Cm ta tb Ex Δ μ Q = ta Ex Δ μ fun x μ1 => tb Ex Δ μ1 fun y μ2 => onO3 (asO μ2 y) fun D _ _ => D = Cl ∧ (∃ i, x = .int i) ∧ Cm [y, x] μ2 Q Ex := rfl
theorem jIsO_r : jIsO K Cl t Ex Δ μ Q = t Ex Δ μ fun x μ1 => isO K Cl x μ1 fun r => Q (.bl r) μ1 := rfl
theorem jStrO_r : jStrO Cl Cm t Ex Δ μ Q = t Ex Δ μ fun x μ1 => onO3 (asO μ1 x) fun D _ _ => D = Cl ∧ Cm [x] μ1 (onStr Q) Ex := rfl
theorem jFmt_r : jFmt t Ex Δ μ Q = t Ex Δ μ fun d μ1 => onTxt d fun y => Q (.str y) μ1 := rfl
theorem jJoin_r {ts : List TD} : jJoin ts Ex Δ μ Q = jJs ts Str.empty Ex Δ μ fun s μ1 => Q (.str s) μ1 := rfl
def onJ (d : D) (k : Str → Prop) : Prop := match d with | .str y => k y | _ => False
theorem onJ_str {y : Str} {k : Str → Prop} : onJ (.str y) k = k y := rfl
theorem jJs_nil {acc : Str} {QS : Str → Mu → Prop} : jJs [] acc Ex Δ μ QS = QS acc μ := rfl
theorem jJs_cons {ts : List TD} {acc : Str} {QS : Str → Mu → Prop} : jJs (t :: ts) acc Ex Δ μ QS = t Ex Δ μ fun d μ1 => onJ d fun y => (acc ++ y).length ≤ sizeLine ∧ jJs ts (acc ++ y) Ex Δ μ1 QS := rfl
def on2 (ds : List D) (k : D → D → Prop) : Prop := match ds with | [x, y] => k x y | _ => False
theorem on2_c {x y : D} {k : D → D → Prop} : on2 [x, y] k = k x y := rfl
theorem jPar_r {i j : Nat} : jPar i j tl Ex D' Δ μ = tl Ex Δ μ fun ds μ1 => on2 ds fun x y => D'.nx ((Δ.set i (some x)).set j (some y)) μ1 := rfl
theorem jAsg_r {g : GD} : jAsg g te Ex D' Δ μ = te Ex Δ μ fun d μ1 => g d Δ μ1 D'.nx := rfl
theorem onO3_s {k : Addr → List Str → List D → Prop} : onO3 (some (C, ks, ds)) k = k C ks ds := rfl
theorem onSm_s {d : D} {k : D → Prop} : onSm (some d) k = k d := rfl
theorem asO_obj : asO μ (.obj C ks ds) = some (C, ks, ds) := rfl
theorem onTxt_str {y : Str} {k : Str → Prop} : onTxt (.str y) k = (y.length ≤ sizeLine ∧ k y) := rfl
theorem onTxt_int {i : Int} {k : Str → Prop} : onTxt (.int i) k = (i.natAbs.log2 < 1920 ∧ k (toString i)) := rfl
theorem isO_obj {k : Bool → Prop} : isO K Cl (.obj C ks ds) μ k = (C = Cl ∧ k true) := rfl
theorem isO_int {i : Int} {k : Bool → Prop} : isO K Cl (.int i) μ k = (PySem.W.kitOne K (.type "int") (.ref Cl) = some false ∧ k false) := rfl
theorem onStr_str {s : Str} : onStr Q (.str s) μ = Q (.str s) μ := rfl
theorem gPair_t {i j : Nat} {x y : D} {Kn : Del → Mu → Prop} : gPair i j (.tup [x, y]) Δ μ Kn = Kn ((Δ.set i (some x)).set j (some y)) μ := rfl
theorem gUnlD_l {is : List Nat} {Kn : Del → Mu → Prop} : gUnlD is (.lst ds) Δ μ Kn = (ds.length = is.length ∧ Kn (setAll Δ is ds) μ) := rfl
theorem gTupD_l {is : List Nat} {Kn : Del → Mu → Prop} : gTupD is (.tup ds) Δ μ Kn = (ds.length = is.length ∧ Kn (setAll Δ is ds) μ) := rfl
theorem setAll_nil {is : List Nat} : setAll Δ is [] = Δ := by cases is <;> rfl
theorem setAll_cons {i : Nat} {is : List Nat} {d : D} : setAll Δ (i :: is) (d :: ds) = setAll (Δ.set i (some d)) is ds := rfl
theorem dGcd_ii {a b : Int} : dGcd [.int a, .int b] μ Q = Q (.int ((Nat.gcd a.natAbs b.natAbs : Nat) : Int)) μ := rfl
theorem dDiv_ii {i j : Int} : dDiv (.int i) (.int j) μ Q = (CDivW i j ∧ Q (.int (i / j)) μ) := rfl
theorem dMod_ii {i j : Int} : dMod (.int i) (.int j) μ Q = (0 < j ∧ Q (.int (i % j)) μ) := rfl
theorem dMul_ii {i j : Int} : dMul (.int i) (.int j) μ Q = ((CMul i j ∨ CMulW i j) ∧ Q (.int (i * j)) μ) := rfl
theorem dAbs_int {i : Int} : dAbs [.int i] μ Q = Q (.int (if i < 0 then -i else i)) μ := rfl
theorem dInt_int {i : Int} : dInt [.int i] μ Q = Q (.int i) μ := rfl
theorem dStr_int {i : Int} : dStr [.int i] μ Q = (i.natAbs.log2 < 1920 ∧ Q (.str (toString i)) μ) := rfl
theorem dStr_str {s : Str} : dStr [.str s] μ Q = Q (.str s) μ := rfl
theorem mulW {i j : Int} {n m : Nat} (h1 : i.natAbs < 2 ^ n) (h2 : j.natAbs < 2 ^ m) (h : n + m < 1000000 := by decide) : CMul i j ∨ CMulW i j := by
  refine .inr ?_
  have a : ∀ (x : Nat) (k : Nat), x < 2 ^ k → x.log2 ≤ k := fun x k h => by
    by_cases z : x = 0
    · rw [z]; simp
    · exact Nat.le_of_lt ((Nat.log2_lt z).mpr h)
  have := a _ _ h1
  have := a _ _ h2
  unfold CMulW
  omega
theorem log_lt {x n k : Nat} (h : x < 2 ^ n) (hn : n < k) : x.log2 < k := by
  by_cases z : x = 0
  · rw [z]; simp; omega
  · exact Nat.lt_trans ((Nat.log2_lt z).mpr h) hn
theorem put_head {x : Addr} {o o' : MO} {own : List (Addr × MO)} {bag : Option Addr} : (⟨bag, (x, o) :: own⟩ : Mu).put x o' = ⟨bag, (x, o') :: own⟩ := by
  unfold Mu.put setO; simp
theorem ownO_head {x C : Addr} {ks : List Str} {ds : List D} {own : List (Addr × MO)} {bag : Option Addr} {k : Addr → List Str → List D → Prop} : ownO ⟨bag, (x, .obj C ks ds) :: own⟩ x k = k C ks ds := by
  unfold ownO; simp
theorem rid_head {x : Addr} {o : MO} {own : List (Addr × MO)} {bag : Option Addr} : (⟨bag, (x, o) :: own⟩ : Mu).rid x = ⟨bag, own⟩ := by
  unfold Mu.rid dropO; simp
end
section
variable {X : Cx} {E : XK} {e o : Expr} {pos pos' : Pos} {t to te : TD} {f : Str} {Cl : Addr}
theorem je_fldK (K : PySem.W.Frag) (hK : X.K = K) (h : JE X E e t) (hb : attributeBase e f X.env (eval e X.env) = eval e X.env := by rfl) : JE X E (.Attribute e f pos) (jFld K f t) := by subst hK; exact je_fld h hb
theorem js_fldK (K : PySem.W.Frag) (hK : X.K = K) (ho : JE X E o to) (he : JE X E e te) (hs : swapsWith e (some (.Attribute o f pos')) pos.line X.env = pure false := by rfl) : JS X E (.Assign [.Attribute o f pos'] e pos) (jFldS K f to te) := by subst hK; exact js_fld ho he hs
theorem je_isOK {x : Str} {p q : Pos} (K : PySem.W.Frag) (hK : X.K = K) (c : OCls K Cl) (hg : Gl X "isinstance") (hm : X.mg "isinstance" = none) (hgC : Gl X x) (hmC : X.mg x = some (.ref Cl)) (he : JE X E e t) (hdb : (x == ("__debug__" : Str)) = false := by decide)
    (h1 : starEach [e, .Name x q] X.env = (false, eval e X.env) :: starEach [.Name x q] X.env := by rfl) (hpl : (backTo pos (starEach [.Name x q] X.env)).any (·.1) = false := by rfl) :
    JE X E (.Call (.Name "isinstance" p) [e, .Name x q] [] pos) (jIsO K Cl t) := by subst hK; exact je_isO c hg hm hgC hmC he hdb h1 hpl
end
/-- the rule for a def with defaults, all of which are given -/
theorem fn0D {P : Program} {w : World} {K : PySem.W.Frag} {mg : Str → Option Value} {base : Heap} {x qual : Str} {params : Arguments} {body : List Stmt} {scope : Scope} {dvs : List V} {kws : List (Str × V)} {f : Addr} {fd : FuncData} {N ps : List Str} {k : Nat}
    (F : FunD K x qual params body scope dvs kws f fd) (S : FnScope N ps scope) (C : Ct) (t : TSD) (len : ∀ ds μ Q Ex, C ds μ Q Ex → ds.length = ps.length)
    (hd : ∀ (cdv : Value) (A : Around) (outer : List Env) (s : Shared) (H : Hp) (E : XK), Room k (A.deeper (PyProof.Rows.envOfC qual scope s.heap.objs.size f cdv)) → JSs (cxOf CX0 P w K mg base N qual scope f cdv A outer s H E).nox E body t)
    (ht : ∀ ds μ Q Ex, C ds μ Q Ex → t Ex (endsOf Q) (startD N ds) μ) : FnOk P w K mg base CX0 (k + 1) f fd ps (spOf C) := by
  refine F.ok S (fun vs H Q E ⟨B, ds, μ, Q', Ex, h, r, c, _⟩ => ?_) (fun cdv A outer s H vs Q E hr ⟨B, ds, μ, Q', Ex, h, r, c, k, ex⟩ => ?_)
  · rw [r.len]; exact len _ _ _ _ c
  · obtain ⟨tr, p, q⟩ := hd cdv A outer s H E hr
    exact ⟨tr, p.nox, q B H μ Ex (endsOf Q') _ _ H _ μ ex (ends_le k) (start_ok r h) (ht _ _ _ _ c)⟩
theorem kit_own {K : PySem.W.Frag} {C : Addr} {T : String} (h1 : PySem.W.isClsIn K C = true) (h2 : PySem.W.typeIn K (.ref C) = some (.type "type")) (h3 : PySem.W.subIn K (.type T) (.ref C) = some false) : PySem.W.kitOne K (.type T) (.ref C) = some false := by
  unfold PySem.W.kitOne
  rw [if_neg (by intro z; have z := eq_of_beq z; cases z)]
  unfold PySem.W.kitCls
  simp only
  rw [if_pos (by
    rw [h2]
    unfold PySem.W.isClsIn at h1
    simp [h1]), h3]
theorem lcD_n {g : GD} {tt : TDB} {te : TD} {Ex : KX} {Δ : Del} {Q : KDL} {acc : List D} {μ : Mu} : lcD g tt te Ex Δ Q [] acc μ = Q acc μ := rfl
theorem lcD_y {g : GD} {te : TD} {Ex : KX} {Δ : Del} {Q : KDL} {d : D} {ds acc : List D} {μ : Mu} : lcD g jYes te Ex Δ Q (d :: ds) acc μ = g d Δ μ fun Δ1 μ1 => te Ex Δ1 μ1 fun e μ3 => acc.length < sizeLine ∧ lcD g jYes te Ex Δ Q ds (acc ++ [e]) μ3 := rfl
theorem rangeD_3 : rangeD 0 3 = [.int 0, .int 1, .int 2] := rfl
/-- one makes an object, which then is a value -/
def onMk (Cl : Addr) (Ci : Ct) (ds : List D) (μ1 : Mu) (Q : KD) (Ex : KX) : Prop := ∀ x, x ∉ μ1.own.map (·.1) → Ci (.ref x :: ds) (μ1.push x (.obj Cl [] [])) (fun v μ2 => v = .non ∧ ownO μ2 x fun C ks es => Q (.obj C ks es) (μ2.rid x)) Ex
theorem jMake_mk {Cl : Addr} {Ci : Ct} {tl : TDL} {Ex : KX} {Δ : Del} {μ : Mu} {Q : KD} : jMake Cl Ci tl Ex Δ μ Q = tl Ex Δ μ fun ds μ1 => onMk Cl Ci ds μ1 Q Ex := rfl
end J

set_option Elab.async false
set_option linter.all false
set_option maxRecDepth 100000
set_option maxHeartbeats 1000000
namespace J
open PySem L2
section
variable {μ : Mu} {Q : KD}
theorem dIs_ty {x : D} {n T : String} {b : Bool} (h1 : tyD μ x = some T) (h2 : kitB T n = some b) : dIs [x, .ty n] μ Q = Q (.bl b) μ := by
  refine propext ⟨fun h => ?_, fun h => ⟨T, b, h1, h2, h⟩⟩
  obtain ⟨T', b', e1, e2, q⟩ := h
  rw [h1] at e1; cases e1; rw [h2] at e2; cases e2; exact q
theorem dIs_lt {x : D} {T : String} {b : Bool} (h1 : tyD μ x = some T) (h2 : kitBs T ["list", "tuple"] = some b) : dIs [x, .tup [.ty "list", .ty "tuple"]] μ Q = Q (.bl b) μ := by
  refine propext ⟨fun h => ?_, fun h => ⟨T, _, b, h1, rfl, h2, h⟩⟩
  obtain ⟨T', ns, b', e1, e0, e2, q⟩ := h
  rw [h1] at e1; cases e1; cases e0; rw [h2] at e2; cases e2; exact q
theorem dIs_non_int : dIs [.non, .ty "int"] μ Q = Q (.bl false) μ := dIs_ty rfl (by decide)
theorem dIs_non_bool : dIs [.non, .ty "bool"] μ Q = Q (.bl false) μ := dIs_ty rfl (by decide)
theorem dIs_non_str : dIs [.non, .ty "str"] μ Q = Q (.bl false) μ := dIs_ty rfl (by decide)
theorem dIs_non_list : dIs [.non, .ty "list"] μ Q = Q (.bl false) μ := dIs_ty rfl (by decide)
theorem dIs_non_tuple : dIs [.non, .ty "tuple"] μ Q = Q (.bl false) μ := dIs_ty rfl (by decide)
theorem dIs_non_dict : dIs [.non, .ty "dict"] μ Q = Q (.bl false) μ := dIs_ty rfl (by decide)
theorem dIs_non_lt : dIs [.non, .tup [.ty "list", .ty "tuple"]] μ Q = Q (.bl false) μ := dIs_lt rfl (by decide)
theorem dIs_bl_int {b : Bool} : dIs [(.bl b), .ty "int"] μ Q = Q (.bl true) μ := dIs_ty rfl (by decide)
theorem dIs_bl_bool {b : Bool} : dIs [(.bl b), .ty "bool"] μ Q = Q (.bl true) μ := dIs_ty rfl (by decide)
theorem dIs_bl_str {b : Bool} : dIs [(.bl b), .ty "str"] μ Q = Q (.bl false) μ := dIs_ty rfl (by decide)
theorem dIs_bl_list {b : Bool} : dIs [(.bl b), .ty "list"] μ Q = Q (.bl false) μ := dIs_ty rfl (by decide)
theorem dIs_bl_tuple {b : Bool} : dIs [(.bl b), .ty "tuple"] μ Q = Q (.bl false) μ := dIs_ty rfl (by decide)
theorem dIs_bl_dict {b : Bool} : dIs [(.bl b), .ty "dict"] μ Q = Q (.bl false) μ := dIs_ty rfl (by decide)
theorem dIs_bl_lt {b : Bool} : dIs [(.bl b), .tup [.ty "list", .ty "tuple"]] μ Q = Q (.bl false) μ := dIs_lt rfl (by decide)
theorem dIs_int_int {i : Int} : dIs [(.int i), .ty "int"] μ Q = Q (.bl true) μ := dIs_ty rfl (by decide)
theorem dIs_int_bool {i : Int} : dIs [(.int i), .ty "bool"] μ Q = Q (.bl false) μ := dIs_ty rfl (by decide)
theorem dIs_int_str {i : Int} : dIs [(.int i), .ty "str"] μ Q = Q (.bl false) μ := dIs_ty rfl (by decide)
theorem dIs_int_list {i : Int} : dIs [(.int i), .ty "list"] μ Q = Q (.bl false) μ := dIs_ty rfl (by decide)
theorem dIs_int_tuple {i : Int} : dIs [(.int i), .ty "tuple"] μ Q = Q (.bl false) μ := dIs_ty rfl (by decide)
theorem dIs_int_dict {i : Int} : dIs [(.int i), .ty "dict"] μ Q = Q (.bl false) μ := dIs_ty rfl (by decide)
theorem dIs_int_lt {i : Int} : dIs [(.int i), .tup [.ty "list", .ty "tuple"]] μ Q = Q (.bl false) μ := dIs_lt rfl (by decide)
theorem dIs_str_int {s : Str} : dIs [(.str s), .ty "int"] μ Q = Q (.bl false) μ := dIs_ty rfl (by decide)
theorem dIs_str_bool {s : Str} : dIs [(.str s), .ty "bool"] μ Q = Q (.bl false) μ := dIs_ty rfl (by decide)
theorem dIs_str_str {s : Str} : dIs [(.str s), .ty "str"] μ Q = Q (.bl true) μ := dIs_ty rfl (by decide)
theorem dIs_str_list {s : Str} : dIs [(.str s), .ty "list"] μ Q = Q (.bl false) μ := dIs_ty rfl (by decide)
theorem dIs_str_tuple {s : Str} : dIs [(.str s), .ty "tuple"] μ Q = Q (.bl false) μ := dIs_ty rfl (by decide)
theorem dIs_str_dict {s : Str} : dIs [(.str s), .ty "dict"] μ Q = Q (.bl false) μ := dIs_ty rfl (by decide)
theorem dIs_str_lt {s : Str} : dIs [(.str s), .tup [.ty "list", .ty "tuple"]] μ Q = Q (.bl false) μ := dIs_lt rfl (by decide)
theorem dIs_lst_int {ds : List D} : dIs [(.lst ds), .ty "int"] μ Q = Q (.bl false) μ := dIs_ty rfl (by decide)
theorem dIs_lst_bool {ds : List D} : dIs [(.lst ds), .ty "bool"] μ Q = Q (.bl false) μ := dIs_ty rfl (by decide)
theorem dIs_lst_str {ds : List D} : dIs [(.lst ds), .ty "str"] μ Q = Q (.bl false) μ := dIs_ty rfl (by decide)
theorem dIs_lst_list {ds : List D} : dIs [(.lst ds), .ty "list"] μ Q = Q (.bl true) μ := dIs_ty rfl (by decide)
theorem dIs_lst_tuple {ds : List D} : dIs [(.lst ds), .ty "tuple"] μ Q = Q (.bl false) μ := dIs_ty rfl (by decide)
theorem dIs_lst_dict {ds : List D} : dIs [(.lst ds), .ty "dict"] μ Q = Q (.bl false) μ := dIs_ty rfl (by decide)
theorem dIs_lst_lt {ds : List D} : dIs [(.lst ds), .tup [.ty "list", .ty "tuple"]] μ Q = Q (.bl true) μ := dIs_lt rfl (by decide)
theorem dIs_tup_int {ds : List D} : dIs [(.tup ds), .ty "int"] μ Q = Q (.bl false) μ := dIs_ty rfl (by decide)
theorem dIs_tup_bool {ds : List D} : dIs [(.tup ds), .ty "bool"] μ Q = Q (.bl false) μ := dIs_ty rfl (by decide)
theorem dIs_tup_str {ds : List D} : dIs [(.tup ds), .ty "str"] μ Q = Q (.bl false) μ := dIs_ty rfl (by decide)
theorem dIs_tup_list {ds : List D} : dIs [(.tup ds), .ty "list"] μ Q = Q (.bl false) μ := dIs_ty rfl (by decide)
theorem dIs_tup_tuple {ds : List D} : dIs [(.tup ds), .ty "tuple"] μ Q = Q (.bl true) μ := dIs_ty rfl (by decide)
theorem dIs_tup_dict {ds : List D} : dIs [(.tup ds), .ty "dict"] μ Q = Q (.bl false) μ := dIs_ty rfl (by decide)
theorem dIs_tup_lt {ds : List D} : dIs [(.tup ds), .tup [.ty "list", .ty "tuple"]] μ Q = Q (.bl true) μ := dIs_lt rfl (by decide)
theorem dIs_dic_int {ks : List Key} {ds : List D} : dIs [(.dic ks ds), .ty "int"] μ Q = Q (.bl false) μ := dIs_ty rfl (by decide)
theorem dIs_dic_bool {ks : List Key} {ds : List D} : dIs [(.dic ks ds), .ty "bool"] μ Q = Q (.bl false) μ := dIs_ty rfl (by decide)
theorem dIs_dic_str {ks : List Key} {ds : List D} : dIs [(.dic ks ds), .ty "str"] μ Q = Q (.bl false) μ := dIs_ty rfl (by decide)
theorem dIs_dic_list {ks : List Key} {ds : List D} : dIs [(.dic ks ds), .ty "list"] μ Q = Q (.bl false) μ := dIs_ty rfl (by decide)
theorem dIs_dic_tuple {ks : List Key} {ds : List D} : dIs [(.dic ks ds), .ty "tuple"] μ Q = Q (.bl false) μ := dIs_ty rfl (by decide)
theorem dIs_dic_dict {ks : List Key} {ds : List D} : dIs [(.dic ks ds), .ty "dict"] μ Q = Q (.bl true) μ := dIs_ty rfl (by decide)
theorem dIs_dic_lt {ks : List Key} {ds : List D} : dIs [(.dic ks ds), .tup [.ty "list", .ty "tuple"]] μ Q = Q (.bl false) μ := dIs_lt rfl (by decide)
theorem dIx_t {ds : List D} {i : Int} {a : D} (e : atI ds i = some a) : dIx (.tup ds) (.int i) μ Q = Q a μ := by
  unfold dIx
  simp only [asS, e]
theorem dIx_l {ds : List D} {i : Int} {a : D} (e : atI ds i = some a) : dIx (.lst ds) (.int i) μ Q = Q a μ := by
  unfold dIx
  simp only [asS, asL, e]
theorem dIx_t0 {a : D} {ds : List D} : dIx (.tup (a :: ds)) (.int 0) μ Q = Q a μ := dIx_t (by unfold atI ixN; simp)
theorem dIx_t1 {a b : D} {ds : List D} : dIx (.tup (a :: b :: ds)) (.int 1) μ Q = Q b μ := dIx_t (by unfold atI ixN; simp; rw [if_pos (by omega)]; rfl)
theorem dIx_t2 {a b c : D} {ds : List D} : dIx (.tup (a :: b :: c :: ds)) (.int 2) μ Q = Q c μ := dIx_t (by unfold atI ixN; simp; rw [if_pos (by omega)]; rfl)
theorem dIx_l0 {a : D} {ds : List D} : dIx (.lst (a :: ds)) (.int 0) μ Q = Q a μ := dIx_l (by unfold atI ixN; simp)
theorem dEq_ii {n : Bool} {i j : Int} : dEq n (.int i) (.int j) μ Q = Q (.bl (n ^^ (i == j))) μ := rfl
theorem dEq_ss {n : Bool} {i j : Str} : dEq n (.str i) (.str j) μ Q = Q (.bl (n ^^ (i == j))) μ := rfl
theorem dEq_bb {n : Bool} {i j : Bool} : dEq n (.bl i) (.bl j) μ Q = Q (.bl (n ^^ (i == j))) μ := rfl
end
end J

set_option Elab.async false
set_option linter.all false
set_option maxRecDepth 100000
namespace J
/-! ### fractions in lowest terms -/
def low (p q : Int) : Int × Int := (p / ((Nat.gcd p.natAbs q.natAbs : Nat) : Int), q / ((Nat.gcd p.natAbs q.natAbs : Nat) : Int))
structure Low (p q : Int) (x : Int × Int) : Prop where
  c : Nat.Coprime x.1.natAbs x.2.natAbs
  s : 0 < x.2
  e : ∃ g : Int, 0 < g ∧ p = x.1 * g ∧ q = x.2 * g
theorem low_is {p q : Int} (hq : 0 < q) : Low p q (low p q) := by
  have hg : 0 < Nat.gcd p.natAbs q.natAbs := Nat.gcd_pos_of_pos_right _ (by omega)
  have hgi : (0 : Int) < ((Nat.gcd p.natAbs q.natAbs : Nat) : Int) := by omega
  have d1 : ((Nat.gcd p.natAbs q.natAbs : Nat) : Int) ∣ p := Int.ofNat_dvd_left.mpr (Nat.gcd_dvd_left _ _)
  have d2 : ((Nat.gcd p.natAbs q.natAbs : Nat) : Int) ∣ q := Int.ofNat_dvd_left.mpr (Nat.gcd_dvd_right _ _)
  have e1 : p = (low p q).1 * ((Nat.gcd p.natAbs q.natAbs : Nat) : Int) := (Int.ediv_mul_cancel d1).symm
  have e2 : q = (low p q).2 * ((Nat.gcd p.natAbs q.natAbs : Nat) : Int) := (Int.ediv_mul_cancel d2).symm
  refine ⟨?_, ?_, _, hgi, e1, e2⟩
  · have h1 : (low p q).1.natAbs = p.natAbs / Nat.gcd p.natAbs q.natAbs := by
      unfold low
      rw [Int.natAbs_ediv_of_dvd d1]; simp
    have h2 : (low p q).2.natAbs = q.natAbs / Nat.gcd p.natAbs q.natAbs := by
      unfold low
      rw [Int.natAbs_ediv_of_dvd d2]; simp
    rw [h1, h2]
    exact Nat.coprime_div_gcd_div_gcd hg
  · exact Int.ediv_pos_of_pos_of_dvd hq (by omega) d2
theorem low_uni {p q p' q' : Int} {x y : Int × Int} (a : Low p q x) (b : Low p' q' y) (h : p * q' = p' * q) : x = y := by
  obtain ⟨c1, s1, g, hg, e1, e2⟩ := a
  obtain ⟨c2, s2, g', hg', e3, e4⟩ := b
  have hc : x.1 * y.2 = y.1 * x.2 := by
    have hz : (x.1 * y.2 - y.1 * x.2) * (g * g') = 0 := by
      subst e1 e2 e3 e4
      grind
    have hgg : g * g' ≠ 0 := by
      have := Int.mul_pos hg hg'
      omega
    have := (Int.mul_eq_zero.mp hz).resolve_right hgg
    omega
  have hn : x.1.natAbs * y.2.natAbs = y.1.natAbs * x.2.natAbs := by
    rw [← Int.natAbs_mul, ← Int.natAbs_mul, hc]
  have d1 : x.2.natAbs ∣ y.2.natAbs := by
    refine Nat.Coprime.dvd_of_dvd_mul_left c1.symm ?_
    rw [hn]; exact Nat.dvd_mul_left _ _
  have d2 : y.2.natAbs ∣ x.2.natAbs := by
    refine Nat.Coprime.dvd_of_dvd_mul_left c2.symm ?_
    rw [← hn]; exact Nat.dvd_mul_left _ _
  have e : x.2 = y.2 := by
    have := Nat.dvd_antisymm d1 d2
    omega
  have e' : x.1 = y.1 := by
    rw [e] at hc
    exact Int.eq_of_mul_eq_mul_right (by omega) hc
  exact Prod.ext e' e
theorem low_eq {p q p' q' : Int} (hq : 0 < q) (hq' : 0 < q') (h : p * q' = p' * q) : low p q = low p' q' := low_uni (low_is hq) (low_is hq') h
theorem low_x {p q : Int} (hq : 0 < q) : p * (low p q).2 = (low p q).1 * q := by
  obtain ⟨_, _, g, _, e1, e2⟩ := low_is (p := p) hq
  generalize low p q = x at e1 e2 ⊢
  subst e1 e2
  grind
theorem low_pos {p q : Int} (hq : 0 < q) : 0 < (low p q).2 := (low_is hq).s
/-- a share's two numbers -/
def IsLow (x : Int × Int) : Prop := Nat.Coprime x.1.natAbs x.2.natAbs ∧ 0 < x.2
theorem low_isLow {p q : Int} (hq : 0 < q) : IsLow (low p q) := ⟨(low_is hq).c, (low_is hq).s⟩
theorem low_self {x : Int × Int} (h : IsLow x) : low x.1 x.2 = x := low_uni (low_is h.2) ⟨h.1, h.2, 1, by decide, by omega, by omega⟩ rfl
def addF (x y : Int × Int) : Int × Int := low (x.1 * y.2 + y.1 * x.2) (x.2 * y.2)
def subF (x y : Int × Int) : Int × Int := low (x.1 * y.2 - y.1 * x.2) (x.2 * y.2)
def mulF (x y : Int × Int) : Int × Int := low (x.1 * y.1) (x.2 * y.2)
def scF (x : Int × Int) (n : Int) : Int × Int := low (x.1 * n) x.2
section
variable {x y z : Int × Int} {p q p' q' n : Int}
theorem addF_ll (hq : 0 < q) (hq' : 0 < q') : addF (low p q) (low p' q') = low (p * q' + p' * q) (q * q') := by
  refine low_eq (Int.mul_pos (low_pos hq) (low_pos hq')) (Int.mul_pos hq hq') ?_
  have h1 := low_x (p := p) hq
  have h2 := low_x (p := p') hq'
  generalize low p q = x at h1 ⊢
  generalize low p' q' = y at h2 ⊢
  grind
theorem subF_ll (hq : 0 < q) (hq' : 0 < q') : subF (low p q) (low p' q') = low (p * q' - p' * q) (q * q') := by
  refine low_eq (Int.mul_pos (low_pos hq) (low_pos hq')) (Int.mul_pos hq hq') ?_
  have h1 := low_x (p := p) hq
  have h2 := low_x (p := p') hq'
  generalize low p q = x at h1 ⊢
  generalize low p' q' = y at h2 ⊢
  grind
theorem mulF_ll (hq : 0 < q) (hq' : 0 < q') : mulF (low p q) (low p' q') = low (p * p') (q * q') := by
  refine low_eq (Int.mul_pos (low_pos hq) (low_pos hq')) (Int.mul_pos hq hq') ?_
  have h1 := low_x (p := p) hq
  have h2 := low_x (p := p') hq'
  generalize low p q = x at h1 ⊢
  generalize low p' q' = y at h2 ⊢
  grind
theorem scF_l (hq : 0 < q) : scF (low p q) n = low (p * n) q := by
  refine low_eq (low_pos hq) hq ?_
  have h1 := low_x (p := p) hq
  generalize low p q = x at h1 ⊢
  grind
end
/-- their sizes -/
structure Sz (n : Nat) (x : Int × Int) : Prop where
  l : x.1.natAbs < 2 ^ n
  s : 0 < x.2
  b : x.2.natAbs < 2 ^ n
theorem Sz.mono {n m : Nat} {x : Int × Int} (h : Sz n x) (le : n ≤ m) : Sz m x :=
  ⟨Nat.lt_of_lt_of_le h.l (Nat.pow_le_pow_right (by decide) le), h.s, Nat.lt_of_lt_of_le h.b (Nat.pow_le_pow_right (by decide) le)⟩
theorem sz_low {n : Nat} {p q : Int} (hp : p.natAbs < 2 ^ n) (hq : 0 < q) (hb : q.natAbs < 2 ^ n) : Sz n (low p q) := by
  have d1 : ((Nat.gcd p.natAbs q.natAbs : Nat) : Int) ∣ p := Int.ofNat_dvd_left.mpr (Nat.gcd_dvd_left _ _)
  have d2 : ((Nat.gcd p.natAbs q.natAbs : Nat) : Int) ∣ q := Int.ofNat_dvd_left.mpr (Nat.gcd_dvd_right _ _)
  refine ⟨?_, low_pos hq, ?_⟩
  · unfold low
    rw [Int.natAbs_ediv_of_dvd d1]
    exact Nat.lt_of_le_of_lt (Nat.div_le_self _ _) hp
  · unfold low
    rw [Int.natAbs_ediv_of_dvd d2]
    exact Nat.lt_of_le_of_lt (Nat.div_le_self _ _) hb
theorem mul_lt_pow {a b : Int} {n m : Nat} (h1 : a.natAbs < 2 ^ n) (h2 : b.natAbs < 2 ^ m) : (a * b).natAbs < 2 ^ (n + m) := by
  rw [Int.natAbs_mul, Nat.pow_add]
  exact Nat.mul_lt_mul'' h1 h2
theorem pow_pos2 (n : Nat) : 0 < 2 ^ n := Nat.pow_pos (by decide)
theorem add_lt_pow {a b : Int} {n : Nat} (h1 : a.natAbs < 2 ^ n) (h2 : b.natAbs < 2 ^ n) : (a + b).natAbs < 2 ^ (n + 1) ∧ (a - b).natAbs < 2 ^ (n + 1) := by
  rw [Nat.pow_succ]
  constructor <;> omega
theorem up_pow {a : Int} {n m : Nat} (h : a.natAbs < 2 ^ n) (le : n ≤ m) : a.natAbs < 2 ^ m := Nat.lt_of_lt_of_le h (Nat.pow_le_pow_right (by decide) le)
section
variable {x y : Int × Int} {n m : Nat} {k : Int}
theorem raw_add (h : Sz n x) (h2 : Sz m y) : (x.1 * y.2 + y.1 * x.2).natAbs < 2 ^ (n + m + 1) ∧ (x.1 * y.2 - y.1 * x.2).natAbs < 2 ^ (n + m + 1) := by
  have a := mul_lt_pow h.l h2.b
  have b := mul_lt_pow h2.l h.b
  rw [Nat.add_comm m n] at b
  exact add_lt_pow a b
theorem raw_b (h : Sz n x) (h2 : Sz m y) : 0 < x.2 * y.2 ∧ (x.2 * y.2).natAbs < 2 ^ (n + m) := ⟨Int.mul_pos h.s h2.s, mul_lt_pow h.b h2.b⟩
theorem sz_add (h : Sz n x) (h2 : Sz m y) : Sz (n + m + 1) (addF x y) := sz_low (raw_add h h2).1 (raw_b h h2).1 (up_pow (raw_b h h2).2 (by omega))
theorem sz_sub (h : Sz n x) (h2 : Sz m y) : Sz (n + m + 1) (subF x y) := sz_low (raw_add h h2).2 (raw_b h h2).1 (up_pow (raw_b h h2).2 (by omega))
theorem sz_mul (h : Sz n x) (h2 : Sz m y) : Sz (n + m + 1) (mulF x y) := sz_low (up_pow (mul_lt_pow h.l h2.l) (by omega)) (raw_b h h2).1 (up_pow (raw_b h h2).2 (by omega))
theorem sz_sc (h : Sz n x) (h2 : k.natAbs < 2 ^ m) : Sz (n + m + 1) (scF x k) := sz_low (up_pow (mul_lt_pow h.l h2) (by omega)) h.s (up_pow h.b (by omega))
end
/-- the sum and a summand -/
theorem less_add {x y : Int × Int} (hx : 0 < x.2) (hy : 0 < y.2) : (decide ((addF x y).1 * x.2 < x.1 * (addF x y).2) = decide (y.1 < 0)) ∧ (decide (x.1 * (addF x y).2 < (addF x y).1 * x.2) = decide (y.1 > 0)) := by
  have hq := Int.mul_pos hx hy
  have h := low_x (p := x.1 * y.2 + y.1 * x.2) hq
  have hs := low_pos (p := x.1 * y.2 + y.1 * x.2) hq
  show (decide ((low _ _).1 * x.2 < x.1 * (low _ _).2) = _) ∧ (decide (x.1 * (low _ _).2 < (low _ _).1 * x.2) = _)
  generalize low (x.1 * y.2 + y.1 * x.2) (x.2 * y.2) = s at h hs ⊢
  obtain ⟨a, b⟩ := x
  obtain ⟨c, d⟩ := y
  obtain ⟨t, u⟩ := s
  simp only at *
  have key : (t * b - a * u) * d = c * (b * u) := by grind
  have hs := Int.mul_pos hx hs
  generalize b * u = u' at key hs
  constructor
  · rw [Bool.eq_iff_iff]; simp only [decide_eq_true_eq]
    constructor
    · intro hl
      have : (t * b - a * u) * d < 0 := Int.mul_neg_of_neg_of_pos (by omega) hy
      rw [key] at this
      by_cases hc : c < 0
      · exact hc
      · have := Int.mul_nonneg (a := c) (b := u') (by omega) (by omega)
        omega
    · intro hc
      have : c * u' < 0 := Int.mul_neg_of_neg_of_pos hc hs
      rw [← key] at this
      by_cases hl : t * b < a * u
      · exact hl
      · have := Int.mul_nonneg (a := t * b - a * u) (b := d) (by omega) (by omega)
        omega
  · rw [Bool.eq_iff_iff]; simp only [decide_eq_true_eq]
    constructor
    · intro hl
      have : 0 < (t * b - a * u) * d := Int.mul_pos (by omega) hy
      rw [key] at this
      by_cases hc : 0 < c
      · exact hc
      · have := Int.mul_nonneg (a := -c) (b := u') (by omega) (by omega)
        rw [Int.neg_mul] at this
        omega
    · intro hc
      have : 0 < c * u' := Int.mul_pos hc hs
      rw [← key] at this
      by_cases hl : a * u < t * b
      · exact hl
      · have := Int.mul_nonneg (a := a * u - t * b) (b := d) (by omega) (by omega)
        have e : (a * u - t * b) * d = -((t * b - a * u) * d) := by grind
        omega
end J

set_option Elab.async false
set_option linter.all false
set_option maxRecDepth 100000
namespace J
section
variable {x y z : Int × Int} {n s : Int}
theorem addF_l {p q : Int} (hq : 0 < q) (hz : IsLow z) : addF (low p q) z = low (p * z.2 + z.1 * q) (q * z.2) := by
  have h := addF_ll (p := p) (p' := z.1) hq hz.2
  rwa [low_self hz] at h
theorem addF_r {p q : Int} (hq : 0 < q) (hz : IsLow z) : addF z (low p q) = low (z.1 * q + p * z.2) (z.2 * q) := by
  have h := addF_ll (p := z.1) (p' := p) hz.2 hq
  rwa [low_self hz] at h
theorem subF_l {p q : Int} (hq : 0 < q) (hz : IsLow z) : subF (low p q) z = low (p * z.2 - z.1 * q) (q * z.2) := by
  have h := subF_ll (p := p) (p' := z.1) hq hz.2
  rwa [low_self hz] at h
theorem mulF_l {p q : Int} (hq : 0 < q) (hz : IsLow z) : mulF (low p q) z = low (p * z.1) (q * z.2) := by
  have h := mulF_ll (p := p) (p' := z.1) hq hz.2
  rwa [low_self hz] at h
theorem mulF_r {p q : Int} (hq : 0 < q) (hz : IsLow z) : mulF z (low p q) = low (z.1 * p) (z.2 * q) := by
  have h := mulF_ll (p := z.1) (p' := p) hz.2 hq
  rwa [low_self hz] at h
theorem pos2 (hx : IsLow x) (hy : IsLow y) : 0 < x.2 * y.2 := Int.mul_pos hx.2 hy.2
theorem add_commF : addF x y = addF y x := by
  unfold addF
  rw [Int.add_comm, Int.mul_comm x.2 y.2]
theorem mul_commF : mulF x y = mulF y x := by
  unfold mulF
  rw [Int.mul_comm x.1 y.1, Int.mul_comm x.2 y.2]
theorem add_assocF (hx : IsLow x) (hy : IsLow y) (hz : IsLow z) : addF (addF x y) z = addF x (addF y z) := by
  show addF (low _ _) z = addF x (low _ _)
  rw [addF_l (pos2 hx hy) hz, addF_r (pos2 hy hz) hx]
  congr 1 <;> grind
theorem mul_assocF (hx : IsLow x) (hy : IsLow y) (hz : IsLow z) : mulF (mulF x y) z = mulF x (mulF y z) := by
  show mulF (low _ _) z = mulF x (low _ _)
  rw [mulF_l (pos2 hx hy) hz, mulF_r (pos2 hy hz) hx]
  congr 1 <;> grind
theorem mul_addF (hx : IsLow x) (hy : IsLow y) (hz : IsLow z) : mulF x (addF y z) = addF (mulF x y) (mulF x z) := by
  show mulF x (low _ _) = addF (low _ _) (low _ _)
  rw [mulF_r (pos2 hy hz) hx, addF_ll (pos2 hx hy) (pos2 hx hz)]
  have h1 := hx.2
  have h2 := pos2 hy hz
  have h3 := pos2 hx hy
  have h4 := pos2 hx hz
  refine low_eq (Int.mul_pos h1 h2) (Int.mul_pos h3 h4) ?_
  grind
theorem add_subF (hx : IsLow x) (hy : IsLow y) : subF (addF x y) y = x := by
  show subF (low _ _) y = x
  rw [subF_l (pos2 hx hy) hy]
  refine .trans (low_eq (Int.mul_pos (pos2 hx hy) hy.2) hx.2 ?_) (low_self hx)
  grind
theorem sub_addF (hx : IsLow x) (hy : IsLow y) : addF (subF x y) y = x := by
  show addF (low _ _) y = x
  rw [addF_l (pos2 hx hy) hy]
  refine .trans (low_eq (Int.mul_pos (pos2 hx hy) hy.2) hx.2 ?_) (low_self hx)
  grind
theorem sc_addF (hx : IsLow x) (hy : IsLow y) : scF (addF x y) n = addF (scF x n) (scF y n) := by
  show scF (low _ _) n = addF (low _ _) (low _ _)
  rw [scF_l (pos2 hx hy), addF_ll hx.2 hy.2]
  congr 1
  grind
theorem low_0 {q : Int} (hq : 0 < q) : low 0 q = (0, 1) := by
  have h : low 0 q = low 0 1 := low_eq hq (by decide) (by omega)
  rw [h]; rfl
theorem sub_selfF (hx : IsLow x) : subF x x = (0, 1) := by
  show low (x.1 * x.2 - x.1 * x.2) (x.2 * x.2) = _
  rw [Int.sub_self, low_0 (pos2 hx hx)]
theorem sc_0 (hx : IsLow x) : scF x 0 = (0, 1) := by
  show low (x.1 * 0) x.2 = _
  rw [Int.mul_zero, low_0 hx.2]
theorem plus_1 : low (x.1 * y.2 + 1 * y.1 * x.2) (x.2 * y.2) = addF x y := by
  rw [Int.one_mul]; rfl
theorem plus_m : low (x.1 * y.2 + -1 * y.1 * x.2) (x.2 * y.2) = subF x y := by
  show _ = low (x.1 * y.2 - y.1 * x.2) (x.2 * y.2)
  congr 1; grind
theorem times_c : low (n * x.1) x.2 = scF x n := by rw [Int.mul_comm]; rfl
theorem isLow_add (hx : IsLow x) (hy : IsLow y) : IsLow (addF x y) := low_isLow (pos2 hx hy)
theorem isLow_sub (hx : IsLow x) (hy : IsLow y) : IsLow (subF x y) := low_isLow (pos2 hx hy)
theorem isLow_mul (hx : IsLow x) (hy : IsLow y) : IsLow (mulF x y) := low_isLow (pos2 hx hy)
end
end J

set_option Elab.async false
set_option linter.all false
set_option maxRecDepth 100000
set_option maxHeartbeats 4000000
set_option exponentiation.threshold 6000
namespace Law
open PySem L2 J
def topS (i : Nat) : Stmt := PySem.Challenge.pw_deedranks_k03_whole_shares_added_and_mul.main.body.getD i (.Pass ⟨0, 0, 0, 0⟩)
abbrev s_is_whole : Stmt := topS 9
theorem sc_is_whole : FnScope ["value"] ["value"] (defScope s_is_whole) := ⟨rfl, rfl, rfl, by decide +kernel, rfl, by decide +kernel, by decide +kernel⟩
abbrev s_number_text : Stmt := topS 10
theorem sc_number_text : FnScope ["number", "blocks", "block"] ["number"] (defScope s_number_text) := ⟨rfl, rfl, rfl, by decide +kernel, rfl, by decide +kernel, by decide +kernel⟩
abbrev s_Share___init__ : Stmt := inClass (topS 13) 0
theorem sc_Share___init__ : FnScope ["self", "top", "bottom", "common"] ["self", "top", "bottom"] (defScope s_Share___init__) := ⟨rfl, rfl, rfl, by decide +kernel, rfl, by decide +kernel, by decide +kernel⟩
abbrev s_Share___add__ : Stmt := inClass (topS 13) 1
theorem sc_Share___add__ : FnScope ["self", "other"] ["self", "other"] (defScope s_Share___add__) := ⟨rfl, rfl, rfl, by decide +kernel, rfl, by decide +kernel, by decide +kernel⟩
abbrev s_Share___sub__ : Stmt := inClass (topS 13) 2
theorem sc_Share___sub__ : FnScope ["self", "other"] ["self", "other"] (defScope s_Share___sub__) := ⟨rfl, rfl, rfl, by decide +kernel, rfl, by decide +kernel, by decide +kernel⟩
abbrev s_Share___mul__ : Stmt := inClass (topS 13) 3
theorem sc_Share___mul__ : FnScope ["self", "other"] ["self", "other"] (defScope s_Share___mul__) := ⟨rfl, rfl, rfl, by decide +kernel, rfl, by decide +kernel, by decide +kernel⟩
abbrev s_Share___rmul__ : Stmt := inClass (topS 13) 4
theorem sc_Share___rmul__ : FnScope ["self", "other"] ["self", "other"] (defScope s_Share___rmul__) := ⟨rfl, rfl, rfl, by decide +kernel, rfl, by decide +kernel, by decide +kernel⟩
abbrev s_Share___eq__ : Stmt := inClass (topS 13) 5
theorem sc_Share___eq__ : FnScope ["self", "other"] ["self", "other"] (defScope s_Share___eq__) := ⟨rfl, rfl, rfl, by decide +kernel, rfl, by decide +kernel, by decide +kernel⟩
abbrev s_Share___str__ : Stmt := inClass (topS 13) 6
theorem sc_Share___str__ : FnScope ["self"] ["self"] (defScope s_Share___str__) := ⟨rfl, rfl, rfl, by decide +kernel, rfl, by decide +kernel, by decide +kernel⟩
abbrev s_Share_less : Stmt := inClass (topS 13) 8
theorem sc_Share_less : FnScope ["self", "other"] ["self", "other"] (defScope s_Share_less) := ⟨rfl, rfl, rfl, by decide +kernel, rfl, by decide +kernel, by decide +kernel⟩
abbrev s_L_bag : Stmt := topS 16
theorem sc_L_bag : FnScope ["_law_script", "_law_cells"] ["_law_script"] (defScope s_L_bag) := ⟨rfl, rfl, rfl, by decide +kernel, rfl, by decide +kernel, by decide +kernel⟩
abbrev s_L_draw : Stmt := topS 17
theorem sc_L_draw : FnScope ["_law_bag_here", "_law_many", "_law_cell", "_law_digit", "_law_seed"] ["_law_bag_here", "_law_many"] (defScope s_L_draw) := ⟨rfl, rfl, rfl, by decide +kernel, rfl, by decide +kernel, by decide +kernel⟩
abbrev s_L_pick : Stmt := topS 18
theorem sc_L_pick : FnScope ["_law_bag_here", "_law_some"] ["_law_bag_here", "_law_some"] (defScope s_L_pick) := ⟨rfl, rfl, rfl, by decide +kernel, rfl, by decide +kernel, by decide +kernel⟩
abbrev s_L_same : Stmt := topS 19
theorem sc_L_same : FnScope ["_law_found", "_law_due", "_law_one", "_law_two"] ["_law_found", "_law_due"] (defScope s_L_same) := ⟨rfl, rfl, rfl, by decide +kernel, rfl, by decide +kernel, by decide +kernel⟩
abbrev s_L_common : Stmt := topS 20
theorem sc_L_common : FnScope ["_law_one", "_law_two", "_law_a", "_law_b"] ["_law_one", "_law_two"] (defScope s_L_common) := ⟨rfl, rfl, rfl, by decide +kernel, rfl, by decide +kernel, by decide +kernel⟩
abbrev s_L_low : Stmt := topS 21
theorem sc_L_low : FnScope ["_law_top", "_law_bottom", "_law_part"] ["_law_top", "_law_bottom"] (defScope s_L_low) := ⟨rfl, rfl, rfl, by decide +kernel, rfl, by decide +kernel, by decide +kernel⟩
abbrev s_L_share_text : Stmt := topS 22
theorem sc_L_share_text : FnScope ["_law_low_here"] ["_law_low_here"] (defScope s_L_share_text) := ⟨rfl, rfl, rfl, by decide +kernel, rfl, by decide +kernel, by decide +kernel⟩
abbrev s_L_fraction : Stmt := topS 23
theorem sc_L_fraction : FnScope ["_law_bag_here", "_law_size", "_law_factor"] ["_law_bag_here"] (defScope s_L_fraction) := ⟨rfl, rfl, rfl, by decide +kernel, rfl, by decide +kernel, by decide +kernel⟩
abbrev s_L_pair : Stmt := topS 24
theorem sc_L_pair : FnScope ["_law_one"] ["_law_one"] (defScope s_L_pair) := ⟨rfl, rfl, rfl, by decide +kernel, rfl, by decide +kernel, by decide +kernel⟩
abbrev s_L_plus : Stmt := topS 25
theorem sc_L_plus : FnScope ["_law_one", "_law_two", "_law_sign"] ["_law_one", "_law_two", "_law_sign"] (defScope s_L_plus) := ⟨rfl, rfl, rfl, by decide +kernel, rfl, by decide +kernel, by decide +kernel⟩
abbrev s_law : Stmt := topS 26
theorem sc_law : FnScope ["_law_script", "_law_bag_here", "_law_turn", "_law_parts", "_law_k", "_law_lows", "_law_top", "_law_bottom", "_law_one", "_law_two", "_law_three", "_law_many", "_law_told", "_law_a", "_law_b", "_law_c", "_law_product", "_law_times", "_law_due", "_law_late", "_law_both", "_law_total"] ["_law_script"] (defScope s_law) := ⟨rfl, rfl, rfl, by decide +kernel, rfl, by decide +kernel, by decide +kernel⟩
structure Top (K : PySem.W.Frag) (mg : Str → Option Value) where
  C_Share : Addr
  O_Share : OCls K C_Share
  g_Share : mg "Share" = some (.ref C_Share)
  fo_Share : Option Value
  ro_Share : Option Value
  i_Share_1 : PySem.W.findIn K (.type "int") (PySem.dunder Operator.Mult.info.2) = some fo_Share
  i_Share_2 : PySem.W.findIn K (.type "int") (dunderR Operator.Mult.info.2) = some ro_Share
  i_Share_3 : PySem.W.subIn K (.type "int") (.ref C_Share) = some false
  i_Share_4 : PySem.W.subIn K (.ref C_Share) (.type "int") = some false
  i_Share_5 : PySem.W.kitOne K (.type "int") (.ref C_Share) = some false
  n_Share_top : NoAttr K C_Share "top"
  n_Share_bottom : NoAttr K C_Share "bottom"
  f_is_whole : Addr
  fd_is_whole : FuncData
  F_is_whole : Fun K "is_whole" "is_whole" s_is_whole f_is_whole fd_is_whole
  b_is_whole : Binds K fd_is_whole ["value"] []
  g_is_whole : mg "is_whole" = some (.ref f_is_whole)
  f_number_text : Addr
  fd_number_text : FuncData
  F_number_text : Fun K "number_text" "number_text" s_number_text f_number_text fd_number_text
  b_number_text : Binds K fd_number_text ["number"] []
  g_number_text : mg "number_text" = some (.ref f_number_text)
  f_Share___init__ : Addr
  fd_Share___init__ : FuncData
  F_Share___init__ : FunD K "__init__" "Share.__init__" (defArgs s_Share___init__) (defBody s_Share___init__) (defScope s_Share___init__) [.int 1] [] f_Share___init__ fd_Share___init__
  b_Share___init__ : Binds K fd_Share___init__ ["self", "top", "bottom"] []
  M_Share : Mk K C_Share f_Share___init__
  f_Share___add__ : Addr
  fd_Share___add__ : FuncData
  F_Share___add__ : Fun K "__add__" "Share.__add__" s_Share___add__ f_Share___add__ fd_Share___add__
  b_Share___add__ : Binds K fd_Share___add__ ["self", "other"] []
  a_Share___add__ : PySem.W.findIn K (.ref C_Share) (PySem.dunder Operator.Add.info.2) = some (some (.ref f_Share___add__))
  m_Share___add__ : Meth K C_Share "__add__" f_Share___add__
  f_Share___sub__ : Addr
  fd_Share___sub__ : FuncData
  F_Share___sub__ : Fun K "__sub__" "Share.__sub__" s_Share___sub__ f_Share___sub__ fd_Share___sub__
  b_Share___sub__ : Binds K fd_Share___sub__ ["self", "other"] []
  a_Share___sub__ : PySem.W.findIn K (.ref C_Share) (PySem.dunder Operator.Sub.info.2) = some (some (.ref f_Share___sub__))
  m_Share___sub__ : Meth K C_Share "__sub__" f_Share___sub__
  f_Share___mul__ : Addr
  fd_Share___mul__ : FuncData
  F_Share___mul__ : Fun K "__mul__" "Share.__mul__" s_Share___mul__ f_Share___mul__ fd_Share___mul__
  b_Share___mul__ : Binds K fd_Share___mul__ ["self", "other"] []
  a_Share___mul__ : PySem.W.findIn K (.ref C_Share) (PySem.dunder Operator.Mult.info.2) = some (some (.ref f_Share___mul__))
  m_Share___mul__ : Meth K C_Share "__mul__" f_Share___mul__
  f_Share___rmul__ : Addr
  fd_Share___rmul__ : FuncData
  F_Share___rmul__ : Fun K "__rmul__" "Share.__rmul__" s_Share___rmul__ f_Share___rmul__ fd_Share___rmul__
  b_Share___rmul__ : Binds K fd_Share___rmul__ ["self", "other"] []
  a_Share___rmul__ : PySem.W.findIn K (.ref C_Share) (dunderR Operator.Mult.info.2) = some (some (.ref f_Share___rmul__))
  m_Share___rmul__ : Meth K C_Share "__rmul__" f_Share___rmul__
  f_Share___eq__ : Addr
  fd_Share___eq__ : FuncData
  F_Share___eq__ : Fun K "__eq__" "Share.__eq__" s_Share___eq__ f_Share___eq__ fd_Share___eq__
  b_Share___eq__ : Binds K fd_Share___eq__ ["self", "other"] []
  m_Share___eq__ : Meth K C_Share "__eq__" f_Share___eq__
  f_Share___str__ : Addr
  fd_Share___str__ : FuncData
  F_Share___str__ : Fun K "__str__" "Share.__str__" s_Share___str__ f_Share___str__ fd_Share___str__
  b_Share___str__ : Binds K fd_Share___str__ ["self"] []
  m_Share___str__ : Meth K C_Share "__str__" f_Share___str__
  f_Share_less : Addr
  fd_Share_less : FuncData
  F_Share_less : Fun K "less" "Share.less" s_Share_less f_Share_less fd_Share_less
  b_Share_less : Binds K fd_Share_less ["self", "other"] []
  m_Share_less : Meth K C_Share "less" f_Share_less
  f_L_bag : Addr
  fd_L_bag : FuncData
  F_L_bag : Fun K "_law_bag" "_law_bag" s_L_bag f_L_bag fd_L_bag
  b_L_bag : Binds K fd_L_bag ["_law_script"] []
  g_L_bag : mg "_law_bag" = some (.ref f_L_bag)
  f_L_draw : Addr
  fd_L_draw : FuncData
  F_L_draw : Fun K "_law_draw" "_law_draw" s_L_draw f_L_draw fd_L_draw
  b_L_draw : Binds K fd_L_draw ["_law_bag_here", "_law_many"] []
  g_L_draw : mg "_law_draw" = some (.ref f_L_draw)
  f_L_pick : Addr
  fd_L_pick : FuncData
  F_L_pick : Fun K "_law_pick" "_law_pick" s_L_pick f_L_pick fd_L_pick
  b_L_pick : Binds K fd_L_pick ["_law_bag_here", "_law_some"] []
  g_L_pick : mg "_law_pick" = some (.ref f_L_pick)
  f_L_same : Addr
  fd_L_same : FuncData
  F_L_same : Fun K "_law_same" "_law_same" s_L_same f_L_same fd_L_same
  b_L_same : Binds K fd_L_same ["_law_found", "_law_due"] []
  g_L_same : mg "_law_same" = some (.ref f_L_same)
  f_L_common : Addr
  fd_L_common : FuncData
  F_L_common : Fun K "_law_common" "_law_common" s_L_common f_L_common fd_L_common
  b_L_common : Binds K fd_L_common ["_law_one", "_law_two"] []
  g_L_common : mg "_law_common" = some (.ref f_L_common)
  f_L_low : Addr
  fd_L_low : FuncData
  F_L_low : Fun K "_law_low" "_law_low" s_L_low f_L_low fd_L_low
  b_L_low : Binds K fd_L_low ["_law_top", "_law_bottom"] []
  g_L_low : mg "_law_low" = some (.ref f_L_low)
  f_L_share_text : Addr
  fd_L_share_text : FuncData
  F_L_share_text : Fun K "_law_share_text" "_law_share_text" s_L_share_text f_L_share_text fd_L_share_text
  b_L_share_text : Binds K fd_L_share_text ["_law_low_here"] []
  g_L_share_text : mg "_law_share_text" = some (.ref f_L_share_text)
  f_L_fraction : Addr
  fd_L_fraction : FuncData
  F_L_fraction : Fun K "_law_fraction" "_law_fraction" s_L_fraction f_L_fraction fd_L_fraction
  b_L_fraction : Binds K fd_L_fraction ["_law_bag_here"] []
  g_L_fraction : mg "_law_fraction" = some (.ref f_L_fraction)
  f_L_pair : Addr
  fd_L_pair : FuncData
  F_L_pair : Fun K "_law_pair" "_law_pair" s_L_pair f_L_pair fd_L_pair
  b_L_pair : Binds K fd_L_pair ["_law_one"] []
  g_L_pair : mg "_law_pair" = some (.ref f_L_pair)
  f_L_plus : Addr
  fd_L_plus : FuncData
  F_L_plus : Fun K "_law_plus" "_law_plus" s_L_plus f_L_plus fd_L_plus
  b_L_plus : Binds K fd_L_plus ["_law_one", "_law_two", "_law_sign"] []
  g_L_plus : mg "_law_plus" = some (.ref f_L_plus)
  f_law : Addr
  fd_law : FuncData
  F_law : Fun K "law" "law" s_law f_law fd_law
  b_law : Binds K fd_law ["_law_script"] []
  g_law : mg "law" = some (.ref f_law)
  z_abs : mg "abs" = none
  z_all : mg "all" = none
  z_bool : mg "bool" = none
  z_dict : mg "dict" = none
  z_int : mg "int" = none
  z_isinstance : mg "isinstance" = none
  z_len : mg "len" = none
  z_list : mg "list" = none
  z_range : mg "range" = none
  z_str : mg "str" = none
  z_tuple : mg "tuple" = none
  z_zip : mg "zip" = none
  tk__BLOCK : Tok
  g__BLOCK : mg "_BLOCK" = some (.int (1000000000000000000000000000000000000000000000000000000000000) tk__BLOCK)
  g_gcd : mg "gcd" = some (.builtin "math.gcd")
section
variable {P : Program} {w : World} {K : PySem.W.Frag} {mg : Str → Option Value} {base : Heap}
def isWhole : D → Bool | .int _ => true | _ => false
def C_is_whole : Ct := fun ds μ Q _ => ∃ i, ds = [.int i] ∧ Q (.bl true) μ
theorem ok_is_whole (T : Top K mg) : FnOk P w K mg base CX0 1 T.f_is_whole T.fd_is_whole ["value"] (spOf C_is_whole) := by
  refine fn0 T.F_is_whole sc_is_whole C_is_whole _ (fun ds μ Q Ex ⟨d, e, _⟩ => by rw [e]; rfl) (fun cdv A outer s H E hr => jss_one (js_ret (je_and (je_callB cr_is rl_is (by rfl) T.z_isinstance (by decide +kernel) (ja_cons (je_var 0) (ja_cons (je_ty (n := "int") (by rfl) T.z_int (by decide +kernel)) ja_nil))) (je_one (je_not (je_callB cr_is rl_is (by rfl) T.z_isinstance (by decide +kernel) (ja_cons (je_var 0) (ja_cons (je_ty (n := "bool") (by rfl) T.z_bool (by decide +kernel)) ja_nil)))))))) ?_
  rintro ds μ Q Ex ⟨i, rfl, q⟩
  rw [show startD ["value"] [.int i] = [some (.int i)] from rfl]
  simp only [↓jC_r, ↓jBin_r, ↓jTV_r, ↓jChain_r, ↓jAnd_r, ↓jOr_r, ↓jNot_r, ↓jAndV_r, ↓jOrV_r, ↓jNotV_r, ↓jIf_r, ↓jUn_r, ↓jNil_r, ↓jCons_r, ↓jTup_r, ↓jLst_r, ↓jNext_r, ↓jRet_r, ↓jIfS_r, ↓jDrop_r, ↓jSet_r, ↓jCall_r, ↓jCallKw_r, ↓jCB_r, ↓jSl_r, ↓jNo_r, ↓jPart_r, ↓jT0_r, ↓jT1_r, ↓jSS_r, ↓jLc_r, ↓jFor_r, ↓jSeqI_r, ↓jRange1_r, ↓jRange2_r, ↓jZip_r, ↓jYes_r, ↓jOwn_r, ↓jApp_r, ↓jDic0_r, ↓jDic1_r, ↓jPut_r, ↓jVar_0, ↓jVar_s, ↓gN_r, ↓List.set_cons_zero, ↓List.set_cons_succ, wipeD, ↓onI_int, ↓onB_bl, ↓onD_bl, ↓onN_bl, ↓onS_str, ↓onRef_ref, ↓jFld_r, ↓jFldS_r, ↓jMake_r, ↓jMeth_r, ↓jOwn2_r, ↓jOwnI_r, ↓jOwnR_r, ↓jIsO_r, ↓jStrO_r, ↓jFmt_r, ↓jJoin_r, ↓onJ_str, ↓jJs_nil, ↓jJs_cons, ↓on2_c, ↓jPar_r, ↓jAsg_r, ↓onO3_s, ↓onSm_s, ↓asO_obj, ↓onTxt_str, ↓onTxt_int, ↓isO_obj, ↓isO_int, ↓onStr_str, ↓gPair_t, ↓gUnlD_l, ↓gTupD_l, ↓setAll_nil, ↓setAll_cons, ↓dGcd_ii, ↓dDiv_ii, ↓dMod_ii, ↓dMul_ii, ↓dAbs_int, ↓dInt_int, ↓dStr_int, ↓dStr_str, ↓dEq_ii, ↓dEq_ss, ↓dEq_bb, ↓dIx_t0, ↓dIx_t1, ↓dIx_t2, ↓dIx_l0, ↓Bool.false_xor, ↓Bool.true_xor, ↓dAdd_ii, ↓dAdd_ss, ↓dAdd_ll, ↓dAdd_tt, ↓dSub_ii, ↓dCmp_ii, ↓dCmp_ss, ↓dCmpI_ii, ↓dLen_str, ↓dLen_lst, ↓dLen_tup, ↓dSl_str, ↓dSl_tup, ↓dSl_lst, ↓dRevT_tup, ↓dListX_tup, ↓dListX_lst, ↓dTuple_lst, ↓dNeg_int, ↓dPow_ii, ↓dItems_lst, ↓dItems_tup, ↓pick_1, ↓dIs_non_int, ↓dIs_non_bool, ↓dIs_non_str, ↓dIs_non_list, ↓dIs_non_tuple, ↓dIs_non_dict, ↓dIs_non_lt, ↓dIs_bl_int, ↓dIs_bl_bool, ↓dIs_bl_str, ↓dIs_bl_list, ↓dIs_bl_tuple, ↓dIs_bl_dict, ↓dIs_bl_lt, ↓dIs_int_int, ↓dIs_int_bool, ↓dIs_int_str, ↓dIs_int_list, ↓dIs_int_tuple, ↓dIs_int_dict, ↓dIs_int_lt, ↓dIs_str_int, ↓dIs_str_bool, ↓dIs_str_str, ↓dIs_str_list, ↓dIs_str_tuple, ↓dIs_str_dict, ↓dIs_str_lt, ↓dIs_lst_int, ↓dIs_lst_bool, ↓dIs_lst_str, ↓dIs_lst_list, ↓dIs_lst_tuple, ↓dIs_lst_dict, ↓dIs_lst_lt, ↓dIs_tup_int, ↓dIs_tup_bool, ↓dIs_tup_str, ↓dIs_tup_list, ↓dIs_tup_tuple, ↓dIs_tup_dict, ↓dIs_tup_lt, ↓dIs_dic_int, ↓dIs_dic_bool, ↓dIs_dic_str, ↓dIs_dic_list, ↓dIs_dic_tuple, ↓dIs_dic_dict, ↓dIs_dic_lt, Bool.not_true, Bool.not_false, Bool.false_eq_true, if_true, if_false, eq_self, reduceIte]
  exact ret_ok q
/-- numbers as texts -/
theorem cat_ofString (a b : String) : Str.ofString a ++ Str.ofString b = Str.ofString (a ++ b) := by
  have e : ∀ x y : Str, x.cps.toList = y.cps.toList → x = y := fun x y h => by
    cases x; cases y; simp only at h; congr 1; exact Array.toList_inj.mp h
  refine e _ _ ?_
  rw [app_list, Str.ofString_eq_toList, Str.ofString_eq_toList, Str.ofString_eq_toList]
  simp [startD, jVar_r, dIs, tyD, tysOf, kitBs, dLen, dCmp, dCmpI, dS0b, txts, asS, asL, strsOf_map, boolsOf_map, dAll, dListX, dList, dItems, gN, wipeD]
theorem cat_empty (a : Str) : Str.empty ++ a = a := by
  have e : ∀ x y : Str, x.cps.toList = y.cps.toList → x = y := fun x y h => by
    cases x; cases y; simp only at h; congr 1; exact Array.toList_inj.mp h
  refine e _ _ ?_
  rw [app_list]; rfl
theorem neg_text {i : Int} (h : i < 0) : Str.empty ++ Str.ofString "-" ++ Str.ofString (toString (-i)) = Str.ofString (toString i) := by
  rw [cat_empty, cat_ofString]
  congr 1
  obtain ⟨m, rfl⟩ : ∃ m, i = Int.negSucc m := by
    cases i with
    | ofNat m => exact absurd h (by simp [startD, jVar_r, dIs, tyD, tysOf, kitBs, dLen, dCmp, dCmpI, dS0b, txts, asS, asL, strsOf_map, boolsOf_map, dAll, dListX, dList, dItems, gN, wipeD])
    | negSucc m => exact ⟨m, rfl⟩
  rfl
theorem text_fits {i : Int} (h : i.natAbs < 2 ^ 199) : (Str.ofString (toString i)).length ≤ sizeLine := int_text_fits (log_lt h (by decide))
theorem text_small {i : Int} (h : i.natAbs < 2 ^ 199) : (Str.ofString (toString i)).length ≤ 10000 := by
  have e := int_text_length_le (k := 200) (by decide) (log_lt h (by decide))
  rw [ofString_length]; omega
def C_number_text (n : Nat) : Ct := fun ds μ Q _ => ∃ i : Int, ds = [.int i] ∧ (0 ≤ i ∧ 1 ≤ n ∨ 2 ≤ n) ∧ i.natAbs < 2 ^ 199 ∧ Q (.str (toString i)) μ
theorem ok_number_text (T : Top K mg) : ∀ n, FnOk P w K mg base CX0 n T.f_number_text T.fd_number_text ["number"] (spOf (C_number_text n))
  | 0 => ⟨fun vs H Q E ⟨_, _, _, _, _, _, _, ⟨_, _, z, _⟩, _⟩ => by omega, fun A outer s H args us vs Q E hr _ _ _ ⟨_, _, _, _, _, _, _, ⟨_, _, z, _⟩, _⟩ => by omega⟩
  | n + 1 => by
    have G_number_text := ok_number_text T n
    refine fn0 T.F_number_text sc_number_text (C_number_text (n + 1)) _ (fun ds μ Q Ex ⟨d, e, _⟩ => by rw [e]; rfl) (fun cdv A outer s H E hr => jss_cons (js_if (jt_cmp or_ltS rs_cmp (je_var 0) je_int (nomark _)) (jss_one (js_ret (je_joinN (.cons (je_str) (.cons (je_fmt (je_call G_number_text hr (by rfl) T.g_number_text T.F_number_text.kp T.b_number_text pass0 (ja_cons (je_neg (je_var 0)) ja_nil))) .nil))))) (jss_nil))
  (jss_cons (js_set 1 sc_number_text.nd (je_own ja_nil))
  (jss_cons (js_while PassesOwn.never (jt_cmp op_ge rs_cmpI (je_var 0) (je_gint (by rfl) T.g__BLOCK) (nomark _)) jss_dead)
  (jss_cons (js_expr (je_app (je_var 1) (je_callTy cr_str rl_str (by rfl) T.z_str (by decide +kernel) (ja_cons (je_var 0) ja_nil))))
  (jss_one (js_ret (je_t1 PySem.F.slot_str_join PySem.F.type_str_join mr_join0 mr_join je_str (je_revL (je_var 1))))))))) ?_
    rintro ds μ Q Ex ⟨i, rfl, hn, hi, q⟩
    rw [show startD ["number", "blocks", "block"] [.int i] = [some (.int i), none, none] from rfl]
    rw [jSeq_r]
    simp only [↓jC_r, ↓jBin_r, ↓jTV_r, ↓jChain_r, ↓jAnd_r, ↓jOr_r, ↓jNot_r, ↓jAndV_r, ↓jOrV_r, ↓jNotV_r, ↓jIf_r, ↓jUn_r, ↓jNil_r, ↓jCons_r, ↓jTup_r, ↓jLst_r, ↓jNext_r, ↓jRet_r, ↓jIfS_r, ↓jDrop_r, ↓jSet_r, ↓jCall_r, ↓jCallKw_r, ↓jCB_r, ↓jSl_r, ↓jNo_r, ↓jPart_r, ↓jT0_r, ↓jT1_r, ↓jSS_r, ↓jLc_r, ↓jFor_r, ↓jSeqI_r, ↓jRange1_r, ↓jRange2_r, ↓jZip_r, ↓jYes_r, ↓jOwn_r, ↓jApp_r, ↓jDic0_r, ↓jDic1_r, ↓jPut_r, ↓jVar_0, ↓jVar_s, ↓gN_r, ↓List.set_cons_zero, ↓List.set_cons_succ, wipeD, ↓onI_int, ↓onB_bl, ↓onD_bl, ↓onN_bl, ↓onS_str, ↓onRef_ref, ↓jFld_r, ↓jFldS_r, ↓jMake_r, ↓jMeth_r, ↓jOwn2_r, ↓jOwnI_r, ↓jOwnR_r, ↓jIsO_r, ↓jStrO_r, ↓jFmt_r, ↓jJoin_r, ↓onJ_str, ↓jJs_nil, ↓jJs_cons, ↓on2_c, ↓jPar_r, ↓jAsg_r, ↓onO3_s, ↓onSm_s, ↓asO_obj, ↓onTxt_str, ↓onTxt_int, ↓isO_obj, ↓isO_int, ↓onStr_str, ↓gPair_t, ↓gUnlD_l, ↓gTupD_l, ↓setAll_nil, ↓setAll_cons, ↓dGcd_ii, ↓dDiv_ii, ↓dMod_ii, ↓dMul_ii, ↓dAbs_int, ↓dInt_int, ↓dStr_int, ↓dStr_str, ↓dEq_ii, ↓dEq_ss, ↓dEq_bb, ↓dIx_t0, ↓dIx_t1, ↓dIx_t2, ↓dIx_l0, ↓Bool.false_xor, ↓Bool.true_xor, ↓dAdd_ii, ↓dAdd_ss, ↓dAdd_ll, ↓dAdd_tt, ↓dSub_ii, ↓dCmp_ii, ↓dCmp_ss, ↓dCmpI_ii, ↓dLen_str, ↓dLen_lst, ↓dLen_tup, ↓dSl_str, ↓dSl_tup, ↓dSl_lst, ↓dRevT_tup, ↓dListX_tup, ↓dListX_lst, ↓dTuple_lst, ↓dNeg_int, ↓dPow_ii, ↓dItems_lst, ↓dItems_tup, ↓pick_1, ↓dIs_non_int, ↓dIs_non_bool, ↓dIs_non_str, ↓dIs_non_list, ↓dIs_non_tuple, ↓dIs_non_dict, ↓dIs_non_lt, ↓dIs_bl_int, ↓dIs_bl_bool, ↓dIs_bl_str, ↓dIs_bl_list, ↓dIs_bl_tuple, ↓dIs_bl_dict, ↓dIs_bl_lt, ↓dIs_int_int, ↓dIs_int_bool, ↓dIs_int_str, ↓dIs_int_list, ↓dIs_int_tuple, ↓dIs_int_dict, ↓dIs_int_lt, ↓dIs_str_int, ↓dIs_str_bool, ↓dIs_str_str, ↓dIs_str_list, ↓dIs_str_tuple, ↓dIs_str_dict, ↓dIs_str_lt, ↓dIs_lst_int, ↓dIs_lst_bool, ↓dIs_lst_str, ↓dIs_lst_list, ↓dIs_lst_tuple, ↓dIs_lst_dict, ↓dIs_lst_lt, ↓dIs_tup_int, ↓dIs_tup_bool, ↓dIs_tup_str, ↓dIs_tup_list, ↓dIs_tup_tuple, ↓dIs_tup_dict, ↓dIs_tup_lt, ↓dIs_dic_int, ↓dIs_dic_bool, ↓dIs_dic_str, ↓dIs_dic_list, ↓dIs_dic_tuple, ↓dIs_dic_dict, ↓dIs_dic_lt, Bool.not_true, Bool.not_false, Bool.false_eq_true, if_true, if_false, eq_self, reduceIte]
    split
    · rename_i h
      have h := of_decide_eq_true h
      refine ⟨szl, -i, rfl, .inl ⟨by omega, by omega⟩, by omega, ?_⟩
      simp only [onTxt_str]
      rw [neg_text h]
      refine ⟨text_fits (by omega), text_fits hi, ret_ok q⟩
    · rename_i h
      have h : ¬ i < 0 := fun z => h (decide_eq_true z)
      rw [jSeq_r]
      simp only [↓jC_r, ↓jBin_r, ↓jTV_r, ↓jChain_r, ↓jAnd_r, ↓jOr_r, ↓jNot_r, ↓jAndV_r, ↓jOrV_r, ↓jNotV_r, ↓jIf_r, ↓jUn_r, ↓jNil_r, ↓jCons_r, ↓jTup_r, ↓jLst_r, ↓jNext_r, ↓jRet_r, ↓jIfS_r, ↓jDrop_r, ↓jSet_r, ↓jCall_r, ↓jCallKw_r, ↓jCB_r, ↓jSl_r, ↓jNo_r, ↓jPart_r, ↓jT0_r, ↓jT1_r, ↓jSS_r, ↓jLc_r, ↓jFor_r, ↓jSeqI_r, ↓jRange1_r, ↓jRange2_r, ↓jZip_r, ↓jYes_r, ↓jOwn_r, ↓jApp_r, ↓jDic0_r, ↓jDic1_r, ↓jPut_r, ↓jVar_0, ↓jVar_s, ↓gN_r, ↓List.set_cons_zero, ↓List.set_cons_succ, wipeD, ↓onI_int, ↓onB_bl, ↓onD_bl, ↓onN_bl, ↓onS_str, ↓onRef_ref, ↓jFld_r, ↓jFldS_r, ↓jMake_r, ↓jMeth_r, ↓jOwn2_r, ↓jOwnI_r, ↓jOwnR_r, ↓jIsO_r, ↓jStrO_r, ↓jFmt_r, ↓jJoin_r, ↓onJ_str, ↓jJs_nil, ↓jJs_cons, ↓on2_c, ↓jPar_r, ↓jAsg_r, ↓onO3_s, ↓onSm_s, ↓asO_obj, ↓onTxt_str, ↓onTxt_int, ↓isO_obj, ↓isO_int, ↓onStr_str, ↓gPair_t, ↓gUnlD_l, ↓gTupD_l, ↓setAll_nil, ↓setAll_cons, ↓dGcd_ii, ↓dDiv_ii, ↓dMod_ii, ↓dMul_ii, ↓dAbs_int, ↓dInt_int, ↓dStr_int, ↓dStr_str, ↓dEq_ii, ↓dEq_ss, ↓dEq_bb, ↓dIx_t0, ↓dIx_t1, ↓dIx_t2, ↓dIx_l0, ↓Bool.false_xor, ↓Bool.true_xor, ↓dAdd_ii, ↓dAdd_ss, ↓dAdd_ll, ↓dAdd_tt, ↓dSub_ii, ↓dCmp_ii, ↓dCmp_ss, ↓dCmpI_ii, ↓dLen_str, ↓dLen_lst, ↓dLen_tup, ↓dSl_str, ↓dSl_tup, ↓dSl_lst, ↓dRevT_tup, ↓dListX_tup, ↓dListX_lst, ↓dTuple_lst, ↓dNeg_int, ↓dPow_ii, ↓dItems_lst, ↓dItems_tup, ↓pick_1, ↓dIs_non_int, ↓dIs_non_bool, ↓dIs_non_str, ↓dIs_non_list, ↓dIs_non_tuple, ↓dIs_non_dict, ↓dIs_non_lt, ↓dIs_bl_int, ↓dIs_bl_bool, ↓dIs_bl_str, ↓dIs_bl_list, ↓dIs_bl_tuple, ↓dIs_bl_dict, ↓dIs_bl_lt, ↓dIs_int_int, ↓dIs_int_bool, ↓dIs_int_str, ↓dIs_int_list, ↓dIs_int_tuple, ↓dIs_int_dict, ↓dIs_int_lt, ↓dIs_str_int, ↓dIs_str_bool, ↓dIs_str_str, ↓dIs_str_list, ↓dIs_str_tuple, ↓dIs_str_dict, ↓dIs_str_lt, ↓dIs_lst_int, ↓dIs_lst_bool, ↓dIs_lst_str, ↓dIs_lst_list, ↓dIs_lst_tuple, ↓dIs_lst_dict, ↓dIs_lst_lt, ↓dIs_tup_int, ↓dIs_tup_bool, ↓dIs_tup_str, ↓dIs_tup_list, ↓dIs_tup_tuple, ↓dIs_tup_dict, ↓dIs_tup_lt, ↓dIs_dic_int, ↓dIs_dic_bool, ↓dIs_dic_str, ↓dIs_dic_list, ↓dIs_dic_tuple, ↓dIs_dic_dict, ↓dIs_dic_lt, Bool.not_true, Bool.not_false, Bool.false_eq_true, if_true, if_false, eq_self, reduceIte]
      refine ⟨szl, fun p hp => ?_⟩
      rw [jSeq_r]
      refine ⟨fun m Δ μ' => Δ = [some (.int i), some (.ref p), none] ∧ μ' = ⟨μ.bag, (p, .lst []) :: μ.own⟩, ⟨0, rfl, rfl⟩, ?_⟩
      rintro m Δ μ' ⟨rfl, rfl⟩
      simp only [↓jC_r, ↓jBin_r, ↓jTV_r, ↓jChain_r, ↓jAnd_r, ↓jOr_r, ↓jNot_r, ↓jAndV_r, ↓jOrV_r, ↓jNotV_r, ↓jIf_r, ↓jUn_r, ↓jNil_r, ↓jCons_r, ↓jTup_r, ↓jLst_r, ↓jNext_r, ↓jRet_r, ↓jIfS_r, ↓jDrop_r, ↓jSet_r, ↓jCall_r, ↓jCallKw_r, ↓jCB_r, ↓jSl_r, ↓jNo_r, ↓jPart_r, ↓jT0_r, ↓jT1_r, ↓jSS_r, ↓jLc_r, ↓jFor_r, ↓jSeqI_r, ↓jRange1_r, ↓jRange2_r, ↓jZip_r, ↓jYes_r, ↓jOwn_r, ↓jApp_r, ↓jDic0_r, ↓jDic1_r, ↓jPut_r, ↓jVar_0, ↓jVar_s, ↓gN_r, ↓List.set_cons_zero, ↓List.set_cons_succ, wipeD, ↓onI_int, ↓onB_bl, ↓onD_bl, ↓onN_bl, ↓onS_str, ↓onRef_ref, ↓jFld_r, ↓jFldS_r, ↓jMake_r, ↓jMeth_r, ↓jOwn2_r, ↓jOwnI_r, ↓jOwnR_r, ↓jIsO_r, ↓jStrO_r, ↓jFmt_r, ↓jJoin_r, ↓onJ_str, ↓jJs_nil, ↓jJs_cons, ↓on2_c, ↓jPar_r, ↓jAsg_r, ↓onO3_s, ↓onSm_s, ↓asO_obj, ↓onTxt_str, ↓onTxt_int, ↓isO_obj, ↓isO_int, ↓onStr_str, ↓gPair_t, ↓gUnlD_l, ↓gTupD_l, ↓setAll_nil, ↓setAll_cons, ↓dGcd_ii, ↓dDiv_ii, ↓dMod_ii, ↓dMul_ii, ↓dAbs_int, ↓dInt_int, ↓dStr_int, ↓dStr_str, ↓dEq_ii, ↓dEq_ss, ↓dEq_bb, ↓dIx_t0, ↓dIx_t1, ↓dIx_t2, ↓dIx_l0, ↓Bool.false_xor, ↓Bool.true_xor, ↓dAdd_ii, ↓dAdd_ss, ↓dAdd_ll, ↓dAdd_tt, ↓dSub_ii, ↓dCmp_ii, ↓dCmp_ss, ↓dCmpI_ii, ↓dLen_str, ↓dLen_lst, ↓dLen_tup, ↓dSl_str, ↓dSl_tup, ↓dSl_lst, ↓dRevT_tup, ↓dListX_tup, ↓dListX_lst, ↓dTuple_lst, ↓dNeg_int, ↓dPow_ii, ↓dItems_lst, ↓dItems_tup, ↓pick_1, ↓dIs_non_int, ↓dIs_non_bool, ↓dIs_non_str, ↓dIs_non_list, ↓dIs_non_tuple, ↓dIs_non_dict, ↓dIs_non_lt, ↓dIs_bl_int, ↓dIs_bl_bool, ↓dIs_bl_str, ↓dIs_bl_list, ↓dIs_bl_tuple, ↓dIs_bl_dict, ↓dIs_bl_lt, ↓dIs_int_int, ↓dIs_int_bool, ↓dIs_int_str, ↓dIs_int_list, ↓dIs_int_tuple, ↓dIs_int_dict, ↓dIs_int_lt, ↓dIs_str_int, ↓dIs_str_bool, ↓dIs_str_str, ↓dIs_str_list, ↓dIs_str_tuple, ↓dIs_str_dict, ↓dIs_str_lt, ↓dIs_lst_int, ↓dIs_lst_bool, ↓dIs_lst_str, ↓dIs_lst_list, ↓dIs_lst_tuple, ↓dIs_lst_dict, ↓dIs_lst_lt, ↓dIs_tup_int, ↓dIs_tup_bool, ↓dIs_tup_str, ↓dIs_tup_list, ↓dIs_tup_tuple, ↓dIs_tup_dict, ↓dIs_tup_lt, ↓dIs_dic_int, ↓dIs_dic_bool, ↓dIs_dic_str, ↓dIs_dic_list, ↓dIs_dic_tuple, ↓dIs_dic_dict, ↓dIs_dic_lt, Bool.not_true, Bool.not_false, Bool.false_eq_true, if_true, if_false, eq_self, reduceIte]
      rw [if_neg (by simp [startD, jVar_r, dIs, tyD, tysOf, kitBs, dLen, dCmp, dCmpI, dS0b, txts, asS, asL, strsOf_map, boolsOf_map, dAll, dListX, dList, dItems, gN, wipeD]; omega)]
      rw [jSeq_r]
      simp only [↓jC_r, ↓jBin_r, ↓jTV_r, ↓jChain_r, ↓jAnd_r, ↓jOr_r, ↓jNot_r, ↓jAndV_r, ↓jOrV_r, ↓jNotV_r, ↓jIf_r, ↓jUn_r, ↓jNil_r, ↓jCons_r, ↓jTup_r, ↓jLst_r, ↓jNext_r, ↓jRet_r, ↓jIfS_r, ↓jDrop_r, ↓jSet_r, ↓jCall_r, ↓jCallKw_r, ↓jCB_r, ↓jSl_r, ↓jNo_r, ↓jPart_r, ↓jT0_r, ↓jT1_r, ↓jSS_r, ↓jLc_r, ↓jFor_r, ↓jSeqI_r, ↓jRange1_r, ↓jRange2_r, ↓jZip_r, ↓jYes_r, ↓jOwn_r, ↓jApp_r, ↓jDic0_r, ↓jDic1_r, ↓jPut_r, ↓jVar_0, ↓jVar_s, ↓gN_r, ↓List.set_cons_zero, ↓List.set_cons_succ, wipeD, ↓onI_int, ↓onB_bl, ↓onD_bl, ↓onN_bl, ↓onS_str, ↓onRef_ref, ↓jFld_r, ↓jFldS_r, ↓jMake_r, ↓jMeth_r, ↓jOwn2_r, ↓jOwnI_r, ↓jOwnR_r, ↓jIsO_r, ↓jStrO_r, ↓jFmt_r, ↓jJoin_r, ↓onJ_str, ↓jJs_nil, ↓jJs_cons, ↓on2_c, ↓jPar_r, ↓jAsg_r, ↓onO3_s, ↓onSm_s, ↓asO_obj, ↓onTxt_str, ↓onTxt_int, ↓isO_obj, ↓isO_int, ↓onStr_str, ↓gPair_t, ↓gUnlD_l, ↓gTupD_l, ↓setAll_nil, ↓setAll_cons, ↓dGcd_ii, ↓dDiv_ii, ↓dMod_ii, ↓dMul_ii, ↓dAbs_int, ↓dInt_int, ↓dStr_int, ↓dStr_str, ↓dEq_ii, ↓dEq_ss, ↓dEq_bb, ↓dIx_t0, ↓dIx_t1, ↓dIx_t2, ↓dIx_l0, ↓Bool.false_xor, ↓Bool.true_xor, ↓dAdd_ii, ↓dAdd_ss, ↓dAdd_ll, ↓dAdd_tt, ↓dSub_ii, ↓dCmp_ii, ↓dCmp_ss, ↓dCmpI_ii, ↓dLen_str, ↓dLen_lst, ↓dLen_tup, ↓dSl_str, ↓dSl_tup, ↓dSl_lst, ↓dRevT_tup, ↓dListX_tup, ↓dListX_lst, ↓dTuple_lst, ↓dNeg_int, ↓dPow_ii, ↓dItems_lst, ↓dItems_tup, ↓pick_1, ↓dIs_non_int, ↓dIs_non_bool, ↓dIs_non_str, ↓dIs_non_list, ↓dIs_non_tuple, ↓dIs_non_dict, ↓dIs_non_lt, ↓dIs_bl_int, ↓dIs_bl_bool, ↓dIs_bl_str, ↓dIs_bl_list, ↓dIs_bl_tuple, ↓dIs_bl_dict, ↓dIs_bl_lt, ↓dIs_int_int, ↓dIs_int_bool, ↓dIs_int_str, ↓dIs_int_list, ↓dIs_int_tuple, ↓dIs_int_dict, ↓dIs_int_lt, ↓dIs_str_int, ↓dIs_str_bool, ↓dIs_str_str, ↓dIs_str_list, ↓dIs_str_tuple, ↓dIs_str_dict, ↓dIs_str_lt, ↓dIs_lst_int, ↓dIs_lst_bool, ↓dIs_lst_str, ↓dIs_lst_list, ↓dIs_lst_tuple, ↓dIs_lst_dict, ↓dIs_lst_lt, ↓dIs_tup_int, ↓dIs_tup_bool, ↓dIs_tup_str, ↓dIs_tup_list, ↓dIs_tup_tuple, ↓dIs_tup_dict, ↓dIs_tup_lt, ↓dIs_dic_int, ↓dIs_dic_bool, ↓dIs_dic_str, ↓dIs_dic_list, ↓dIs_dic_tuple, ↓dIs_dic_dict, ↓dIs_dic_lt, Bool.not_true, Bool.not_false, Bool.false_eq_true, if_true, if_false, eq_self, reduceIte, ownL, List.lookup_cons, beq_self_eq_true]
      refine ⟨log_lt hi (by decide), szl, ?_⟩
      simp only [↓jC_r, ↓jBin_r, ↓jTV_r, ↓jChain_r, ↓jAnd_r, ↓jOr_r, ↓jNot_r, ↓jAndV_r, ↓jOrV_r, ↓jNotV_r, ↓jIf_r, ↓jUn_r, ↓jNil_r, ↓jCons_r, ↓jTup_r, ↓jLst_r, ↓jNext_r, ↓jRet_r, ↓jIfS_r, ↓jDrop_r, ↓jSet_r, ↓jCall_r, ↓jCallKw_r, ↓jCB_r, ↓jSl_r, ↓jNo_r, ↓jPart_r, ↓jT0_r, ↓jT1_r, ↓jSS_r, ↓jLc_r, ↓jFor_r, ↓jSeqI_r, ↓jRange1_r, ↓jRange2_r, ↓jZip_r, ↓jYes_r, ↓jOwn_r, ↓jApp_r, ↓jDic0_r, ↓jDic1_r, ↓jPut_r, ↓jVar_0, ↓jVar_s, ↓gN_r, ↓List.set_cons_zero, ↓List.set_cons_succ, wipeD, ↓onI_int, ↓onB_bl, ↓onD_bl, ↓onN_bl, ↓onS_str, ↓onRef_ref, ↓jFld_r, ↓jFldS_r, ↓jMake_r, ↓jMeth_r, ↓jOwn2_r, ↓jOwnI_r, ↓jOwnR_r, ↓jIsO_r, ↓jStrO_r, ↓jFmt_r, ↓jJoin_r, ↓onJ_str, ↓jJs_nil, ↓jJs_cons, ↓on2_c, ↓jPar_r, ↓jAsg_r, ↓onO3_s, ↓onSm_s, ↓asO_obj, ↓onTxt_str, ↓onTxt_int, ↓isO_obj, ↓isO_int, ↓onStr_str, ↓gPair_t, ↓gUnlD_l, ↓gTupD_l, ↓setAll_nil, ↓setAll_cons, ↓dGcd_ii, ↓dDiv_ii, ↓dMod_ii, ↓dMul_ii, ↓dAbs_int, ↓dInt_int, ↓dStr_int, ↓dStr_str, ↓dEq_ii, ↓dEq_ss, ↓dEq_bb, ↓dIx_t0, ↓dIx_t1, ↓dIx_t2, ↓dIx_l0, ↓Bool.false_xor, ↓Bool.true_xor, ↓dAdd_ii, ↓dAdd_ss, ↓dAdd_ll, ↓dAdd_tt, ↓dSub_ii, ↓dCmp_ii, ↓dCmp_ss, ↓dCmpI_ii, ↓dLen_str, ↓dLen_lst, ↓dLen_tup, ↓dSl_str, ↓dSl_tup, ↓dSl_lst, ↓dRevT_tup, ↓dListX_tup, ↓dListX_lst, ↓dTuple_lst, ↓dNeg_int, ↓dPow_ii, ↓dItems_lst, ↓dItems_tup, ↓pick_1, ↓dIs_non_int, ↓dIs_non_bool, ↓dIs_non_str, ↓dIs_non_list, ↓dIs_non_tuple, ↓dIs_non_dict, ↓dIs_non_lt, ↓dIs_bl_int, ↓dIs_bl_bool, ↓dIs_bl_str, ↓dIs_bl_list, ↓dIs_bl_tuple, ↓dIs_bl_dict, ↓dIs_bl_lt, ↓dIs_int_int, ↓dIs_int_bool, ↓dIs_int_str, ↓dIs_int_list, ↓dIs_int_tuple, ↓dIs_int_dict, ↓dIs_int_lt, ↓dIs_str_int, ↓dIs_str_bool, ↓dIs_str_str, ↓dIs_str_list, ↓dIs_str_tuple, ↓dIs_str_dict, ↓dIs_str_lt, ↓dIs_lst_int, ↓dIs_lst_bool, ↓dIs_lst_str, ↓dIs_lst_list, ↓dIs_lst_tuple, ↓dIs_lst_dict, ↓dIs_lst_lt, ↓dIs_tup_int, ↓dIs_tup_bool, ↓dIs_tup_str, ↓dIs_tup_list, ↓dIs_tup_tuple, ↓dIs_tup_dict, ↓dIs_tup_lt, ↓dIs_dic_int, ↓dIs_dic_bool, ↓dIs_dic_str, ↓dIs_dic_list, ↓dIs_dic_tuple, ↓dIs_dic_dict, ↓dIs_dic_lt, Bool.not_true, Bool.not_false, Bool.false_eq_true, if_true, if_false, eq_self, reduceIte, put_head, dRev, asL, List.lookup_cons, beq_self_eq_true, dJoin, asS, strsOf]
      show ([Str.ofString (toString i)].map (·.length)).sum + 1 * 0 ≤ 16777216 ∧ _
      refine ⟨by have := text_small hi; simp only [List.map_cons, List.map_nil, List.sum_cons, List.sum_nil]; omega, [(p, _)], μ.own, rfl, ?_⟩
      have e : Txt.join (Str.ofString "") [Str.ofString (toString i)] = Str.ofString (toString i) := rfl
      rw [e]; exact q
/-- a share as data -/
def shD (C : Addr) (x : Int × Int) : D := .obj C ["top", "bottom"] [.int x.1, .int x.2]
def C_init (T : Top K mg) : Ct := fun ds μ Q _ => ∃ x p q own, ds = [.ref x, .int p, .int q] ∧ 0 < q ∧ p.natAbs < 2 ^ 5000 ∧ q.natAbs < 2 ^ 5000 ∧ μ.own = (x, .obj T.C_Share [] []) :: own ∧
  Q .non ⟨μ.bag, (x, .obj T.C_Share ["top", "bottom"] [.int (low p q).1, .int (low p q).2]) :: own⟩
theorem ok_init (T : Top K mg) : FnOk P w K mg base CX0 2 T.f_Share___init__ T.fd_Share___init__ ["self", "top", "bottom"] (spOf (C_init T)) := by
  have G_is_whole := ok_is_whole (P := P) (w := w) (base := base) T
  refine fn0D T.F_Share___init__ sc_Share___init__ (C_init T) _ (fun ds μ Q Ex ⟨_, _, _, _, e, _⟩ => by rw [e]; rfl) (fun cdv A outer s H E hr => jss_cons (js_if (jt_not (jt_val (je_call G_is_whole (hr.mono (by decide)) (by rfl) T.g_is_whole T.F_is_whole.kp T.b_is_whole pass0 (ja_cons (je_var 1) ja_nil)))) (jss_one (js_dead)) (jss_nil))
  (jss_cons (js_if (JW.pt (jw_or (jt_not (jt_val (je_call G_is_whole (hr.mono (by decide)) (by rfl) T.g_is_whole T.F_is_whole.kp T.b_is_whole pass0 (ja_cons (je_var 2) ja_nil)))) (jw_or1 (jt_cmp or_ltS rs_cmp (je_var 2) je_int (nomark _))))) (jss_one (js_dead)) (jss_nil))
  (jss_cons (js_set 3 sc_Share___init__.nd (je_gcd (by rfl) T.g_gcd (ja_cons (je_var 1) (ja_cons (je_var 2) ja_nil))))
  (jss_cons (js_fldK K rfl (je_var 0) (je_op op_fdivW rs_div (je_var 1) (je_var 3)))
  (jss_one (js_fldK K rfl (je_var 0) (je_op op_fdivW rs_div (je_var 2) (je_var 3)))))))) ?_
  rintro ds ⟨bag, _⟩ Q Ex ⟨x, p, q, own, rfl, hq, bp, bq, rfl, k⟩
  rw [show startD ["self", "top", "bottom", "common"] [.ref x, .int p, .int q] = [some (.ref x), some (.int p), some (.int q), none] from rfl]
  rw [jSeq_r]
  simp only [↓jC_r, ↓jBin_r, ↓jTV_r, ↓jChain_r, ↓jAnd_r, ↓jOr_r, ↓jNot_r, ↓jAndV_r, ↓jOrV_r, ↓jNotV_r, ↓jIf_r, ↓jUn_r, ↓jNil_r, ↓jCons_r, ↓jTup_r, ↓jLst_r, ↓jNext_r, ↓jRet_r, ↓jIfS_r, ↓jDrop_r, ↓jSet_r, ↓jCall_r, ↓jCallKw_r, ↓jCB_r, ↓jSl_r, ↓jNo_r, ↓jPart_r, ↓jT0_r, ↓jT1_r, ↓jSS_r, ↓jLc_r, ↓jFor_r, ↓jSeqI_r, ↓jRange1_r, ↓jRange2_r, ↓jZip_r, ↓jYes_r, ↓jOwn_r, ↓jApp_r, ↓jDic0_r, ↓jDic1_r, ↓jPut_r, ↓jVar_0, ↓jVar_s, ↓gN_r, ↓List.set_cons_zero, ↓List.set_cons_succ, wipeD, ↓onI_int, ↓onB_bl, ↓onD_bl, ↓onN_bl, ↓onS_str, ↓onRef_ref, ↓jFld_r, ↓jFldS_r, ↓jMake_r, ↓jMeth_r, ↓jOwn2_r, ↓jOwnI_r, ↓jOwnR_r, ↓jIsO_r, ↓jStrO_r, ↓jFmt_r, ↓jJoin_r, ↓onJ_str, ↓jJs_nil, ↓jJs_cons, ↓on2_c, ↓jPar_r, ↓jAsg_r, ↓onO3_s, ↓onSm_s, ↓asO_obj, ↓onTxt_str, ↓onTxt_int, ↓isO_obj, ↓isO_int, ↓onStr_str, ↓gPair_t, ↓gUnlD_l, ↓gTupD_l, ↓setAll_nil, ↓setAll_cons, ↓dGcd_ii, ↓dDiv_ii, ↓dMod_ii, ↓dMul_ii, ↓dAbs_int, ↓dInt_int, ↓dStr_int, ↓dStr_str, ↓dEq_ii, ↓dEq_ss, ↓dEq_bb, ↓dIx_t0, ↓dIx_t1, ↓dIx_t2, ↓dIx_l0, ↓Bool.false_xor, ↓Bool.true_xor, ↓dAdd_ii, ↓dAdd_ss, ↓dAdd_ll, ↓dAdd_tt, ↓dSub_ii, ↓dCmp_ii, ↓dCmp_ss, ↓dCmpI_ii, ↓dLen_str, ↓dLen_lst, ↓dLen_tup, ↓dSl_str, ↓dSl_tup, ↓dSl_lst, ↓dRevT_tup, ↓dListX_tup, ↓dListX_lst, ↓dTuple_lst, ↓dNeg_int, ↓dPow_ii, ↓dItems_lst, ↓dItems_tup, ↓pick_1, ↓dIs_non_int, ↓dIs_non_bool, ↓dIs_non_str, ↓dIs_non_list, ↓dIs_non_tuple, ↓dIs_non_dict, ↓dIs_non_lt, ↓dIs_bl_int, ↓dIs_bl_bool, ↓dIs_bl_str, ↓dIs_bl_list, ↓dIs_bl_tuple, ↓dIs_bl_dict, ↓dIs_bl_lt, ↓dIs_int_int, ↓dIs_int_bool, ↓dIs_int_str, ↓dIs_int_list, ↓dIs_int_tuple, ↓dIs_int_dict, ↓dIs_int_lt, ↓dIs_str_int, ↓dIs_str_bool, ↓dIs_str_str, ↓dIs_str_list, ↓dIs_str_tuple, ↓dIs_str_dict, ↓dIs_str_lt, ↓dIs_lst_int, ↓dIs_lst_bool, ↓dIs_lst_str, ↓dIs_lst_list, ↓dIs_lst_tuple, ↓dIs_lst_dict, ↓dIs_lst_lt, ↓dIs_tup_int, ↓dIs_tup_bool, ↓dIs_tup_str, ↓dIs_tup_list, ↓dIs_tup_tuple, ↓dIs_tup_dict, ↓dIs_tup_lt, ↓dIs_dic_int, ↓dIs_dic_bool, ↓dIs_dic_str, ↓dIs_dic_list, ↓dIs_dic_tuple, ↓dIs_dic_dict, ↓dIs_dic_lt, Bool.not_true, Bool.not_false, Bool.false_eq_true, if_true, if_false, eq_self, reduceIte]
  refine ⟨p, rfl, ?_⟩
  simp only [↓jC_r, ↓jBin_r, ↓jTV_r, ↓jChain_r, ↓jAnd_r, ↓jOr_r, ↓jNot_r, ↓jAndV_r, ↓jOrV_r, ↓jNotV_r, ↓jIf_r, ↓jUn_r, ↓jNil_r, ↓jCons_r, ↓jTup_r, ↓jLst_r, ↓jNext_r, ↓jRet_r, ↓jIfS_r, ↓jDrop_r, ↓jSet_r, ↓jCall_r, ↓jCallKw_r, ↓jCB_r, ↓jSl_r, ↓jNo_r, ↓jPart_r, ↓jT0_r, ↓jT1_r, ↓jSS_r, ↓jLc_r, ↓jFor_r, ↓jSeqI_r, ↓jRange1_r, ↓jRange2_r, ↓jZip_r, ↓jYes_r, ↓jOwn_r, ↓jApp_r, ↓jDic0_r, ↓jDic1_r, ↓jPut_r, ↓jVar_0, ↓jVar_s, ↓gN_r, ↓List.set_cons_zero, ↓List.set_cons_succ, wipeD, ↓onI_int, ↓onB_bl, ↓onD_bl, ↓onN_bl, ↓onS_str, ↓onRef_ref, ↓jFld_r, ↓jFldS_r, ↓jMake_r, ↓jMeth_r, ↓jOwn2_r, ↓jOwnI_r, ↓jOwnR_r, ↓jIsO_r, ↓jStrO_r, ↓jFmt_r, ↓jJoin_r, ↓onJ_str, ↓jJs_nil, ↓jJs_cons, ↓on2_c, ↓jPar_r, ↓jAsg_r, ↓onO3_s, ↓onSm_s, ↓asO_obj, ↓onTxt_str, ↓onTxt_int, ↓isO_obj, ↓isO_int, ↓onStr_str, ↓gPair_t, ↓gUnlD_l, ↓gTupD_l, ↓setAll_nil, ↓setAll_cons, ↓dGcd_ii, ↓dDiv_ii, ↓dMod_ii, ↓dMul_ii, ↓dAbs_int, ↓dInt_int, ↓dStr_int, ↓dStr_str, ↓dEq_ii, ↓dEq_ss, ↓dEq_bb, ↓dIx_t0, ↓dIx_t1, ↓dIx_t2, ↓dIx_l0, ↓Bool.false_xor, ↓Bool.true_xor, ↓dAdd_ii, ↓dAdd_ss, ↓dAdd_ll, ↓dAdd_tt, ↓dSub_ii, ↓dCmp_ii, ↓dCmp_ss, ↓dCmpI_ii, ↓dLen_str, ↓dLen_lst, ↓dLen_tup, ↓dSl_str, ↓dSl_tup, ↓dSl_lst, ↓dRevT_tup, ↓dListX_tup, ↓dListX_lst, ↓dTuple_lst, ↓dNeg_int, ↓dPow_ii, ↓dItems_lst, ↓dItems_tup, ↓pick_1, ↓dIs_non_int, ↓dIs_non_bool, ↓dIs_non_str, ↓dIs_non_list, ↓dIs_non_tuple, ↓dIs_non_dict, ↓dIs_non_lt, ↓dIs_bl_int, ↓dIs_bl_bool, ↓dIs_bl_str, ↓dIs_bl_list, ↓dIs_bl_tuple, ↓dIs_bl_dict, ↓dIs_bl_lt, ↓dIs_int_int, ↓dIs_int_bool, ↓dIs_int_str, ↓dIs_int_list, ↓dIs_int_tuple, ↓dIs_int_dict, ↓dIs_int_lt, ↓dIs_str_int, ↓dIs_str_bool, ↓dIs_str_str, ↓dIs_str_list, ↓dIs_str_tuple, ↓dIs_str_dict, ↓dIs_str_lt, ↓dIs_lst_int, ↓dIs_lst_bool, ↓dIs_lst_str, ↓dIs_lst_list, ↓dIs_lst_tuple, ↓dIs_lst_dict, ↓dIs_lst_lt, ↓dIs_tup_int, ↓dIs_tup_bool, ↓dIs_tup_str, ↓dIs_tup_list, ↓dIs_tup_tuple, ↓dIs_tup_dict, ↓dIs_tup_lt, ↓dIs_dic_int, ↓dIs_dic_bool, ↓dIs_dic_str, ↓dIs_dic_list, ↓dIs_dic_tuple, ↓dIs_dic_dict, ↓dIs_dic_lt, Bool.not_true, Bool.not_false, Bool.false_eq_true, if_true, if_false, eq_self, reduceIte]
  rw [jSeq_r]
  simp only [↓jC_r, ↓jBin_r, ↓jTV_r, ↓jChain_r, ↓jAnd_r, ↓jOr_r, ↓jNot_r, ↓jAndV_r, ↓jOrV_r, ↓jNotV_r, ↓jIf_r, ↓jUn_r, ↓jNil_r, ↓jCons_r, ↓jTup_r, ↓jLst_r, ↓jNext_r, ↓jRet_r, ↓jIfS_r, ↓jDrop_r, ↓jSet_r, ↓jCall_r, ↓jCallKw_r, ↓jCB_r, ↓jSl_r, ↓jNo_r, ↓jPart_r, ↓jT0_r, ↓jT1_r, ↓jSS_r, ↓jLc_r, ↓jFor_r, ↓jSeqI_r, ↓jRange1_r, ↓jRange2_r, ↓jZip_r, ↓jYes_r, ↓jOwn_r, ↓jApp_r, ↓jDic0_r, ↓jDic1_r, ↓jPut_r, ↓jVar_0, ↓jVar_s, ↓gN_r, ↓List.set_cons_zero, ↓List.set_cons_succ, wipeD, ↓onI_int, ↓onB_bl, ↓onD_bl, ↓onN_bl, ↓onS_str, ↓onRef_ref, ↓jFld_r, ↓jFldS_r, ↓jMake_r, ↓jMeth_r, ↓jOwn2_r, ↓jOwnI_r, ↓jOwnR_r, ↓jIsO_r, ↓jStrO_r, ↓jFmt_r, ↓jJoin_r, ↓onJ_str, ↓jJs_nil, ↓jJs_cons, ↓on2_c, ↓jPar_r, ↓jAsg_r, ↓onO3_s, ↓onSm_s, ↓asO_obj, ↓onTxt_str, ↓onTxt_int, ↓isO_obj, ↓isO_int, ↓onStr_str, ↓gPair_t, ↓gUnlD_l, ↓gTupD_l, ↓setAll_nil, ↓setAll_cons, ↓dGcd_ii, ↓dDiv_ii, ↓dMod_ii, ↓dMul_ii, ↓dAbs_int, ↓dInt_int, ↓dStr_int, ↓dStr_str, ↓dEq_ii, ↓dEq_ss, ↓dEq_bb, ↓dIx_t0, ↓dIx_t1, ↓dIx_t2, ↓dIx_l0, ↓Bool.false_xor, ↓Bool.true_xor, ↓dAdd_ii, ↓dAdd_ss, ↓dAdd_ll, ↓dAdd_tt, ↓dSub_ii, ↓dCmp_ii, ↓dCmp_ss, ↓dCmpI_ii, ↓dLen_str, ↓dLen_lst, ↓dLen_tup, ↓dSl_str, ↓dSl_tup, ↓dSl_lst, ↓dRevT_tup, ↓dListX_tup, ↓dListX_lst, ↓dTuple_lst, ↓dNeg_int, ↓dPow_ii, ↓dItems_lst, ↓dItems_tup, ↓pick_1, ↓dIs_non_int, ↓dIs_non_bool, ↓dIs_non_str, ↓dIs_non_list, ↓dIs_non_tuple, ↓dIs_non_dict, ↓dIs_non_lt, ↓dIs_bl_int, ↓dIs_bl_bool, ↓dIs_bl_str, ↓dIs_bl_list, ↓dIs_bl_tuple, ↓dIs_bl_dict, ↓dIs_bl_lt, ↓dIs_int_int, ↓dIs_int_bool, ↓dIs_int_str, ↓dIs_int_list, ↓dIs_int_tuple, ↓dIs_int_dict, ↓dIs_int_lt, ↓dIs_str_int, ↓dIs_str_bool, ↓dIs_str_str, ↓dIs_str_list, ↓dIs_str_tuple, ↓dIs_str_dict, ↓dIs_str_lt, ↓dIs_lst_int, ↓dIs_lst_bool, ↓dIs_lst_str, ↓dIs_lst_list, ↓dIs_lst_tuple, ↓dIs_lst_dict, ↓dIs_lst_lt, ↓dIs_tup_int, ↓dIs_tup_bool, ↓dIs_tup_str, ↓dIs_tup_list, ↓dIs_tup_tuple, ↓dIs_tup_dict, ↓dIs_tup_lt, ↓dIs_dic_int, ↓dIs_dic_bool, ↓dIs_dic_str, ↓dIs_dic_list, ↓dIs_dic_tuple, ↓dIs_dic_dict, ↓dIs_dic_lt, Bool.not_true, Bool.not_false, Bool.false_eq_true, if_true, if_false, eq_self, reduceIte]
  refine ⟨q, rfl, ?_⟩
  simp only [↓jC_r, ↓jBin_r, ↓jTV_r, ↓jChain_r, ↓jAnd_r, ↓jOr_r, ↓jNot_r, ↓jAndV_r, ↓jOrV_r, ↓jNotV_r, ↓jIf_r, ↓jUn_r, ↓jNil_r, ↓jCons_r, ↓jTup_r, ↓jLst_r, ↓jNext_r, ↓jRet_r, ↓jIfS_r, ↓jDrop_r, ↓jSet_r, ↓jCall_r, ↓jCallKw_r, ↓jCB_r, ↓jSl_r, ↓jNo_r, ↓jPart_r, ↓jT0_r, ↓jT1_r, ↓jSS_r, ↓jLc_r, ↓jFor_r, ↓jSeqI_r, ↓jRange1_r, ↓jRange2_r, ↓jZip_r, ↓jYes_r, ↓jOwn_r, ↓jApp_r, ↓jDic0_r, ↓jDic1_r, ↓jPut_r, ↓jVar_0, ↓jVar_s, ↓gN_r, ↓List.set_cons_zero, ↓List.set_cons_succ, wipeD, ↓onI_int, ↓onB_bl, ↓onD_bl, ↓onN_bl, ↓onS_str, ↓onRef_ref, ↓jFld_r, ↓jFldS_r, ↓jMake_r, ↓jMeth_r, ↓jOwn2_r, ↓jOwnI_r, ↓jOwnR_r, ↓jIsO_r, ↓jStrO_r, ↓jFmt_r, ↓jJoin_r, ↓onJ_str, ↓jJs_nil, ↓jJs_cons, ↓on2_c, ↓jPar_r, ↓jAsg_r, ↓onO3_s, ↓onSm_s, ↓asO_obj, ↓onTxt_str, ↓onTxt_int, ↓isO_obj, ↓isO_int, ↓onStr_str, ↓gPair_t, ↓gUnlD_l, ↓gTupD_l, ↓setAll_nil, ↓setAll_cons, ↓dGcd_ii, ↓dDiv_ii, ↓dMod_ii, ↓dMul_ii, ↓dAbs_int, ↓dInt_int, ↓dStr_int, ↓dStr_str, ↓dEq_ii, ↓dEq_ss, ↓dEq_bb, ↓dIx_t0, ↓dIx_t1, ↓dIx_t2, ↓dIx_l0, ↓Bool.false_xor, ↓Bool.true_xor, ↓dAdd_ii, ↓dAdd_ss, ↓dAdd_ll, ↓dAdd_tt, ↓dSub_ii, ↓dCmp_ii, ↓dCmp_ss, ↓dCmpI_ii, ↓dLen_str, ↓dLen_lst, ↓dLen_tup, ↓dSl_str, ↓dSl_tup, ↓dSl_lst, ↓dRevT_tup, ↓dListX_tup, ↓dListX_lst, ↓dTuple_lst, ↓dNeg_int, ↓dPow_ii, ↓dItems_lst, ↓dItems_tup, ↓pick_1, ↓dIs_non_int, ↓dIs_non_bool, ↓dIs_non_str, ↓dIs_non_list, ↓dIs_non_tuple, ↓dIs_non_dict, ↓dIs_non_lt, ↓dIs_bl_int, ↓dIs_bl_bool, ↓dIs_bl_str, ↓dIs_bl_list, ↓dIs_bl_tuple, ↓dIs_bl_dict, ↓dIs_bl_lt, ↓dIs_int_int, ↓dIs_int_bool, ↓dIs_int_str, ↓dIs_int_list, ↓dIs_int_tuple, ↓dIs_int_dict, ↓dIs_int_lt, ↓dIs_str_int, ↓dIs_str_bool, ↓dIs_str_str, ↓dIs_str_list, ↓dIs_str_tuple, ↓dIs_str_dict, ↓dIs_str_lt, ↓dIs_lst_int, ↓dIs_lst_bool, ↓dIs_lst_str, ↓dIs_lst_list, ↓dIs_lst_tuple, ↓dIs_lst_dict, ↓dIs_lst_lt, ↓dIs_tup_int, ↓dIs_tup_bool, ↓dIs_tup_str, ↓dIs_tup_list, ↓dIs_tup_tuple, ↓dIs_tup_dict, ↓dIs_tup_lt, ↓dIs_dic_int, ↓dIs_dic_bool, ↓dIs_dic_str, ↓dIs_dic_list, ↓dIs_dic_tuple, ↓dIs_dic_dict, ↓dIs_dic_lt, Bool.not_true, Bool.not_false, Bool.false_eq_true, if_true, if_false, eq_self, reduceIte]
  rw [if_neg (by simp [startD, jVar_r, dIs, tyD, tysOf, kitBs, dLen, dCmp, dCmpI, dS0b, txts, asS, asL, strsOf_map, boolsOf_map, dAll, dListX, dList, dItems, gN, wipeD]; omega), jSeq_r]
  simp only [↓jC_r, ↓jBin_r, ↓jTV_r, ↓jChain_r, ↓jAnd_r, ↓jOr_r, ↓jNot_r, ↓jAndV_r, ↓jOrV_r, ↓jNotV_r, ↓jIf_r, ↓jUn_r, ↓jNil_r, ↓jCons_r, ↓jTup_r, ↓jLst_r, ↓jNext_r, ↓jRet_r, ↓jIfS_r, ↓jDrop_r, ↓jSet_r, ↓jCall_r, ↓jCallKw_r, ↓jCB_r, ↓jSl_r, ↓jNo_r, ↓jPart_r, ↓jT0_r, ↓jT1_r, ↓jSS_r, ↓jLc_r, ↓jFor_r, ↓jSeqI_r, ↓jRange1_r, ↓jRange2_r, ↓jZip_r, ↓jYes_r, ↓jOwn_r, ↓jApp_r, ↓jDic0_r, ↓jDic1_r, ↓jPut_r, ↓jVar_0, ↓jVar_s, ↓gN_r, ↓List.set_cons_zero, ↓List.set_cons_succ, wipeD, ↓onI_int, ↓onB_bl, ↓onD_bl, ↓onN_bl, ↓onS_str, ↓onRef_ref, ↓jFld_r, ↓jFldS_r, ↓jMake_r, ↓jMeth_r, ↓jOwn2_r, ↓jOwnI_r, ↓jOwnR_r, ↓jIsO_r, ↓jStrO_r, ↓jFmt_r, ↓jJoin_r, ↓onJ_str, ↓jJs_nil, ↓jJs_cons, ↓on2_c, ↓jPar_r, ↓jAsg_r, ↓onO3_s, ↓onSm_s, ↓asO_obj, ↓onTxt_str, ↓onTxt_int, ↓isO_obj, ↓isO_int, ↓onStr_str, ↓gPair_t, ↓gUnlD_l, ↓gTupD_l, ↓setAll_nil, ↓setAll_cons, ↓dGcd_ii, ↓dDiv_ii, ↓dMod_ii, ↓dMul_ii, ↓dAbs_int, ↓dInt_int, ↓dStr_int, ↓dStr_str, ↓dEq_ii, ↓dEq_ss, ↓dEq_bb, ↓dIx_t0, ↓dIx_t1, ↓dIx_t2, ↓dIx_l0, ↓Bool.false_xor, ↓Bool.true_xor, ↓dAdd_ii, ↓dAdd_ss, ↓dAdd_ll, ↓dAdd_tt, ↓dSub_ii, ↓dCmp_ii, ↓dCmp_ss, ↓dCmpI_ii, ↓dLen_str, ↓dLen_lst, ↓dLen_tup, ↓dSl_str, ↓dSl_tup, ↓dSl_lst, ↓dRevT_tup, ↓dListX_tup, ↓dListX_lst, ↓dTuple_lst, ↓dNeg_int, ↓dPow_ii, ↓dItems_lst, ↓dItems_tup, ↓pick_1, ↓dIs_non_int, ↓dIs_non_bool, ↓dIs_non_str, ↓dIs_non_list, ↓dIs_non_tuple, ↓dIs_non_dict, ↓dIs_non_lt, ↓dIs_bl_int, ↓dIs_bl_bool, ↓dIs_bl_str, ↓dIs_bl_list, ↓dIs_bl_tuple, ↓dIs_bl_dict, ↓dIs_bl_lt, ↓dIs_int_int, ↓dIs_int_bool, ↓dIs_int_str, ↓dIs_int_list, ↓dIs_int_tuple, ↓dIs_int_dict, ↓dIs_int_lt, ↓dIs_str_int, ↓dIs_str_bool, ↓dIs_str_str, ↓dIs_str_list, ↓dIs_str_tuple, ↓dIs_str_dict, ↓dIs_str_lt, ↓dIs_lst_int, ↓dIs_lst_bool, ↓dIs_lst_str, ↓dIs_lst_list, ↓dIs_lst_tuple, ↓dIs_lst_dict, ↓dIs_lst_lt, ↓dIs_tup_int, ↓dIs_tup_bool, ↓dIs_tup_str, ↓dIs_tup_list, ↓dIs_tup_tuple, ↓dIs_tup_dict, ↓dIs_tup_lt, ↓dIs_dic_int, ↓dIs_dic_bool, ↓dIs_dic_str, ↓dIs_dic_list, ↓dIs_dic_tuple, ↓dIs_dic_dict, ↓dIs_dic_lt, Bool.not_true, Bool.not_false, Bool.false_eq_true, if_true, if_false, eq_self, reduceIte]
  rw [jSeq_r]
  simp only [↓jC_r, ↓jBin_r, ↓jTV_r, ↓jChain_r, ↓jAnd_r, ↓jOr_r, ↓jNot_r, ↓jAndV_r, ↓jOrV_r, ↓jNotV_r, ↓jIf_r, ↓jUn_r, ↓jNil_r, ↓jCons_r, ↓jTup_r, ↓jLst_r, ↓jNext_r, ↓jRet_r, ↓jIfS_r, ↓jDrop_r, ↓jSet_r, ↓jCall_r, ↓jCallKw_r, ↓jCB_r, ↓jSl_r, ↓jNo_r, ↓jPart_r, ↓jT0_r, ↓jT1_r, ↓jSS_r, ↓jLc_r, ↓jFor_r, ↓jSeqI_r, ↓jRange1_r, ↓jRange2_r, ↓jZip_r, ↓jYes_r, ↓jOwn_r, ↓jApp_r, ↓jDic0_r, ↓jDic1_r, ↓jPut_r, ↓jVar_0, ↓jVar_s, ↓gN_r, ↓List.set_cons_zero, ↓List.set_cons_succ, wipeD, ↓onI_int, ↓onB_bl, ↓onD_bl, ↓onN_bl, ↓onS_str, ↓onRef_ref, ↓jFld_r, ↓jFldS_r, ↓jMake_r, ↓jMeth_r, ↓jOwn2_r, ↓jOwnI_r, ↓jOwnR_r, ↓jIsO_r, ↓jStrO_r, ↓jFmt_r, ↓jJoin_r, ↓onJ_str, ↓jJs_nil, ↓jJs_cons, ↓on2_c, ↓jPar_r, ↓jAsg_r, ↓onO3_s, ↓onSm_s, ↓asO_obj, ↓onTxt_str, ↓onTxt_int, ↓isO_obj, ↓isO_int, ↓onStr_str, ↓gPair_t, ↓gUnlD_l, ↓gTupD_l, ↓setAll_nil, ↓setAll_cons, ↓dGcd_ii, ↓dDiv_ii, ↓dMod_ii, ↓dMul_ii, ↓dAbs_int, ↓dInt_int, ↓dStr_int, ↓dStr_str, ↓dEq_ii, ↓dEq_ss, ↓dEq_bb, ↓dIx_t0, ↓dIx_t1, ↓dIx_t2, ↓dIx_l0, ↓Bool.false_xor, ↓Bool.true_xor, ↓dAdd_ii, ↓dAdd_ss, ↓dAdd_ll, ↓dAdd_tt, ↓dSub_ii, ↓dCmp_ii, ↓dCmp_ss, ↓dCmpI_ii, ↓dLen_str, ↓dLen_lst, ↓dLen_tup, ↓dSl_str, ↓dSl_tup, ↓dSl_lst, ↓dRevT_tup, ↓dListX_tup, ↓dListX_lst, ↓dTuple_lst, ↓dNeg_int, ↓dPow_ii, ↓dItems_lst, ↓dItems_tup, ↓pick_1, ↓dIs_non_int, ↓dIs_non_bool, ↓dIs_non_str, ↓dIs_non_list, ↓dIs_non_tuple, ↓dIs_non_dict, ↓dIs_non_lt, ↓dIs_bl_int, ↓dIs_bl_bool, ↓dIs_bl_str, ↓dIs_bl_list, ↓dIs_bl_tuple, ↓dIs_bl_dict, ↓dIs_bl_lt, ↓dIs_int_int, ↓dIs_int_bool, ↓dIs_int_str, ↓dIs_int_list, ↓dIs_int_tuple, ↓dIs_int_dict, ↓dIs_int_lt, ↓dIs_str_int, ↓dIs_str_bool, ↓dIs_str_str, ↓dIs_str_list, ↓dIs_str_tuple, ↓dIs_str_dict, ↓dIs_str_lt, ↓dIs_lst_int, ↓dIs_lst_bool, ↓dIs_lst_str, ↓dIs_lst_list, ↓dIs_lst_tuple, ↓dIs_lst_dict, ↓dIs_lst_lt, ↓dIs_tup_int, ↓dIs_tup_bool, ↓dIs_tup_str, ↓dIs_tup_list, ↓dIs_tup_tuple, ↓dIs_tup_dict, ↓dIs_tup_lt, ↓dIs_dic_int, ↓dIs_dic_bool, ↓dIs_dic_str, ↓dIs_dic_list, ↓dIs_dic_tuple, ↓dIs_dic_dict, ↓dIs_dic_lt, Bool.not_true, Bool.not_false, Bool.false_eq_true, if_true, if_false, eq_self, reduceIte]
  have hg : 0 < Nat.gcd p.natAbs q.natAbs := Nat.gcd_pos_of_pos_right _ (by omega)
  have hl : Nat.gcd p.natAbs q.natAbs ≤ q.natAbs := Nat.gcd_le_right _ (by omega)
  have cd : ∀ i : Int, CDivW i ((Nat.gcd p.natAbs q.natAbs : Nat) : Int) := fun i => ⟨by omega, by
    rw [Int.natAbs_natCast]
    exact log_lt (Nat.lt_of_le_of_lt hl bq) (by decide)⟩
  refine ⟨cd _, ?_⟩
  simp only [↓jC_r, ↓jBin_r, ↓jTV_r, ↓jChain_r, ↓jAnd_r, ↓jOr_r, ↓jNot_r, ↓jAndV_r, ↓jOrV_r, ↓jNotV_r, ↓jIf_r, ↓jUn_r, ↓jNil_r, ↓jCons_r, ↓jTup_r, ↓jLst_r, ↓jNext_r, ↓jRet_r, ↓jIfS_r, ↓jDrop_r, ↓jSet_r, ↓jCall_r, ↓jCallKw_r, ↓jCB_r, ↓jSl_r, ↓jNo_r, ↓jPart_r, ↓jT0_r, ↓jT1_r, ↓jSS_r, ↓jLc_r, ↓jFor_r, ↓jSeqI_r, ↓jRange1_r, ↓jRange2_r, ↓jZip_r, ↓jYes_r, ↓jOwn_r, ↓jApp_r, ↓jDic0_r, ↓jDic1_r, ↓jPut_r, ↓jVar_0, ↓jVar_s, ↓gN_r, ↓List.set_cons_zero, ↓List.set_cons_succ, wipeD, ↓onI_int, ↓onB_bl, ↓onD_bl, ↓onN_bl, ↓onS_str, ↓onRef_ref, ↓jFld_r, ↓jFldS_r, ↓jMake_r, ↓jMeth_r, ↓jOwn2_r, ↓jOwnI_r, ↓jOwnR_r, ↓jIsO_r, ↓jStrO_r, ↓jFmt_r, ↓jJoin_r, ↓onJ_str, ↓jJs_nil, ↓jJs_cons, ↓on2_c, ↓jPar_r, ↓jAsg_r, ↓onO3_s, ↓onSm_s, ↓asO_obj, ↓onTxt_str, ↓onTxt_int, ↓isO_obj, ↓isO_int, ↓onStr_str, ↓gPair_t, ↓gUnlD_l, ↓gTupD_l, ↓setAll_nil, ↓setAll_cons, ↓dGcd_ii, ↓dDiv_ii, ↓dMod_ii, ↓dMul_ii, ↓dAbs_int, ↓dInt_int, ↓dStr_int, ↓dStr_str, ↓dEq_ii, ↓dEq_ss, ↓dEq_bb, ↓dIx_t0, ↓dIx_t1, ↓dIx_t2, ↓dIx_l0, ↓Bool.false_xor, ↓Bool.true_xor, ↓dAdd_ii, ↓dAdd_ss, ↓dAdd_ll, ↓dAdd_tt, ↓dSub_ii, ↓dCmp_ii, ↓dCmp_ss, ↓dCmpI_ii, ↓dLen_str, ↓dLen_lst, ↓dLen_tup, ↓dSl_str, ↓dSl_tup, ↓dSl_lst, ↓dRevT_tup, ↓dListX_tup, ↓dListX_lst, ↓dTuple_lst, ↓dNeg_int, ↓dPow_ii, ↓dItems_lst, ↓dItems_tup, ↓pick_1, ↓dIs_non_int, ↓dIs_non_bool, ↓dIs_non_str, ↓dIs_non_list, ↓dIs_non_tuple, ↓dIs_non_dict, ↓dIs_non_lt, ↓dIs_bl_int, ↓dIs_bl_bool, ↓dIs_bl_str, ↓dIs_bl_list, ↓dIs_bl_tuple, ↓dIs_bl_dict, ↓dIs_bl_lt, ↓dIs_int_int, ↓dIs_int_bool, ↓dIs_int_str, ↓dIs_int_list, ↓dIs_int_tuple, ↓dIs_int_dict, ↓dIs_int_lt, ↓dIs_str_int, ↓dIs_str_bool, ↓dIs_str_str, ↓dIs_str_list, ↓dIs_str_tuple, ↓dIs_str_dict, ↓dIs_str_lt, ↓dIs_lst_int, ↓dIs_lst_bool, ↓dIs_lst_str, ↓dIs_lst_list, ↓dIs_lst_tuple, ↓dIs_lst_dict, ↓dIs_lst_lt, ↓dIs_tup_int, ↓dIs_tup_bool, ↓dIs_tup_str, ↓dIs_tup_list, ↓dIs_tup_tuple, ↓dIs_tup_dict, ↓dIs_tup_lt, ↓dIs_dic_int, ↓dIs_dic_bool, ↓dIs_dic_str, ↓dIs_dic_list, ↓dIs_dic_tuple, ↓dIs_dic_dict, ↓dIs_dic_lt, Bool.not_true, Bool.not_false, Bool.false_eq_true, if_true, if_false, eq_self, reduceIte, ownO_head, put_head]
  refine ⟨T.O_Share.cl, T.n_Share_top, (by show 0 < 1000; decide), cd _, ?_⟩
  refine ⟨T.O_Share.cl, T.n_Share_bottom, (by show 1 < 1000; decide), ?_⟩
  exact nx_ok k
/-- one makes a share -/
theorem make_i (T : Top K mg) {p q : Int} {μ : Mu} {Q : KD} {Ex : KX} (hq : 0 < q) (bp : p.natAbs < 2 ^ 5000) (bq : q.natAbs < 2 ^ 5000) (h : Q (shD T.C_Share (low p q)) μ) :
    ∀ x, x ∉ μ.own.map (·.1) → C_init T (.ref x :: [.int p, .int q]) (μ.push x (.obj T.C_Share [] [])) (fun v μ2 => v = .non ∧ ownO μ2 x fun C ks es => Q (.obj C ks es) (μ2.rid x)) Ex := by
  intro x hx
  refine ⟨x, p, q, μ.own, rfl, hq, bp, bq, rfl, rfl, ?_⟩
  rw [ownO_head, rid_head]
  exact h
theorem lk_top {a b : D} : lookD "top" ["top", "bottom"] [a, b] = some a := rfl
theorem lk_bot {a b : D} : lookD "bottom" ["top", "bottom"] [a, b] = some b := rfl
abbrev Sh (x : Int × Int) : Prop := Sz 2000 x
def C_op (C : Addr) (f : Int × Int → Int × Int → Int × Int) : Ct := fun ds μ Q _ => ∃ x y, ds = [shD C x, shD C y] ∧ Sh x ∧ Sh y ∧ Q (shD C (f x y)) μ
theorem ok_add (T : Top K mg) : FnOk P w K mg base CX0 4 T.f_Share___add__ T.fd_Share___add__ ["self", "other"] (spOf (C_op T.C_Share addF)) := by
  have G_Share___init__ := ok_init (P := P) (w := w) (base := base) T
  refine fn0 T.F_Share___add__ sc_Share___add__ (C_op T.C_Share addF) _ (fun ds μ Q Ex ⟨_, _, e, _⟩ => by rw [e]; rfl) (fun cdv A outer s H E hr => jss_cons (js_if (jt_not (jt_val (je_isOK K rfl T.O_Share (by rfl) T.z_isinstance (by rfl) T.g_Share (je_var 1)))) (jss_one (js_dead)) (jss_nil))
  (jss_one (js_ret (je_make T.M_Share G_Share___init__ (hr.mono (by decide)) (by rfl) T.g_Share T.b_Share___init__ pass0 (ja_cons (je_op or_add rs_add (je_op or_mul rs_mul (je_fldK K rfl (je_var 0)) (je_fldK K rfl (je_var 1))) (je_op or_mul rs_mul (je_fldK K rfl (je_var 1)) (je_fldK K rfl (je_var 0)))) (ja_cons (je_op or_mul rs_mul (je_fldK K rfl (je_var 0)) (je_fldK K rfl (je_var 1))) ja_nil)))))) ?_
  rintro ds μ Q Ex ⟨x, y, rfl, hx, hy, q⟩
  rw [show startD ["self", "other"] [shD T.C_Share x, shD T.C_Share y] = [some (shD T.C_Share x), some (shD T.C_Share y)] from rfl]
  rw [jSeq_r]
  simp only [↓jC_r, ↓jBin_r, ↓jTV_r, ↓jChain_r, ↓jAnd_r, ↓jOr_r, ↓jNot_r, ↓jAndV_r, ↓jOrV_r, ↓jNotV_r, ↓jIf_r, ↓jUn_r, ↓jNil_r, ↓jCons_r, ↓jTup_r, ↓jLst_r, ↓jNext_r, ↓jRet_r, ↓jIfS_r, ↓jDrop_r, ↓jSet_r, ↓jCall_r, ↓jCallKw_r, ↓jCB_r, ↓jSl_r, ↓jNo_r, ↓jPart_r, ↓jT0_r, ↓jT1_r, ↓jSS_r, ↓jLc_r, ↓jFor_r, ↓jSeqI_r, ↓jRange1_r, ↓jRange2_r, ↓jZip_r, ↓jYes_r, ↓jOwn_r, ↓jApp_r, ↓jDic0_r, ↓jDic1_r, ↓jPut_r, ↓jVar_0, ↓jVar_s, ↓gN_r, ↓List.set_cons_zero, ↓List.set_cons_succ, wipeD, ↓onI_int, ↓onB_bl, ↓onD_bl, ↓onN_bl, ↓onS_str, ↓onRef_ref, ↓jFld_r, ↓jFldS_r, ↓jMake_r, ↓jMeth_r, ↓jOwn2_r, ↓jOwnI_r, ↓jOwnR_r, ↓jIsO_r, ↓jStrO_r, ↓jFmt_r, ↓jJoin_r, ↓onJ_str, ↓jJs_nil, ↓jJs_cons, ↓on2_c, ↓jPar_r, ↓jAsg_r, ↓onO3_s, ↓onSm_s, ↓asO_obj, ↓onTxt_str, ↓onTxt_int, ↓isO_obj, ↓isO_int, ↓onStr_str, ↓gPair_t, ↓gUnlD_l, ↓gTupD_l, ↓setAll_nil, ↓setAll_cons, ↓dGcd_ii, ↓dDiv_ii, ↓dMod_ii, ↓dMul_ii, ↓dAbs_int, ↓dInt_int, ↓dStr_int, ↓dStr_str, ↓dEq_ii, ↓dEq_ss, ↓dEq_bb, ↓dIx_t0, ↓dIx_t1, ↓dIx_t2, ↓dIx_l0, ↓Bool.false_xor, ↓Bool.true_xor, ↓dAdd_ii, ↓dAdd_ss, ↓dAdd_ll, ↓dAdd_tt, ↓dSub_ii, ↓dCmp_ii, ↓dCmp_ss, ↓dCmpI_ii, ↓dLen_str, ↓dLen_lst, ↓dLen_tup, ↓dSl_str, ↓dSl_tup, ↓dSl_lst, ↓dRevT_tup, ↓dListX_tup, ↓dListX_lst, ↓dTuple_lst, ↓dNeg_int, ↓dPow_ii, ↓dItems_lst, ↓dItems_tup, ↓pick_1, ↓dIs_non_int, ↓dIs_non_bool, ↓dIs_non_str, ↓dIs_non_list, ↓dIs_non_tuple, ↓dIs_non_dict, ↓dIs_non_lt, ↓dIs_bl_int, ↓dIs_bl_bool, ↓dIs_bl_str, ↓dIs_bl_list, ↓dIs_bl_tuple, ↓dIs_bl_dict, ↓dIs_bl_lt, ↓dIs_int_int, ↓dIs_int_bool, ↓dIs_int_str, ↓dIs_int_list, ↓dIs_int_tuple, ↓dIs_int_dict, ↓dIs_int_lt, ↓dIs_str_int, ↓dIs_str_bool, ↓dIs_str_str, ↓dIs_str_list, ↓dIs_str_tuple, ↓dIs_str_dict, ↓dIs_str_lt, ↓dIs_lst_int, ↓dIs_lst_bool, ↓dIs_lst_str, ↓dIs_lst_list, ↓dIs_lst_tuple, ↓dIs_lst_dict, ↓dIs_lst_lt, ↓dIs_tup_int, ↓dIs_tup_bool, ↓dIs_tup_str, ↓dIs_tup_list, ↓dIs_tup_tuple, ↓dIs_tup_dict, ↓dIs_tup_lt, ↓dIs_dic_int, ↓dIs_dic_bool, ↓dIs_dic_str, ↓dIs_dic_list, ↓dIs_dic_tuple, ↓dIs_dic_dict, ↓dIs_dic_lt, Bool.not_true, Bool.not_false, Bool.false_eq_true, if_true, if_false, eq_self, reduceIte, shD, true_and, T.O_Share.cl, T.n_Share_top, T.n_Share_bottom, lk_top, lk_bot]
  obtain ⟨r1, _⟩ := raw_add hx hy
  obtain ⟨r2, r3⟩ := raw_b hx hy
  refine ⟨mulW hx.l hy.b, mulW hy.l hx.b, mulW hx.b hy.b, ?_⟩
  exact make_i T r2 (up_pow r1 (by decide)) (up_pow r3 (by decide)) (ret_ok q)
theorem ok_sub (T : Top K mg) : FnOk P w K mg base CX0 4 T.f_Share___sub__ T.fd_Share___sub__ ["self", "other"] (spOf (C_op T.C_Share subF)) := by
  have G_Share___init__ := ok_init (P := P) (w := w) (base := base) T
  refine fn0 T.F_Share___sub__ sc_Share___sub__ (C_op T.C_Share subF) _ (fun ds μ Q Ex ⟨_, _, e, _⟩ => by rw [e]; rfl) (fun cdv A outer s H E hr => jss_cons (js_if (jt_not (jt_val (je_isOK K rfl T.O_Share (by rfl) T.z_isinstance (by rfl) T.g_Share (je_var 1)))) (jss_one (js_dead)) (jss_nil))
  (jss_one (js_ret (je_make T.M_Share G_Share___init__ (hr.mono (by decide)) (by rfl) T.g_Share T.b_Share___init__ pass0 (ja_cons (je_op op_sub rs_sub (je_op or_mul rs_mul (je_fldK K rfl (je_var 0)) (je_fldK K rfl (je_var 1))) (je_op or_mul rs_mul (je_fldK K rfl (je_var 1)) (je_fldK K rfl (je_var 0)))) (ja_cons (je_op or_mul rs_mul (je_fldK K rfl (je_var 0)) (je_fldK K rfl (je_var 1))) ja_nil)))))) ?_
  rintro ds μ Q Ex ⟨x, y, rfl, hx, hy, q⟩
  rw [show startD ["self", "other"] [shD T.C_Share x, shD T.C_Share y] = [some (shD T.C_Share x), some (shD T.C_Share y)] from rfl]
  rw [jSeq_r]
  simp only [↓jC_r, ↓jBin_r, ↓jTV_r, ↓jChain_r, ↓jAnd_r, ↓jOr_r, ↓jNot_r, ↓jAndV_r, ↓jOrV_r, ↓jNotV_r, ↓jIf_r, ↓jUn_r, ↓jNil_r, ↓jCons_r, ↓jTup_r, ↓jLst_r, ↓jNext_r, ↓jRet_r, ↓jIfS_r, ↓jDrop_r, ↓jSet_r, ↓jCall_r, ↓jCallKw_r, ↓jCB_r, ↓jSl_r, ↓jNo_r, ↓jPart_r, ↓jT0_r, ↓jT1_r, ↓jSS_r, ↓jLc_r, ↓jFor_r, ↓jSeqI_r, ↓jRange1_r, ↓jRange2_r, ↓jZip_r, ↓jYes_r, ↓jOwn_r, ↓jApp_r, ↓jDic0_r, ↓jDic1_r, ↓jPut_r, ↓jVar_0, ↓jVar_s, ↓gN_r, ↓List.set_cons_zero, ↓List.set_cons_succ, wipeD, ↓onI_int, ↓onB_bl, ↓onD_bl, ↓onN_bl, ↓onS_str, ↓onRef_ref, ↓jFld_r, ↓jFldS_r, ↓jMake_r, ↓jMeth_r, ↓jOwn2_r, ↓jOwnI_r, ↓jOwnR_r, ↓jIsO_r, ↓jStrO_r, ↓jFmt_r, ↓jJoin_r, ↓onJ_str, ↓jJs_nil, ↓jJs_cons, ↓on2_c, ↓jPar_r, ↓jAsg_r, ↓onO3_s, ↓onSm_s, ↓asO_obj, ↓onTxt_str, ↓onTxt_int, ↓isO_obj, ↓isO_int, ↓onStr_str, ↓gPair_t, ↓gUnlD_l, ↓gTupD_l, ↓setAll_nil, ↓setAll_cons, ↓dGcd_ii, ↓dDiv_ii, ↓dMod_ii, ↓dMul_ii, ↓dAbs_int, ↓dInt_int, ↓dStr_int, ↓dStr_str, ↓dEq_ii, ↓dEq_ss, ↓dEq_bb, ↓dIx_t0, ↓dIx_t1, ↓dIx_t2, ↓dIx_l0, ↓Bool.false_xor, ↓Bool.true_xor, ↓dAdd_ii, ↓dAdd_ss, ↓dAdd_ll, ↓dAdd_tt, ↓dSub_ii, ↓dCmp_ii, ↓dCmp_ss, ↓dCmpI_ii, ↓dLen_str, ↓dLen_lst, ↓dLen_tup, ↓dSl_str, ↓dSl_tup, ↓dSl_lst, ↓dRevT_tup, ↓dListX_tup, ↓dListX_lst, ↓dTuple_lst, ↓dNeg_int, ↓dPow_ii, ↓dItems_lst, ↓dItems_tup, ↓pick_1, ↓dIs_non_int, ↓dIs_non_bool, ↓dIs_non_str, ↓dIs_non_list, ↓dIs_non_tuple, ↓dIs_non_dict, ↓dIs_non_lt, ↓dIs_bl_int, ↓dIs_bl_bool, ↓dIs_bl_str, ↓dIs_bl_list, ↓dIs_bl_tuple, ↓dIs_bl_dict, ↓dIs_bl_lt, ↓dIs_int_int, ↓dIs_int_bool, ↓dIs_int_str, ↓dIs_int_list, ↓dIs_int_tuple, ↓dIs_int_dict, ↓dIs_int_lt, ↓dIs_str_int, ↓dIs_str_bool, ↓dIs_str_str, ↓dIs_str_list, ↓dIs_str_tuple, ↓dIs_str_dict, ↓dIs_str_lt, ↓dIs_lst_int, ↓dIs_lst_bool, ↓dIs_lst_str, ↓dIs_lst_list, ↓dIs_lst_tuple, ↓dIs_lst_dict, ↓dIs_lst_lt, ↓dIs_tup_int, ↓dIs_tup_bool, ↓dIs_tup_str, ↓dIs_tup_list, ↓dIs_tup_tuple, ↓dIs_tup_dict, ↓dIs_tup_lt, ↓dIs_dic_int, ↓dIs_dic_bool, ↓dIs_dic_str, ↓dIs_dic_list, ↓dIs_dic_tuple, ↓dIs_dic_dict, ↓dIs_dic_lt, Bool.not_true, Bool.not_false, Bool.false_eq_true, if_true, if_false, eq_self, reduceIte, shD, true_and, T.O_Share.cl, T.n_Share_top, T.n_Share_bottom, lk_top, lk_bot]
  obtain ⟨_, r1⟩ := raw_add hx hy
  obtain ⟨r2, r3⟩ := raw_b hx hy
  refine ⟨mulW hx.l hy.b, mulW hy.l hx.b, mulW hx.b hy.b, ?_⟩
  exact make_i T r2 (up_pow r1 (by decide)) (up_pow r3 (by decide)) (ret_ok q)
def C_mul (C : Addr) : Ct := fun ds μ Q _ => (∃ x y, ds = [shD C x, shD C y] ∧ Sh x ∧ Sh y ∧ Q (shD C (mulF x y)) μ) ∨ (∃ x n, ds = [shD C x, .int n] ∧ Sh x ∧ n.natAbs < 2 ^ 2000 ∧ Q (shD C (scF x n)) μ)
theorem ok_mul (T : Top K mg) : FnOk P w K mg base CX0 4 T.f_Share___mul__ T.fd_Share___mul__ ["self", "other"] (spOf (C_mul T.C_Share)) := by
  have G_Share___init__ := ok_init (P := P) (w := w) (base := base) T
  have G_is_whole := ok_is_whole (P := P) (w := w) (base := base) T
  refine fn0 T.F_Share___mul__ sc_Share___mul__ (C_mul T.C_Share) _ (fun ds μ Q Ex h => by rcases h with ⟨_, _, e, _⟩ | ⟨_, _, e, _⟩ <;> (rw [e]; rfl)) (fun cdv A outer s H E hr => jss_cons (js_if (jt_val (je_isOK K rfl T.O_Share (by rfl) T.z_isinstance (by rfl) T.g_Share (je_var 1))) (jss_one (js_ret (je_make T.M_Share G_Share___init__ (hr.mono (by decide)) (by rfl) T.g_Share T.b_Share___init__ pass0 (ja_cons (je_op or_mul rs_mul (je_fldK K rfl (je_var 0)) (je_fldK K rfl (je_var 1))) (ja_cons (je_op or_mul rs_mul (je_fldK K rfl (je_var 0)) (je_fldK K rfl (je_var 1))) ja_nil))))) (jss_nil))
  (jss_cons (js_if (jt_not (jt_val (je_call G_is_whole (hr.mono (by decide)) (by rfl) T.g_is_whole T.F_is_whole.kp T.b_is_whole pass0 (ja_cons (je_var 1) ja_nil)))) (jss_one (js_dead)) (jss_nil))
  (jss_one (js_ret (je_make T.M_Share G_Share___init__ (hr.mono (by decide)) (by rfl) T.g_Share T.b_Share___init__ pass0 (ja_cons (je_op or_mul rs_mul (je_fldK K rfl (je_var 0)) (je_var 1)) (ja_cons (je_fldK K rfl (je_var 0)) ja_nil))))))) ?_
  rintro ds μ Q Ex (⟨x, y, rfl, hx, hy, q⟩ | ⟨x, n, rfl, hx, hn, q⟩)
  · rw [show startD ["self", "other"] [shD T.C_Share x, shD T.C_Share y] = [some (shD T.C_Share x), some (shD T.C_Share y)] from rfl]
    rw [jSeq_r]
    simp only [↓jC_r, ↓jBin_r, ↓jTV_r, ↓jChain_r, ↓jAnd_r, ↓jOr_r, ↓jNot_r, ↓jAndV_r, ↓jOrV_r, ↓jNotV_r, ↓jIf_r, ↓jUn_r, ↓jNil_r, ↓jCons_r, ↓jTup_r, ↓jLst_r, ↓jNext_r, ↓jRet_r, ↓jIfS_r, ↓jDrop_r, ↓jSet_r, ↓jCall_r, ↓jCallKw_r, ↓jCB_r, ↓jSl_r, ↓jNo_r, ↓jPart_r, ↓jT0_r, ↓jT1_r, ↓jSS_r, ↓jLc_r, ↓jFor_r, ↓jSeqI_r, ↓jRange1_r, ↓jRange2_r, ↓jZip_r, ↓jYes_r, ↓jOwn_r, ↓jApp_r, ↓jDic0_r, ↓jDic1_r, ↓jPut_r, ↓jVar_0, ↓jVar_s, ↓gN_r, ↓List.set_cons_zero, ↓List.set_cons_succ, wipeD, ↓onI_int, ↓onB_bl, ↓onD_bl, ↓onN_bl, ↓onS_str, ↓onRef_ref, ↓jFld_r, ↓jFldS_r, ↓jMake_r, ↓jMeth_r, ↓jOwn2_r, ↓jOwnI_r, ↓jOwnR_r, ↓jIsO_r, ↓jStrO_r, ↓jFmt_r, ↓jJoin_r, ↓onJ_str, ↓jJs_nil, ↓jJs_cons, ↓on2_c, ↓jPar_r, ↓jAsg_r, ↓onO3_s, ↓onSm_s, ↓asO_obj, ↓onTxt_str, ↓onTxt_int, ↓isO_obj, ↓isO_int, ↓onStr_str, ↓gPair_t, ↓gUnlD_l, ↓gTupD_l, ↓setAll_nil, ↓setAll_cons, ↓dGcd_ii, ↓dDiv_ii, ↓dMod_ii, ↓dMul_ii, ↓dAbs_int, ↓dInt_int, ↓dStr_int, ↓dStr_str, ↓dEq_ii, ↓dEq_ss, ↓dEq_bb, ↓dIx_t0, ↓dIx_t1, ↓dIx_t2, ↓dIx_l0, ↓Bool.false_xor, ↓Bool.true_xor, ↓dAdd_ii, ↓dAdd_ss, ↓dAdd_ll, ↓dAdd_tt, ↓dSub_ii, ↓dCmp_ii, ↓dCmp_ss, ↓dCmpI_ii, ↓dLen_str, ↓dLen_lst, ↓dLen_tup, ↓dSl_str, ↓dSl_tup, ↓dSl_lst, ↓dRevT_tup, ↓dListX_tup, ↓dListX_lst, ↓dTuple_lst, ↓dNeg_int, ↓dPow_ii, ↓dItems_lst, ↓dItems_tup, ↓pick_1, ↓dIs_non_int, ↓dIs_non_bool, ↓dIs_non_str, ↓dIs_non_list, ↓dIs_non_tuple, ↓dIs_non_dict, ↓dIs_non_lt, ↓dIs_bl_int, ↓dIs_bl_bool, ↓dIs_bl_str, ↓dIs_bl_list, ↓dIs_bl_tuple, ↓dIs_bl_dict, ↓dIs_bl_lt, ↓dIs_int_int, ↓dIs_int_bool, ↓dIs_int_str, ↓dIs_int_list, ↓dIs_int_tuple, ↓dIs_int_dict, ↓dIs_int_lt, ↓dIs_str_int, ↓dIs_str_bool, ↓dIs_str_str, ↓dIs_str_list, ↓dIs_str_tuple, ↓dIs_str_dict, ↓dIs_str_lt, ↓dIs_lst_int, ↓dIs_lst_bool, ↓dIs_lst_str, ↓dIs_lst_list, ↓dIs_lst_tuple, ↓dIs_lst_dict, ↓dIs_lst_lt, ↓dIs_tup_int, ↓dIs_tup_bool, ↓dIs_tup_str, ↓dIs_tup_list, ↓dIs_tup_tuple, ↓dIs_tup_dict, ↓dIs_tup_lt, ↓dIs_dic_int, ↓dIs_dic_bool, ↓dIs_dic_str, ↓dIs_dic_list, ↓dIs_dic_tuple, ↓dIs_dic_dict, ↓dIs_dic_lt, Bool.not_true, Bool.not_false, Bool.false_eq_true, if_true, if_false, eq_self, reduceIte, shD, true_and, T.O_Share.cl, T.n_Share_top, T.n_Share_bottom, lk_top, lk_bot]
    obtain ⟨r2, r3⟩ := raw_b hx hy
    refine ⟨mulW hx.l hy.l, mulW hx.b hy.b, ?_⟩
    exact make_i T r2 (up_pow (mul_lt_pow hx.l hy.l) (by decide)) (up_pow r3 (by decide)) (ret_ok q)
  · rw [show startD ["self", "other"] [shD T.C_Share x, .int n] = [some (shD T.C_Share x), some (.int n)] from rfl]
    rw [jSeq_r]
    simp only [↓jC_r, ↓jBin_r, ↓jTV_r, ↓jChain_r, ↓jAnd_r, ↓jOr_r, ↓jNot_r, ↓jAndV_r, ↓jOrV_r, ↓jNotV_r, ↓jIf_r, ↓jUn_r, ↓jNil_r, ↓jCons_r, ↓jTup_r, ↓jLst_r, ↓jNext_r, ↓jRet_r, ↓jIfS_r, ↓jDrop_r, ↓jSet_r, ↓jCall_r, ↓jCallKw_r, ↓jCB_r, ↓jSl_r, ↓jNo_r, ↓jPart_r, ↓jT0_r, ↓jT1_r, ↓jSS_r, ↓jLc_r, ↓jFor_r, ↓jSeqI_r, ↓jRange1_r, ↓jRange2_r, ↓jZip_r, ↓jYes_r, ↓jOwn_r, ↓jApp_r, ↓jDic0_r, ↓jDic1_r, ↓jPut_r, ↓jVar_0, ↓jVar_s, ↓gN_r, ↓List.set_cons_zero, ↓List.set_cons_succ, wipeD, ↓onI_int, ↓onB_bl, ↓onD_bl, ↓onN_bl, ↓onS_str, ↓onRef_ref, ↓jFld_r, ↓jFldS_r, ↓jMake_r, ↓jMeth_r, ↓jOwn2_r, ↓jOwnI_r, ↓jOwnR_r, ↓jIsO_r, ↓jStrO_r, ↓jFmt_r, ↓jJoin_r, ↓onJ_str, ↓jJs_nil, ↓jJs_cons, ↓on2_c, ↓jPar_r, ↓jAsg_r, ↓onO3_s, ↓onSm_s, ↓asO_obj, ↓onTxt_str, ↓onTxt_int, ↓isO_obj, ↓isO_int, ↓onStr_str, ↓gPair_t, ↓gUnlD_l, ↓gTupD_l, ↓setAll_nil, ↓setAll_cons, ↓dGcd_ii, ↓dDiv_ii, ↓dMod_ii, ↓dMul_ii, ↓dAbs_int, ↓dInt_int, ↓dStr_int, ↓dStr_str, ↓dEq_ii, ↓dEq_ss, ↓dEq_bb, ↓dIx_t0, ↓dIx_t1, ↓dIx_t2, ↓dIx_l0, ↓Bool.false_xor, ↓Bool.true_xor, ↓dAdd_ii, ↓dAdd_ss, ↓dAdd_ll, ↓dAdd_tt, ↓dSub_ii, ↓dCmp_ii, ↓dCmp_ss, ↓dCmpI_ii, ↓dLen_str, ↓dLen_lst, ↓dLen_tup, ↓dSl_str, ↓dSl_tup, ↓dSl_lst, ↓dRevT_tup, ↓dListX_tup, ↓dListX_lst, ↓dTuple_lst, ↓dNeg_int, ↓dPow_ii, ↓dItems_lst, ↓dItems_tup, ↓pick_1, ↓dIs_non_int, ↓dIs_non_bool, ↓dIs_non_str, ↓dIs_non_list, ↓dIs_non_tuple, ↓dIs_non_dict, ↓dIs_non_lt, ↓dIs_bl_int, ↓dIs_bl_bool, ↓dIs_bl_str, ↓dIs_bl_list, ↓dIs_bl_tuple, ↓dIs_bl_dict, ↓dIs_bl_lt, ↓dIs_int_int, ↓dIs_int_bool, ↓dIs_int_str, ↓dIs_int_list, ↓dIs_int_tuple, ↓dIs_int_dict, ↓dIs_int_lt, ↓dIs_str_int, ↓dIs_str_bool, ↓dIs_str_str, ↓dIs_str_list, ↓dIs_str_tuple, ↓dIs_str_dict, ↓dIs_str_lt, ↓dIs_lst_int, ↓dIs_lst_bool, ↓dIs_lst_str, ↓dIs_lst_list, ↓dIs_lst_tuple, ↓dIs_lst_dict, ↓dIs_lst_lt, ↓dIs_tup_int, ↓dIs_tup_bool, ↓dIs_tup_str, ↓dIs_tup_list, ↓dIs_tup_tuple, ↓dIs_tup_dict, ↓dIs_tup_lt, ↓dIs_dic_int, ↓dIs_dic_bool, ↓dIs_dic_str, ↓dIs_dic_list, ↓dIs_dic_tuple, ↓dIs_dic_dict, ↓dIs_dic_lt, Bool.not_true, Bool.not_false, Bool.false_eq_true, if_true, if_false, eq_self, reduceIte, shD, true_and, T.O_Share.cl, T.n_Share_top, T.n_Share_bottom, lk_top, lk_bot]
    refine ⟨T.i_Share_5, ?_⟩
    rw [jSeq_r]
    simp only [↓jC_r, ↓jBin_r, ↓jTV_r, ↓jChain_r, ↓jAnd_r, ↓jOr_r, ↓jNot_r, ↓jAndV_r, ↓jOrV_r, ↓jNotV_r, ↓jIf_r, ↓jUn_r, ↓jNil_r, ↓jCons_r, ↓jTup_r, ↓jLst_r, ↓jNext_r, ↓jRet_r, ↓jIfS_r, ↓jDrop_r, ↓jSet_r, ↓jCall_r, ↓jCallKw_r, ↓jCB_r, ↓jSl_r, ↓jNo_r, ↓jPart_r, ↓jT0_r, ↓jT1_r, ↓jSS_r, ↓jLc_r, ↓jFor_r, ↓jSeqI_r, ↓jRange1_r, ↓jRange2_r, ↓jZip_r, ↓jYes_r, ↓jOwn_r, ↓jApp_r, ↓jDic0_r, ↓jDic1_r, ↓jPut_r, ↓jVar_0, ↓jVar_s, ↓gN_r, ↓List.set_cons_zero, ↓List.set_cons_succ, wipeD, ↓onI_int, ↓onB_bl, ↓onD_bl, ↓onN_bl, ↓onS_str, ↓onRef_ref, ↓jFld_r, ↓jFldS_r, ↓jMake_r, ↓jMeth_r, ↓jOwn2_r, ↓jOwnI_r, ↓jOwnR_r, ↓jIsO_r, ↓jStrO_r, ↓jFmt_r, ↓jJoin_r, ↓onJ_str, ↓jJs_nil, ↓jJs_cons, ↓on2_c, ↓jPar_r, ↓jAsg_r, ↓onO3_s, ↓onSm_s, ↓asO_obj, ↓onTxt_str, ↓onTxt_int, ↓isO_obj, ↓isO_int, ↓onStr_str, ↓gPair_t, ↓gUnlD_l, ↓gTupD_l, ↓setAll_nil, ↓setAll_cons, ↓dGcd_ii, ↓dDiv_ii, ↓dMod_ii, ↓dMul_ii, ↓dAbs_int, ↓dInt_int, ↓dStr_int, ↓dStr_str, ↓dEq_ii, ↓dEq_ss, ↓dEq_bb, ↓dIx_t0, ↓dIx_t1, ↓dIx_t2, ↓dIx_l0, ↓Bool.false_xor, ↓Bool.true_xor, ↓dAdd_ii, ↓dAdd_ss, ↓dAdd_ll, ↓dAdd_tt, ↓dSub_ii, ↓dCmp_ii, ↓dCmp_ss, ↓dCmpI_ii, ↓dLen_str, ↓dLen_lst, ↓dLen_tup, ↓dSl_str, ↓dSl_tup, ↓dSl_lst, ↓dRevT_tup, ↓dListX_tup, ↓dListX_lst, ↓dTuple_lst, ↓dNeg_int, ↓dPow_ii, ↓dItems_lst, ↓dItems_tup, ↓pick_1, ↓dIs_non_int, ↓dIs_non_bool, ↓dIs_non_str, ↓dIs_non_list, ↓dIs_non_tuple, ↓dIs_non_dict, ↓dIs_non_lt, ↓dIs_bl_int, ↓dIs_bl_bool, ↓dIs_bl_str, ↓dIs_bl_list, ↓dIs_bl_tuple, ↓dIs_bl_dict, ↓dIs_bl_lt, ↓dIs_int_int, ↓dIs_int_bool, ↓dIs_int_str, ↓dIs_int_list, ↓dIs_int_tuple, ↓dIs_int_dict, ↓dIs_int_lt, ↓dIs_str_int, ↓dIs_str_bool, ↓dIs_str_str, ↓dIs_str_list, ↓dIs_str_tuple, ↓dIs_str_dict, ↓dIs_str_lt, ↓dIs_lst_int, ↓dIs_lst_bool, ↓dIs_lst_str, ↓dIs_lst_list, ↓dIs_lst_tuple, ↓dIs_lst_dict, ↓dIs_lst_lt, ↓dIs_tup_int, ↓dIs_tup_bool, ↓dIs_tup_str, ↓dIs_tup_list, ↓dIs_tup_tuple, ↓dIs_tup_dict, ↓dIs_tup_lt, ↓dIs_dic_int, ↓dIs_dic_bool, ↓dIs_dic_str, ↓dIs_dic_list, ↓dIs_dic_tuple, ↓dIs_dic_dict, ↓dIs_dic_lt, Bool.not_true, Bool.not_false, Bool.false_eq_true, if_true, if_false, eq_self, reduceIte, shD, true_and, T.O_Share.cl, T.n_Share_top, T.n_Share_bottom, lk_top, lk_bot]
    refine ⟨n, rfl, ?_⟩
    simp only [↓jC_r, ↓jBin_r, ↓jTV_r, ↓jChain_r, ↓jAnd_r, ↓jOr_r, ↓jNot_r, ↓jAndV_r, ↓jOrV_r, ↓jNotV_r, ↓jIf_r, ↓jUn_r, ↓jNil_r, ↓jCons_r, ↓jTup_r, ↓jLst_r, ↓jNext_r, ↓jRet_r, ↓jIfS_r, ↓jDrop_r, ↓jSet_r, ↓jCall_r, ↓jCallKw_r, ↓jCB_r, ↓jSl_r, ↓jNo_r, ↓jPart_r, ↓jT0_r, ↓jT1_r, ↓jSS_r, ↓jLc_r, ↓jFor_r, ↓jSeqI_r, ↓jRange1_r, ↓jRange2_r, ↓jZip_r, ↓jYes_r, ↓jOwn_r, ↓jApp_r, ↓jDic0_r, ↓jDic1_r, ↓jPut_r, ↓jVar_0, ↓jVar_s, ↓gN_r, ↓List.set_cons_zero, ↓List.set_cons_succ, wipeD, ↓onI_int, ↓onB_bl, ↓onD_bl, ↓onN_bl, ↓onS_str, ↓onRef_ref, ↓jFld_r, ↓jFldS_r, ↓jMake_r, ↓jMeth_r, ↓jOwn2_r, ↓jOwnI_r, ↓jOwnR_r, ↓jIsO_r, ↓jStrO_r, ↓jFmt_r, ↓jJoin_r, ↓onJ_str, ↓jJs_nil, ↓jJs_cons, ↓on2_c, ↓jPar_r, ↓jAsg_r, ↓onO3_s, ↓onSm_s, ↓asO_obj, ↓onTxt_str, ↓onTxt_int, ↓isO_obj, ↓isO_int, ↓onStr_str, ↓gPair_t, ↓gUnlD_l, ↓gTupD_l, ↓setAll_nil, ↓setAll_cons, ↓dGcd_ii, ↓dDiv_ii, ↓dMod_ii, ↓dMul_ii, ↓dAbs_int, ↓dInt_int, ↓dStr_int, ↓dStr_str, ↓dEq_ii, ↓dEq_ss, ↓dEq_bb, ↓dIx_t0, ↓dIx_t1, ↓dIx_t2, ↓dIx_l0, ↓Bool.false_xor, ↓Bool.true_xor, ↓dAdd_ii, ↓dAdd_ss, ↓dAdd_ll, ↓dAdd_tt, ↓dSub_ii, ↓dCmp_ii, ↓dCmp_ss, ↓dCmpI_ii, ↓dLen_str, ↓dLen_lst, ↓dLen_tup, ↓dSl_str, ↓dSl_tup, ↓dSl_lst, ↓dRevT_tup, ↓dListX_tup, ↓dListX_lst, ↓dTuple_lst, ↓dNeg_int, ↓dPow_ii, ↓dItems_lst, ↓dItems_tup, ↓pick_1, ↓dIs_non_int, ↓dIs_non_bool, ↓dIs_non_str, ↓dIs_non_list, ↓dIs_non_tuple, ↓dIs_non_dict, ↓dIs_non_lt, ↓dIs_bl_int, ↓dIs_bl_bool, ↓dIs_bl_str, ↓dIs_bl_list, ↓dIs_bl_tuple, ↓dIs_bl_dict, ↓dIs_bl_lt, ↓dIs_int_int, ↓dIs_int_bool, ↓dIs_int_str, ↓dIs_int_list, ↓dIs_int_tuple, ↓dIs_int_dict, ↓dIs_int_lt, ↓dIs_str_int, ↓dIs_str_bool, ↓dIs_str_str, ↓dIs_str_list, ↓dIs_str_tuple, ↓dIs_str_dict, ↓dIs_str_lt, ↓dIs_lst_int, ↓dIs_lst_bool, ↓dIs_lst_str, ↓dIs_lst_list, ↓dIs_lst_tuple, ↓dIs_lst_dict, ↓dIs_lst_lt, ↓dIs_tup_int, ↓dIs_tup_bool, ↓dIs_tup_str, ↓dIs_tup_list, ↓dIs_tup_tuple, ↓dIs_tup_dict, ↓dIs_tup_lt, ↓dIs_dic_int, ↓dIs_dic_bool, ↓dIs_dic_str, ↓dIs_dic_list, ↓dIs_dic_tuple, ↓dIs_dic_dict, ↓dIs_dic_lt, Bool.not_true, Bool.not_false, Bool.false_eq_true, if_true, if_false, eq_self, reduceIte, shD, true_and, T.O_Share.cl, T.n_Share_top, T.n_Share_bottom, lk_top, lk_bot]
    refine ⟨mulW hx.l hn, ?_⟩
    exact make_i T hx.s (up_pow (mul_lt_pow hx.l hn) (by decide)) (up_pow hx.b (by decide)) (ret_ok q)
def C_rmul (C : Addr) : Ct := fun ds μ Q _ => ∃ x n, ds = [shD C x, .int n] ∧ Sh x ∧ n.natAbs < 2 ^ 2000 ∧ Q (shD C (scF x n)) μ
theorem ok_rmul (T : Top K mg) : FnOk P w K mg base CX0 4 T.f_Share___rmul__ T.fd_Share___rmul__ ["self", "other"] (spOf (C_rmul T.C_Share)) := by
  have G_Share___init__ := ok_init (P := P) (w := w) (base := base) T
  have G_is_whole := ok_is_whole (P := P) (w := w) (base := base) T
  refine fn0 T.F_Share___rmul__ sc_Share___rmul__ (C_rmul T.C_Share) _ (fun ds μ Q Ex ⟨_, _, e, _⟩ => by rw [e]; rfl) (fun cdv A outer s H E hr => jss_cons (js_if (jt_not (jt_val (je_call G_is_whole (hr.mono (by decide)) (by rfl) T.g_is_whole T.F_is_whole.kp T.b_is_whole pass0 (ja_cons (je_var 1) ja_nil)))) (jss_one (js_dead)) (jss_nil))
  (jss_one (js_ret (je_make T.M_Share G_Share___init__ (hr.mono (by decide)) (by rfl) T.g_Share T.b_Share___init__ pass0 (ja_cons (je_op or_mul rs_mul (je_var 1) (je_fldK K rfl (je_var 0))) (ja_cons (je_fldK K rfl (je_var 0)) ja_nil)))))) ?_
  rintro ds μ Q Ex ⟨x, n, rfl, hx, hn, q⟩
  rw [show startD ["self", "other"] [shD T.C_Share x, .int n] = [some (shD T.C_Share x), some (.int n)] from rfl]
  rw [jSeq_r]
  simp only [↓jC_r, ↓jBin_r, ↓jTV_r, ↓jChain_r, ↓jAnd_r, ↓jOr_r, ↓jNot_r, ↓jAndV_r, ↓jOrV_r, ↓jNotV_r, ↓jIf_r, ↓jUn_r, ↓jNil_r, ↓jCons_r, ↓jTup_r, ↓jLst_r, ↓jNext_r, ↓jRet_r, ↓jIfS_r, ↓jDrop_r, ↓jSet_r, ↓jCall_r, ↓jCallKw_r, ↓jCB_r, ↓jSl_r, ↓jNo_r, ↓jPart_r, ↓jT0_r, ↓jT1_r, ↓jSS_r, ↓jLc_r, ↓jFor_r, ↓jSeqI_r, ↓jRange1_r, ↓jRange2_r, ↓jZip_r, ↓jYes_r, ↓jOwn_r, ↓jApp_r, ↓jDic0_r, ↓jDic1_r, ↓jPut_r, ↓jVar_0, ↓jVar_s, ↓gN_r, ↓List.set_cons_zero, ↓List.set_cons_succ, wipeD, ↓onI_int, ↓onB_bl, ↓onD_bl, ↓onN_bl, ↓onS_str, ↓onRef_ref, ↓jFld_r, ↓jFldS_r, ↓jMake_r, ↓jMeth_r, ↓jOwn2_r, ↓jOwnI_r, ↓jOwnR_r, ↓jIsO_r, ↓jStrO_r, ↓jFmt_r, ↓jJoin_r, ↓onJ_str, ↓jJs_nil, ↓jJs_cons, ↓on2_c, ↓jPar_r, ↓jAsg_r, ↓onO3_s, ↓onSm_s, ↓asO_obj, ↓onTxt_str, ↓onTxt_int, ↓isO_obj, ↓isO_int, ↓onStr_str, ↓gPair_t, ↓gUnlD_l, ↓gTupD_l, ↓setAll_nil, ↓setAll_cons, ↓dGcd_ii, ↓dDiv_ii, ↓dMod_ii, ↓dMul_ii, ↓dAbs_int, ↓dInt_int, ↓dStr_int, ↓dStr_str, ↓dEq_ii, ↓dEq_ss, ↓dEq_bb, ↓dIx_t0, ↓dIx_t1, ↓dIx_t2, ↓dIx_l0, ↓Bool.false_xor, ↓Bool.true_xor, ↓dAdd_ii, ↓dAdd_ss, ↓dAdd_ll, ↓dAdd_tt, ↓dSub_ii, ↓dCmp_ii, ↓dCmp_ss, ↓dCmpI_ii, ↓dLen_str, ↓dLen_lst, ↓dLen_tup, ↓dSl_str, ↓dSl_tup, ↓dSl_lst, ↓dRevT_tup, ↓dListX_tup, ↓dListX_lst, ↓dTuple_lst, ↓dNeg_int, ↓dPow_ii, ↓dItems_lst, ↓dItems_tup, ↓pick_1, ↓dIs_non_int, ↓dIs_non_bool, ↓dIs_non_str, ↓dIs_non_list, ↓dIs_non_tuple, ↓dIs_non_dict, ↓dIs_non_lt, ↓dIs_bl_int, ↓dIs_bl_bool, ↓dIs_bl_str, ↓dIs_bl_list, ↓dIs_bl_tuple, ↓dIs_bl_dict, ↓dIs_bl_lt, ↓dIs_int_int, ↓dIs_int_bool, ↓dIs_int_str, ↓dIs_int_list, ↓dIs_int_tuple, ↓dIs_int_dict, ↓dIs_int_lt, ↓dIs_str_int, ↓dIs_str_bool, ↓dIs_str_str, ↓dIs_str_list, ↓dIs_str_tuple, ↓dIs_str_dict, ↓dIs_str_lt, ↓dIs_lst_int, ↓dIs_lst_bool, ↓dIs_lst_str, ↓dIs_lst_list, ↓dIs_lst_tuple, ↓dIs_lst_dict, ↓dIs_lst_lt, ↓dIs_tup_int, ↓dIs_tup_bool, ↓dIs_tup_str, ↓dIs_tup_list, ↓dIs_tup_tuple, ↓dIs_tup_dict, ↓dIs_tup_lt, ↓dIs_dic_int, ↓dIs_dic_bool, ↓dIs_dic_str, ↓dIs_dic_list, ↓dIs_dic_tuple, ↓dIs_dic_dict, ↓dIs_dic_lt, Bool.not_true, Bool.not_false, Bool.false_eq_true, if_true, if_false, eq_self, reduceIte, shD, true_and, T.O_Share.cl, T.n_Share_top, T.n_Share_bottom, lk_top, lk_bot]
  refine ⟨n, rfl, ?_⟩
  simp only [↓jC_r, ↓jBin_r, ↓jTV_r, ↓jChain_r, ↓jAnd_r, ↓jOr_r, ↓jNot_r, ↓jAndV_r, ↓jOrV_r, ↓jNotV_r, ↓jIf_r, ↓jUn_r, ↓jNil_r, ↓jCons_r, ↓jTup_r, ↓jLst_r, ↓jNext_r, ↓jRet_r, ↓jIfS_r, ↓jDrop_r, ↓jSet_r, ↓jCall_r, ↓jCallKw_r, ↓jCB_r, ↓jSl_r, ↓jNo_r, ↓jPart_r, ↓jT0_r, ↓jT1_r, ↓jSS_r, ↓jLc_r, ↓jFor_r, ↓jSeqI_r, ↓jRange1_r, ↓jRange2_r, ↓jZip_r, ↓jYes_r, ↓jOwn_r, ↓jApp_r, ↓jDic0_r, ↓jDic1_r, ↓jPut_r, ↓jVar_0, ↓jVar_s, ↓gN_r, ↓List.set_cons_zero, ↓List.set_cons_succ, wipeD, ↓onI_int, ↓onB_bl, ↓onD_bl, ↓onN_bl, ↓onS_str, ↓onRef_ref, ↓jFld_r, ↓jFldS_r, ↓jMake_r, ↓jMeth_r, ↓jOwn2_r, ↓jOwnI_r, ↓jOwnR_r, ↓jIsO_r, ↓jStrO_r, ↓jFmt_r, ↓jJoin_r, ↓onJ_str, ↓jJs_nil, ↓jJs_cons, ↓on2_c, ↓jPar_r, ↓jAsg_r, ↓onO3_s, ↓onSm_s, ↓asO_obj, ↓onTxt_str, ↓onTxt_int, ↓isO_obj, ↓isO_int, ↓onStr_str, ↓gPair_t, ↓gUnlD_l, ↓gTupD_l, ↓setAll_nil, ↓setAll_cons, ↓dGcd_ii, ↓dDiv_ii, ↓dMod_ii, ↓dMul_ii, ↓dAbs_int, ↓dInt_int, ↓dStr_int, ↓dStr_str, ↓dEq_ii, ↓dEq_ss, ↓dEq_bb, ↓dIx_t0, ↓dIx_t1, ↓dIx_t2, ↓dIx_l0, ↓Bool.false_xor, ↓Bool.true_xor, ↓dAdd_ii, ↓dAdd_ss, ↓dAdd_ll, ↓dAdd_tt, ↓dSub_ii, ↓dCmp_ii, ↓dCmp_ss, ↓dCmpI_ii, ↓dLen_str, ↓dLen_lst, ↓dLen_tup, ↓dSl_str, ↓dSl_tup, ↓dSl_lst, ↓dRevT_tup, ↓dListX_tup, ↓dListX_lst, ↓dTuple_lst, ↓dNeg_int, ↓dPow_ii, ↓dItems_lst, ↓dItems_tup, ↓pick_1, ↓dIs_non_int, ↓dIs_non_bool, ↓dIs_non_str, ↓dIs_non_list, ↓dIs_non_tuple, ↓dIs_non_dict, ↓dIs_non_lt, ↓dIs_bl_int, ↓dIs_bl_bool, ↓dIs_bl_str, ↓dIs_bl_list, ↓dIs_bl_tuple, ↓dIs_bl_dict, ↓dIs_bl_lt, ↓dIs_int_int, ↓dIs_int_bool, ↓dIs_int_str, ↓dIs_int_list, ↓dIs_int_tuple, ↓dIs_int_dict, ↓dIs_int_lt, ↓dIs_str_int, ↓dIs_str_bool, ↓dIs_str_str, ↓dIs_str_list, ↓dIs_str_tuple, ↓dIs_str_dict, ↓dIs_str_lt, ↓dIs_lst_int, ↓dIs_lst_bool, ↓dIs_lst_str, ↓dIs_lst_list, ↓dIs_lst_tuple, ↓dIs_lst_dict, ↓dIs_lst_lt, ↓dIs_tup_int, ↓dIs_tup_bool, ↓dIs_tup_str, ↓dIs_tup_list, ↓dIs_tup_tuple, ↓dIs_tup_dict, ↓dIs_tup_lt, ↓dIs_dic_int, ↓dIs_dic_bool, ↓dIs_dic_str, ↓dIs_dic_list, ↓dIs_dic_tuple, ↓dIs_dic_dict, ↓dIs_dic_lt, Bool.not_true, Bool.not_false, Bool.false_eq_true, if_true, if_false, eq_self, reduceIte, shD, true_and, T.O_Share.cl, T.n_Share_top, T.n_Share_bottom, lk_top, lk_bot]
  refine ⟨mulW hn hx.l, ?_⟩
  refine make_i T hx.s (up_pow (mul_lt_pow hn hx.l) (by decide)) (up_pow hx.b (by decide)) (ret_ok ?_)
  rw [Int.mul_comm]; exact q
def C_eq (C : Addr) : Ct := fun ds μ Q _ => ∃ x y : Int × Int, ds = [shD C x, shD C y] ∧ Q (.bl (decide (x = y))) μ
theorem ok_eq (T : Top K mg) : FnOk P w K mg base CX0 1 T.f_Share___eq__ T.fd_Share___eq__ ["self", "other"] (spOf (C_eq T.C_Share)) := by
  refine fn0 T.F_Share___eq__ sc_Share___eq__ (C_eq T.C_Share) _ (fun ds μ Q Ex ⟨_, _, e, _⟩ => by rw [e]; rfl) (fun cdv A outer s H E hr => jss_one (js_ret (je_and (je_isOK K rfl T.O_Share (by rfl) T.z_isinstance (by rfl) T.g_Share (je_var 1)) (je_and (je_cmp (or_eq hr.units) rs_eq (je_fldK K rfl (je_var 0)) (je_fldK K rfl (je_var 1)) (nomark _)) (je_one (je_cmp (or_eq hr.units) rs_eq (je_fldK K rfl (je_var 0)) (je_fldK K rfl (je_var 1)) (nomark _))))))) ?_
  rintro ds μ Q Ex ⟨x, y, rfl, q⟩
  rw [show startD ["self", "other"] [shD T.C_Share x, shD T.C_Share y] = [some (shD T.C_Share x), some (shD T.C_Share y)] from rfl]
  simp only [↓jC_r, ↓jBin_r, ↓jTV_r, ↓jChain_r, ↓jAnd_r, ↓jOr_r, ↓jNot_r, ↓jAndV_r, ↓jOrV_r, ↓jNotV_r, ↓jIf_r, ↓jUn_r, ↓jNil_r, ↓jCons_r, ↓jTup_r, ↓jLst_r, ↓jNext_r, ↓jRet_r, ↓jIfS_r, ↓jDrop_r, ↓jSet_r, ↓jCall_r, ↓jCallKw_r, ↓jCB_r, ↓jSl_r, ↓jNo_r, ↓jPart_r, ↓jT0_r, ↓jT1_r, ↓jSS_r, ↓jLc_r, ↓jFor_r, ↓jSeqI_r, ↓jRange1_r, ↓jRange2_r, ↓jZip_r, ↓jYes_r, ↓jOwn_r, ↓jApp_r, ↓jDic0_r, ↓jDic1_r, ↓jPut_r, ↓jVar_0, ↓jVar_s, ↓gN_r, ↓List.set_cons_zero, ↓List.set_cons_succ, wipeD, ↓onI_int, ↓onB_bl, ↓onD_bl, ↓onN_bl, ↓onS_str, ↓onRef_ref, ↓jFld_r, ↓jFldS_r, ↓jMake_r, ↓jMeth_r, ↓jOwn2_r, ↓jOwnI_r, ↓jOwnR_r, ↓jIsO_r, ↓jStrO_r, ↓jFmt_r, ↓jJoin_r, ↓onJ_str, ↓jJs_nil, ↓jJs_cons, ↓on2_c, ↓jPar_r, ↓jAsg_r, ↓onO3_s, ↓onSm_s, ↓asO_obj, ↓onTxt_str, ↓onTxt_int, ↓isO_obj, ↓isO_int, ↓onStr_str, ↓gPair_t, ↓gUnlD_l, ↓gTupD_l, ↓setAll_nil, ↓setAll_cons, ↓dGcd_ii, ↓dDiv_ii, ↓dMod_ii, ↓dMul_ii, ↓dAbs_int, ↓dInt_int, ↓dStr_int, ↓dStr_str, ↓dEq_ii, ↓dEq_ss, ↓dEq_bb, ↓dIx_t0, ↓dIx_t1, ↓dIx_t2, ↓dIx_l0, ↓Bool.false_xor, ↓Bool.true_xor, ↓dAdd_ii, ↓dAdd_ss, ↓dAdd_ll, ↓dAdd_tt, ↓dSub_ii, ↓dCmp_ii, ↓dCmp_ss, ↓dCmpI_ii, ↓dLen_str, ↓dLen_lst, ↓dLen_tup, ↓dSl_str, ↓dSl_tup, ↓dSl_lst, ↓dRevT_tup, ↓dListX_tup, ↓dListX_lst, ↓dTuple_lst, ↓dNeg_int, ↓dPow_ii, ↓dItems_lst, ↓dItems_tup, ↓pick_1, ↓dIs_non_int, ↓dIs_non_bool, ↓dIs_non_str, ↓dIs_non_list, ↓dIs_non_tuple, ↓dIs_non_dict, ↓dIs_non_lt, ↓dIs_bl_int, ↓dIs_bl_bool, ↓dIs_bl_str, ↓dIs_bl_list, ↓dIs_bl_tuple, ↓dIs_bl_dict, ↓dIs_bl_lt, ↓dIs_int_int, ↓dIs_int_bool, ↓dIs_int_str, ↓dIs_int_list, ↓dIs_int_tuple, ↓dIs_int_dict, ↓dIs_int_lt, ↓dIs_str_int, ↓dIs_str_bool, ↓dIs_str_str, ↓dIs_str_list, ↓dIs_str_tuple, ↓dIs_str_dict, ↓dIs_str_lt, ↓dIs_lst_int, ↓dIs_lst_bool, ↓dIs_lst_str, ↓dIs_lst_list, ↓dIs_lst_tuple, ↓dIs_lst_dict, ↓dIs_lst_lt, ↓dIs_tup_int, ↓dIs_tup_bool, ↓dIs_tup_str, ↓dIs_tup_list, ↓dIs_tup_tuple, ↓dIs_tup_dict, ↓dIs_tup_lt, ↓dIs_dic_int, ↓dIs_dic_bool, ↓dIs_dic_str, ↓dIs_dic_list, ↓dIs_dic_tuple, ↓dIs_dic_dict, ↓dIs_dic_lt, Bool.not_true, Bool.not_false, Bool.false_eq_true, if_true, if_false, eq_self, reduceIte, shD, true_and, T.O_Share.cl, T.n_Share_top, T.n_Share_bottom, lk_top, lk_bot]
  have e : decide (x = y) = (x.1 == y.1 && x.2 == y.2) := by
    rw [Bool.eq_iff_iff]; simp [startD, jVar_r, dIs, tyD, tysOf, kitBs, dLen, dCmp, dCmpI, dS0b, txts, asS, asL, strsOf_map, boolsOf_map, dAll, dListX, dList, dItems, gN, wipeD, Prod.ext_iff]
  rw [e] at q
  cases h : x.1 == y.1
  · rw [h] at q
    simp only [Bool.false_eq_true, if_false]
    exact ret_ok q
  · rw [h] at q
    simp only [if_true]
    exact ret_ok q
def C_str (C : Addr) : Ct := fun ds μ Q _ => ∃ x : Int × Int, ds = [shD C x] ∧ x.1.natAbs < 2 ^ 199 ∧ 0 < x.2 ∧ x.2.natAbs < 2 ^ 199 ∧ Q (.str (if x.2 = 1 then Str.ofString (toString x.1) else Str.ofString (toString x.1) ++ Str.ofString "/" ++ Str.ofString (toString x.2))) μ
theorem ok_str (T : Top K mg) : FnOk P w K mg base CX0 3 T.f_Share___str__ T.fd_Share___str__ ["self"] (spOf (C_str T.C_Share)) := by
  have G_number_text := ok_number_text (P := P) (w := w) (base := base) T 2
  refine fn0 T.F_Share___str__ sc_Share___str__ (C_str T.C_Share) _ (fun ds μ Q Ex ⟨_, e, _⟩ => by rw [e]; rfl) (fun cdv A outer s H E hr => jss_cons (js_if (jt_cmp (or_eq hr.units) rs_eq (je_fldK K rfl (je_var 0)) je_int (nomark _)) (jss_one (js_ret (je_join1 (je_fmt (je_call G_number_text (hr.mono (by decide)) (by rfl) T.g_number_text T.F_number_text.kp T.b_number_text pass0 (ja_cons (je_fldK K rfl (je_var 0)) ja_nil)))))) (jss_nil))
  (jss_one (js_ret (je_joinN (.cons (je_fmt (je_call G_number_text (hr.mono (by decide)) (by rfl) T.g_number_text T.F_number_text.kp T.b_number_text pass0 (ja_cons (je_fldK K rfl (je_var 0)) ja_nil))) (.cons (je_str) (.cons (je_fmt (je_call G_number_text (hr.mono (by decide)) (by rfl) T.g_number_text T.F_number_text.kp T.b_number_text pass0 (ja_cons (je_fldK K rfl (je_var 0)) ja_nil))) .nil))))))) ?_
  rintro ds μ Q Ex ⟨x, rfl, hx, hs, hb, q⟩
  rw [show startD ["self"] [shD T.C_Share x] = [some (shD T.C_Share x)] from rfl]
  rw [jSeq_r]
  simp only [↓jC_r, ↓jBin_r, ↓jTV_r, ↓jChain_r, ↓jAnd_r, ↓jOr_r, ↓jNot_r, ↓jAndV_r, ↓jOrV_r, ↓jNotV_r, ↓jIf_r, ↓jUn_r, ↓jNil_r, ↓jCons_r, ↓jTup_r, ↓jLst_r, ↓jNext_r, ↓jRet_r, ↓jIfS_r, ↓jDrop_r, ↓jSet_r, ↓jCall_r, ↓jCallKw_r, ↓jCB_r, ↓jSl_r, ↓jNo_r, ↓jPart_r, ↓jT0_r, ↓jT1_r, ↓jSS_r, ↓jLc_r, ↓jFor_r, ↓jSeqI_r, ↓jRange1_r, ↓jRange2_r, ↓jZip_r, ↓jYes_r, ↓jOwn_r, ↓jApp_r, ↓jDic0_r, ↓jDic1_r, ↓jPut_r, ↓jVar_0, ↓jVar_s, ↓gN_r, ↓List.set_cons_zero, ↓List.set_cons_succ, wipeD, ↓onI_int, ↓onB_bl, ↓onD_bl, ↓onN_bl, ↓onS_str, ↓onRef_ref, ↓jFld_r, ↓jFldS_r, ↓jMake_r, ↓jMeth_r, ↓jOwn2_r, ↓jOwnI_r, ↓jOwnR_r, ↓jIsO_r, ↓jStrO_r, ↓jFmt_r, ↓jJoin_r, ↓onJ_str, ↓jJs_nil, ↓jJs_cons, ↓on2_c, ↓jPar_r, ↓jAsg_r, ↓onO3_s, ↓onSm_s, ↓asO_obj, ↓onTxt_str, ↓onTxt_int, ↓isO_obj, ↓isO_int, ↓onStr_str, ↓gPair_t, ↓gUnlD_l, ↓gTupD_l, ↓setAll_nil, ↓setAll_cons, ↓dGcd_ii, ↓dDiv_ii, ↓dMod_ii, ↓dMul_ii, ↓dAbs_int, ↓dInt_int, ↓dStr_int, ↓dStr_str, ↓dEq_ii, ↓dEq_ss, ↓dEq_bb, ↓dIx_t0, ↓dIx_t1, ↓dIx_t2, ↓dIx_l0, ↓Bool.false_xor, ↓Bool.true_xor, ↓dAdd_ii, ↓dAdd_ss, ↓dAdd_ll, ↓dAdd_tt, ↓dSub_ii, ↓dCmp_ii, ↓dCmp_ss, ↓dCmpI_ii, ↓dLen_str, ↓dLen_lst, ↓dLen_tup, ↓dSl_str, ↓dSl_tup, ↓dSl_lst, ↓dRevT_tup, ↓dListX_tup, ↓dListX_lst, ↓dTuple_lst, ↓dNeg_int, ↓dPow_ii, ↓dItems_lst, ↓dItems_tup, ↓pick_1, ↓dIs_non_int, ↓dIs_non_bool, ↓dIs_non_str, ↓dIs_non_list, ↓dIs_non_tuple, ↓dIs_non_dict, ↓dIs_non_lt, ↓dIs_bl_int, ↓dIs_bl_bool, ↓dIs_bl_str, ↓dIs_bl_list, ↓dIs_bl_tuple, ↓dIs_bl_dict, ↓dIs_bl_lt, ↓dIs_int_int, ↓dIs_int_bool, ↓dIs_int_str, ↓dIs_int_list, ↓dIs_int_tuple, ↓dIs_int_dict, ↓dIs_int_lt, ↓dIs_str_int, ↓dIs_str_bool, ↓dIs_str_str, ↓dIs_str_list, ↓dIs_str_tuple, ↓dIs_str_dict, ↓dIs_str_lt, ↓dIs_lst_int, ↓dIs_lst_bool, ↓dIs_lst_str, ↓dIs_lst_list, ↓dIs_lst_tuple, ↓dIs_lst_dict, ↓dIs_lst_lt, ↓dIs_tup_int, ↓dIs_tup_bool, ↓dIs_tup_str, ↓dIs_tup_list, ↓dIs_tup_tuple, ↓dIs_tup_dict, ↓dIs_tup_lt, ↓dIs_dic_int, ↓dIs_dic_bool, ↓dIs_dic_str, ↓dIs_dic_list, ↓dIs_dic_tuple, ↓dIs_dic_dict, ↓dIs_dic_lt, Bool.not_true, Bool.not_false, Bool.false_eq_true, if_true, if_false, eq_self, reduceIte, shD, true_and, T.O_Share.cl, T.n_Share_top, T.n_Share_bottom, lk_top, lk_bot]
  have w1 := text_small hx
  have w2 := text_small hb
  have sl : (Str.ofString "/").length = 1 := rfl
  split
  · rename_i h
    have h : x.2 = 1 := by simpa [startD, jVar_r, dIs, tyD, tysOf, kitBs, dLen, dCmp, dCmpI, dS0b, txts, asS, asL, strsOf_map, boolsOf_map, dAll, dListX, dList, dItems, gN, wipeD] using h
    refine ⟨x.1, rfl, .inr (by decide), hx, ?_⟩
    simp only [onTxt_str]
    rw [if_pos h] at q
    exact ⟨szo (by omega), ret_ok q⟩
  · rename_i h
    have h : x.2 ≠ 1 := by simpa [startD, jVar_r, dIs, tyD, tysOf, kitBs, dLen, dCmp, dCmpI, dS0b, txts, asS, asL, strsOf_map, boolsOf_map, dAll, dListX, dList, dItems, gN, wipeD] using h
    rw [if_neg h] at q
    refine ⟨x.1, rfl, .inr (by decide), hx, ?_⟩
    simp only [onTxt_str, cat_empty]
    refine ⟨szo (by omega), szo (by omega), szo (by rw [app_len]; omega), x.2, rfl, .inr (by decide), hb, ?_⟩
    simp only [onTxt_str]
    exact ⟨szo (by omega), szo (by rw [app_len, app_len]; omega), ret_ok q⟩
def C_less (C : Addr) : Ct := fun ds μ Q _ => ∃ x y : Int × Int, ds = [shD C x, shD C y] ∧ Sh x ∧ Sh y ∧ Q (.bl (decide (x.1 * y.2 < y.1 * x.2))) μ
theorem ok_less (T : Top K mg) : FnOk P w K mg base CX0 1 T.f_Share_less T.fd_Share_less ["self", "other"] (spOf (C_less T.C_Share)) := by
  refine fn0 T.F_Share_less sc_Share_less (C_less T.C_Share) _ (fun ds μ Q Ex ⟨_, _, e, _⟩ => by rw [e]; rfl) (fun cdv A outer s H E hr => jss_one (js_ret (je_cmp or_ltS rs_cmp (je_op or_mul rs_mul (je_fldK K rfl (je_var 0)) (je_fldK K rfl (je_var 1))) (je_op or_mul rs_mul (je_fldK K rfl (je_var 1)) (je_fldK K rfl (je_var 0))) (nomark _)))) ?_
  rintro ds μ Q Ex ⟨x, y, rfl, hx, hy, q⟩
  rw [show startD ["self", "other"] [shD T.C_Share x, shD T.C_Share y] = [some (shD T.C_Share x), some (shD T.C_Share y)] from rfl]
  simp only [↓jC_r, ↓jBin_r, ↓jTV_r, ↓jChain_r, ↓jAnd_r, ↓jOr_r, ↓jNot_r, ↓jAndV_r, ↓jOrV_r, ↓jNotV_r, ↓jIf_r, ↓jUn_r, ↓jNil_r, ↓jCons_r, ↓jTup_r, ↓jLst_r, ↓jNext_r, ↓jRet_r, ↓jIfS_r, ↓jDrop_r, ↓jSet_r, ↓jCall_r, ↓jCallKw_r, ↓jCB_r, ↓jSl_r, ↓jNo_r, ↓jPart_r, ↓jT0_r, ↓jT1_r, ↓jSS_r, ↓jLc_r, ↓jFor_r, ↓jSeqI_r, ↓jRange1_r, ↓jRange2_r, ↓jZip_r, ↓jYes_r, ↓jOwn_r, ↓jApp_r, ↓jDic0_r, ↓jDic1_r, ↓jPut_r, ↓jVar_0, ↓jVar_s, ↓gN_r, ↓List.set_cons_zero, ↓List.set_cons_succ, wipeD, ↓onI_int, ↓onB_bl, ↓onD_bl, ↓onN_bl, ↓onS_str, ↓onRef_ref, ↓jFld_r, ↓jFldS_r, ↓jMake_r, ↓jMeth_r, ↓jOwn2_r, ↓jOwnI_r, ↓jOwnR_r, ↓jIsO_r, ↓jStrO_r, ↓jFmt_r, ↓jJoin_r, ↓onJ_str, ↓jJs_nil, ↓jJs_cons, ↓on2_c, ↓jPar_r, ↓jAsg_r, ↓onO3_s, ↓onSm_s, ↓asO_obj, ↓onTxt_str, ↓onTxt_int, ↓isO_obj, ↓isO_int, ↓onStr_str, ↓gPair_t, ↓gUnlD_l, ↓gTupD_l, ↓setAll_nil, ↓setAll_cons, ↓dGcd_ii, ↓dDiv_ii, ↓dMod_ii, ↓dMul_ii, ↓dAbs_int, ↓dInt_int, ↓dStr_int, ↓dStr_str, ↓dEq_ii, ↓dEq_ss, ↓dEq_bb, ↓dIx_t0, ↓dIx_t1, ↓dIx_t2, ↓dIx_l0, ↓Bool.false_xor, ↓Bool.true_xor, ↓dAdd_ii, ↓dAdd_ss, ↓dAdd_ll, ↓dAdd_tt, ↓dSub_ii, ↓dCmp_ii, ↓dCmp_ss, ↓dCmpI_ii, ↓dLen_str, ↓dLen_lst, ↓dLen_tup, ↓dSl_str, ↓dSl_tup, ↓dSl_lst, ↓dRevT_tup, ↓dListX_tup, ↓dListX_lst, ↓dTuple_lst, ↓dNeg_int, ↓dPow_ii, ↓dItems_lst, ↓dItems_tup, ↓pick_1, ↓dIs_non_int, ↓dIs_non_bool, ↓dIs_non_str, ↓dIs_non_list, ↓dIs_non_tuple, ↓dIs_non_dict, ↓dIs_non_lt, ↓dIs_bl_int, ↓dIs_bl_bool, ↓dIs_bl_str, ↓dIs_bl_list, ↓dIs_bl_tuple, ↓dIs_bl_dict, ↓dIs_bl_lt, ↓dIs_int_int, ↓dIs_int_bool, ↓dIs_int_str, ↓dIs_int_list, ↓dIs_int_tuple, ↓dIs_int_dict, ↓dIs_int_lt, ↓dIs_str_int, ↓dIs_str_bool, ↓dIs_str_str, ↓dIs_str_list, ↓dIs_str_tuple, ↓dIs_str_dict, ↓dIs_str_lt, ↓dIs_lst_int, ↓dIs_lst_bool, ↓dIs_lst_str, ↓dIs_lst_list, ↓dIs_lst_tuple, ↓dIs_lst_dict, ↓dIs_lst_lt, ↓dIs_tup_int, ↓dIs_tup_bool, ↓dIs_tup_str, ↓dIs_tup_list, ↓dIs_tup_tuple, ↓dIs_tup_dict, ↓dIs_tup_lt, ↓dIs_dic_int, ↓dIs_dic_bool, ↓dIs_dic_str, ↓dIs_dic_list, ↓dIs_dic_tuple, ↓dIs_dic_dict, ↓dIs_dic_lt, Bool.not_true, Bool.not_false, Bool.false_eq_true, if_true, if_false, eq_self, reduceIte, shD, true_and, T.O_Share.cl, T.n_Share_top, T.n_Share_bottom, lk_top, lk_bot]
  exact ⟨mulW hx.l hy.b, mulW hy.l hx.b, ret_ok q⟩
/-! ### the law's defs -/

def C_L_same (n : Nat) : Ct := fun ds μ Q _ => ∃ d, ds = [d, d] ∧ Pl n d = true ∧ Q (.bl true) μ
theorem all_true (xs : List D) : boolsOf (xs.map fun _ => D.bl true) = some (xs.map fun _ => true) := boolsOf_map (fun _ => true) xs
theorem same0 {vs : List V} {H : Hp} {Q : VK} {E : XK} {p : Prop} (h : spOf (C_L_same 0) vs H Q E) : p := by
  obtain ⟨B, ds, μ, Q', Ex, h1, h2, ⟨d, _, z, _⟩, _⟩ := h
  cases z
theorem ok_L_same (T : Top K mg) : ∀ n, FnOk P w K mg base CX0 n T.f_L_same T.fd_L_same ["_law_found", "_law_due"] (spOf (C_L_same n))
  | 0 => ⟨fun vs H Q E h => same0 h, fun A outer s H args us vs Q E hr _ _ _ h => same0 h⟩
  | n + 1 => by
    have G_L_same := ok_L_same T n
    refine fn0 T.F_L_same sc_L_same (C_L_same (n + 1)) _ (fun ds μ Q Ex ⟨d, e, _⟩ => by rw [e]; rfl) (fun cdv A outer s H E hr => jss_cons (js_if (jt_val (je_callB cr_is rl_is (by rfl) T.z_isinstance (by decide +kernel) (ja_cons (je_var 1) (ja_cons (je_tup (ja_cons (je_ty (n := "list") (by rfl) T.z_list (by decide +kernel)) (ja_cons (je_ty (n := "tuple") (by rfl) T.z_tuple (by decide +kernel)) ja_nil))) ja_nil)))) (jss_cons (js_if (JW.pt (jw_or (jt_cmp (or_ne hr.units) rs_ne (je_callB cr_is rl_is (by rfl) T.z_isinstance (by decide +kernel) (ja_cons (je_var 0) (ja_cons (je_ty (n := "list") (by rfl) T.z_list (by decide +kernel)) ja_nil))) (je_callB cr_is rl_is (by rfl) T.z_isinstance (by decide +kernel) (ja_cons (je_var 1) (ja_cons (je_ty (n := "list") (by rfl) T.z_list (by decide +kernel)) ja_nil))) (nomark _)) (jw_or1 (jt_cmp (or_ne hr.units) rs_ne (je_callB cr_is rl_is (by rfl) T.z_isinstance (by decide +kernel) (ja_cons (je_var 0) (ja_cons (je_ty (n := "tuple") (by rfl) T.z_tuple (by decide +kernel)) ja_nil))) (je_callB cr_is rl_is (by rfl) T.z_isinstance (by decide +kernel) (ja_cons (je_var 1) (ja_cons (je_ty (n := "tuple") (by rfl) T.z_tuple (by decide +kernel)) ja_nil))) (nomark _))))) (jss_one (js_ret je_bl)) (jss_nil))
  (jss_one (js_ret (je_and (je_cmp (or_eq hr.units) rs_eq (je_callB cr_len rl_len (by rfl) T.z_len PySem.boot_len (ja_cons (je_var 0) ja_nil)) (je_callB cr_len rl_len (by rfl) T.z_len PySem.boot_len (ja_cons (je_var 1) ja_nil)) (nomark _)) (je_one (je_callB (cr_all rfl) rl_all (by rfl) T.z_all (by decide +kernel) (ja_cons (je_lc (own := [("_law_one", 2), ("_law_two", 3)]) (ws := [2, 3]) rfl sc_L_same.nd (ji_zip (by rfl) T.z_zip (je_var 0) (je_var 1)) (blkOk_by (by rfl)) (fun _ _ _ _ _ => (jg_pair 2 3 rfl sc_L_same.nd)) (fun _ _ _ _ _ => jts_nil) (fun _ _ _ _ _ => (je_call G_L_same hr (by rfl) T.g_L_same T.F_L_same.kp T.b_L_same pass0 (ja_cons (je_var 2) (ja_cons (je_var 3) ja_nil)))) (by decide)) ja_nil))))))) (jss_nil))
  (jss_cons (js_if (JW.pt (jw_or (jt_cmp op_isN rs_isN (je_var 1) je_non (nomark _)) (jw_or1 (jt_cmp op_isN rs_isN (je_var 0) je_non (nomark _))))) (jss_one (js_ret (je_and (je_cmp op_isN rs_isN (je_var 1) je_non (nomark _)) (je_one (je_cmp op_isN rs_isN (je_var 0) je_non (nomark _)))))) (jss_nil))
  (jss_cons (js_if (JW.pt (jw_or (jt_val (je_callB cr_is rl_is (by rfl) T.z_isinstance (by decide +kernel) (ja_cons (je_var 1) (ja_cons (je_ty (n := "dict") (by rfl) T.z_dict (by decide +kernel)) ja_nil)))) (jw_or1 (jt_val (je_callB cr_is rl_is (by rfl) T.z_isinstance (by decide +kernel) (ja_cons (je_var 0) (ja_cons (je_ty (n := "dict") (by rfl) T.z_dict (by decide +kernel)) ja_nil))))))) (jss_one (js_ret (je_and (je_callB cr_is rl_is (by rfl) T.z_isinstance (by decide +kernel) (ja_cons (je_var 1) (ja_cons (je_ty (n := "dict") (by rfl) T.z_dict (by decide +kernel)) ja_nil))) (je_and (je_callB cr_is rl_is (by rfl) T.z_isinstance (by decide +kernel) (ja_cons (je_var 0) (ja_cons (je_ty (n := "dict") (by rfl) T.z_dict (by decide +kernel)) ja_nil))) (je_one (je_cmp (or_eq hr.units) rs_eq (je_var 0) (je_var 1) (nomark _))))))) (jss_nil))
  (jss_cons (js_if (JW.pt (jw_or (jt_val (je_callB cr_is rl_is (by rfl) T.z_isinstance (by decide +kernel) (ja_cons (je_var 1) (ja_cons (je_ty (n := "bool") (by rfl) T.z_bool (by decide +kernel)) ja_nil)))) (jw_or1 (jt_val (je_callB cr_is rl_is (by rfl) T.z_isinstance (by decide +kernel) (ja_cons (je_var 0) (ja_cons (je_ty (n := "bool") (by rfl) T.z_bool (by decide +kernel)) ja_nil))))))) (jss_one (js_ret (je_and (je_callB cr_is rl_is (by rfl) T.z_isinstance (by decide +kernel) (ja_cons (je_var 1) (ja_cons (je_ty (n := "bool") (by rfl) T.z_bool (by decide +kernel)) ja_nil))) (je_and (je_callB cr_is rl_is (by rfl) T.z_isinstance (by decide +kernel) (ja_cons (je_var 0) (ja_cons (je_ty (n := "bool") (by rfl) T.z_bool (by decide +kernel)) ja_nil))) (je_one (je_cmp (or_eq hr.units) rs_eq (je_var 0) (je_var 1) (nomark _))))))) (jss_nil))
  (jss_cons (js_if (jt_val (je_callB cr_is rl_is (by rfl) T.z_isinstance (by decide +kernel) (ja_cons (je_var 1) (ja_cons (je_ty (n := "int") (by rfl) T.z_int (by decide +kernel)) ja_nil)))) (jss_one (js_ret (je_and (je_callB cr_is rl_is (by rfl) T.z_isinstance (by decide +kernel) (ja_cons (je_var 0) (ja_cons (je_ty (n := "int") (by rfl) T.z_int (by decide +kernel)) ja_nil))) (je_one (je_cmp (or_eq hr.units) rs_eq (je_var 0) (je_var 1) (nomark _)))))) (jss_nil))
  (jss_one (js_ret (je_and (je_callB cr_is rl_is (by rfl) T.z_isinstance (by decide +kernel) (ja_cons (je_var 1) (ja_cons (je_ty (n := "str") (by rfl) T.z_str (by decide +kernel)) ja_nil))) (je_and (je_callB cr_is rl_is (by rfl) T.z_isinstance (by decide +kernel) (ja_cons (je_var 0) (ja_cons (je_ty (n := "str") (by rfl) T.z_str (by decide +kernel)) ja_nil))) (je_one (je_cmp (or_eq hr.units) rs_eq (je_var 0) (je_var 1) (nomark _)))))))))))) ?_
    rintro ds μ Q Ex ⟨d, rfl, h, q⟩
    rw [jSeq_r]
    cases d <;> simp [startD, jVar_r, dIs, tyD, tysOf, kitBs, dLen, dCmp, dCmpI, dS0b, txts, asS, asL, strsOf_map, boolsOf_map, dAll, dListX, dList, dItems, gN, wipeD, Pl] at h <;> simp [startD, jVar_r, dIs, tyD, tysOf, kitBs, dLen, dCmp, dCmpI, dS0b, txts, asS, asL, strsOf_map, boolsOf_map, dAll, dListX, dList, dItems, gN, wipeD, sl2, jSeq_r, dIsN, isNonD, dEq, scalEq] <;> (try exact ret_ok q)
    all_goals
      rename_i xs
      show lcD _ _ _ _ _ _ (zipD xs xs) _ _
      refine lc_map (fun _ => .bl true) (fun d hd Q' q' => ?_) ?_ ?_
      · rw [zip_self] at hd
        obtain ⟨x, hx, rfl⟩ := List.mem_map.mp hd
        exact ⟨x, rfl, h.1 x hx, q'⟩
      · rw [zip_self, List.length_map, sizeLine_eq]; omega
      · rw [all_true]
        have e : (List.map (fun _ => true) (zipD xs xs)).all id = true := by simp [startD, jVar_r, dIs, tyD, tysOf, kitBs, dLen, dCmp, dCmpI, dS0b, txts, asS, asL, strsOf_map, boolsOf_map, dAll, dListX, dList, dItems, gN, wipeD]
        show (endsOf Q).rt (D.bl _) μ
        rw [e]; exact ret_ok q
theorem ok_L_draw2 (T : Top K mg) : FnOk P w K mg base CX0 1 T.f_L_draw T.fd_L_draw ["_law_bag_here", "_law_many"] (spOf C_draw2) := by
  refine fn0 T.F_L_draw sc_L_draw C_draw2 _ (fun ds μ Q Ex ⟨_, _, _, _, _, _, _, _, e, _⟩ => by rw [e]; rfl) (fun cdv A outer s H E hr => jss_cons (js_put (je_op or_add rs_add (je_ix (je_var 0) je_int) je_int) (je_var 0) je_int)
  (jss_cons (js_if (JW.pt (jw_and (jt_cmp (or_eq hr.units) rs_eq (je_ix (je_var 0) je_int) je_int (nomark _)) (jw_and1 (jt_cmp or_ltS rs_cmp (je_ix (je_var 0) je_int) (je_callB cr_len rl_len (by rfl) T.z_len PySem.boot_len (ja_cons (je_ix (je_var 0) je_int) ja_nil)) (nomark _))))) (jss_cons (js_set 2 sc_L_draw.nd (je_callB cr_abs rl_abs (by rfl) T.z_abs (by decide +kernel) (ja_cons (je_ix (je_ix (je_var 0) je_int) (je_ix (je_var 0) je_int)) ja_nil)))
  (jss_cons (js_put (je_op or_add rs_add (je_ix (je_var 0) je_int) je_int) (je_var 0) je_int)
  (jss_one (js_if (jt_cmp op_ge rs_cmpI (je_var 2) (je_op op_pow rs_pow je_int je_int) (nomark _)) (jss_one (js_put (je_var 2) (je_var 0) je_int)) (jss_one (js_put (je_op op_mod rs_mod (je_callTy cr_int rl_int (by rfl) T.z_int (by decide +kernel) (ja_cons (je_op or_add rs_add (je_op or_add rs_add (je_op or_mul rs_mul (je_ix (je_var 0) je_int) je_int) (je_op or_mul rs_mul (je_op op_mod rs_mod (je_callTy cr_int rl_int (by rfl) T.z_int (by decide +kernel) (ja_cons (je_var 2) ja_nil)) je_int) je_int)) je_int) ja_nil)) je_int) (je_var 0) je_int)))))) (jss_nil))
  (jss_cons (js_if (jt_cmp op_gt rs_cmpI (je_ix (je_var 0) je_int) je_int (nomark _)) (jss_cons (js_set 3 sc_L_draw.nd (je_op op_mod rs_mod (je_callTy cr_int rl_int (by rfl) T.z_int (by decide +kernel) (ja_cons (je_ix (je_var 0) je_int) ja_nil)) (je_var 1)))
  (jss_cons (js_put (je_op op_fdivW rs_div (je_ix (je_var 0) je_int) (je_var 1)) (je_var 0) je_int)
  (jss_one (js_ret (je_var 3))))) (jss_nil))
  (jss_cons (js_set 4 sc_L_draw.nd (je_ix (je_var 0) je_int))
  (jss_cons (js_put (je_op op_mod rs_mod (je_callTy cr_int rl_int (by rfl) T.z_int (by decide +kernel) (ja_cons (je_op or_add rs_add (je_op or_add rs_add (je_op or_add rs_add (je_op op_pow rs_pow (je_var 4) je_int) (je_op or_mul rs_mul (je_var 4) je_int)) (je_op or_mul rs_mul (je_ix (je_var 0) je_int) je_int)) je_int) ja_nil)) je_int) (je_var 0) je_int)
  (jss_one (js_ret (je_op op_mod rs_mod (je_callTy cr_int rl_int (by rfl) T.z_int (by decide +kernel) (ja_cons (je_op or_add rs_add (je_op op_fdivW rs_div (je_ix (je_var 0) je_int) je_int) (je_op or_mul rs_mul (je_op op_mod rs_mod (je_callTy cr_int rl_int (by rfl) T.z_int (by decide +kernel) (ja_cons (je_ix (je_var 0) je_int) ja_nil)) je_int) je_int)) ja_nil)) (je_var 1))))))))) ?_
  rintro ds μ Q Ex ⟨b, own, cs, i, d, s, k, m, rfl, rfl, hm, hl, ⟨z1, z2, z3, z4, z5⟩, q⟩
  rw [jSeq_r]
  simp [startD, jVar_r, dIs, tyD, tysOf, kitBs, dLen, dCmp, dCmpI, dS0b, txts, asS, asL, strsOf_map, boolsOf_map, dAll, dListX, dList, dItems, gN, wipeD, dIx, asS, asL, bagL, dAdd, ownL, Mu.put, setO]
  refine seq_N fun N hN => ?_
  have rest : ∀ x2 i d s k, 0 ≤ i → 0 ≤ d → 0 ≤ s → s < 2147483323 → N [some (.ref b), some (.int m), x2, none, none] ⟨none, (b, .lst [.lst (cs.map .int), .int i, .int d, .int s, .int k]) :: own⟩ := by
    intro x2 i d s k z2 z3 z4 z5
    refine hN _ _ ?_
    rw [jSeq_r]
    simp [startD, jVar_r, dIs, tyD, tysOf, kitBs, dLen, dCmp, dCmpI, dS0b, txts, asS, asL, strsOf_map, boolsOf_map, dAll, dListX, dList, dItems, gN, wipeD, dIx, asS, asL, bagL, dAdd, ownL, Mu.put, setO, dMul, dMod, dDiv, dPow, dInt, jSeq_r, CDivW, hm, hl]
    split
    · refine ret_ok (q _ _ _ _ _ (Int.emod_nonneg _ (by omega)) (Int.emod_lt_of_pos _ hm) ⟨z1, z2, Int.ediv_nonneg z3 (by omega), z4, z5⟩)
    · refine ⟨⟨by omega, by omega⟩, ?_⟩
      refine ⟨cm2 (by decide) (by decide), cm2 (by decide) (by decide), by decide, cm2 (by decide) (by decide), ?_⟩
      exact ret_ok (q _ _ _ _ _ (Int.emod_nonneg _ (by omega)) (Int.emod_lt_of_pos _ hm) ⟨z1, z2, z3, Int.emod_nonneg _ (by omega), Int.emod_lt_of_pos _ (by omega)⟩)
  simp [startD, jVar_r, dIs, tyD, tysOf, kitBs, dLen, dCmp, dCmpI, dS0b, txts, asS, asL, strsOf_map, boolsOf_map, dAll, dListX, dList, dItems, gN, wipeD, dIx, asS, asL, bagL, dAdd, ownL, Mu.put, setO, dEq, scalEq]
  split
  · split
    · rename_i g1 g2
      obtain ⟨x, hx⟩ := atI_ints z2 g2
      rw [jSeq_r]
      simp [startD, jVar_r, dIs, tyD, tysOf, kitBs, dLen, dCmp, dCmpI, dS0b, txts, asS, asL, strsOf_map, boolsOf_map, dAll, dListX, dList, dItems, gN, wipeD, dIx, asS, asL, ownL, Mu.put, setO, dAbs, hx]
      have hy : 0 ≤ (if x < 0 then -x else x) := by split <;> omega
      generalize (if x < 0 then -x else x) = y at hy ⊢
      rw [jSeq_r]
      simp [startD, jVar_r, dIs, tyD, tysOf, kitBs, dLen, dCmp, dCmpI, dS0b, txts, asS, asL, strsOf_map, boolsOf_map, dAll, dListX, dList, dItems, gN, wipeD, dIx, asS, asL, dAdd, ownL, Mu.put, setO, dPow, dMul, dInt, dMod, CPow]
      split
      · exact rest _ _ _ _ _ (by omega) hy z4 z5
      · exact ⟨cm2 (by decide) (by decide), cm2 (by decide) (by decide), rest _ _ _ _ _ (by omega) z3 (Int.emod_nonneg _ (by omega)) (Int.emod_lt_of_pos _ (by omega))⟩
    · exact rest _ _ _ _ _ z2 z3 z4 z5
  · exact rest _ _ _ _ _ z2 z3 z4 z5
theorem ok_L_draw (T : Top K mg) : FnOk P w K mg base CX0 1 T.f_L_draw T.fd_L_draw ["_law_bag_here", "_law_many"] (spOf C_draw) := (ok_L_draw2 T).imp fun _ _ _ _ h => draw_imp h
theorem ok_L_pick (T : Top K mg) : FnOk P w K mg base CX0 2 T.f_L_pick T.fd_L_pick ["_law_bag_here", "_law_some"] (spOf C_pick) := by
  have G_L_draw := ok_L_draw (P := P) (w := w) (base := base) T
  refine fn0 T.F_L_pick sc_L_pick C_pick _ (fun ds μ Q Ex ⟨_, _, e, _⟩ => by rw [e]; rfl) (fun cdv A outer s H E hr => jss_one (js_ret (je_ix (je_var 1) (je_call G_L_draw (hr.mono (by decide)) (by rfl) T.g_L_draw T.F_L_draw.kp T.b_L_draw pass0 (ja_cons (je_var 0) (ja_cons (je_callB cr_len rl_len (by rfl) T.z_len PySem.boot_len (ja_cons (je_var 1) ja_nil)) ja_nil)))))) ?_
  rintro ds μ Q Ex ⟨b, x, rfl, hb, h⟩
  simp only [jRet_r, jBin_r, jCall_r, jCons_r, jNil_r, jCB_r]
  rw [jVar_r (d := x) rfl, jVar_r (d := .bag) rfl, jVar_r (d := x) rfl]
  exact pick_ok hb h fun d hd => ret_ok hd
theorem ok_L_bag (T : Top K mg) : FnOk P w K mg base CX0 1 T.f_L_bag T.fd_L_bag ["_law_script"] (sp_bag K) := by
  refine T.F_L_bag.ok sc_L_bag (fun vs H Q E ⟨a, ns, e, _⟩ => by rw [e]; rfl) (fun cdv A outer s H vs Q E hr ⟨a, ns, e, hS, hl, q⟩ => ?_)
  subst e
  refine ⟨_, pss_cons (ps_set (i := 1) sc_L_bag.nd (by rfl) (by first | exact .inl rfl | exact .inr rfl) (pe_callTy call_list_of (by rfl) T.z_list (by decide +kernel) (pa_cons (pe_slice sl_list (pe_var (i := 0) (by rfl) (.inl rfl)) po_none (po_some pe_int)) pa_nil)))
    (pss_one (ps_ret (pe_lst (pa_cons (pe_var (i := 1) (by rfl) (.inl rfl)) (pa_cons pe_int (pa_cons pe_int (pa_cons (pe_op op_add pe_int (pe_op op_mul pe_int (pe_callB call_len (by rfl) T.z_len PySem.boot_len (pa_cons (pe_var (i := 1) (by rfl) (.inl rfl)) pa_nil)))) (pa_cons pe_int pa_nil)))))))), ?_⟩
  refine ⟨.ref a, rfl, 63, rfl, a, _, rfl, hS, fun p hp => ⟨p, _, rfl, .inl (sqL upd_same), fun l hl2 => ?_⟩⟩
  rw [cutV_ints]
  generalize hc : (ns.drop (HT.sIx ns.length 0 none)).take (HT.sIx ns.length ns.length (some 63) - HT.sIx ns.length 0 none) = cs
  have hcl : cs.length ≤ 63 := by rw [← hc, List.length_take, List.length_drop]; omega
  refine ⟨.ref l, rfl, .ref l, rfl, .ref l, (cs.map V.int).length, rfl, .inl ⟨_, sqL upd_same, rfl⟩, 31, _, rfl, rfl, .inl ⟨by decide, by decide⟩, _, _, rfl, rfl, by show 5 ≤ sizeLine; rw [sizeLine_eq]; decide, fun b hb => q _ _ ?_⟩
  exact bag_made upd_same hb hcl ⟨by decide, by decide, by rw [List.length_map]; omega, by rw [List.length_map]; omega⟩
end
end Law

set_option Elab.async false
set_option linter.all false
set_option maxRecDepth 100000
set_option maxHeartbeats 4000000
set_option exponentiation.threshold 6000
namespace Law
open PySem L2 J
section
variable {P : Program} {w : World} {K : PySem.W.Frag} {mg : Str → Option Value} {base : Heap}
--BODY
def C_common : Ct := fun ds μ Q _ => ∃ p q : Int, ds = [.int p, .int q] ∧ Q (.int ((Nat.gcd p.natAbs q.natAbs : Nat) : Int)) μ
theorem ok_L_common (T : Top K mg) : FnOk P w K mg base CX0 1 T.f_L_common T.fd_L_common ["_law_one", "_law_two"] (spOf C_common) := by
  refine fn0 T.F_L_common sc_L_common C_common _ (fun ds μ Q Ex ⟨_, _, e, _⟩ => by rw [e]; rfl) (fun cdv A outer s H E hr => jss_cons (js_par 2 3 rfl sc_L_common.nd (ja_cons (je_callB cr_abs rl_abs (by rfl) T.z_abs (by decide +kernel) (ja_cons (je_var 0) ja_nil)) (ja_cons (je_callB cr_abs rl_abs (by rfl) T.z_abs (by decide +kernel) (ja_cons (je_var 1) ja_nil)) ja_nil)))
  (jss_cons (js_while PassesOwn.never (jt_cmp op_gt rs_cmpI (je_var 3) je_int (nomark _)) (jss_one (js_par 2 3 rfl sc_L_common.nd (ja_cons (je_var 3) (ja_cons (je_op op_mod rs_mod (je_callTy cr_int rl_int (by rfl) T.z_int (by decide +kernel) (ja_cons (je_var 2) ja_nil)) (je_var 3)) ja_nil)))))
  (jss_one (js_ret (je_var 2))))) ?_
  rintro ds μ Q Ex ⟨p, q, rfl, k⟩
  rw [show startD ["_law_one", "_law_two", "_law_a", "_law_b"] [.int p, .int q] = [some (.int p), some (.int q), none, none] from rfl]
  rw [jSeq_r]
  simp only [↓jC_r, ↓jBin_r, ↓jTV_r, ↓jChain_r, ↓jAnd_r, ↓jOr_r, ↓jNot_r, ↓jAndV_r, ↓jOrV_r, ↓jNotV_r, ↓jIf_r, ↓jUn_r, ↓jNil_r, ↓jCons_r, ↓jTup_r, ↓jLst_r, ↓jNext_r, ↓jRet_r, ↓jIfS_r, ↓jDrop_r, ↓jSet_r, ↓jCall_r, ↓jCallKw_r, ↓jCB_r, ↓jSl_r, ↓jNo_r, ↓jPart_r, ↓jT0_r, ↓jT1_r, ↓jSS_r, ↓jLc_r, ↓jFor_r, ↓jSeqI_r, ↓jRange1_r, ↓jRange2_r, ↓jZip_r, ↓jYes_r, ↓jOwn_r, ↓jApp_r, ↓jDic0_r, ↓jDic1_r, ↓jPut_r, ↓jVar_0, ↓jVar_s, ↓gN_r, ↓List.set_cons_zero, ↓List.set_cons_succ, wipeD, ↓onI_int, ↓onB_bl, ↓onD_bl, ↓onN_bl, ↓onS_str, ↓onRef_ref, ↓jFld_r, ↓jFldS_r, ↓jMake_r, ↓jMeth_r, ↓jOwn2_r, ↓jOwnI_r, ↓jOwnR_r, ↓jIsO_r, ↓jStrO_r, ↓jFmt_r, ↓jJoin_r, ↓onJ_str, ↓jJs_nil, ↓jJs_cons, ↓on2_c, ↓jPar_r, ↓jAsg_r, ↓onO3_s, ↓onSm_s, ↓asO_obj, ↓onTxt_str, ↓onTxt_int, ↓isO_obj, ↓isO_int, ↓onStr_str, ↓gPair_t, ↓gUnlD_l, ↓gTupD_l, ↓setAll_nil, ↓setAll_cons, ↓dGcd_ii, ↓dDiv_ii, ↓dMod_ii, ↓dMul_ii, ↓dAbs_int, ↓dInt_int, ↓dStr_int, ↓dStr_str, ↓dEq_ii, ↓dEq_ss, ↓dEq_bb, ↓dIx_t0, ↓dIx_t1, ↓dIx_t2, ↓dIx_l0, ↓Bool.false_xor, ↓Bool.true_xor, ↓dAdd_ii, ↓dAdd_ss, ↓dAdd_ll, ↓dAdd_tt, ↓dSub_ii, ↓dCmp_ii, ↓dCmp_ss, ↓dCmpI_ii, ↓dLen_str, ↓dLen_lst, ↓dLen_tup, ↓dSl_str, ↓dSl_tup, ↓dSl_lst, ↓dRevT_tup, ↓dListX_tup, ↓dListX_lst, ↓dTuple_lst, ↓dNeg_int, ↓dPow_ii, ↓dItems_lst, ↓dItems_tup, ↓pick_1, ↓dIs_non_int, ↓dIs_non_bool, ↓dIs_non_str, ↓dIs_non_list, ↓dIs_non_tuple, ↓dIs_non_dict, ↓dIs_non_lt, ↓dIs_bl_int, ↓dIs_bl_bool, ↓dIs_bl_str, ↓dIs_bl_list, ↓dIs_bl_tuple, ↓dIs_bl_dict, ↓dIs_bl_lt, ↓dIs_int_int, ↓dIs_int_bool, ↓dIs_int_str, ↓dIs_int_list, ↓dIs_int_tuple, ↓dIs_int_dict, ↓dIs_int_lt, ↓dIs_str_int, ↓dIs_str_bool, ↓dIs_str_str, ↓dIs_str_list, ↓dIs_str_tuple, ↓dIs_str_dict, ↓dIs_str_lt, ↓dIs_lst_int, ↓dIs_lst_bool, ↓dIs_lst_str, ↓dIs_lst_list, ↓dIs_lst_tuple, ↓dIs_lst_dict, ↓dIs_lst_lt, ↓dIs_tup_int, ↓dIs_tup_bool, ↓dIs_tup_str, ↓dIs_tup_list, ↓dIs_tup_tuple, ↓dIs_tup_dict, ↓dIs_tup_lt, ↓dIs_dic_int, ↓dIs_dic_bool, ↓dIs_dic_str, ↓dIs_dic_list, ↓dIs_dic_tuple, ↓dIs_dic_dict, ↓dIs_dic_lt, Bool.not_true, Bool.not_false, Bool.false_eq_true, if_true, if_false, eq_self, reduceIte]
  rw [jSeq_r]
  refine ⟨fun m Δ μ' => ∃ a b : Int, Δ = [some (.int p), some (.int q), some (.int a), some (.int b)] ∧ 0 ≤ a ∧ 0 ≤ b ∧ m = b.toNat ∧ Nat.gcd a.natAbs b.natAbs = Nat.gcd p.natAbs q.natAbs ∧ μ' = μ, ⟨_, _, _, rfl, by split <;> omega, by split <;> omega, rfl, by rw [show (if p < 0 then -p else p).natAbs = p.natAbs by split <;> omega, show (if q < 0 then -q else q).natAbs = q.natAbs by split <;> omega], rfl⟩, ?_⟩
  rintro m Δ μ' ⟨a, b, rfl, ha, hb, rfl, hg, rfl⟩
  simp only [↓jC_r, ↓jBin_r, ↓jTV_r, ↓jChain_r, ↓jAnd_r, ↓jOr_r, ↓jNot_r, ↓jAndV_r, ↓jOrV_r, ↓jNotV_r, ↓jIf_r, ↓jUn_r, ↓jNil_r, ↓jCons_r, ↓jTup_r, ↓jLst_r, ↓jNext_r, ↓jRet_r, ↓jIfS_r, ↓jDrop_r, ↓jSet_r, ↓jCall_r, ↓jCallKw_r, ↓jCB_r, ↓jSl_r, ↓jNo_r, ↓jPart_r, ↓jT0_r, ↓jT1_r, ↓jSS_r, ↓jLc_r, ↓jFor_r, ↓jSeqI_r, ↓jRange1_r, ↓jRange2_r, ↓jZip_r, ↓jYes_r, ↓jOwn_r, ↓jApp_r, ↓jDic0_r, ↓jDic1_r, ↓jPut_r, ↓jVar_0, ↓jVar_s, ↓gN_r, ↓List.set_cons_zero, ↓List.set_cons_succ, wipeD, ↓onI_int, ↓onB_bl, ↓onD_bl, ↓onN_bl, ↓onS_str, ↓onRef_ref, ↓jFld_r, ↓jFldS_r, ↓jMake_r, ↓jMeth_r, ↓jOwn2_r, ↓jOwnI_r, ↓jOwnR_r, ↓jIsO_r, ↓jStrO_r, ↓jFmt_r, ↓jJoin_r, ↓onJ_str, ↓jJs_nil, ↓jJs_cons, ↓on2_c, ↓jPar_r, ↓jAsg_r, ↓onO3_s, ↓onSm_s, ↓asO_obj, ↓onTxt_str, ↓onTxt_int, ↓isO_obj, ↓isO_int, ↓onStr_str, ↓gPair_t, ↓gUnlD_l, ↓gTupD_l, ↓setAll_nil, ↓setAll_cons, ↓dGcd_ii, ↓dDiv_ii, ↓dMod_ii, ↓dMul_ii, ↓dAbs_int, ↓dInt_int, ↓dStr_int, ↓dStr_str, ↓dEq_ii, ↓dEq_ss, ↓dEq_bb, ↓dIx_t0, ↓dIx_t1, ↓dIx_t2, ↓dIx_l0, ↓Bool.false_xor, ↓Bool.true_xor, ↓dAdd_ii, ↓dAdd_ss, ↓dAdd_ll, ↓dAdd_tt, ↓dSub_ii, ↓dCmp_ii, ↓dCmp_ss, ↓dCmpI_ii, ↓dLen_str, ↓dLen_lst, ↓dLen_tup, ↓dSl_str, ↓dSl_tup, ↓dSl_lst, ↓dRevT_tup, ↓dListX_tup, ↓dListX_lst, ↓dTuple_lst, ↓dNeg_int, ↓dPow_ii, ↓dItems_lst, ↓dItems_tup, ↓pick_1, ↓dIs_non_int, ↓dIs_non_bool, ↓dIs_non_str, ↓dIs_non_list, ↓dIs_non_tuple, ↓dIs_non_dict, ↓dIs_non_lt, ↓dIs_bl_int, ↓dIs_bl_bool, ↓dIs_bl_str, ↓dIs_bl_list, ↓dIs_bl_tuple, ↓dIs_bl_dict, ↓dIs_bl_lt, ↓dIs_int_int, ↓dIs_int_bool, ↓dIs_int_str, ↓dIs_int_list, ↓dIs_int_tuple, ↓dIs_int_dict, ↓dIs_int_lt, ↓dIs_str_int, ↓dIs_str_bool, ↓dIs_str_str, ↓dIs_str_list, ↓dIs_str_tuple, ↓dIs_str_dict, ↓dIs_str_lt, ↓dIs_lst_int, ↓dIs_lst_bool, ↓dIs_lst_str, ↓dIs_lst_list, ↓dIs_lst_tuple, ↓dIs_lst_dict, ↓dIs_lst_lt, ↓dIs_tup_int, ↓dIs_tup_bool, ↓dIs_tup_str, ↓dIs_tup_list, ↓dIs_tup_tuple, ↓dIs_tup_dict, ↓dIs_tup_lt, ↓dIs_dic_int, ↓dIs_dic_bool, ↓dIs_dic_str, ↓dIs_dic_list, ↓dIs_dic_tuple, ↓dIs_dic_dict, ↓dIs_dic_lt, Bool.not_true, Bool.not_false, Bool.false_eq_true, if_true, if_false, eq_self, reduceIte]
  split
  · rename_i h
    have h : 0 < b := by simpa using h
    refine ⟨h, _, Int.toNat_lt_toNat h |>.mpr (Int.emod_lt_of_pos a h), b, a % b, rfl, by omega, Int.emod_nonneg _ (by omega), rfl, ?_, trivial⟩
    rw [← hg]
    have e : (a % b).natAbs = a.natAbs % b.natAbs := by
      obtain ⟨n, rfl⟩ := Int.eq_ofNat_of_zero_le ha
      obtain ⟨k, rfl⟩ := Int.eq_ofNat_of_zero_le hb
      rfl
    rw [e, Nat.gcd_comm b.natAbs, ← Nat.gcd_rec, Nat.gcd_comm]
  · rename_i h
    have h : b = 0 := by
      have : ¬ 0 < b := by simpa using h
      omega
    subst h
    refine ret_ok ?_
    have e : ((Nat.gcd p.natAbs q.natAbs : Nat) : Int) = a := by
      rw [← hg]; simp; omega
    rw [← e]; exact k
def tupF (x : Int × Int) : D := .tup [.int x.1, .int x.2]
def C_low : Ct := fun ds μ Q _ => ∃ p q : Int, ds = [.int p, .int q] ∧ 0 < q ∧ q.natAbs < 2 ^ 5000 ∧ Q (tupF (low p q)) μ
theorem ok_L_low (T : Top K mg) : FnOk P w K mg base CX0 2 T.f_L_low T.fd_L_low ["_law_top", "_law_bottom"] (spOf C_low) := by
  have G_L_common := ok_L_common (P := P) (w := w) (base := base) T
  refine fn0 T.F_L_low sc_L_low C_low _ (fun ds μ Q Ex ⟨_, _, e, _⟩ => by rw [e]; rfl) (fun cdv A outer s H E hr => jss_cons (js_set 2 sc_L_low.nd (je_call G_L_common (hr.mono (by decide)) (by rfl) T.g_L_common T.F_L_common.kp T.b_L_common pass0 (ja_cons (je_var 0) (ja_cons (je_var 1) ja_nil))))
  (jss_one (js_ret (je_tup (ja_cons (je_op op_fdivW rs_div (je_var 0) (je_var 2)) (ja_cons (je_op op_fdivW rs_div (je_var 1) (je_var 2)) ja_nil)))))) ?_
  rintro ds μ Q Ex ⟨p, q, rfl, hq, bq, k⟩
  rw [show startD ["_law_top", "_law_bottom", "_law_part"] [.int p, .int q] = [some (.int p), some (.int q), none] from rfl]
  rw [jSeq_r]
  simp only [↓jC_r, ↓jBin_r, ↓jTV_r, ↓jChain_r, ↓jAnd_r, ↓jOr_r, ↓jNot_r, ↓jAndV_r, ↓jOrV_r, ↓jNotV_r, ↓jIf_r, ↓jUn_r, ↓jNil_r, ↓jCons_r, ↓jTup_r, ↓jLst_r, ↓jNext_r, ↓jRet_r, ↓jIfS_r, ↓jDrop_r, ↓jSet_r, ↓jCall_r, ↓jCallKw_r, ↓jCB_r, ↓jSl_r, ↓jNo_r, ↓jPart_r, ↓jT0_r, ↓jT1_r, ↓jSS_r, ↓jLc_r, ↓jFor_r, ↓jSeqI_r, ↓jRange1_r, ↓jRange2_r, ↓jZip_r, ↓jYes_r, ↓jOwn_r, ↓jApp_r, ↓jDic0_r, ↓jDic1_r, ↓jPut_r, ↓jVar_0, ↓jVar_s, ↓gN_r, ↓List.set_cons_zero, ↓List.set_cons_succ, wipeD, ↓onI_int, ↓onB_bl, ↓onD_bl, ↓onN_bl, ↓onS_str, ↓onRef_ref, ↓jFld_r, ↓jFldS_r, ↓jMake_r, ↓jMeth_r, ↓jOwn2_r, ↓jOwnI_r, ↓jOwnR_r, ↓jIsO_r, ↓jStrO_r, ↓jFmt_r, ↓jJoin_r, ↓onJ_str, ↓jJs_nil, ↓jJs_cons, ↓on2_c, ↓jPar_r, ↓jAsg_r, ↓onO3_s, ↓onSm_s, ↓asO_obj, ↓onTxt_str, ↓onTxt_int, ↓isO_obj, ↓isO_int, ↓onStr_str, ↓gPair_t, ↓gUnlD_l, ↓gTupD_l, ↓setAll_nil, ↓setAll_cons, ↓dGcd_ii, ↓dDiv_ii, ↓dMod_ii, ↓dMul_ii, ↓dAbs_int, ↓dInt_int, ↓dStr_int, ↓dStr_str, ↓dEq_ii, ↓dEq_ss, ↓dEq_bb, ↓dIx_t0, ↓dIx_t1, ↓dIx_t2, ↓dIx_l0, ↓Bool.false_xor, ↓Bool.true_xor, ↓dAdd_ii, ↓dAdd_ss, ↓dAdd_ll, ↓dAdd_tt, ↓dSub_ii, ↓dCmp_ii, ↓dCmp_ss, ↓dCmpI_ii, ↓dLen_str, ↓dLen_lst, ↓dLen_tup, ↓dSl_str, ↓dSl_tup, ↓dSl_lst, ↓dRevT_tup, ↓dListX_tup, ↓dListX_lst, ↓dTuple_lst, ↓dNeg_int, ↓dPow_ii, ↓dItems_lst, ↓dItems_tup, ↓pick_1, ↓dIs_non_int, ↓dIs_non_bool, ↓dIs_non_str, ↓dIs_non_list, ↓dIs_non_tuple, ↓dIs_non_dict, ↓dIs_non_lt, ↓dIs_bl_int, ↓dIs_bl_bool, ↓dIs_bl_str, ↓dIs_bl_list, ↓dIs_bl_tuple, ↓dIs_bl_dict, ↓dIs_bl_lt, ↓dIs_int_int, ↓dIs_int_bool, ↓dIs_int_str, ↓dIs_int_list, ↓dIs_int_tuple, ↓dIs_int_dict, ↓dIs_int_lt, ↓dIs_str_int, ↓dIs_str_bool, ↓dIs_str_str, ↓dIs_str_list, ↓dIs_str_tuple, ↓dIs_str_dict, ↓dIs_str_lt, ↓dIs_lst_int, ↓dIs_lst_bool, ↓dIs_lst_str, ↓dIs_lst_list, ↓dIs_lst_tuple, ↓dIs_lst_dict, ↓dIs_lst_lt, ↓dIs_tup_int, ↓dIs_tup_bool, ↓dIs_tup_str, ↓dIs_tup_list, ↓dIs_tup_tuple, ↓dIs_tup_dict, ↓dIs_tup_lt, ↓dIs_dic_int, ↓dIs_dic_bool, ↓dIs_dic_str, ↓dIs_dic_list, ↓dIs_dic_tuple, ↓dIs_dic_dict, ↓dIs_dic_lt, Bool.not_true, Bool.not_false, Bool.false_eq_true, if_true, if_false, eq_self, reduceIte]
  refine ⟨p, q, rfl, ?_⟩
  simp only [↓jC_r, ↓jBin_r, ↓jTV_r, ↓jChain_r, ↓jAnd_r, ↓jOr_r, ↓jNot_r, ↓jAndV_r, ↓jOrV_r, ↓jNotV_r, ↓jIf_r, ↓jUn_r, ↓jNil_r, ↓jCons_r, ↓jTup_r, ↓jLst_r, ↓jNext_r, ↓jRet_r, ↓jIfS_r, ↓jDrop_r, ↓jSet_r, ↓jCall_r, ↓jCallKw_r, ↓jCB_r, ↓jSl_r, ↓jNo_r, ↓jPart_r, ↓jT0_r, ↓jT1_r, ↓jSS_r, ↓jLc_r, ↓jFor_r, ↓jSeqI_r, ↓jRange1_r, ↓jRange2_r, ↓jZip_r, ↓jYes_r, ↓jOwn_r, ↓jApp_r, ↓jDic0_r, ↓jDic1_r, ↓jPut_r, ↓jVar_0, ↓jVar_s, ↓gN_r, ↓List.set_cons_zero, ↓List.set_cons_succ, wipeD, ↓onI_int, ↓onB_bl, ↓onD_bl, ↓onN_bl, ↓onS_str, ↓onRef_ref, ↓jFld_r, ↓jFldS_r, ↓jMake_r, ↓jMeth_r, ↓jOwn2_r, ↓jOwnI_r, ↓jOwnR_r, ↓jIsO_r, ↓jStrO_r, ↓jFmt_r, ↓jJoin_r, ↓onJ_str, ↓jJs_nil, ↓jJs_cons, ↓on2_c, ↓jPar_r, ↓jAsg_r, ↓onO3_s, ↓onSm_s, ↓asO_obj, ↓onTxt_str, ↓onTxt_int, ↓isO_obj, ↓isO_int, ↓onStr_str, ↓gPair_t, ↓gUnlD_l, ↓gTupD_l, ↓setAll_nil, ↓setAll_cons, ↓dGcd_ii, ↓dDiv_ii, ↓dMod_ii, ↓dMul_ii, ↓dAbs_int, ↓dInt_int, ↓dStr_int, ↓dStr_str, ↓dEq_ii, ↓dEq_ss, ↓dEq_bb, ↓dIx_t0, ↓dIx_t1, ↓dIx_t2, ↓dIx_l0, ↓Bool.false_xor, ↓Bool.true_xor, ↓dAdd_ii, ↓dAdd_ss, ↓dAdd_ll, ↓dAdd_tt, ↓dSub_ii, ↓dCmp_ii, ↓dCmp_ss, ↓dCmpI_ii, ↓dLen_str, ↓dLen_lst, ↓dLen_tup, ↓dSl_str, ↓dSl_tup, ↓dSl_lst, ↓dRevT_tup, ↓dListX_tup, ↓dListX_lst, ↓dTuple_lst, ↓dNeg_int, ↓dPow_ii, ↓dItems_lst, ↓dItems_tup, ↓pick_1, ↓dIs_non_int, ↓dIs_non_bool, ↓dIs_non_str, ↓dIs_non_list, ↓dIs_non_tuple, ↓dIs_non_dict, ↓dIs_non_lt, ↓dIs_bl_int, ↓dIs_bl_bool, ↓dIs_bl_str, ↓dIs_bl_list, ↓dIs_bl_tuple, ↓dIs_bl_dict, ↓dIs_bl_lt, ↓dIs_int_int, ↓dIs_int_bool, ↓dIs_int_str, ↓dIs_int_list, ↓dIs_int_tuple, ↓dIs_int_dict, ↓dIs_int_lt, ↓dIs_str_int, ↓dIs_str_bool, ↓dIs_str_str, ↓dIs_str_list, ↓dIs_str_tuple, ↓dIs_str_dict, ↓dIs_str_lt, ↓dIs_lst_int, ↓dIs_lst_bool, ↓dIs_lst_str, ↓dIs_lst_list, ↓dIs_lst_tuple, ↓dIs_lst_dict, ↓dIs_lst_lt, ↓dIs_tup_int, ↓dIs_tup_bool, ↓dIs_tup_str, ↓dIs_tup_list, ↓dIs_tup_tuple, ↓dIs_tup_dict, ↓dIs_tup_lt, ↓dIs_dic_int, ↓dIs_dic_bool, ↓dIs_dic_str, ↓dIs_dic_list, ↓dIs_dic_tuple, ↓dIs_dic_dict, ↓dIs_dic_lt, Bool.not_true, Bool.not_false, Bool.false_eq_true, if_true, if_false, eq_self, reduceIte]
  have hg : 0 < Nat.gcd p.natAbs q.natAbs := Nat.gcd_pos_of_pos_right _ (by omega)
  have hl : Nat.gcd p.natAbs q.natAbs ≤ q.natAbs := Nat.gcd_le_right _ (by omega)
  have cd : ∀ i : Int, CDivW i ((Nat.gcd p.natAbs q.natAbs : Nat) : Int) := fun i => ⟨by omega, by
    rw [Int.natAbs_natCast]
    exact log_lt (Nat.lt_of_le_of_lt hl bq) (by decide)⟩
  exact ⟨cd _, cd _, szl, ret_ok k⟩
def txtF (x : Int × Int) : Str := if x.2 = 1 then Str.ofString (toString x.1) else Str.ofString (toString x.1) ++ Str.ofString "/" ++ Str.ofString (toString x.2)
theorem str_ext {x y : Str} (h : x.cps.toList = y.cps.toList) : x = y := by
  cases x; cases y; simp only at h; congr 1; exact Array.toList_inj.mp h
theorem app_assoc3 (a b c : Str) : a ++ (b ++ c) = a ++ b ++ c := str_ext (by rw [app_list, app_list, app_list, app_list, List.append_assoc])
theorem app_empty (a : Str) : a ++ Str.ofString "" = a := str_ext (by
  rw [app_list]
  have : (Str.ofString "").cps.toList = [] := rfl
  rw [this, List.append_nil])
def C_share_text : Ct := fun ds μ Q _ => ∃ x : Int × Int, ds = [tupF x] ∧ x.1.natAbs < 2 ^ 199 ∧ x.2.natAbs < 2 ^ 199 ∧ Q (.str (txtF x)) μ
theorem ok_L_share_text (T : Top K mg) : FnOk P w K mg base CX0 1 T.f_L_share_text T.fd_L_share_text ["_law_low_here"] (spOf C_share_text) := by
  refine fn0 T.F_L_share_text sc_L_share_text C_share_text _ (fun ds μ Q Ex ⟨_, e, _⟩ => by rw [e]; rfl) (fun cdv A outer s H E hr => jss_one (js_ret (je_op or_add rs_add (je_callTy cr_str rl_str (by rfl) T.z_str (by decide +kernel) (ja_cons (je_ix (je_var 0) je_int) ja_nil)) (je_if (jt_cmp (or_eq hr.units) rs_eq (je_ix (je_var 0) je_int) je_int (nomark _)) je_str (je_op or_add rs_add je_str (je_callTy cr_str rl_str (by rfl) T.z_str (by decide +kernel) (ja_cons (je_ix (je_var 0) je_int) ja_nil))))))) ?_
  rintro ds μ Q Ex ⟨x, rfl, hx, hb, q⟩
  rw [show startD ["_law_low_here"] [tupF x] = [some (tupF x)] from rfl]
  simp only [↓jC_r, ↓jBin_r, ↓jTV_r, ↓jChain_r, ↓jAnd_r, ↓jOr_r, ↓jNot_r, ↓jAndV_r, ↓jOrV_r, ↓jNotV_r, ↓jIf_r, ↓jUn_r, ↓jNil_r, ↓jCons_r, ↓jTup_r, ↓jLst_r, ↓jNext_r, ↓jRet_r, ↓jIfS_r, ↓jDrop_r, ↓jSet_r, ↓jCall_r, ↓jCallKw_r, ↓jCB_r, ↓jSl_r, ↓jNo_r, ↓jPart_r, ↓jT0_r, ↓jT1_r, ↓jSS_r, ↓jLc_r, ↓jFor_r, ↓jSeqI_r, ↓jRange1_r, ↓jRange2_r, ↓jZip_r, ↓jYes_r, ↓jOwn_r, ↓jApp_r, ↓jDic0_r, ↓jDic1_r, ↓jPut_r, ↓jVar_0, ↓jVar_s, ↓gN_r, ↓List.set_cons_zero, ↓List.set_cons_succ, wipeD, ↓onI_int, ↓onB_bl, ↓onD_bl, ↓onN_bl, ↓onS_str, ↓onRef_ref, ↓jFld_r, ↓jFldS_r, ↓jMake_r, ↓jMeth_r, ↓jOwn2_r, ↓jOwnI_r, ↓jOwnR_r, ↓jIsO_r, ↓jStrO_r, ↓jFmt_r, ↓jJoin_r, ↓onJ_str, ↓jJs_nil, ↓jJs_cons, ↓on2_c, ↓jPar_r, ↓jAsg_r, ↓onO3_s, ↓onSm_s, ↓asO_obj, ↓onTxt_str, ↓onTxt_int, ↓isO_obj, ↓isO_int, ↓onStr_str, ↓gPair_t, ↓gUnlD_l, ↓gTupD_l, ↓setAll_nil, ↓setAll_cons, ↓dGcd_ii, ↓dDiv_ii, ↓dMod_ii, ↓dMul_ii, ↓dAbs_int, ↓dInt_int, ↓dStr_int, ↓dStr_str, ↓dEq_ii, ↓dEq_ss, ↓dEq_bb, ↓dIx_t0, ↓dIx_t1, ↓dIx_t2, ↓dIx_l0, ↓Bool.false_xor, ↓Bool.true_xor, ↓dAdd_ii, ↓dAdd_ss, ↓dAdd_ll, ↓dAdd_tt, ↓dSub_ii, ↓dCmp_ii, ↓dCmp_ss, ↓dCmpI_ii, ↓dLen_str, ↓dLen_lst, ↓dLen_tup, ↓dSl_str, ↓dSl_tup, ↓dSl_lst, ↓dRevT_tup, ↓dListX_tup, ↓dListX_lst, ↓dTuple_lst, ↓dNeg_int, ↓dPow_ii, ↓dItems_lst, ↓dItems_tup, ↓pick_1, ↓dIs_non_int, ↓dIs_non_bool, ↓dIs_non_str, ↓dIs_non_list, ↓dIs_non_tuple, ↓dIs_non_dict, ↓dIs_non_lt, ↓dIs_bl_int, ↓dIs_bl_bool, ↓dIs_bl_str, ↓dIs_bl_list, ↓dIs_bl_tuple, ↓dIs_bl_dict, ↓dIs_bl_lt, ↓dIs_int_int, ↓dIs_int_bool, ↓dIs_int_str, ↓dIs_int_list, ↓dIs_int_tuple, ↓dIs_int_dict, ↓dIs_int_lt, ↓dIs_str_int, ↓dIs_str_bool, ↓dIs_str_str, ↓dIs_str_list, ↓dIs_str_tuple, ↓dIs_str_dict, ↓dIs_str_lt, ↓dIs_lst_int, ↓dIs_lst_bool, ↓dIs_lst_str, ↓dIs_lst_list, ↓dIs_lst_tuple, ↓dIs_lst_dict, ↓dIs_lst_lt, ↓dIs_tup_int, ↓dIs_tup_bool, ↓dIs_tup_str, ↓dIs_tup_list, ↓dIs_tup_tuple, ↓dIs_tup_dict, ↓dIs_tup_lt, ↓dIs_dic_int, ↓dIs_dic_bool, ↓dIs_dic_str, ↓dIs_dic_list, ↓dIs_dic_tuple, ↓dIs_dic_dict, ↓dIs_dic_lt, Bool.not_true, Bool.not_false, Bool.false_eq_true, if_true, if_false, eq_self, reduceIte, tupF]
  have w1 := text_small hx
  have w2 := text_small hb
  have sl : (Str.ofString "/").length = 1 := rfl
  have s0 : (Str.ofString "").length = 0 := rfl
  unfold txtF at q
  refine ⟨log_lt hx (by decide), ?_⟩
  split
  · rename_i h
    rw [if_pos (by simpa using h)] at q
    refine ⟨szo (by omega), ret_ok ?_⟩
    rw [app_empty]; exact q
  · rename_i h
    rw [if_neg (by simpa using h)] at q
    refine ⟨log_lt hb (by decide), szo (by omega), szo (by rw [app_len]; omega), ret_ok ?_⟩
    rw [app_assoc3]; exact q
def C_fraction : Ct := fun ds μ Q _ => ∃ b, ds = [.bag] ∧ μ.bag = some b ∧ ∀ p q : Int, 0 < q → p.natAbs < 2 ^ 45 → q.natAbs < 2 ^ 45 → Q (.tup [.int p, .int q]) μ
theorem ok_L_fraction (T : Top K mg) : FnOk P w K mg base CX0 3 T.f_L_fraction T.fd_L_fraction ["_law_bag_here"] (spOf C_fraction) := by
  have G_L_draw := ok_L_draw (P := P) (w := w) (base := base) T
  have G_L_pick := ok_L_pick (P := P) (w := w) (base := base) T
  refine fn0 T.F_L_fraction sc_L_fraction C_fraction _ (fun ds μ Q Ex ⟨_, e, _⟩ => by rw [e]; rfl) (fun cdv A outer s H E hr => jss_cons (js_set 1 sc_L_fraction.nd (je_call G_L_pick (hr.mono (by decide)) (by rfl) T.g_L_pick T.F_L_pick.kp T.b_L_pick pass0 (ja_cons (je_var 0) (ja_cons (je_lst (ja_cons je_int (ja_cons je_int (ja_cons je_int (ja_cons je_int (ja_cons (je_op op_pow rs_pow je_int je_int) (ja_cons (je_op op_pow rs_pow je_int je_int) ja_nil))))))) ja_nil))))
  (jss_cons (js_set 2 sc_L_fraction.nd (je_call G_L_pick (hr.mono (by decide)) (by rfl) T.g_L_pick T.F_L_pick.kp T.b_L_pick pass0 (ja_cons (je_var 0) (ja_cons (je_lst (ja_cons je_int (ja_cons je_int (ja_cons je_int (ja_cons je_int (ja_cons je_int (ja_cons je_int ja_nil))))))) ja_nil))))
  (jss_one (js_ret (je_tup (ja_cons (je_op or_mul rs_mul (je_var 2) (je_op op_sub rs_sub (je_call G_L_draw (hr.mono (by decide)) (by rfl) T.g_L_draw T.F_L_draw.kp T.b_L_draw pass0 (ja_cons (je_var 0) (ja_cons (je_op or_add rs_add (je_op or_mul rs_mul je_int (je_var 1)) je_int) ja_nil))) (je_var 1))) (ja_cons (je_op or_mul rs_mul (je_var 2) (je_op or_add rs_add je_int (je_call G_L_draw (hr.mono (by decide)) (by rfl) T.g_L_draw T.F_L_draw.kp T.b_L_draw pass0 (ja_cons (je_var 0) (ja_cons (je_var 1) ja_nil))))) ja_nil))))))) ?_
  rintro ds μ Q Ex ⟨b, rfl, hb, k⟩
  rw [show startD ["_law_bag_here", "_law_size", "_law_factor"] [.bag] = [some (.bag), none, none] from rfl]
  rw [jSeq_r]
  simp only [↓jC_r, ↓jBin_r, ↓jTV_r, ↓jChain_r, ↓jAnd_r, ↓jOr_r, ↓jNot_r, ↓jAndV_r, ↓jOrV_r, ↓jNotV_r, ↓jIf_r, ↓jUn_r, ↓jNil_r, ↓jCons_r, ↓jTup_r, ↓jLst_r, ↓jNext_r, ↓jRet_r, ↓jIfS_r, ↓jDrop_r, ↓jSet_r, ↓jCall_r, ↓jCallKw_r, ↓jCB_r, ↓jSl_r, ↓jNo_r, ↓jPart_r, ↓jT0_r, ↓jT1_r, ↓jSS_r, ↓jLc_r, ↓jFor_r, ↓jSeqI_r, ↓jRange1_r, ↓jRange2_r, ↓jZip_r, ↓jYes_r, ↓jOwn_r, ↓jApp_r, ↓jDic0_r, ↓jDic1_r, ↓jPut_r, ↓jVar_0, ↓jVar_s, ↓gN_r, ↓List.set_cons_zero, ↓List.set_cons_succ, wipeD, ↓onI_int, ↓onB_bl, ↓onD_bl, ↓onN_bl, ↓onS_str, ↓onRef_ref, ↓jFld_r, ↓jFldS_r, ↓jMake_r, ↓jMeth_r, ↓jOwn2_r, ↓jOwnI_r, ↓jOwnR_r, ↓jIsO_r, ↓jStrO_r, ↓jFmt_r, ↓jJoin_r, ↓onJ_str, ↓jJs_nil, ↓jJs_cons, ↓on2_c, ↓jPar_r, ↓jAsg_r, ↓onO3_s, ↓onSm_s, ↓asO_obj, ↓onTxt_str, ↓onTxt_int, ↓isO_obj, ↓isO_int, ↓onStr_str, ↓gPair_t, ↓gUnlD_l, ↓gTupD_l, ↓setAll_nil, ↓setAll_cons, ↓dGcd_ii, ↓dDiv_ii, ↓dMod_ii, ↓dMul_ii, ↓dAbs_int, ↓dInt_int, ↓dStr_int, ↓dStr_str, ↓dEq_ii, ↓dEq_ss, ↓dEq_bb, ↓dIx_t0, ↓dIx_t1, ↓dIx_t2, ↓dIx_l0, ↓Bool.false_xor, ↓Bool.true_xor, ↓dAdd_ii, ↓dAdd_ss, ↓dAdd_ll, ↓dAdd_tt, ↓dSub_ii, ↓dCmp_ii, ↓dCmp_ss, ↓dCmpI_ii, ↓dLen_str, ↓dLen_lst, ↓dLen_tup, ↓dSl_str, ↓dSl_tup, ↓dSl_lst, ↓dRevT_tup, ↓dListX_tup, ↓dListX_lst, ↓dTuple_lst, ↓dNeg_int, ↓dPow_ii, ↓dItems_lst, ↓dItems_tup, ↓pick_1, ↓dIs_non_int, ↓dIs_non_bool, ↓dIs_non_str, ↓dIs_non_list, ↓dIs_non_tuple, ↓dIs_non_dict, ↓dIs_non_lt, ↓dIs_bl_int, ↓dIs_bl_bool, ↓dIs_bl_str, ↓dIs_bl_list, ↓dIs_bl_tuple, ↓dIs_bl_dict, ↓dIs_bl_lt, ↓dIs_int_int, ↓dIs_int_bool, ↓dIs_int_str, ↓dIs_int_list, ↓dIs_int_tuple, ↓dIs_int_dict, ↓dIs_int_lt, ↓dIs_str_int, ↓dIs_str_bool, ↓dIs_str_str, ↓dIs_str_list, ↓dIs_str_tuple, ↓dIs_str_dict, ↓dIs_str_lt, ↓dIs_lst_int, ↓dIs_lst_bool, ↓dIs_lst_str, ↓dIs_lst_list, ↓dIs_lst_tuple, ↓dIs_lst_dict, ↓dIs_lst_lt, ↓dIs_tup_int, ↓dIs_tup_bool, ↓dIs_tup_str, ↓dIs_tup_list, ↓dIs_tup_tuple, ↓dIs_tup_dict, ↓dIs_tup_lt, ↓dIs_dic_int, ↓dIs_dic_bool, ↓dIs_dic_str, ↓dIs_dic_list, ↓dIs_dic_tuple, ↓dIs_dic_dict, ↓dIs_dic_lt, Bool.not_true, Bool.not_false, Bool.false_eq_true, if_true, if_false, eq_self, reduceIte]
  have cp : CPow 10 6 := ⟨by decide, by decide, by decide⟩
  have cp2 : CPow 10 11 := ⟨by decide, by decide, by decide⟩
  refine ⟨cp, cp2, szl, pick_p (p := fun d => match d with | .int i => decide (0 < i) && decide (i ≤ 100000000000) | _ => false) hb (by decide) (h := fun d hd => ?_)⟩
  obtain ⟨size, rfl⟩ : ∃ i, d = .int i := by cases d <;> first | exact ⟨_, rfl⟩ | cases hd
  have hd : 0 < size ∧ size ≤ 100000000000 := by simpa using hd
  rw [jSeq_r]
  simp only [↓jC_r, ↓jBin_r, ↓jTV_r, ↓jChain_r, ↓jAnd_r, ↓jOr_r, ↓jNot_r, ↓jAndV_r, ↓jOrV_r, ↓jNotV_r, ↓jIf_r, ↓jUn_r, ↓jNil_r, ↓jCons_r, ↓jTup_r, ↓jLst_r, ↓jNext_r, ↓jRet_r, ↓jIfS_r, ↓jDrop_r, ↓jSet_r, ↓jCall_r, ↓jCallKw_r, ↓jCB_r, ↓jSl_r, ↓jNo_r, ↓jPart_r, ↓jT0_r, ↓jT1_r, ↓jSS_r, ↓jLc_r, ↓jFor_r, ↓jSeqI_r, ↓jRange1_r, ↓jRange2_r, ↓jZip_r, ↓jYes_r, ↓jOwn_r, ↓jApp_r, ↓jDic0_r, ↓jDic1_r, ↓jPut_r, ↓jVar_0, ↓jVar_s, ↓gN_r, ↓List.set_cons_zero, ↓List.set_cons_succ, wipeD, ↓onI_int, ↓onB_bl, ↓onD_bl, ↓onN_bl, ↓onS_str, ↓onRef_ref, ↓jFld_r, ↓jFldS_r, ↓jMake_r, ↓jMeth_r, ↓jOwn2_r, ↓jOwnI_r, ↓jOwnR_r, ↓jIsO_r, ↓jStrO_r, ↓jFmt_r, ↓jJoin_r, ↓onJ_str, ↓jJs_nil, ↓jJs_cons, ↓on2_c, ↓jPar_r, ↓jAsg_r, ↓onO3_s, ↓onSm_s, ↓asO_obj, ↓onTxt_str, ↓onTxt_int, ↓isO_obj, ↓isO_int, ↓onStr_str, ↓gPair_t, ↓gUnlD_l, ↓gTupD_l, ↓setAll_nil, ↓setAll_cons, ↓dGcd_ii, ↓dDiv_ii, ↓dMod_ii, ↓dMul_ii, ↓dAbs_int, ↓dInt_int, ↓dStr_int, ↓dStr_str, ↓dEq_ii, ↓dEq_ss, ↓dEq_bb, ↓dIx_t0, ↓dIx_t1, ↓dIx_t2, ↓dIx_l0, ↓Bool.false_xor, ↓Bool.true_xor, ↓dAdd_ii, ↓dAdd_ss, ↓dAdd_ll, ↓dAdd_tt, ↓dSub_ii, ↓dCmp_ii, ↓dCmp_ss, ↓dCmpI_ii, ↓dLen_str, ↓dLen_lst, ↓dLen_tup, ↓dSl_str, ↓dSl_tup, ↓dSl_lst, ↓dRevT_tup, ↓dListX_tup, ↓dListX_lst, ↓dTuple_lst, ↓dNeg_int, ↓dPow_ii, ↓dItems_lst, ↓dItems_tup, ↓pick_1, ↓dIs_non_int, ↓dIs_non_bool, ↓dIs_non_str, ↓dIs_non_list, ↓dIs_non_tuple, ↓dIs_non_dict, ↓dIs_non_lt, ↓dIs_bl_int, ↓dIs_bl_bool, ↓dIs_bl_str, ↓dIs_bl_list, ↓dIs_bl_tuple, ↓dIs_bl_dict, ↓dIs_bl_lt, ↓dIs_int_int, ↓dIs_int_bool, ↓dIs_int_str, ↓dIs_int_list, ↓dIs_int_tuple, ↓dIs_int_dict, ↓dIs_int_lt, ↓dIs_str_int, ↓dIs_str_bool, ↓dIs_str_str, ↓dIs_str_list, ↓dIs_str_tuple, ↓dIs_str_dict, ↓dIs_str_lt, ↓dIs_lst_int, ↓dIs_lst_bool, ↓dIs_lst_str, ↓dIs_lst_list, ↓dIs_lst_tuple, ↓dIs_lst_dict, ↓dIs_lst_lt, ↓dIs_tup_int, ↓dIs_tup_bool, ↓dIs_tup_str, ↓dIs_tup_list, ↓dIs_tup_tuple, ↓dIs_tup_dict, ↓dIs_tup_lt, ↓dIs_dic_int, ↓dIs_dic_bool, ↓dIs_dic_str, ↓dIs_dic_list, ↓dIs_dic_tuple, ↓dIs_dic_dict, ↓dIs_dic_lt, Bool.not_true, Bool.not_false, Bool.false_eq_true, if_true, if_false, eq_self, reduceIte]
  refine ⟨szl, pick_p (p := fun d => match d with | .int i => decide (0 < i) && decide (i ≤ 9) | _ => false) hb (by decide) (h := fun d2 hd2 => ?_)⟩
  obtain ⟨fac, rfl⟩ : ∃ i, d2 = .int i := by cases d2 <;> first | exact ⟨_, rfl⟩ | cases hd2
  have hd2 : 0 < fac ∧ fac ≤ 9 := by simpa using hd2
  refine ⟨cm2 (by omega) (by omega), draw_i hb (by omega) (by omega) fun r r0 r1 => ?_⟩
  simp only [↓jC_r, ↓jBin_r, ↓jTV_r, ↓jChain_r, ↓jAnd_r, ↓jOr_r, ↓jNot_r, ↓jAndV_r, ↓jOrV_r, ↓jNotV_r, ↓jIf_r, ↓jUn_r, ↓jNil_r, ↓jCons_r, ↓jTup_r, ↓jLst_r, ↓jNext_r, ↓jRet_r, ↓jIfS_r, ↓jDrop_r, ↓jSet_r, ↓jCall_r, ↓jCallKw_r, ↓jCB_r, ↓jSl_r, ↓jNo_r, ↓jPart_r, ↓jT0_r, ↓jT1_r, ↓jSS_r, ↓jLc_r, ↓jFor_r, ↓jSeqI_r, ↓jRange1_r, ↓jRange2_r, ↓jZip_r, ↓jYes_r, ↓jOwn_r, ↓jApp_r, ↓jDic0_r, ↓jDic1_r, ↓jPut_r, ↓jVar_0, ↓jVar_s, ↓gN_r, ↓List.set_cons_zero, ↓List.set_cons_succ, wipeD, ↓onI_int, ↓onB_bl, ↓onD_bl, ↓onN_bl, ↓onS_str, ↓onRef_ref, ↓jFld_r, ↓jFldS_r, ↓jMake_r, ↓jMeth_r, ↓jOwn2_r, ↓jOwnI_r, ↓jOwnR_r, ↓jIsO_r, ↓jStrO_r, ↓jFmt_r, ↓jJoin_r, ↓onJ_str, ↓jJs_nil, ↓jJs_cons, ↓on2_c, ↓jPar_r, ↓jAsg_r, ↓onO3_s, ↓onSm_s, ↓asO_obj, ↓onTxt_str, ↓onTxt_int, ↓isO_obj, ↓isO_int, ↓onStr_str, ↓gPair_t, ↓gUnlD_l, ↓gTupD_l, ↓setAll_nil, ↓setAll_cons, ↓dGcd_ii, ↓dDiv_ii, ↓dMod_ii, ↓dMul_ii, ↓dAbs_int, ↓dInt_int, ↓dStr_int, ↓dStr_str, ↓dEq_ii, ↓dEq_ss, ↓dEq_bb, ↓dIx_t0, ↓dIx_t1, ↓dIx_t2, ↓dIx_l0, ↓Bool.false_xor, ↓Bool.true_xor, ↓dAdd_ii, ↓dAdd_ss, ↓dAdd_ll, ↓dAdd_tt, ↓dSub_ii, ↓dCmp_ii, ↓dCmp_ss, ↓dCmpI_ii, ↓dLen_str, ↓dLen_lst, ↓dLen_tup, ↓dSl_str, ↓dSl_tup, ↓dSl_lst, ↓dRevT_tup, ↓dListX_tup, ↓dListX_lst, ↓dTuple_lst, ↓dNeg_int, ↓dPow_ii, ↓dItems_lst, ↓dItems_tup, ↓pick_1, ↓dIs_non_int, ↓dIs_non_bool, ↓dIs_non_str, ↓dIs_non_list, ↓dIs_non_tuple, ↓dIs_non_dict, ↓dIs_non_lt, ↓dIs_bl_int, ↓dIs_bl_bool, ↓dIs_bl_str, ↓dIs_bl_list, ↓dIs_bl_tuple, ↓dIs_bl_dict, ↓dIs_bl_lt, ↓dIs_int_int, ↓dIs_int_bool, ↓dIs_int_str, ↓dIs_int_list, ↓dIs_int_tuple, ↓dIs_int_dict, ↓dIs_int_lt, ↓dIs_str_int, ↓dIs_str_bool, ↓dIs_str_str, ↓dIs_str_list, ↓dIs_str_tuple, ↓dIs_str_dict, ↓dIs_str_lt, ↓dIs_lst_int, ↓dIs_lst_bool, ↓dIs_lst_str, ↓dIs_lst_list, ↓dIs_lst_tuple, ↓dIs_lst_dict, ↓dIs_lst_lt, ↓dIs_tup_int, ↓dIs_tup_bool, ↓dIs_tup_str, ↓dIs_tup_list, ↓dIs_tup_tuple, ↓dIs_tup_dict, ↓dIs_tup_lt, ↓dIs_dic_int, ↓dIs_dic_bool, ↓dIs_dic_str, ↓dIs_dic_list, ↓dIs_dic_tuple, ↓dIs_dic_dict, ↓dIs_dic_lt, Bool.not_true, Bool.not_false, Bool.false_eq_true, if_true, if_false, eq_self, reduceIte]
  refine ⟨cm2 (by omega) (by omega), draw_i hb (by omega) (by omega) fun r2 r3 r4 => ?_⟩
  simp only [↓jC_r, ↓jBin_r, ↓jTV_r, ↓jChain_r, ↓jAnd_r, ↓jOr_r, ↓jNot_r, ↓jAndV_r, ↓jOrV_r, ↓jNotV_r, ↓jIf_r, ↓jUn_r, ↓jNil_r, ↓jCons_r, ↓jTup_r, ↓jLst_r, ↓jNext_r, ↓jRet_r, ↓jIfS_r, ↓jDrop_r, ↓jSet_r, ↓jCall_r, ↓jCallKw_r, ↓jCB_r, ↓jSl_r, ↓jNo_r, ↓jPart_r, ↓jT0_r, ↓jT1_r, ↓jSS_r, ↓jLc_r, ↓jFor_r, ↓jSeqI_r, ↓jRange1_r, ↓jRange2_r, ↓jZip_r, ↓jYes_r, ↓jOwn_r, ↓jApp_r, ↓jDic0_r, ↓jDic1_r, ↓jPut_r, ↓jVar_0, ↓jVar_s, ↓gN_r, ↓List.set_cons_zero, ↓List.set_cons_succ, wipeD, ↓onI_int, ↓onB_bl, ↓onD_bl, ↓onN_bl, ↓onS_str, ↓onRef_ref, ↓jFld_r, ↓jFldS_r, ↓jMake_r, ↓jMeth_r, ↓jOwn2_r, ↓jOwnI_r, ↓jOwnR_r, ↓jIsO_r, ↓jStrO_r, ↓jFmt_r, ↓jJoin_r, ↓onJ_str, ↓jJs_nil, ↓jJs_cons, ↓on2_c, ↓jPar_r, ↓jAsg_r, ↓onO3_s, ↓onSm_s, ↓asO_obj, ↓onTxt_str, ↓onTxt_int, ↓isO_obj, ↓isO_int, ↓onStr_str, ↓gPair_t, ↓gUnlD_l, ↓gTupD_l, ↓setAll_nil, ↓setAll_cons, ↓dGcd_ii, ↓dDiv_ii, ↓dMod_ii, ↓dMul_ii, ↓dAbs_int, ↓dInt_int, ↓dStr_int, ↓dStr_str, ↓dEq_ii, ↓dEq_ss, ↓dEq_bb, ↓dIx_t0, ↓dIx_t1, ↓dIx_t2, ↓dIx_l0, ↓Bool.false_xor, ↓Bool.true_xor, ↓dAdd_ii, ↓dAdd_ss, ↓dAdd_ll, ↓dAdd_tt, ↓dSub_ii, ↓dCmp_ii, ↓dCmp_ss, ↓dCmpI_ii, ↓dLen_str, ↓dLen_lst, ↓dLen_tup, ↓dSl_str, ↓dSl_tup, ↓dSl_lst, ↓dRevT_tup, ↓dListX_tup, ↓dListX_lst, ↓dTuple_lst, ↓dNeg_int, ↓dPow_ii, ↓dItems_lst, ↓dItems_tup, ↓pick_1, ↓dIs_non_int, ↓dIs_non_bool, ↓dIs_non_str, ↓dIs_non_list, ↓dIs_non_tuple, ↓dIs_non_dict, ↓dIs_non_lt, ↓dIs_bl_int, ↓dIs_bl_bool, ↓dIs_bl_str, ↓dIs_bl_list, ↓dIs_bl_tuple, ↓dIs_bl_dict, ↓dIs_bl_lt, ↓dIs_int_int, ↓dIs_int_bool, ↓dIs_int_str, ↓dIs_int_list, ↓dIs_int_tuple, ↓dIs_int_dict, ↓dIs_int_lt, ↓dIs_str_int, ↓dIs_str_bool, ↓dIs_str_str, ↓dIs_str_list, ↓dIs_str_tuple, ↓dIs_str_dict, ↓dIs_str_lt, ↓dIs_lst_int, ↓dIs_lst_bool, ↓dIs_lst_str, ↓dIs_lst_list, ↓dIs_lst_tuple, ↓dIs_lst_dict, ↓dIs_lst_lt, ↓dIs_tup_int, ↓dIs_tup_bool, ↓dIs_tup_str, ↓dIs_tup_list, ↓dIs_tup_tuple, ↓dIs_tup_dict, ↓dIs_tup_lt, ↓dIs_dic_int, ↓dIs_dic_bool, ↓dIs_dic_str, ↓dIs_dic_list, ↓dIs_dic_tuple, ↓dIs_dic_dict, ↓dIs_dic_lt, Bool.not_true, Bool.not_false, Bool.false_eq_true, if_true, if_false, eq_self, reduceIte]
  have m1 : (fac * (r - size)).natAbs < 2 ^ 45 := by
    have : (fac * (r - size)).natAbs < 2 ^ (4 + 41) := mul_lt_pow (by omega) (by omega)
    exact this
  have m2 : (fac * (1 + r2)).natAbs < 2 ^ 45 := by
    have : (fac * (1 + r2)).natAbs < 2 ^ (4 + 41) := mul_lt_pow (by omega) (by omega)
    exact this
  exact ⟨cm2 (by omega) (by omega), szl, ret_ok (k _ _ (Int.mul_pos (by omega) (by omega)) m1 m2)⟩
def C_pair (C : Addr) : Ct := fun ds μ Q _ => ∃ x, ds = [shD C x] ∧ Q (tupF x) μ
theorem ok_L_pair (T : Top K mg) : FnOk P w K mg base CX0 1 T.f_L_pair T.fd_L_pair ["_law_one"] (spOf (C_pair T.C_Share)) := by
  refine fn0 T.F_L_pair sc_L_pair (C_pair T.C_Share) _ (fun ds μ Q Ex ⟨_, e, _⟩ => by rw [e]; rfl) (fun cdv A outer s H E hr => jss_one (js_ret (je_tup (ja_cons (je_fldK K rfl (je_var 0)) (ja_cons (je_fldK K rfl (je_var 0)) ja_nil))))) ?_
  rintro ds μ Q Ex ⟨x, rfl, k⟩
  rw [show startD ["_law_one"] [shD T.C_Share x] = [some (shD T.C_Share x)] from rfl]
  simp only [↓jC_r, ↓jBin_r, ↓jTV_r, ↓jChain_r, ↓jAnd_r, ↓jOr_r, ↓jNot_r, ↓jAndV_r, ↓jOrV_r, ↓jNotV_r, ↓jIf_r, ↓jUn_r, ↓jNil_r, ↓jCons_r, ↓jTup_r, ↓jLst_r, ↓jNext_r, ↓jRet_r, ↓jIfS_r, ↓jDrop_r, ↓jSet_r, ↓jCall_r, ↓jCallKw_r, ↓jCB_r, ↓jSl_r, ↓jNo_r, ↓jPart_r, ↓jT0_r, ↓jT1_r, ↓jSS_r, ↓jLc_r, ↓jFor_r, ↓jSeqI_r, ↓jRange1_r, ↓jRange2_r, ↓jZip_r, ↓jYes_r, ↓jOwn_r, ↓jApp_r, ↓jDic0_r, ↓jDic1_r, ↓jPut_r, ↓jVar_0, ↓jVar_s, ↓gN_r, ↓List.set_cons_zero, ↓List.set_cons_succ, wipeD, ↓onI_int, ↓onB_bl, ↓onD_bl, ↓onN_bl, ↓onS_str, ↓onRef_ref, ↓jFld_r, ↓jFldS_r, ↓jMake_r, ↓jMeth_r, ↓jOwn2_r, ↓jOwnI_r, ↓jOwnR_r, ↓jIsO_r, ↓jStrO_r, ↓jFmt_r, ↓jJoin_r, ↓onJ_str, ↓jJs_nil, ↓jJs_cons, ↓on2_c, ↓jPar_r, ↓jAsg_r, ↓onO3_s, ↓onSm_s, ↓asO_obj, ↓onTxt_str, ↓onTxt_int, ↓isO_obj, ↓isO_int, ↓onStr_str, ↓gPair_t, ↓gUnlD_l, ↓gTupD_l, ↓setAll_nil, ↓setAll_cons, ↓dGcd_ii, ↓dDiv_ii, ↓dMod_ii, ↓dMul_ii, ↓dAbs_int, ↓dInt_int, ↓dStr_int, ↓dStr_str, ↓dEq_ii, ↓dEq_ss, ↓dEq_bb, ↓dIx_t0, ↓dIx_t1, ↓dIx_t2, ↓dIx_l0, ↓Bool.false_xor, ↓Bool.true_xor, ↓dAdd_ii, ↓dAdd_ss, ↓dAdd_ll, ↓dAdd_tt, ↓dSub_ii, ↓dCmp_ii, ↓dCmp_ss, ↓dCmpI_ii, ↓dLen_str, ↓dLen_lst, ↓dLen_tup, ↓dSl_str, ↓dSl_tup, ↓dSl_lst, ↓dRevT_tup, ↓dListX_tup, ↓dListX_lst, ↓dTuple_lst, ↓dNeg_int, ↓dPow_ii, ↓dItems_lst, ↓dItems_tup, ↓pick_1, ↓dIs_non_int, ↓dIs_non_bool, ↓dIs_non_str, ↓dIs_non_list, ↓dIs_non_tuple, ↓dIs_non_dict, ↓dIs_non_lt, ↓dIs_bl_int, ↓dIs_bl_bool, ↓dIs_bl_str, ↓dIs_bl_list, ↓dIs_bl_tuple, ↓dIs_bl_dict, ↓dIs_bl_lt, ↓dIs_int_int, ↓dIs_int_bool, ↓dIs_int_str, ↓dIs_int_list, ↓dIs_int_tuple, ↓dIs_int_dict, ↓dIs_int_lt, ↓dIs_str_int, ↓dIs_str_bool, ↓dIs_str_str, ↓dIs_str_list, ↓dIs_str_tuple, ↓dIs_str_dict, ↓dIs_str_lt, ↓dIs_lst_int, ↓dIs_lst_bool, ↓dIs_lst_str, ↓dIs_lst_list, ↓dIs_lst_tuple, ↓dIs_lst_dict, ↓dIs_lst_lt, ↓dIs_tup_int, ↓dIs_tup_bool, ↓dIs_tup_str, ↓dIs_tup_list, ↓dIs_tup_tuple, ↓dIs_tup_dict, ↓dIs_tup_lt, ↓dIs_dic_int, ↓dIs_dic_bool, ↓dIs_dic_str, ↓dIs_dic_list, ↓dIs_dic_tuple, ↓dIs_dic_dict, ↓dIs_dic_lt, Bool.not_true, Bool.not_false, Bool.false_eq_true, if_true, if_false, eq_self, reduceIte, shD, true_and, T.O_Share.cl, T.n_Share_top, T.n_Share_bottom, lk_top, lk_bot]
  exact ⟨szl, ret_ok k⟩
def C_plus : Ct := fun ds μ Q _ => ∃ (x y : Int × Int) (s : Int), ds = [tupF x, tupF y, .int s] ∧ Sh x ∧ Sh y ∧ s.natAbs < 2 ^ 2 ∧ Q (tupF (low (x.1 * y.2 + s * y.1 * x.2) (x.2 * y.2))) μ
theorem ok_L_plus (T : Top K mg) : FnOk P w K mg base CX0 3 T.f_L_plus T.fd_L_plus ["_law_one", "_law_two", "_law_sign"] (spOf C_plus) := by
  have G_L_low := ok_L_low (P := P) (w := w) (base := base) T
  refine fn0 T.F_L_plus sc_L_plus C_plus _ (fun ds μ Q Ex ⟨_, _, _, e, _⟩ => by rw [e]; rfl) (fun cdv A outer s H E hr => jss_one (js_ret (je_call G_L_low (hr.mono (by decide)) (by rfl) T.g_L_low T.F_L_low.kp T.b_L_low pass0 (ja_cons (je_op or_add rs_add (je_op or_mul rs_mul (je_ix (je_var 0) je_int) (je_ix (je_var 1) je_int)) (je_op or_mul rs_mul (je_op or_mul rs_mul (je_var 2) (je_ix (je_var 1) je_int)) (je_ix (je_var 0) je_int))) (ja_cons (je_op or_mul rs_mul (je_ix (je_var 0) je_int) (je_ix (je_var 1) je_int)) ja_nil))))) ?_
  rintro ds μ Q Ex ⟨x, y, s, rfl, hx, hy, hs, k⟩
  rw [show startD ["_law_one", "_law_two", "_law_sign"] [tupF x, tupF y, .int s] = [some (tupF x), some (tupF y), some (.int s)] from rfl]
  simp only [↓jC_r, ↓jBin_r, ↓jTV_r, ↓jChain_r, ↓jAnd_r, ↓jOr_r, ↓jNot_r, ↓jAndV_r, ↓jOrV_r, ↓jNotV_r, ↓jIf_r, ↓jUn_r, ↓jNil_r, ↓jCons_r, ↓jTup_r, ↓jLst_r, ↓jNext_r, ↓jRet_r, ↓jIfS_r, ↓jDrop_r, ↓jSet_r, ↓jCall_r, ↓jCallKw_r, ↓jCB_r, ↓jSl_r, ↓jNo_r, ↓jPart_r, ↓jT0_r, ↓jT1_r, ↓jSS_r, ↓jLc_r, ↓jFor_r, ↓jSeqI_r, ↓jRange1_r, ↓jRange2_r, ↓jZip_r, ↓jYes_r, ↓jOwn_r, ↓jApp_r, ↓jDic0_r, ↓jDic1_r, ↓jPut_r, ↓jVar_0, ↓jVar_s, ↓gN_r, ↓List.set_cons_zero, ↓List.set_cons_succ, wipeD, ↓onI_int, ↓onB_bl, ↓onD_bl, ↓onN_bl, ↓onS_str, ↓onRef_ref, ↓jFld_r, ↓jFldS_r, ↓jMake_r, ↓jMeth_r, ↓jOwn2_r, ↓jOwnI_r, ↓jOwnR_r, ↓jIsO_r, ↓jStrO_r, ↓jFmt_r, ↓jJoin_r, ↓onJ_str, ↓jJs_nil, ↓jJs_cons, ↓on2_c, ↓jPar_r, ↓jAsg_r, ↓onO3_s, ↓onSm_s, ↓asO_obj, ↓onTxt_str, ↓onTxt_int, ↓isO_obj, ↓isO_int, ↓onStr_str, ↓gPair_t, ↓gUnlD_l, ↓gTupD_l, ↓setAll_nil, ↓setAll_cons, ↓dGcd_ii, ↓dDiv_ii, ↓dMod_ii, ↓dMul_ii, ↓dAbs_int, ↓dInt_int, ↓dStr_int, ↓dStr_str, ↓dEq_ii, ↓dEq_ss, ↓dEq_bb, ↓dIx_t0, ↓dIx_t1, ↓dIx_t2, ↓dIx_l0, ↓Bool.false_xor, ↓Bool.true_xor, ↓dAdd_ii, ↓dAdd_ss, ↓dAdd_ll, ↓dAdd_tt, ↓dSub_ii, ↓dCmp_ii, ↓dCmp_ss, ↓dCmpI_ii, ↓dLen_str, ↓dLen_lst, ↓dLen_tup, ↓dSl_str, ↓dSl_tup, ↓dSl_lst, ↓dRevT_tup, ↓dListX_tup, ↓dListX_lst, ↓dTuple_lst, ↓dNeg_int, ↓dPow_ii, ↓dItems_lst, ↓dItems_tup, ↓pick_1, ↓dIs_non_int, ↓dIs_non_bool, ↓dIs_non_str, ↓dIs_non_list, ↓dIs_non_tuple, ↓dIs_non_dict, ↓dIs_non_lt, ↓dIs_bl_int, ↓dIs_bl_bool, ↓dIs_bl_str, ↓dIs_bl_list, ↓dIs_bl_tuple, ↓dIs_bl_dict, ↓dIs_bl_lt, ↓dIs_int_int, ↓dIs_int_bool, ↓dIs_int_str, ↓dIs_int_list, ↓dIs_int_tuple, ↓dIs_int_dict, ↓dIs_int_lt, ↓dIs_str_int, ↓dIs_str_bool, ↓dIs_str_str, ↓dIs_str_list, ↓dIs_str_tuple, ↓dIs_str_dict, ↓dIs_str_lt, ↓dIs_lst_int, ↓dIs_lst_bool, ↓dIs_lst_str, ↓dIs_lst_list, ↓dIs_lst_tuple, ↓dIs_lst_dict, ↓dIs_lst_lt, ↓dIs_tup_int, ↓dIs_tup_bool, ↓dIs_tup_str, ↓dIs_tup_list, ↓dIs_tup_tuple, ↓dIs_tup_dict, ↓dIs_tup_lt, ↓dIs_dic_int, ↓dIs_dic_bool, ↓dIs_dic_str, ↓dIs_dic_list, ↓dIs_dic_tuple, ↓dIs_dic_dict, ↓dIs_dic_lt, Bool.not_true, Bool.not_false, Bool.false_eq_true, if_true, if_false, eq_self, reduceIte, tupF]
  have e1 := mul_lt_pow hs hy.l
  obtain ⟨r2, r3⟩ := raw_b hx hy
  exact ⟨mulW hx.l hy.b, mulW hs hy.l, mulW e1 hx.b, mulW hx.b hy.b, _, _, rfl, r2, up_pow r3 (by decide), ret_ok k⟩
--END
end
end Law

set_option Elab.async false
set_option linter.all false
set_option maxRecDepth 100000
set_option maxHeartbeats 4000000
set_option exponentiation.threshold 6000
namespace Law
open PySem L2 J
section
variable {P : Program} {w : World} {K : PySem.W.Frag} {mg : Str → Option Value} {base : Heap}
--BODY
theorem same_i {n : Nat} {d e : D} {μ : Mu} {Q : KD} {Ex : KX} (h : d = e) (hp : Pl n e = true) (q : Q (.bl true) μ) : C_L_same n [d, e] μ Q Ex := ⟨e, by rw [h], hp, q⟩
theorem same_if {n : Nat} {d e : D} {μ : Mu} {p r : Mu → Prop} {Ex : KX} (h : d = e) (hp : Pl n e = true) (q : r μ) : C_L_same n [d, e] μ (onB fun b μ1 => if (!b) = true then p μ1 else r μ1) Ex :=
  same_i h hp (show (if (!true) = true then p μ else r μ) by rw [if_neg (by decide)]; exact q)
theorem frac_i {b : Addr} {μ : Mu} {Q : KD} {Ex : KX} (hb : μ.bag = some b) (h : ∀ p q : Int, 0 < q → p.natAbs < 2 ^ 45 → q.natAbs < 2 ^ 45 → Q (.tup [.int p, .int q]) μ) : C_fraction [.bag] μ Q Ex := ⟨b, rfl, hb, h⟩
theorem low_i {p q : Int} {μ : Mu} {Q : KD} {Ex : KX} (hq : 0 < q) (bq : q.natAbs < 2 ^ 5000) (h : Q (tupF (low p q)) μ) : C_low [.int p, .int q] μ Q Ex := ⟨p, q, rfl, hq, bq, h⟩
theorem asO_sh {μ : Mu} {C : Addr} {x : Int × Int} : asO μ (shD C x) = some (C, (["top", "bottom"] : List Str), [D.int x.1, D.int x.2]) := rfl
theorem ex_int {n : Int} : (∃ i, D.int n = D.int i) = True := eq_true ⟨n, rfl⟩
theorem dIx_f0 {μ : Mu} {Q : KD} {x : Int × Int} : dIx (tupF x) (.int 0) μ Q = Q (.int x.1) μ := rfl
theorem dIx_f1 {μ : Mu} {Q : KD} {x : Int × Int} : dIx (tupF x) (.int 1) μ Q = Q (.int x.2) μ := rfl
section
variable {μ : Mu} {Q : KD} {Ex : KX} {C : Addr} {x y : Int × Int} {n : Int} {f : Int × Int → Int × Int → Int × Int}
theorem op_i (hx : Sh x) (hy : Sh y) (h : Q (shD C (f x y)) μ) : C_op C f [shD C x, shD C y] μ Q Ex := ⟨x, y, rfl, hx, hy, h⟩
theorem mul_i (hx : Sh x) (hy : Sh y) (h : Q (shD C (mulF x y)) μ) : C_mul C [shD C x, shD C y] μ Q Ex := .inl ⟨x, y, rfl, hx, hy, h⟩
theorem muln_i (hx : Sh x) (hn : n.natAbs < 2 ^ 2000) (h : Q (shD C (scF x n)) μ) : C_mul C [shD C x, .int n] μ Q Ex := .inr ⟨x, n, rfl, hx, hn, h⟩
theorem rmul_i (hx : Sh x) (hn : n.natAbs < 2 ^ 2000) (h : Q (shD C (scF x n)) μ) : C_rmul C [shD C x, .int n] μ Q Ex := ⟨x, n, rfl, hx, hn, h⟩
theorem eq_i (h : Q (.bl (decide (x = y))) μ) : C_eq C [shD C x, shD C y] μ Q Ex := ⟨x, y, rfl, h⟩
theorem less_i (hx : Sh x) (hy : Sh y) (h : Q (.bl (decide (x.1 * y.2 < y.1 * x.2))) μ) : C_less C [shD C x, shD C y] μ Q Ex := ⟨x, y, rfl, hx, hy, h⟩
theorem str_i (u : Sz 199 x) (h : Q (.str (txtF x)) μ) : C_str C [shD C x] μ Q Ex := ⟨x, rfl, u.l, u.s, u.b, h⟩
theorem text_i (u : Sz 199 x) (h : Q (.str (txtF x)) μ) : C_share_text [tupF x] μ Q Ex := ⟨x, rfl, u.l, u.b, h⟩
theorem pair_i (h : Q (tupF x) μ) : C_pair C [shD C x] μ Q Ex := ⟨x, rfl, h⟩
theorem plus_i {s : Int} (hx : Sh x) (hy : Sh y) (hs : s.natAbs < 2 ^ 2) (h : Q (tupF (low (x.1 * y.2 + s * y.1 * x.2) (x.2 * y.2))) μ) : C_plus [tupF x, tupF y, .int s] μ Q Ex := ⟨x, y, s, rfl, hx, hy, hs, h⟩
end
theorem mk_i (T : Top K mg) {p q : Int} {μ : Mu} {Q : KD} {Ex : KX} (hq : 0 < q) (bp : p.natAbs < 2 ^ 5000) (bq : q.natAbs < 2 ^ 5000) (h : Q (shD T.C_Share (low p q)) μ) : onMk T.C_Share (C_init T) [.int p, .int q] μ Q Ex := make_i T hq bp bq h
theorem ok_all (T : Top K mg) : FnOk P w K mg base CX0 6 T.f_law T.fd_law ["_law_script"] (spLaw K) := by
  have G_L_same := ok_L_same (P := P) (w := w) (base := base) T 3
  have G_L_draw := ok_L_draw (P := P) (w := w) (base := base) T
  have G_L_pick := ok_L_pick (P := P) (w := w) (base := base) T
  have G_L_low := ok_L_low (P := P) (w := w) (base := base) T
  have G_L_share_text := ok_L_share_text (P := P) (w := w) (base := base) T
  have G_L_fraction := ok_L_fraction (P := P) (w := w) (base := base) T
  have G_L_pair := ok_L_pair (P := P) (w := w) (base := base) T
  have G_L_plus := ok_L_plus (P := P) (w := w) (base := base) T
  have G_Share___init__ := ok_init (P := P) (w := w) (base := base) T
  have G_Share___add__ := ok_add (P := P) (w := w) (base := base) T
  have G_Share___sub__ := ok_sub (P := P) (w := w) (base := base) T
  have G_Share___mul__ := ok_mul (P := P) (w := w) (base := base) T
  have G_Share___rmul__ := ok_rmul (P := P) (w := w) (base := base) T
  have G_Share___eq__ := ok_eq (P := P) (w := w) (base := base) T
  have G_Share___str__ := ok_str (P := P) (w := w) (base := base) T
  have G_Share_less := ok_less (P := P) (w := w) (base := base) T
  refine T.F_law.ok sc_law (fun vs H Q E ⟨a, ns, e, _⟩ => by rw [e]; rfl) (fun cdv A outer s H vs Q E hr ⟨a, ns, e, hS, hl, hQ⟩ => ?_)
  subst e
  refine law_go (ps_set (i := 1) sc_law.nd (by rfl) (by first | exact .inl rfl | exact .inr rfl) (pe_call (ok_L_bag T) (hr.mono (by decide)) (by rfl) T.g_L_bag T.F_L_bag.kp T.b_L_bag .nil pass0 (pa_cons (pe_var (i := 0) (by rfl) (.inl rfl)) pa_nil))) (E := E) (
    jss_cons (js_for PassesOwn.never rfl (ji_range1 (by rfl) T.z_range je_int) (jg_name 2 sc_law.nd) (jss_cons (js_setLc 3 (own := [("_law_k", 4)]) (ws := [4]) rfl sc_law.nd (sw_true rfl rfl rfl (by decide +kernel)) (ji_range1 (by rfl) T.z_range je_int) (blkOk_by (by rfl)) (fun _ _ _ _ _ => (jg_name 4 sc_law.nd)) (fun _ _ _ _ _ => jts_nil) (fun _ _ _ _ _ => (je_call G_L_fraction (hr.mono (by decide)) (by rfl) T.g_L_fraction T.F_L_fraction.kp T.b_L_fraction pass0 (ja_cons (je_var 1) ja_nil))) (by decide))
  (jss_cons (js_setLc 5 (own := [("_law_top", 6), ("_law_bottom", 7)]) (ws := [6, 7]) rfl sc_law.nd (sw_true rfl rfl rfl (by decide +kernel)) (ji_seq (je_var 3)) (blkOk_by (by rfl)) (fun _ _ _ _ _ => (jg_pair 6 7 rfl sc_law.nd)) (fun _ _ _ _ _ => jts_nil) (fun _ _ _ _ _ => (je_call G_L_low (hr.mono (by decide)) (by rfl) T.g_L_low T.F_L_low.kp T.b_L_low pass0 (ja_cons (je_var 6) (ja_cons (je_var 7) ja_nil)))) (by decide))
  (jss_cons (js_asg (je_lc (own := [("_law_top", 6), ("_law_bottom", 7)]) (ws := [6, 7]) rfl sc_law.nd (ji_seq (je_var 3)) (blkOk_by (by rfl)) (fun _ _ _ _ _ => (jg_pair 6 7 rfl sc_law.nd)) (fun _ _ _ _ _ => jts_nil) (fun _ _ _ _ _ => (je_make T.M_Share G_Share___init__ (hr.mono (by decide)) (by rfl) T.g_Share T.b_Share___init__ pass0 (ja_cons (je_var 6) (ja_cons (je_var 7) ja_nil)))) (by decide)) (jg_unl rfl (jgn_cons 8 sc_law.nd (jgn_cons 9 sc_law.nd (jgn_cons 10 sc_law.nd jgn_nil)))))
  (jss_cons (js_set 11 sc_law.nd (je_call G_L_pick (hr.mono (by decide)) (by rfl) T.g_L_pick T.F_L_pick.kp T.b_L_pick pass0 (ja_cons (je_var 1) (ja_cons (je_lst (ja_cons je_int (ja_cons je_int (ja_cons (je_neg je_int) (ja_cons je_int (ja_cons (je_op op_sub rs_sub (je_call G_L_draw (hr.mono (by decide)) (by rfl) T.g_L_draw T.F_L_draw.kp T.b_L_draw pass0 (ja_cons (je_var 1) (ja_cons (je_op op_pow rs_pow je_int je_int) ja_nil))) je_int) ja_nil)))))) ja_nil))))
  (jss_cons (js_set 12 sc_law.nd (je_lst (ja_cons (je_own2 (op_ownB T.O_Share T.a_Share___add__ T.m_Share___add__.fn G_Share___add__ (hr.mono (by decide)) T.b_Share___add__ pass0) (je_var 8) (je_var 9)) (ja_cons (je_own2 (op_ownB T.O_Share T.a_Share___sub__ T.m_Share___sub__.fn G_Share___sub__ (hr.mono (by decide)) T.b_Share___sub__ pass0) (je_var 8) (je_var 9)) (ja_cons (je_own2 (op_ownB T.O_Share T.a_Share___mul__ T.m_Share___mul__.fn G_Share___mul__ (hr.mono (by decide)) T.b_Share___mul__ pass0) (je_var 8) (je_var 9)) (ja_cons (je_ownI (op_ownI T.O_Share T.a_Share___mul__ T.m_Share___mul__.fn T.a_Share___rmul__ (.inr ⟨_, rfl⟩) T.i_Share_1 T.i_Share_2 T.i_Share_3 G_Share___mul__ (hr.mono (by decide)) T.b_Share___mul__ pass0) (je_var 8) (je_var 11)) (ja_cons (je_ownR (op_ownR T.O_Share T.a_Share___mul__ T.a_Share___rmul__ T.m_Share___rmul__.fn T.i_Share_4 G_Share___rmul__ (hr.mono (by decide)) T.b_Share___rmul__ pass0) (je_var 11) (je_var 8)) (ja_cons (je_own2 (op_ownB T.O_Share T.a_Share___sub__ T.m_Share___sub__.fn G_Share___sub__ (hr.mono (by decide)) T.b_Share___sub__ pass0) (je_var 8) (je_var 8)) (ja_cons (je_own2 (op_ownB T.O_Share T.a_Share___add__ T.m_Share___add__.fn G_Share___add__ (hr.mono (by decide)) T.b_Share___add__ pass0) (je_var 9) (je_var 8)) (ja_cons (je_own2 (op_ownB T.O_Share T.a_Share___mul__ T.m_Share___mul__.fn G_Share___mul__ (hr.mono (by decide)) T.b_Share___mul__ pass0) (je_var 9) (je_var 8)) (ja_cons (je_own2 (op_ownB T.O_Share T.a_Share___sub__ T.m_Share___sub__.fn G_Share___sub__ (hr.mono (by decide)) T.b_Share___sub__ pass0) (je_var 9) (je_var 8)) (ja_cons (je_ownI (op_ownI T.O_Share T.a_Share___mul__ T.m_Share___mul__.fn T.a_Share___rmul__ (.inr ⟨_, rfl⟩) T.i_Share_1 T.i_Share_2 T.i_Share_3 G_Share___mul__ (hr.mono (by decide)) T.b_Share___mul__ pass0) (je_var 8) je_int) ja_nil))))))))))))
  (jss_cons (js_asg (je_var 5) (jg_unl rfl (jgn_cons 13 sc_law.nd (jgn_cons 14 sc_law.nd (jgn_cons 15 sc_law.nd jgn_nil)))))
  (jss_cons (js_par 16 17 rfl sc_law.nd (ja_cons (je_call G_L_low (hr.mono (by decide)) (by rfl) T.g_L_low T.F_L_low.kp T.b_L_low pass0 (ja_cons (je_op or_mul rs_mul (je_ix (je_var 13) je_int) (je_ix (je_var 14) je_int)) (ja_cons (je_op or_mul rs_mul (je_ix (je_var 13) je_int) (je_ix (je_var 14) je_int)) ja_nil))) (ja_cons (je_call G_L_low (hr.mono (by decide)) (by rfl) T.g_L_low T.F_L_low.kp T.b_L_low pass0 (ja_cons (je_op or_mul rs_mul (je_var 11) (je_ix (je_var 13) je_int)) (ja_cons (je_ix (je_var 13) je_int) ja_nil))) ja_nil)))
  (jss_cons (js_set 18 sc_law.nd (je_lst (ja_cons (je_call G_L_plus (hr.mono (by decide)) (by rfl) T.g_L_plus T.F_L_plus.kp T.b_L_plus pass0 (ja_cons (je_var 13) (ja_cons (je_var 14) (ja_cons je_int ja_nil)))) (ja_cons (je_call G_L_plus (hr.mono (by decide)) (by rfl) T.g_L_plus T.F_L_plus.kp T.b_L_plus pass0 (ja_cons (je_var 13) (ja_cons (je_var 14) (ja_cons (je_neg je_int) ja_nil)))) (ja_cons (je_var 16) (ja_cons (je_var 17) (ja_cons (je_var 17) (ja_cons (je_tup (ja_cons je_int (ja_cons je_int ja_nil))) (ja_cons (je_call G_L_plus (hr.mono (by decide)) (by rfl) T.g_L_plus T.F_L_plus.kp T.b_L_plus pass0 (ja_cons (je_var 14) (ja_cons (je_var 13) (ja_cons je_int ja_nil)))) (ja_cons (je_var 16) (ja_cons (je_call G_L_plus (hr.mono (by decide)) (by rfl) T.g_L_plus T.F_L_plus.kp T.b_L_plus pass0 (ja_cons (je_var 14) (ja_cons (je_var 13) (ja_cons (je_neg je_int) ja_nil)))) (ja_cons (je_tup (ja_cons je_int (ja_cons je_int ja_nil))) ja_nil))))))))))))
  (jss_cons (js_if (jt_not (jt_val (je_call G_L_same (hr.mono (by decide)) (by rfl) T.g_L_same T.F_L_same.kp T.b_L_same pass0 (ja_cons (je_lc (own := [("_law_late", 19)]) (ws := [19]) rfl sc_law.nd (ji_seq (je_var 12)) (blkOk_by (by rfl)) (fun _ _ _ _ _ => (jg_name 19 sc_law.nd)) (fun _ _ _ _ _ => jts_nil) (fun _ _ _ _ _ => (je_call G_L_pair (hr.mono (by decide)) (by rfl) T.g_L_pair T.F_L_pair.kp T.b_L_pair pass0 (ja_cons (je_var 19) ja_nil))) (by decide)) (ja_cons (je_var 18) ja_nil))))) (jss_one (js_ret je_bl)) (jss_nil))
  (jss_cons (js_set 20 sc_law.nd (je_lst (ja_cons (je_ownC (op_ownC (fun _ _ => rfl) T.m_Share___eq__.at_ T.m_Share___eq__.fn G_Share___eq__ (hr.mono (by decide)) T.b_Share___eq__ pass0) (je_own2 (op_ownB T.O_Share T.a_Share___add__ T.m_Share___add__.fn G_Share___add__ (hr.mono (by decide)) T.b_Share___add__ pass0) (je_own2 (op_ownB T.O_Share T.a_Share___add__ T.m_Share___add__.fn G_Share___add__ (hr.mono (by decide)) T.b_Share___add__ pass0) (je_var 8) (je_var 9)) (je_var 10)) (je_own2 (op_ownB T.O_Share T.a_Share___add__ T.m_Share___add__.fn G_Share___add__ (hr.mono (by decide)) T.b_Share___add__ pass0) (je_var 8) (je_own2 (op_ownB T.O_Share T.a_Share___add__ T.m_Share___add__.fn G_Share___add__ (hr.mono (by decide)) T.b_Share___add__ pass0) (je_var 9) (je_var 10)))) (ja_cons (je_ownC (op_ownC (fun _ _ => rfl) T.m_Share___eq__.at_ T.m_Share___eq__.fn G_Share___eq__ (hr.mono (by decide)) T.b_Share___eq__ pass0) (je_own2 (op_ownB T.O_Share T.a_Share___mul__ T.m_Share___mul__.fn G_Share___mul__ (hr.mono (by decide)) T.b_Share___mul__ pass0) (je_own2 (op_ownB T.O_Share T.a_Share___mul__ T.m_Share___mul__.fn G_Share___mul__ (hr.mono (by decide)) T.b_Share___mul__ pass0) (je_var 8) (je_var 9)) (je_var 10)) (je_own2 (op_ownB T.O_Share T.a_Share___mul__ T.m_Share___mul__.fn G_Share___mul__ (hr.mono (by decide)) T.b_Share___mul__ pass0) (je_var 8) (je_own2 (op_ownB T.O_Share T.a_Share___mul__ T.m_Share___mul__.fn G_Share___mul__ (hr.mono (by decide)) T.b_Share___mul__ pass0) (je_var 9) (je_var 10)))) (ja_cons (je_ownC (op_ownC (fun _ _ => rfl) T.m_Share___eq__.at_ T.m_Share___eq__.fn G_Share___eq__ (hr.mono (by decide)) T.b_Share___eq__ pass0) (je_own2 (op_ownB T.O_Share T.a_Share___mul__ T.m_Share___mul__.fn G_Share___mul__ (hr.mono (by decide)) T.b_Share___mul__ pass0) (je_var 8) (je_own2 (op_ownB T.O_Share T.a_Share___add__ T.m_Share___add__.fn G_Share___add__ (hr.mono (by decide)) T.b_Share___add__ pass0) (je_var 9) (je_var 10))) (je_own2 (op_ownB T.O_Share T.a_Share___add__ T.m_Share___add__.fn G_Share___add__ (hr.mono (by decide)) T.b_Share___add__ pass0) (je_own2 (op_ownB T.O_Share T.a_Share___mul__ T.m_Share___mul__.fn G_Share___mul__ (hr.mono (by decide)) T.b_Share___mul__ pass0) (je_var 8) (je_var 9)) (je_own2 (op_ownB T.O_Share T.a_Share___mul__ T.m_Share___mul__.fn G_Share___mul__ (hr.mono (by decide)) T.b_Share___mul__ pass0) (je_var 8) (je_var 10)))) (ja_cons (je_ownC (op_ownC (fun _ _ => rfl) T.m_Share___eq__.at_ T.m_Share___eq__.fn G_Share___eq__ (hr.mono (by decide)) T.b_Share___eq__ pass0) (je_own2 (op_ownB T.O_Share T.a_Share___sub__ T.m_Share___sub__.fn G_Share___sub__ (hr.mono (by decide)) T.b_Share___sub__ pass0) (je_own2 (op_ownB T.O_Share T.a_Share___add__ T.m_Share___add__.fn G_Share___add__ (hr.mono (by decide)) T.b_Share___add__ pass0) (je_var 8) (je_var 9)) (je_var 9)) (je_var 8)) (ja_cons (je_ownC (op_ownC (fun _ _ => rfl) T.m_Share___eq__.at_ T.m_Share___eq__.fn G_Share___eq__ (hr.mono (by decide)) T.b_Share___eq__ pass0) (je_own2 (op_ownB T.O_Share T.a_Share___add__ T.m_Share___add__.fn G_Share___add__ (hr.mono (by decide)) T.b_Share___add__ pass0) (je_own2 (op_ownB T.O_Share T.a_Share___sub__ T.m_Share___sub__.fn G_Share___sub__ (hr.mono (by decide)) T.b_Share___sub__ pass0) (je_var 8) (je_var 9)) (je_var 9)) (je_var 8)) (ja_cons (je_ownC (op_ownC (fun _ _ => rfl) T.m_Share___eq__.at_ T.m_Share___eq__.fn G_Share___eq__ (hr.mono (by decide)) T.b_Share___eq__ pass0) (je_ownI (op_ownI T.O_Share T.a_Share___mul__ T.m_Share___mul__.fn T.a_Share___rmul__ (.inr ⟨_, rfl⟩) T.i_Share_1 T.i_Share_2 T.i_Share_3 G_Share___mul__ (hr.mono (by decide)) T.b_Share___mul__ pass0) (je_own2 (op_ownB T.O_Share T.a_Share___add__ T.m_Share___add__.fn G_Share___add__ (hr.mono (by decide)) T.b_Share___add__ pass0) (je_var 8) (je_var 9)) (je_var 11)) (je_own2 (op_ownB T.O_Share T.a_Share___add__ T.m_Share___add__.fn G_Share___add__ (hr.mono (by decide)) T.b_Share___add__ pass0) (je_ownI (op_ownI T.O_Share T.a_Share___mul__ T.m_Share___mul__.fn T.a_Share___rmul__ (.inr ⟨_, rfl⟩) T.i_Share_1 T.i_Share_2 T.i_Share_3 G_Share___mul__ (hr.mono (by decide)) T.b_Share___mul__ pass0) (je_var 8) (je_var 11)) (je_ownR (op_ownR T.O_Share T.a_Share___mul__ T.a_Share___rmul__ T.m_Share___rmul__.fn T.i_Share_4 G_Share___rmul__ (hr.mono (by decide)) T.b_Share___rmul__ pass0) (je_var 11) (je_var 9)))) ja_nil))))))))
  (jss_cons (js_if (jt_not (jt_val (je_call G_L_same (hr.mono (by decide)) (by rfl) T.g_L_same T.F_L_same.kp T.b_L_same pass0 (ja_cons (je_op or_add rs_add (je_var 20) (je_lst (ja_cons (je_ownC (op_ownC (fun _ _ => rfl) T.m_Share___eq__.at_ T.m_Share___eq__.fn G_Share___eq__ (hr.mono (by decide)) T.b_Share___eq__ pass0) (je_own2 (op_ownB T.O_Share T.a_Share___add__ T.m_Share___add__.fn G_Share___add__ (hr.mono (by decide)) T.b_Share___add__ pass0) (je_var 8) (je_var 9)) (je_own2 (op_ownB T.O_Share T.a_Share___add__ T.m_Share___add__.fn G_Share___add__ (hr.mono (by decide)) T.b_Share___add__ pass0) (je_var 9) (je_var 8))) ja_nil))) (ja_cons (je_op or_mul rs_mul (je_lst (ja_cons je_bl ja_nil)) je_int) ja_nil))))) (jss_one (js_ret je_bl)) (jss_nil))
  (jss_cons (js_set 21 sc_law.nd (je_call G_L_plus (hr.mono (by decide)) (by rfl) T.g_L_plus T.F_L_plus.kp T.b_L_plus pass0 (ja_cons (je_call G_L_plus (hr.mono (by decide)) (by rfl) T.g_L_plus T.F_L_plus.kp T.b_L_plus pass0 (ja_cons (je_var 13) (ja_cons (je_var 14) (ja_cons je_int ja_nil)))) (ja_cons (je_var 15) (ja_cons je_int ja_nil)))))
  (jss_cons (js_if (jt_not (jt_val (je_call G_L_same (hr.mono (by decide)) (by rfl) T.g_L_same T.F_L_same.kp T.b_L_same pass0 (ja_cons (je_lst (ja_cons (je_call G_L_pair (hr.mono (by decide)) (by rfl) T.g_L_pair T.F_L_pair.kp T.b_L_pair pass0 (ja_cons (je_own2 (op_ownB T.O_Share T.a_Share___add__ T.m_Share___add__.fn G_Share___add__ (hr.mono (by decide)) T.b_Share___add__ pass0) (je_own2 (op_ownB T.O_Share T.a_Share___add__ T.m_Share___add__.fn G_Share___add__ (hr.mono (by decide)) T.b_Share___add__ pass0) (je_var 8) (je_var 9)) (je_var 10)) ja_nil)) (ja_cons (je_strO (call_strO T.m_Share___str__.at_ T.m_Share___str__.fn G_Share___str__ (hr.mono (by decide)) T.b_Share___str__ pass0) (by rfl) T.z_str (je_own2 (op_ownB T.O_Share T.a_Share___add__ T.m_Share___add__.fn G_Share___add__ (hr.mono (by decide)) T.b_Share___add__ pass0) (je_own2 (op_ownB T.O_Share T.a_Share___add__ T.m_Share___add__.fn G_Share___add__ (hr.mono (by decide)) T.b_Share___add__ pass0) (je_var 8) (je_var 9)) (je_var 10))) ja_nil))) (ja_cons (je_lst (ja_cons (je_var 21) (ja_cons (je_call G_L_share_text (hr.mono (by decide)) (by rfl) T.g_L_share_text T.F_L_share_text.kp T.b_L_share_text pass0 (ja_cons (je_var 21) ja_nil)) ja_nil))) ja_nil))))) (jss_one (js_ret je_bl)) (jss_nil))
  (jss_cons (js_if (jt_not (jt_val (je_call G_L_same (hr.mono (by decide)) (by rfl) T.g_L_same T.F_L_same.kp T.b_L_same pass0 (ja_cons (je_lc (own := [("_law_late", 19)]) (ws := [19]) rfl sc_law.nd (ji_seq (je_lst (ja_cons (je_var 8) (ja_cons (je_var 9) (ja_cons (je_var 10) ja_nil))))) (blkOk_by (by rfl)) (fun _ _ _ _ _ => (jg_name 19 sc_law.nd)) (fun _ _ _ _ _ => jts_nil) (fun _ _ _ _ _ => (je_call G_L_pair (hr.mono (by decide)) (by rfl) T.g_L_pair T.F_L_pair.kp T.b_L_pair pass0 (ja_cons (je_var 19) ja_nil))) (by decide)) (ja_cons (je_var 5) ja_nil))))) (jss_one (js_ret je_bl)) (jss_nil))
  (jss_one (js_if (jt_not (jt_val (je_call G_L_same (hr.mono (by decide)) (by rfl) T.g_L_same T.F_L_same.kp T.b_L_same pass0 (ja_cons (je_lst (ja_cons (je_meth (je_own2 (op_ownB T.O_Share T.a_Share___add__ T.m_Share___add__.fn G_Share___add__ (hr.mono (by decide)) T.b_Share___add__ pass0) (je_var 8) (je_var 9)) T.O_Share.cl T.m_Share_less G_Share_less (hr.mono (by decide)) T.b_Share_less pass0 (ja_cons (je_var 8) ja_nil)) (ja_cons (je_meth (je_var 8) T.O_Share.cl T.m_Share_less G_Share_less (hr.mono (by decide)) T.b_Share_less pass0 (ja_cons (je_own2 (op_ownB T.O_Share T.a_Share___add__ T.m_Share___add__.fn G_Share___add__ (hr.mono (by decide)) T.b_Share___add__ pass0) (je_var 8) (je_var 9)) ja_nil)) ja_nil))) (ja_cons (je_lst (ja_cons (je_cmp or_ltS rs_cmp (je_ix (je_var 14) je_int) je_int (nomark _)) (ja_cons (je_cmp op_gt rs_cmpI (je_ix (je_var 14) je_int) je_int (nomark _)) ja_nil))) ja_nil))))) (jss_one (js_ret je_bl)) (jss_nil))))))))))))))))))
  (jss_one (js_ret je_bl))) (by decide) hS hl hQ (fun b => ?_)
  rw [jSeq_r]
  simp only [jFor_r, jRange1_r, jC_r]
  refine ⟨⟨by decide, by decide⟩, ?_⟩
  refine for_ok (fun ds Δ μ => μ = ⟨some b, []⟩ ∧ ∃ x2 x3 x4 x5 x6 x7 x8 x9 x10 x11 x12 x13 x14 x15 x16 x17 x18 x19 x20 x21, Δ = [some (.ref a), some .bag, x2, x3, x4, x5, x6, x7, x8, x9, x10, x11, x12, x13, x14, x15, x16, x17, x18, x19, x20, x21]) ?_ ?_ ⟨rfl, _, _, _, _, _, _, _, _, _, _, _, _, _, _, _, _, _, _, _, _, rfl⟩
  · rintro d ds Δ μ ⟨rfl, x2, x3, x4, x5, x6, x7, x8, x9, x10, x11, x12, x13, x14, x15, x16, x17, x18, x19, x20, x21, rfl⟩ N hN
    rw [gN_r, jSeq_r]
    simp only [↓jC_r, ↓jBin_r, ↓jTV_r, ↓jChain_r, ↓jAnd_r, ↓jOr_r, ↓jNot_r, ↓jAndV_r, ↓jOrV_r, ↓jNotV_r, ↓jIf_r, ↓jUn_r, ↓jNil_r, ↓jCons_r, ↓jTup_r, ↓jLst_r, ↓jNext_r, ↓jRet_r, ↓jIfS_r, ↓jDrop_r, ↓jSet_r, ↓jCall_r, ↓jCallKw_r, ↓jCB_r, ↓jSl_r, ↓jNo_r, ↓jPart_r, ↓jT0_r, ↓jT1_r, ↓jSS_r, ↓jLc_r, ↓jFor_r, ↓jSeqI_r, ↓jRange1_r, ↓jRange2_r, ↓jZip_r, ↓jYes_r, ↓jOwn_r, ↓jApp_r, ↓jDic0_r, ↓jDic1_r, ↓jPut_r, ↓jVar_0, ↓jVar_s, ↓gN_r, ↓List.set_cons_zero, ↓List.set_cons_succ, wipeD, ↓onI_int, ↓onB_bl, ↓onD_bl, ↓onN_bl, ↓onS_str, ↓onRef_ref, ↓jFld_r, ↓jFldS_r, ↓jMake_r, ↓jMeth_r, ↓jOwn2_r, ↓jOwnI_r, ↓jOwnR_r, ↓jIsO_r, ↓jStrO_r, ↓jFmt_r, ↓jJoin_r, ↓onJ_str, ↓jJs_nil, ↓jJs_cons, ↓on2_c, ↓jPar_r, ↓jAsg_r, ↓onO3_s, ↓onSm_s, ↓asO_obj, ↓onTxt_str, ↓onTxt_int, ↓isO_obj, ↓isO_int, ↓onStr_str, ↓gPair_t, ↓gUnlD_l, ↓gTupD_l, ↓setAll_nil, ↓setAll_cons, ↓dGcd_ii, ↓dDiv_ii, ↓dMod_ii, ↓dMul_ii, ↓dAbs_int, ↓dInt_int, ↓dStr_int, ↓dStr_str, ↓dEq_ii, ↓dEq_ss, ↓dEq_bb, ↓dIx_t0, ↓dIx_t1, ↓dIx_t2, ↓dIx_l0, ↓Bool.false_xor, ↓Bool.true_xor, ↓dAdd_ii, ↓dAdd_ss, ↓dAdd_ll, ↓dAdd_tt, ↓dSub_ii, ↓dCmp_ii, ↓dCmp_ss, ↓dCmpI_ii, ↓dLen_str, ↓dLen_lst, ↓dLen_tup, ↓dSl_str, ↓dSl_tup, ↓dSl_lst, ↓dRevT_tup, ↓dListX_tup, ↓dListX_lst, ↓dTuple_lst, ↓dNeg_int, ↓dPow_ii, ↓dItems_lst, ↓dItems_tup, ↓pick_1, ↓dIs_non_int, ↓dIs_non_bool, ↓dIs_non_str, ↓dIs_non_list, ↓dIs_non_tuple, ↓dIs_non_dict, ↓dIs_non_lt, ↓dIs_bl_int, ↓dIs_bl_bool, ↓dIs_bl_str, ↓dIs_bl_list, ↓dIs_bl_tuple, ↓dIs_bl_dict, ↓dIs_bl_lt, ↓dIs_int_int, ↓dIs_int_bool, ↓dIs_int_str, ↓dIs_int_list, ↓dIs_int_tuple, ↓dIs_int_dict, ↓dIs_int_lt, ↓dIs_str_int, ↓dIs_str_bool, ↓dIs_str_str, ↓dIs_str_list, ↓dIs_str_tuple, ↓dIs_str_dict, ↓dIs_str_lt, ↓dIs_lst_int, ↓dIs_lst_bool, ↓dIs_lst_str, ↓dIs_lst_list, ↓dIs_lst_tuple, ↓dIs_lst_dict, ↓dIs_lst_lt, ↓dIs_tup_int, ↓dIs_tup_bool, ↓dIs_tup_str, ↓dIs_tup_list, ↓dIs_tup_tuple, ↓dIs_tup_dict, ↓dIs_tup_lt, ↓dIs_dic_int, ↓dIs_dic_bool, ↓dIs_dic_str, ↓dIs_dic_list, ↓dIs_dic_tuple, ↓dIs_dic_dict, ↓dIs_dic_lt, Bool.not_true, Bool.not_false, Bool.false_eq_true, if_true, if_false, eq_self, reduceIte]
    refine ⟨⟨by decide, by decide⟩, ?_⟩
    rw [rangeD_3]
    simp only [↓jC_r, ↓jBin_r, ↓jTV_r, ↓jChain_r, ↓jAnd_r, ↓jOr_r, ↓jNot_r, ↓jAndV_r, ↓jOrV_r, ↓jNotV_r, ↓jIf_r, ↓jUn_r, ↓jNil_r, ↓jCons_r, ↓jTup_r, ↓jLst_r, ↓jNext_r, ↓jRet_r, ↓jIfS_r, ↓jDrop_r, ↓jSet_r, ↓jCall_r, ↓jCallKw_r, ↓jCB_r, ↓jSl_r, ↓jNo_r, ↓jPart_r, ↓jT0_r, ↓jT1_r, ↓jSS_r, ↓jLc_r, ↓jFor_r, ↓jSeqI_r, ↓jRange1_r, ↓jRange2_r, ↓jZip_r, ↓jYes_r, ↓jOwn_r, ↓jApp_r, ↓jDic0_r, ↓jDic1_r, ↓jPut_r, ↓jVar_0, ↓jVar_s, ↓gN_r, ↓List.set_cons_zero, ↓List.set_cons_succ, wipeD, ↓onI_int, ↓onB_bl, ↓onD_bl, ↓onN_bl, ↓onS_str, ↓onRef_ref, ↓jFld_r, ↓jFldS_r, ↓jMake_mk, ↓jMeth_r, ↓jOwn2_r, ↓jOwnI_r, ↓jOwnR_r, ↓jIsO_r, ↓jStrO_r, ↓jFmt_r, ↓jJoin_r, ↓onJ_str, ↓jJs_nil, ↓jJs_cons, ↓on2_c, ↓jPar_r, ↓jAsg_r, ↓onO3_s, ↓onSm_s, ↓asO_obj, ↓onTxt_str, ↓onTxt_int, ↓isO_obj, ↓isO_int, ↓onStr_str, ↓gPair_t, ↓gUnlD_l, ↓gTupD_l, ↓setAll_nil, ↓setAll_cons, ↓dGcd_ii, ↓dDiv_ii, ↓dMod_ii, ↓dMul_ii, ↓dAbs_int, ↓dInt_int, ↓dStr_int, ↓dStr_str, ↓dEq_ii, ↓dEq_ss, ↓dEq_bb, ↓dIx_t0, ↓dIx_t1, ↓dIx_t2, ↓dIx_l0, ↓Bool.false_xor, ↓Bool.true_xor, ↓dAdd_ii, ↓dAdd_ss, ↓dAdd_ll, ↓dAdd_tt, ↓dSub_ii, ↓dCmp_ii, ↓dCmp_ss, ↓dCmpI_ii, ↓dLen_str, ↓dLen_lst, ↓dLen_tup, ↓dSl_str, ↓dSl_tup, ↓dSl_lst, ↓dRevT_tup, ↓dListX_tup, ↓dListX_lst, ↓dTuple_lst, ↓dNeg_int, ↓dPow_ii, ↓dItems_lst, ↓dItems_tup, ↓pick_1, ↓dIs_non_int, ↓dIs_non_bool, ↓dIs_non_str, ↓dIs_non_list, ↓dIs_non_tuple, ↓dIs_non_dict, ↓dIs_non_lt, ↓dIs_bl_int, ↓dIs_bl_bool, ↓dIs_bl_str, ↓dIs_bl_list, ↓dIs_bl_tuple, ↓dIs_bl_dict, ↓dIs_bl_lt, ↓dIs_int_int, ↓dIs_int_bool, ↓dIs_int_str, ↓dIs_int_list, ↓dIs_int_tuple, ↓dIs_int_dict, ↓dIs_int_lt, ↓dIs_str_int, ↓dIs_str_bool, ↓dIs_str_str, ↓dIs_str_list, ↓dIs_str_tuple, ↓dIs_str_dict, ↓dIs_str_lt, ↓dIs_lst_int, ↓dIs_lst_bool, ↓dIs_lst_str, ↓dIs_lst_list, ↓dIs_lst_tuple, ↓dIs_lst_dict, ↓dIs_lst_lt, ↓dIs_tup_int, ↓dIs_tup_bool, ↓dIs_tup_str, ↓dIs_tup_list, ↓dIs_tup_tuple, ↓dIs_tup_dict, ↓dIs_tup_lt, ↓dIs_dic_int, ↓dIs_dic_bool, ↓dIs_dic_str, ↓dIs_dic_list, ↓dIs_dic_tuple, ↓dIs_dic_dict, ↓dIs_dic_lt, Bool.not_true, Bool.not_false, Bool.false_eq_true, if_true, if_false, eq_self, reduceIte, List.map_cons, List.map_nil, lcD_n, lcD_y, List.nil_append, List.cons_append, List.singleton_append, asO_sh, true_and, ex_int, dIx_f0, dIx_f1]
    refine frac_i rfl fun p1 q1 hq1 bp1 bq1 => ⟨szl, frac_i rfl fun p2 q2 hq2 bp2 bq2 => ⟨szl, frac_i rfl fun p3 q3 hq3 bp3 bq3 => ⟨szl, ?_⟩⟩⟩
    rw [jSeq_r]
    simp only [↓jC_r, ↓jBin_r, ↓jTV_r, ↓jChain_r, ↓jAnd_r, ↓jOr_r, ↓jNot_r, ↓jAndV_r, ↓jOrV_r, ↓jNotV_r, ↓jIf_r, ↓jUn_r, ↓jNil_r, ↓jCons_r, ↓jTup_r, ↓jLst_r, ↓jNext_r, ↓jRet_r, ↓jIfS_r, ↓jDrop_r, ↓jSet_r, ↓jCall_r, ↓jCallKw_r, ↓jCB_r, ↓jSl_r, ↓jNo_r, ↓jPart_r, ↓jT0_r, ↓jT1_r, ↓jSS_r, ↓jLc_r, ↓jFor_r, ↓jSeqI_r, ↓jRange1_r, ↓jRange2_r, ↓jZip_r, ↓jYes_r, ↓jOwn_r, ↓jApp_r, ↓jDic0_r, ↓jDic1_r, ↓jPut_r, ↓jVar_0, ↓jVar_s, ↓gN_r, ↓List.set_cons_zero, ↓List.set_cons_succ, wipeD, ↓onI_int, ↓onB_bl, ↓onD_bl, ↓onN_bl, ↓onS_str, ↓onRef_ref, ↓jFld_r, ↓jFldS_r, ↓jMake_mk, ↓jMeth_r, ↓jOwn2_r, ↓jOwnI_r, ↓jOwnR_r, ↓jIsO_r, ↓jStrO_r, ↓jFmt_r, ↓jJoin_r, ↓onJ_str, ↓jJs_nil, ↓jJs_cons, ↓on2_c, ↓jPar_r, ↓jAsg_r, ↓onO3_s, ↓onSm_s, ↓asO_obj, ↓onTxt_str, ↓onTxt_int, ↓isO_obj, ↓isO_int, ↓onStr_str, ↓gPair_t, ↓gUnlD_l, ↓gTupD_l, ↓setAll_nil, ↓setAll_cons, ↓dGcd_ii, ↓dDiv_ii, ↓dMod_ii, ↓dMul_ii, ↓dAbs_int, ↓dInt_int, ↓dStr_int, ↓dStr_str, ↓dEq_ii, ↓dEq_ss, ↓dEq_bb, ↓dIx_t0, ↓dIx_t1, ↓dIx_t2, ↓dIx_l0, ↓Bool.false_xor, ↓Bool.true_xor, ↓dAdd_ii, ↓dAdd_ss, ↓dAdd_ll, ↓dAdd_tt, ↓dSub_ii, ↓dCmp_ii, ↓dCmp_ss, ↓dCmpI_ii, ↓dLen_str, ↓dLen_lst, ↓dLen_tup, ↓dSl_str, ↓dSl_tup, ↓dSl_lst, ↓dRevT_tup, ↓dListX_tup, ↓dListX_lst, ↓dTuple_lst, ↓dNeg_int, ↓dPow_ii, ↓dItems_lst, ↓dItems_tup, ↓pick_1, ↓dIs_non_int, ↓dIs_non_bool, ↓dIs_non_str, ↓dIs_non_list, ↓dIs_non_tuple, ↓dIs_non_dict, ↓dIs_non_lt, ↓dIs_bl_int, ↓dIs_bl_bool, ↓dIs_bl_str, ↓dIs_bl_list, ↓dIs_bl_tuple, ↓dIs_bl_dict, ↓dIs_bl_lt, ↓dIs_int_int, ↓dIs_int_bool, ↓dIs_int_str, ↓dIs_int_list, ↓dIs_int_tuple, ↓dIs_int_dict, ↓dIs_int_lt, ↓dIs_str_int, ↓dIs_str_bool, ↓dIs_str_str, ↓dIs_str_list, ↓dIs_str_tuple, ↓dIs_str_dict, ↓dIs_str_lt, ↓dIs_lst_int, ↓dIs_lst_bool, ↓dIs_lst_str, ↓dIs_lst_list, ↓dIs_lst_tuple, ↓dIs_lst_dict, ↓dIs_lst_lt, ↓dIs_tup_int, ↓dIs_tup_bool, ↓dIs_tup_str, ↓dIs_tup_list, ↓dIs_tup_tuple, ↓dIs_tup_dict, ↓dIs_tup_lt, ↓dIs_dic_int, ↓dIs_dic_bool, ↓dIs_dic_str, ↓dIs_dic_list, ↓dIs_dic_tuple, ↓dIs_dic_dict, ↓dIs_dic_lt, Bool.not_true, Bool.not_false, Bool.false_eq_true, if_true, if_false, eq_self, reduceIte, List.map_cons, List.map_nil, lcD_n, lcD_y, List.nil_append, List.cons_append, List.singleton_append, asO_sh, true_and, ex_int, dIx_f0, dIx_f1]
    refine low_i hq1 (up_pow bq1 (by decide)) ⟨szl, low_i hq2 (up_pow bq2 (by decide)) ⟨szl, low_i hq3 (up_pow bq3 (by decide)) ⟨szl, ?_⟩⟩⟩
    rw [jSeq_r]
    simp only [↓jC_r, ↓jBin_r, ↓jTV_r, ↓jChain_r, ↓jAnd_r, ↓jOr_r, ↓jNot_r, ↓jAndV_r, ↓jOrV_r, ↓jNotV_r, ↓jIf_r, ↓jUn_r, ↓jNil_r, ↓jCons_r, ↓jTup_r, ↓jLst_r, ↓jNext_r, ↓jRet_r, ↓jIfS_r, ↓jDrop_r, ↓jSet_r, ↓jCall_r, ↓jCallKw_r, ↓jCB_r, ↓jSl_r, ↓jNo_r, ↓jPart_r, ↓jT0_r, ↓jT1_r, ↓jSS_r, ↓jLc_r, ↓jFor_r, ↓jSeqI_r, ↓jRange1_r, ↓jRange2_r, ↓jZip_r, ↓jYes_r, ↓jOwn_r, ↓jApp_r, ↓jDic0_r, ↓jDic1_r, ↓jPut_r, ↓jVar_0, ↓jVar_s, ↓gN_r, ↓List.set_cons_zero, ↓List.set_cons_succ, wipeD, ↓onI_int, ↓onB_bl, ↓onD_bl, ↓onN_bl, ↓onS_str, ↓onRef_ref, ↓jFld_r, ↓jFldS_r, ↓jMake_mk, ↓jMeth_r, ↓jOwn2_r, ↓jOwnI_r, ↓jOwnR_r, ↓jIsO_r, ↓jStrO_r, ↓jFmt_r, ↓jJoin_r, ↓onJ_str, ↓jJs_nil, ↓jJs_cons, ↓on2_c, ↓jPar_r, ↓jAsg_r, ↓onO3_s, ↓onSm_s, ↓asO_obj, ↓onTxt_str, ↓onTxt_int, ↓isO_obj, ↓isO_int, ↓onStr_str, ↓gPair_t, ↓gUnlD_l, ↓gTupD_l, ↓setAll_nil, ↓setAll_cons, ↓dGcd_ii, ↓dDiv_ii, ↓dMod_ii, ↓dMul_ii, ↓dAbs_int, ↓dInt_int, ↓dStr_int, ↓dStr_str, ↓dEq_ii, ↓dEq_ss, ↓dEq_bb, ↓dIx_t0, ↓dIx_t1, ↓dIx_t2, ↓dIx_l0, ↓Bool.false_xor, ↓Bool.true_xor, ↓dAdd_ii, ↓dAdd_ss, ↓dAdd_ll, ↓dAdd_tt, ↓dSub_ii, ↓dCmp_ii, ↓dCmp_ss, ↓dCmpI_ii, ↓dLen_str, ↓dLen_lst, ↓dLen_tup, ↓dSl_str, ↓dSl_tup, ↓dSl_lst, ↓dRevT_tup, ↓dListX_tup, ↓dListX_lst, ↓dTuple_lst, ↓dNeg_int, ↓dPow_ii, ↓dItems_lst, ↓dItems_tup, ↓pick_1, ↓dIs_non_int, ↓dIs_non_bool, ↓dIs_non_str, ↓dIs_non_list, ↓dIs_non_tuple, ↓dIs_non_dict, ↓dIs_non_lt, ↓dIs_bl_int, ↓dIs_bl_bool, ↓dIs_bl_str, ↓dIs_bl_list, ↓dIs_bl_tuple, ↓dIs_bl_dict, ↓dIs_bl_lt, ↓dIs_int_int, ↓dIs_int_bool, ↓dIs_int_str, ↓dIs_int_list, ↓dIs_int_tuple, ↓dIs_int_dict, ↓dIs_int_lt, ↓dIs_str_int, ↓dIs_str_bool, ↓dIs_str_str, ↓dIs_str_list, ↓dIs_str_tuple, ↓dIs_str_dict, ↓dIs_str_lt, ↓dIs_lst_int, ↓dIs_lst_bool, ↓dIs_lst_str, ↓dIs_lst_list, ↓dIs_lst_tuple, ↓dIs_lst_dict, ↓dIs_lst_lt, ↓dIs_tup_int, ↓dIs_tup_bool, ↓dIs_tup_str, ↓dIs_tup_list, ↓dIs_tup_tuple, ↓dIs_tup_dict, ↓dIs_tup_lt, ↓dIs_dic_int, ↓dIs_dic_bool, ↓dIs_dic_str, ↓dIs_dic_list, ↓dIs_dic_tuple, ↓dIs_dic_dict, ↓dIs_dic_lt, Bool.not_true, Bool.not_false, Bool.false_eq_true, if_true, if_false, eq_self, reduceIte, List.map_cons, List.map_nil, lcD_n, lcD_y, List.nil_append, List.cons_append, List.singleton_append, asO_sh, true_and, ex_int, dIx_f0, dIx_f1]
    refine mk_i T hq1 (up_pow bp1 (by decide)) (up_pow bq1 (by decide)) ⟨szl, mk_i T hq2 (up_pow bp2 (by decide)) (up_pow bq2 (by decide)) ⟨szl, mk_i T hq3 (up_pow bp3 (by decide)) (up_pow bq3 (by decide)) ⟨szl, ⟨rfl, ?_⟩⟩⟩⟩
    have Z1 := sz_low bp1 hq1 bq1
    have Z2 := sz_low bp2 hq2 bq2
    have Z3 := sz_low bp3 hq3 bq3
    have L1 := low_isLow (p := p1) hq1
    have L2 := low_isLow (p := p2) hq2
    have L3 := low_isLow (p := p3) hq3
    generalize low p1 q1 = x at Z1 L1 ⊢
    generalize low p2 q2 = y at Z2 L2 ⊢
    generalize low p3 q3 = z at Z3 L3 ⊢
    rw [jSeq_r]
    simp only [↓jC_r, ↓jBin_r, ↓jTV_r, ↓jChain_r, ↓jAnd_r, ↓jOr_r, ↓jNot_r, ↓jAndV_r, ↓jOrV_r, ↓jNotV_r, ↓jIf_r, ↓jUn_r, ↓jNil_r, ↓jCons_r, ↓jTup_r, ↓jLst_r, ↓jNext_r, ↓jRet_r, ↓jIfS_r, ↓jDrop_r, ↓jSet_r, ↓jCall_r, ↓jCallKw_r, ↓jCB_r, ↓jSl_r, ↓jNo_r, ↓jPart_r, ↓jT0_r, ↓jT1_r, ↓jSS_r, ↓jLc_r, ↓jFor_r, ↓jSeqI_r, ↓jRange1_r, ↓jRange2_r, ↓jZip_r, ↓jYes_r, ↓jOwn_r, ↓jApp_r, ↓jDic0_r, ↓jDic1_r, ↓jPut_r, ↓jVar_0, ↓jVar_s, ↓gN_r, ↓List.set_cons_zero, ↓List.set_cons_succ, wipeD, ↓onI_int, ↓onB_bl, ↓onD_bl, ↓onN_bl, ↓onS_str, ↓onRef_ref, ↓jFld_r, ↓jFldS_r, ↓jMake_mk, ↓jMeth_r, ↓jOwn2_r, ↓jOwnI_r, ↓jOwnR_r, ↓jIsO_r, ↓jStrO_r, ↓jFmt_r, ↓jJoin_r, ↓onJ_str, ↓jJs_nil, ↓jJs_cons, ↓on2_c, ↓jPar_r, ↓jAsg_r, ↓onO3_s, ↓onSm_s, ↓asO_obj, ↓onTxt_str, ↓onTxt_int, ↓isO_obj, ↓isO_int, ↓onStr_str, ↓gPair_t, ↓gUnlD_l, ↓gTupD_l, ↓setAll_nil, ↓setAll_cons, ↓dGcd_ii, ↓dDiv_ii, ↓dMod_ii, ↓dMul_ii, ↓dAbs_int, ↓dInt_int, ↓dStr_int, ↓dStr_str, ↓dEq_ii, ↓dEq_ss, ↓dEq_bb, ↓dIx_t0, ↓dIx_t1, ↓dIx_t2, ↓dIx_l0, ↓Bool.false_xor, ↓Bool.true_xor, ↓dAdd_ii, ↓dAdd_ss, ↓dAdd_ll, ↓dAdd_tt, ↓dSub_ii, ↓dCmp_ii, ↓dCmp_ss, ↓dCmpI_ii, ↓dLen_str, ↓dLen_lst, ↓dLen_tup, ↓dSl_str, ↓dSl_tup, ↓dSl_lst, ↓dRevT_tup, ↓dListX_tup, ↓dListX_lst, ↓dTuple_lst, ↓dNeg_int, ↓dPow_ii, ↓dItems_lst, ↓dItems_tup, ↓pick_1, ↓dIs_non_int, ↓dIs_non_bool, ↓dIs_non_str, ↓dIs_non_list, ↓dIs_non_tuple, ↓dIs_non_dict, ↓dIs_non_lt, ↓dIs_bl_int, ↓dIs_bl_bool, ↓dIs_bl_str, ↓dIs_bl_list, ↓dIs_bl_tuple, ↓dIs_bl_dict, ↓dIs_bl_lt, ↓dIs_int_int, ↓dIs_int_bool, ↓dIs_int_str, ↓dIs_int_list, ↓dIs_int_tuple, ↓dIs_int_dict, ↓dIs_int_lt, ↓dIs_str_int, ↓dIs_str_bool, ↓dIs_str_str, ↓dIs_str_list, ↓dIs_str_tuple, ↓dIs_str_dict, ↓dIs_str_lt, ↓dIs_lst_int, ↓dIs_lst_bool, ↓dIs_lst_str, ↓dIs_lst_list, ↓dIs_lst_tuple, ↓dIs_lst_dict, ↓dIs_lst_lt, ↓dIs_tup_int, ↓dIs_tup_bool, ↓dIs_tup_str, ↓dIs_tup_list, ↓dIs_tup_tuple, ↓dIs_tup_dict, ↓dIs_tup_lt, ↓dIs_dic_int, ↓dIs_dic_bool, ↓dIs_dic_str, ↓dIs_dic_list, ↓dIs_dic_tuple, ↓dIs_dic_dict, ↓dIs_dic_lt, Bool.not_true, Bool.not_false, Bool.false_eq_true, if_true, if_false, eq_self, reduceIte, List.map_cons, List.map_nil, lcD_n, lcD_y, List.nil_append, List.cons_append, List.singleton_append, asO_sh, true_and, ex_int, dIx_f0, dIx_f1]
    refine ⟨⟨by decide, by decide, by decide⟩, draw_i rfl (by decide) (by decide) fun r r0 r1 => ?_⟩
    simp only [↓jC_r, ↓jBin_r, ↓jTV_r, ↓jChain_r, ↓jAnd_r, ↓jOr_r, ↓jNot_r, ↓jAndV_r, ↓jOrV_r, ↓jNotV_r, ↓jIf_r, ↓jUn_r, ↓jNil_r, ↓jCons_r, ↓jTup_r, ↓jLst_r, ↓jNext_r, ↓jRet_r, ↓jIfS_r, ↓jDrop_r, ↓jSet_r, ↓jCall_r, ↓jCallKw_r, ↓jCB_r, ↓jSl_r, ↓jNo_r, ↓jPart_r, ↓jT0_r, ↓jT1_r, ↓jSS_r, ↓jLc_r, ↓jFor_r, ↓jSeqI_r, ↓jRange1_r, ↓jRange2_r, ↓jZip_r, ↓jYes_r, ↓jOwn_r, ↓jApp_r, ↓jDic0_r, ↓jDic1_r, ↓jPut_r, ↓jVar_0, ↓jVar_s, ↓gN_r, ↓List.set_cons_zero, ↓List.set_cons_succ, wipeD, ↓onI_int, ↓onB_bl, ↓onD_bl, ↓onN_bl, ↓onS_str, ↓onRef_ref, ↓jFld_r, ↓jFldS_r, ↓jMake_mk, ↓jMeth_r, ↓jOwn2_r, ↓jOwnI_r, ↓jOwnR_r, ↓jIsO_r, ↓jStrO_r, ↓jFmt_r, ↓jJoin_r, ↓onJ_str, ↓jJs_nil, ↓jJs_cons, ↓on2_c, ↓jPar_r, ↓jAsg_r, ↓onO3_s, ↓onSm_s, ↓asO_obj, ↓onTxt_str, ↓onTxt_int, ↓isO_obj, ↓isO_int, ↓onStr_str, ↓gPair_t, ↓gUnlD_l, ↓gTupD_l, ↓setAll_nil, ↓setAll_cons, ↓dGcd_ii, ↓dDiv_ii, ↓dMod_ii, ↓dMul_ii, ↓dAbs_int, ↓dInt_int, ↓dStr_int, ↓dStr_str, ↓dEq_ii, ↓dEq_ss, ↓dEq_bb, ↓dIx_t0, ↓dIx_t1, ↓dIx_t2, ↓dIx_l0, ↓Bool.false_xor, ↓Bool.true_xor, ↓dAdd_ii, ↓dAdd_ss, ↓dAdd_ll, ↓dAdd_tt, ↓dSub_ii, ↓dCmp_ii, ↓dCmp_ss, ↓dCmpI_ii, ↓dLen_str, ↓dLen_lst, ↓dLen_tup, ↓dSl_str, ↓dSl_tup, ↓dSl_lst, ↓dRevT_tup, ↓dListX_tup, ↓dListX_lst, ↓dTuple_lst, ↓dNeg_int, ↓dPow_ii, ↓dItems_lst, ↓dItems_tup, ↓pick_1, ↓dIs_non_int, ↓dIs_non_bool, ↓dIs_non_str, ↓dIs_non_list, ↓dIs_non_tuple, ↓dIs_non_dict, ↓dIs_non_lt, ↓dIs_bl_int, ↓dIs_bl_bool, ↓dIs_bl_str, ↓dIs_bl_list, ↓dIs_bl_tuple, ↓dIs_bl_dict, ↓dIs_bl_lt, ↓dIs_int_int, ↓dIs_int_bool, ↓dIs_int_str, ↓dIs_int_list, ↓dIs_int_tuple, ↓dIs_int_dict, ↓dIs_int_lt, ↓dIs_str_int, ↓dIs_str_bool, ↓dIs_str_str, ↓dIs_str_list, ↓dIs_str_tuple, ↓dIs_str_dict, ↓dIs_str_lt, ↓dIs_lst_int, ↓dIs_lst_bool, ↓dIs_lst_str, ↓dIs_lst_list, ↓dIs_lst_tuple, ↓dIs_lst_dict, ↓dIs_lst_lt, ↓dIs_tup_int, ↓dIs_tup_bool, ↓dIs_tup_str, ↓dIs_tup_list, ↓dIs_tup_tuple, ↓dIs_tup_dict, ↓dIs_tup_lt, ↓dIs_dic_int, ↓dIs_dic_bool, ↓dIs_dic_str, ↓dIs_dic_list, ↓dIs_dic_tuple, ↓dIs_dic_dict, ↓dIs_dic_lt, Bool.not_true, Bool.not_false, Bool.false_eq_true, if_true, if_false, eq_self, reduceIte, List.map_cons, List.map_nil, lcD_n, lcD_y, List.nil_append, List.cons_append, List.singleton_append, asO_sh, true_and, ex_int, dIx_f0, dIx_f1]
    have r1 : r < 1000000 := r1
    refine ⟨szl, pick_p (p := fun d => match d with | .int i => decide (-500001 < i) && decide (i < 500001) | _ => false) rfl (by simp; omega) (h := fun d2 hd2 => ?_)⟩
    obtain ⟨n, rfl⟩ : ∃ i, d2 = .int i := by cases d2 <;> first | exact ⟨_, rfl⟩ | cases hd2
    have hd2 : -500001 < n ∧ n < 500001 := by simpa using hd2
    have hn : n.natAbs < 2 ^ 20 := by omega
    have hn' : n.natAbs < 2 ^ 2000 := up_pow hn (by decide)
    have Sx : Sh x := Z1.mono (by decide)
    have Sy : Sh y := Z2.mono (by decide)
    have Sz' : Sh z := Z3.mono (by decide)
    rw [jSeq_r]
    simp only [↓jC_r, ↓jBin_r, ↓jTV_r, ↓jChain_r, ↓jAnd_r, ↓jOr_r, ↓jNot_r, ↓jAndV_r, ↓jOrV_r, ↓jNotV_r, ↓jIf_r, ↓jUn_r, ↓jNil_r, ↓jCons_r, ↓jTup_r, ↓jLst_r, ↓jNext_r, ↓jRet_r, ↓jIfS_r, ↓jDrop_r, ↓jSet_r, ↓jCall_r, ↓jCallKw_r, ↓jCB_r, ↓jSl_r, ↓jNo_r, ↓jPart_r, ↓jT0_r, ↓jT1_r, ↓jSS_r, ↓jLc_r, ↓jFor_r, ↓jSeqI_r, ↓jRange1_r, ↓jRange2_r, ↓jZip_r, ↓jYes_r, ↓jOwn_r, ↓jApp_r, ↓jDic0_r, ↓jDic1_r, ↓jPut_r, ↓jVar_0, ↓jVar_s, ↓gN_r, ↓List.set_cons_zero, ↓List.set_cons_succ, wipeD, ↓onI_int, ↓onB_bl, ↓onD_bl, ↓onN_bl, ↓onS_str, ↓onRef_ref, ↓jFld_r, ↓jFldS_r, ↓jMake_mk, ↓jMeth_r, ↓jOwn2_r, ↓jOwnI_r, ↓jOwnR_r, ↓jIsO_r, ↓jStrO_r, ↓jFmt_r, ↓jJoin_r, ↓onJ_str, ↓jJs_nil, ↓jJs_cons, ↓on2_c, ↓jPar_r, ↓jAsg_r, ↓onO3_s, ↓onSm_s, ↓asO_obj, ↓onTxt_str, ↓onTxt_int, ↓isO_obj, ↓isO_int, ↓onStr_str, ↓gPair_t, ↓gUnlD_l, ↓gTupD_l, ↓setAll_nil, ↓setAll_cons, ↓dGcd_ii, ↓dDiv_ii, ↓dMod_ii, ↓dMul_ii, ↓dAbs_int, ↓dInt_int, ↓dStr_int, ↓dStr_str, ↓dEq_ii, ↓dEq_ss, ↓dEq_bb, ↓dIx_t0, ↓dIx_t1, ↓dIx_t2, ↓dIx_l0, ↓Bool.false_xor, ↓Bool.true_xor, ↓dAdd_ii, ↓dAdd_ss, ↓dAdd_ll, ↓dAdd_tt, ↓dSub_ii, ↓dCmp_ii, ↓dCmp_ss, ↓dCmpI_ii, ↓dLen_str, ↓dLen_lst, ↓dLen_tup, ↓dSl_str, ↓dSl_tup, ↓dSl_lst, ↓dRevT_tup, ↓dListX_tup, ↓dListX_lst, ↓dTuple_lst, ↓dNeg_int, ↓dPow_ii, ↓dItems_lst, ↓dItems_tup, ↓pick_1, ↓dIs_non_int, ↓dIs_non_bool, ↓dIs_non_str, ↓dIs_non_list, ↓dIs_non_tuple, ↓dIs_non_dict, ↓dIs_non_lt, ↓dIs_bl_int, ↓dIs_bl_bool, ↓dIs_bl_str, ↓dIs_bl_list, ↓dIs_bl_tuple, ↓dIs_bl_dict, ↓dIs_bl_lt, ↓dIs_int_int, ↓dIs_int_bool, ↓dIs_int_str, ↓dIs_int_list, ↓dIs_int_tuple, ↓dIs_int_dict, ↓dIs_int_lt, ↓dIs_str_int, ↓dIs_str_bool, ↓dIs_str_str, ↓dIs_str_list, ↓dIs_str_tuple, ↓dIs_str_dict, ↓dIs_str_lt, ↓dIs_lst_int, ↓dIs_lst_bool, ↓dIs_lst_str, ↓dIs_lst_list, ↓dIs_lst_tuple, ↓dIs_lst_dict, ↓dIs_lst_lt, ↓dIs_tup_int, ↓dIs_tup_bool, ↓dIs_tup_str, ↓dIs_tup_list, ↓dIs_tup_tuple, ↓dIs_tup_dict, ↓dIs_tup_lt, ↓dIs_dic_int, ↓dIs_dic_bool, ↓dIs_dic_str, ↓dIs_dic_list, ↓dIs_dic_tuple, ↓dIs_dic_dict, ↓dIs_dic_lt, Bool.not_true, Bool.not_false, Bool.false_eq_true, if_true, if_false, eq_self, reduceIte, List.map_cons, List.map_nil, lcD_n, lcD_y, List.nil_append, List.cons_append, List.singleton_append, asO_sh, true_and, ex_int, dIx_f0, dIx_f1]
    have t0 : Sh (addF x y) := (sz_add Z1 Z2).mono (by decide)
    have t1 : Sh (subF x y) := (sz_sub Z1 Z2).mono (by decide)
    have t2 : Sh (addF y z) := (sz_add Z2 Z3).mono (by decide)
    have t3 : Sh (mulF x y) := (sz_mul Z1 Z2).mono (by decide)
    have t4 : Sh (mulF y z) := (sz_mul Z2 Z3).mono (by decide)
    have t5 : Sh (mulF x z) := (sz_mul Z1 Z3).mono (by decide)
    have t6 : Sh (scF x n) := (sz_sc Z1 hn).mono (by decide)
    have t7 : Sh (scF y n) := (sz_sc Z2 hn).mono (by decide)
    have u0 : Sz 137 (addF (addF x y) z) := sz_add (sz_add Z1 Z2) Z3
    have t8 : Sh (addF (addF x y) z) := u0.mono (by decide)
    have z0 : (0 : Int).natAbs < 2 ^ 2000 := by decide
    repeat (first | refine op_i (by first | assumption | decide) (by first | assumption | decide) ?_ | refine mul_i (by first | assumption | decide) (by first | assumption | decide) ?_ | refine muln_i (by first | assumption | decide) (by first | assumption | decide) ?_ | refine rmul_i (by first | assumption | decide) (by first | assumption | decide) ?_ | refine plus_i (by first | assumption | decide) (by first | assumption | decide) (by decide) ?_ | refine eq_i ?_ | refine str_i (by first | assumption | decide) ?_ | refine text_i (by first | assumption | decide) ?_ | refine pair_i ?_ | refine less_i (by first | assumption | decide) (by first | assumption | decide) ?_ | refine ⟨szl, ?_⟩ | refine ⟨⟨_, rfl⟩, ?_⟩ | simp only [asO_sh, onO3_s, true_and, ex_int, eq_self, onStr_str])
    rw [jSeq_r]
    simp only [↓jC_r, ↓jBin_r, ↓jTV_r, ↓jChain_r, ↓jAnd_r, ↓jOr_r, ↓jNot_r, ↓jAndV_r, ↓jOrV_r, ↓jNotV_r, ↓jIf_r, ↓jUn_r, ↓jNil_r, ↓jCons_r, ↓jTup_r, ↓jLst_r, ↓jNext_r, ↓jRet_r, ↓jIfS_r, ↓jDrop_r, ↓jSet_r, ↓jCall_r, ↓jCallKw_r, ↓jCB_r, ↓jSl_r, ↓jNo_r, ↓jPart_r, ↓jT0_r, ↓jT1_r, ↓jSS_r, ↓jLc_r, ↓jFor_r, ↓jSeqI_r, ↓jRange1_r, ↓jRange2_r, ↓jZip_r, ↓jYes_r, ↓jOwn_r, ↓jApp_r, ↓jDic0_r, ↓jDic1_r, ↓jPut_r, ↓jVar_0, ↓jVar_s, ↓gN_r, ↓List.set_cons_zero, ↓List.set_cons_succ, wipeD, ↓onI_int, ↓onB_bl, ↓onD_bl, ↓onN_bl, ↓onS_str, ↓onRef_ref, ↓jFld_r, ↓jFldS_r, ↓jMake_mk, ↓jMeth_r, ↓jOwn2_r, ↓jOwnI_r, ↓jOwnR_r, ↓jIsO_r, ↓jStrO_r, ↓jFmt_r, ↓jJoin_r, ↓onJ_str, ↓jJs_nil, ↓jJs_cons, ↓on2_c, ↓jPar_r, ↓jAsg_r, ↓onO3_s, ↓onSm_s, ↓asO_obj, ↓onTxt_str, ↓onTxt_int, ↓isO_obj, ↓isO_int, ↓onStr_str, ↓gPair_t, ↓gUnlD_l, ↓gTupD_l, ↓setAll_nil, ↓setAll_cons, ↓dGcd_ii, ↓dDiv_ii, ↓dMod_ii, ↓dMul_ii, ↓dAbs_int, ↓dInt_int, ↓dStr_int, ↓dStr_str, ↓dEq_ii, ↓dEq_ss, ↓dEq_bb, ↓dIx_t0, ↓dIx_t1, ↓dIx_t2, ↓dIx_l0, ↓Bool.false_xor, ↓Bool.true_xor, ↓dAdd_ii, ↓dAdd_ss, ↓dAdd_ll, ↓dAdd_tt, ↓dSub_ii, ↓dCmp_ii, ↓dCmp_ss, ↓dCmpI_ii, ↓dLen_str, ↓dLen_lst, ↓dLen_tup, ↓dSl_str, ↓dSl_tup, ↓dSl_lst, ↓dRevT_tup, ↓dListX_tup, ↓dListX_lst, ↓dTuple_lst, ↓dNeg_int, ↓dPow_ii, ↓dItems_lst, ↓dItems_tup, ↓pick_1, ↓dIs_non_int, ↓dIs_non_bool, ↓dIs_non_str, ↓dIs_non_list, ↓dIs_non_tuple, ↓dIs_non_dict, ↓dIs_non_lt, ↓dIs_bl_int, ↓dIs_bl_bool, ↓dIs_bl_str, ↓dIs_bl_list, ↓dIs_bl_tuple, ↓dIs_bl_dict, ↓dIs_bl_lt, ↓dIs_int_int, ↓dIs_int_bool, ↓dIs_int_str, ↓dIs_int_list, ↓dIs_int_tuple, ↓dIs_int_dict, ↓dIs_int_lt, ↓dIs_str_int, ↓dIs_str_bool, ↓dIs_str_str, ↓dIs_str_list, ↓dIs_str_tuple, ↓dIs_str_dict, ↓dIs_str_lt, ↓dIs_lst_int, ↓dIs_lst_bool, ↓dIs_lst_str, ↓dIs_lst_list, ↓dIs_lst_tuple, ↓dIs_lst_dict, ↓dIs_lst_lt, ↓dIs_tup_int, ↓dIs_tup_bool, ↓dIs_tup_str, ↓dIs_tup_list, ↓dIs_tup_tuple, ↓dIs_tup_dict, ↓dIs_tup_lt, ↓dIs_dic_int, ↓dIs_dic_bool, ↓dIs_dic_str, ↓dIs_dic_list, ↓dIs_dic_tuple, ↓dIs_dic_dict, ↓dIs_dic_lt, Bool.not_true, Bool.not_false, Bool.false_eq_true, if_true, if_false, eq_self, reduceIte, List.map_cons, List.map_nil, lcD_n, lcD_y, List.nil_append, List.cons_append, List.singleton_append, asO_sh, true_and, ex_int, dIx_f0, dIx_f1]
    refine ⟨rfl, ?_⟩
    rw [jSeq_r]
    simp only [↓jC_r, ↓jBin_r, ↓jTV_r, ↓jChain_r, ↓jAnd_r, ↓jOr_r, ↓jNot_r, ↓jAndV_r, ↓jOrV_r, ↓jNotV_r, ↓jIf_r, ↓jUn_r, ↓jNil_r, ↓jCons_r, ↓jTup_r, ↓jLst_r, ↓jNext_r, ↓jRet_r, ↓jIfS_r, ↓jDrop_r, ↓jSet_r, ↓jCall_r, ↓jCallKw_r, ↓jCB_r, ↓jSl_r, ↓jNo_r, ↓jPart_r, ↓jT0_r, ↓jT1_r, ↓jSS_r, ↓jLc_r, ↓jFor_r, ↓jSeqI_r, ↓jRange1_r, ↓jRange2_r, ↓jZip_r, ↓jYes_r, ↓jOwn_r, ↓jApp_r, ↓jDic0_r, ↓jDic1_r, ↓jPut_r, ↓jVar_0, ↓jVar_s, ↓gN_r, ↓List.set_cons_zero, ↓List.set_cons_succ, wipeD, ↓onI_int, ↓onB_bl, ↓onD_bl, ↓onN_bl, ↓onS_str, ↓onRef_ref, ↓jFld_r, ↓jFldS_r, ↓jMake_mk, ↓jMeth_r, ↓jOwn2_r, ↓jOwnI_r, ↓jOwnR_r, ↓jIsO_r, ↓jStrO_r, ↓jFmt_r, ↓jJoin_r, ↓onJ_str, ↓jJs_nil, ↓jJs_cons, ↓on2_c, ↓jPar_r, ↓jAsg_r, ↓onO3_s, ↓onSm_s, ↓asO_obj, ↓onTxt_str, ↓onTxt_int, ↓isO_obj, ↓isO_int, ↓onStr_str, ↓gPair_t, ↓gUnlD_l, ↓gTupD_l, ↓setAll_nil, ↓setAll_cons, ↓dGcd_ii, ↓dDiv_ii, ↓dMod_ii, ↓dMul_ii, ↓dAbs_int, ↓dInt_int, ↓dStr_int, ↓dStr_str, ↓dEq_ii, ↓dEq_ss, ↓dEq_bb, ↓dIx_t0, ↓dIx_t1, ↓dIx_t2, ↓dIx_l0, ↓Bool.false_xor, ↓Bool.true_xor, ↓dAdd_ii, ↓dAdd_ss, ↓dAdd_ll, ↓dAdd_tt, ↓dSub_ii, ↓dCmp_ii, ↓dCmp_ss, ↓dCmpI_ii, ↓dLen_str, ↓dLen_lst, ↓dLen_tup, ↓dSl_str, ↓dSl_tup, ↓dSl_lst, ↓dRevT_tup, ↓dListX_tup, ↓dListX_lst, ↓dTuple_lst, ↓dNeg_int, ↓dPow_ii, ↓dItems_lst, ↓dItems_tup, ↓pick_1, ↓dIs_non_int, ↓dIs_non_bool, ↓dIs_non_str, ↓dIs_non_list, ↓dIs_non_tuple, ↓dIs_non_dict, ↓dIs_non_lt, ↓dIs_bl_int, ↓dIs_bl_bool, ↓dIs_bl_str, ↓dIs_bl_list, ↓dIs_bl_tuple, ↓dIs_bl_dict, ↓dIs_bl_lt, ↓dIs_int_int, ↓dIs_int_bool, ↓dIs_int_str, ↓dIs_int_list, ↓dIs_int_tuple, ↓dIs_int_dict, ↓dIs_int_lt, ↓dIs_str_int, ↓dIs_str_bool, ↓dIs_str_str, ↓dIs_str_list, ↓dIs_str_tuple, ↓dIs_str_dict, ↓dIs_str_lt, ↓dIs_lst_int, ↓dIs_lst_bool, ↓dIs_lst_str, ↓dIs_lst_list, ↓dIs_lst_tuple, ↓dIs_lst_dict, ↓dIs_lst_lt, ↓dIs_tup_int, ↓dIs_tup_bool, ↓dIs_tup_str, ↓dIs_tup_list, ↓dIs_tup_tuple, ↓dIs_tup_dict, ↓dIs_tup_lt, ↓dIs_dic_int, ↓dIs_dic_bool, ↓dIs_dic_str, ↓dIs_dic_list, ↓dIs_dic_tuple, ↓dIs_dic_dict, ↓dIs_dic_lt, Bool.not_true, Bool.not_false, Bool.false_eq_true, if_true, if_false, eq_self, reduceIte, List.map_cons, List.map_nil, lcD_n, lcD_y, List.nil_append, List.cons_append, List.singleton_append, asO_sh, true_and, ex_int, dIx_f0, dIx_f1]
    refine ⟨mulW Sx.l Sy.l, mulW Sx.b Sy.b, low_i (pos2 L1 L2) (up_pow (mul_lt_pow Z1.b Z2.b) (by decide)) ⟨mulW hn Z1.l, low_i Z1.s (up_pow Z1.b (by decide)) ?_⟩⟩
    rw [jSeq_r]
    simp only [↓jC_r, ↓jBin_r, ↓jTV_r, ↓jChain_r, ↓jAnd_r, ↓jOr_r, ↓jNot_r, ↓jAndV_r, ↓jOrV_r, ↓jNotV_r, ↓jIf_r, ↓jUn_r, ↓jNil_r, ↓jCons_r, ↓jTup_r, ↓jLst_r, ↓jNext_r, ↓jRet_r, ↓jIfS_r, ↓jDrop_r, ↓jSet_r, ↓jCall_r, ↓jCallKw_r, ↓jCB_r, ↓jSl_r, ↓jNo_r, ↓jPart_r, ↓jT0_r, ↓jT1_r, ↓jSS_r, ↓jLc_r, ↓jFor_r, ↓jSeqI_r, ↓jRange1_r, ↓jRange2_r, ↓jZip_r, ↓jYes_r, ↓jOwn_r, ↓jApp_r, ↓jDic0_r, ↓jDic1_r, ↓jPut_r, ↓jVar_0, ↓jVar_s, ↓gN_r, ↓List.set_cons_zero, ↓List.set_cons_succ, wipeD, ↓onI_int, ↓onB_bl, ↓onD_bl, ↓onN_bl, ↓onS_str, ↓onRef_ref, ↓jFld_r, ↓jFldS_r, ↓jMake_mk, ↓jMeth_r, ↓jOwn2_r, ↓jOwnI_r, ↓jOwnR_r, ↓jIsO_r, ↓jStrO_r, ↓jFmt_r, ↓jJoin_r, ↓onJ_str, ↓jJs_nil, ↓jJs_cons, ↓on2_c, ↓jPar_r, ↓jAsg_r, ↓onO3_s, ↓onSm_s, ↓asO_obj, ↓onTxt_str, ↓onTxt_int, ↓isO_obj, ↓isO_int, ↓onStr_str, ↓gPair_t, ↓gUnlD_l, ↓gTupD_l, ↓setAll_nil, ↓setAll_cons, ↓dGcd_ii, ↓dDiv_ii, ↓dMod_ii, ↓dMul_ii, ↓dAbs_int, ↓dInt_int, ↓dStr_int, ↓dStr_str, ↓dEq_ii, ↓dEq_ss, ↓dEq_bb, ↓dIx_t0, ↓dIx_t1, ↓dIx_t2, ↓dIx_l0, ↓Bool.false_xor, ↓Bool.true_xor, ↓dAdd_ii, ↓dAdd_ss, ↓dAdd_ll, ↓dAdd_tt, ↓dSub_ii, ↓dCmp_ii, ↓dCmp_ss, ↓dCmpI_ii, ↓dLen_str, ↓dLen_lst, ↓dLen_tup, ↓dSl_str, ↓dSl_tup, ↓dSl_lst, ↓dRevT_tup, ↓dListX_tup, ↓dListX_lst, ↓dTuple_lst, ↓dNeg_int, ↓dPow_ii, ↓dItems_lst, ↓dItems_tup, ↓pick_1, ↓dIs_non_int, ↓dIs_non_bool, ↓dIs_non_str, ↓dIs_non_list, ↓dIs_non_tuple, ↓dIs_non_dict, ↓dIs_non_lt, ↓dIs_bl_int, ↓dIs_bl_bool, ↓dIs_bl_str, ↓dIs_bl_list, ↓dIs_bl_tuple, ↓dIs_bl_dict, ↓dIs_bl_lt, ↓dIs_int_int, ↓dIs_int_bool, ↓dIs_int_str, ↓dIs_int_list, ↓dIs_int_tuple, ↓dIs_int_dict, ↓dIs_int_lt, ↓dIs_str_int, ↓dIs_str_bool, ↓dIs_str_str, ↓dIs_str_list, ↓dIs_str_tuple, ↓dIs_str_dict, ↓dIs_str_lt, ↓dIs_lst_int, ↓dIs_lst_bool, ↓dIs_lst_str, ↓dIs_lst_list, ↓dIs_lst_tuple, ↓dIs_lst_dict, ↓dIs_lst_lt, ↓dIs_tup_int, ↓dIs_tup_bool, ↓dIs_tup_str, ↓dIs_tup_list, ↓dIs_tup_tuple, ↓dIs_tup_dict, ↓dIs_tup_lt, ↓dIs_dic_int, ↓dIs_dic_bool, ↓dIs_dic_str, ↓dIs_dic_list, ↓dIs_dic_tuple, ↓dIs_dic_dict, ↓dIs_dic_lt, Bool.not_true, Bool.not_false, Bool.false_eq_true, if_true, if_false, eq_self, reduceIte, List.map_cons, List.map_nil, lcD_n, lcD_y, List.nil_append, List.cons_append, List.singleton_append, asO_sh, true_and, ex_int, dIx_f0, dIx_f1]
    repeat (first | refine op_i (by first | assumption | decide) (by first | assumption | decide) ?_ | refine mul_i (by first | assumption | decide) (by first | assumption | decide) ?_ | refine muln_i (by first | assumption | decide) (by first | assumption | decide) ?_ | refine rmul_i (by first | assumption | decide) (by first | assumption | decide) ?_ | refine plus_i (by first | assumption | decide) (by first | assumption | decide) (by decide) ?_ | refine eq_i ?_ | refine str_i (by first | assumption | decide) ?_ | refine text_i (by first | assumption | decide) ?_ | refine pair_i ?_ | refine less_i (by first | assumption | decide) (by first | assumption | decide) ?_ | refine ⟨szl, ?_⟩ | refine ⟨⟨_, rfl⟩, ?_⟩ | simp only [asO_sh, onO3_s, true_and, ex_int, eq_self, onStr_str])
    rw [jSeq_r]
    simp only [↓jC_r, ↓jBin_r, ↓jTV_r, ↓jChain_r, ↓jAnd_r, ↓jOr_r, ↓jNot_r, ↓jAndV_r, ↓jOrV_r, ↓jNotV_r, ↓jIf_r, ↓jUn_r, ↓jNil_r, ↓jCons_r, ↓jTup_r, ↓jLst_r, ↓jNext_r, ↓jRet_r, ↓jIfS_r, ↓jDrop_r, ↓jSet_r, ↓jCall_r, ↓jCallKw_r, ↓jCB_r, ↓jSl_r, ↓jNo_r, ↓jPart_r, ↓jT0_r, ↓jT1_r, ↓jSS_r, ↓jLc_r, ↓jFor_r, ↓jSeqI_r, ↓jRange1_r, ↓jRange2_r, ↓jZip_r, ↓jYes_r, ↓jOwn_r, ↓jApp_r, ↓jDic0_r, ↓jDic1_r, ↓jPut_r, ↓jVar_0, ↓jVar_s, ↓gN_r, ↓List.set_cons_zero, ↓List.set_cons_succ, wipeD, ↓onI_int, ↓onB_bl, ↓onD_bl, ↓onN_bl, ↓onS_str, ↓onRef_ref, ↓jFld_r, ↓jFldS_r, ↓jMake_mk, ↓jMeth_r, ↓jOwn2_r, ↓jOwnI_r, ↓jOwnR_r, ↓jIsO_r, ↓jStrO_r, ↓jFmt_r, ↓jJoin_r, ↓onJ_str, ↓jJs_nil, ↓jJs_cons, ↓on2_c, ↓jPar_r, ↓jAsg_r, ↓onO3_s, ↓onSm_s, ↓asO_obj, ↓onTxt_str, ↓onTxt_int, ↓isO_obj, ↓isO_int, ↓onStr_str, ↓gPair_t, ↓gUnlD_l, ↓gTupD_l, ↓setAll_nil, ↓setAll_cons, ↓dGcd_ii, ↓dDiv_ii, ↓dMod_ii, ↓dMul_ii, ↓dAbs_int, ↓dInt_int, ↓dStr_int, ↓dStr_str, ↓dEq_ii, ↓dEq_ss, ↓dEq_bb, ↓dIx_t0, ↓dIx_t1, ↓dIx_t2, ↓dIx_l0, ↓Bool.false_xor, ↓Bool.true_xor, ↓dAdd_ii, ↓dAdd_ss, ↓dAdd_ll, ↓dAdd_tt, ↓dSub_ii, ↓dCmp_ii, ↓dCmp_ss, ↓dCmpI_ii, ↓dLen_str, ↓dLen_lst, ↓dLen_tup, ↓dSl_str, ↓dSl_tup, ↓dSl_lst, ↓dRevT_tup, ↓dListX_tup, ↓dListX_lst, ↓dTuple_lst, ↓dNeg_int, ↓dPow_ii, ↓dItems_lst, ↓dItems_tup, ↓pick_1, ↓dIs_non_int, ↓dIs_non_bool, ↓dIs_non_str, ↓dIs_non_list, ↓dIs_non_tuple, ↓dIs_non_dict, ↓dIs_non_lt, ↓dIs_bl_int, ↓dIs_bl_bool, ↓dIs_bl_str, ↓dIs_bl_list, ↓dIs_bl_tuple, ↓dIs_bl_dict, ↓dIs_bl_lt, ↓dIs_int_int, ↓dIs_int_bool, ↓dIs_int_str, ↓dIs_int_list, ↓dIs_int_tuple, ↓dIs_int_dict, ↓dIs_int_lt, ↓dIs_str_int, ↓dIs_str_bool, ↓dIs_str_str, ↓dIs_str_list, ↓dIs_str_tuple, ↓dIs_str_dict, ↓dIs_str_lt, ↓dIs_lst_int, ↓dIs_lst_bool, ↓dIs_lst_str, ↓dIs_lst_list, ↓dIs_lst_tuple, ↓dIs_lst_dict, ↓dIs_lst_lt, ↓dIs_tup_int, ↓dIs_tup_bool, ↓dIs_tup_str, ↓dIs_tup_list, ↓dIs_tup_tuple, ↓dIs_tup_dict, ↓dIs_tup_lt, ↓dIs_dic_int, ↓dIs_dic_bool, ↓dIs_dic_str, ↓dIs_dic_list, ↓dIs_dic_tuple, ↓dIs_dic_dict, ↓dIs_dic_lt, Bool.not_true, Bool.not_false, Bool.false_eq_true, if_true, if_false, eq_self, reduceIte, List.map_cons, List.map_nil, lcD_n, lcD_y, List.nil_append, List.cons_append, List.singleton_append, asO_sh, true_and, ex_int, dIx_f0, dIx_f1]
    repeat (first | refine op_i (by first | assumption | decide) (by first | assumption | decide) ?_ | refine mul_i (by first | assumption | decide) (by first | assumption | decide) ?_ | refine muln_i (by first | assumption | decide) (by first | assumption | decide) ?_ | refine rmul_i (by first | assumption | decide) (by first | assumption | decide) ?_ | refine plus_i (by first | assumption | decide) (by first | assumption | decide) (by decide) ?_ | refine eq_i ?_ | refine str_i (by first | assumption | decide) ?_ | refine text_i (by first | assumption | decide) ?_ | refine pair_i ?_ | refine less_i (by first | assumption | decide) (by first | assumption | decide) ?_ | refine ⟨szl, ?_⟩ | refine ⟨⟨_, rfl⟩, ?_⟩ | simp only [asO_sh, onO3_s, true_and, ex_int, eq_self, onStr_str])
    refine same_if (by rw [plus_1, plus_m, plus_1, plus_m, times_c, sub_selfF L1, sc_0 L1, mul_commF (x := y)]; rfl) rfl ?_
    rw [jSeq_r]
    simp only [↓jC_r, ↓jBin_r, ↓jTV_r, ↓jChain_r, ↓jAnd_r, ↓jOr_r, ↓jNot_r, ↓jAndV_r, ↓jOrV_r, ↓jNotV_r, ↓jIf_r, ↓jUn_r, ↓jNil_r, ↓jCons_r, ↓jTup_r, ↓jLst_r, ↓jNext_r, ↓jRet_r, ↓jIfS_r, ↓jDrop_r, ↓jSet_r, ↓jCall_r, ↓jCallKw_r, ↓jCB_r, ↓jSl_r, ↓jNo_r, ↓jPart_r, ↓jT0_r, ↓jT1_r, ↓jSS_r, ↓jLc_r, ↓jFor_r, ↓jSeqI_r, ↓jRange1_r, ↓jRange2_r, ↓jZip_r, ↓jYes_r, ↓jOwn_r, ↓jApp_r, ↓jDic0_r, ↓jDic1_r, ↓jPut_r, ↓jVar_0, ↓jVar_s, ↓gN_r, ↓List.set_cons_zero, ↓List.set_cons_succ, wipeD, ↓onI_int, ↓onB_bl, ↓onD_bl, ↓onN_bl, ↓onS_str, ↓onRef_ref, ↓jFld_r, ↓jFldS_r, ↓jMake_mk, ↓jMeth_r, ↓jOwn2_r, ↓jOwnI_r, ↓jOwnR_r, ↓jIsO_r, ↓jStrO_r, ↓jFmt_r, ↓jJoin_r, ↓onJ_str, ↓jJs_nil, ↓jJs_cons, ↓on2_c, ↓jPar_r, ↓jAsg_r, ↓onO3_s, ↓onSm_s, ↓asO_obj, ↓onTxt_str, ↓onTxt_int, ↓isO_obj, ↓isO_int, ↓onStr_str, ↓gPair_t, ↓gUnlD_l, ↓gTupD_l, ↓setAll_nil, ↓setAll_cons, ↓dGcd_ii, ↓dDiv_ii, ↓dMod_ii, ↓dMul_ii, ↓dAbs_int, ↓dInt_int, ↓dStr_int, ↓dStr_str, ↓dEq_ii, ↓dEq_ss, ↓dEq_bb, ↓dIx_t0, ↓dIx_t1, ↓dIx_t2, ↓dIx_l0, ↓Bool.false_xor, ↓Bool.true_xor, ↓dAdd_ii, ↓dAdd_ss, ↓dAdd_ll, ↓dAdd_tt, ↓dSub_ii, ↓dCmp_ii, ↓dCmp_ss, ↓dCmpI_ii, ↓dLen_str, ↓dLen_lst, ↓dLen_tup, ↓dSl_str, ↓dSl_tup, ↓dSl_lst, ↓dRevT_tup, ↓dListX_tup, ↓dListX_lst, ↓dTuple_lst, ↓dNeg_int, ↓dPow_ii, ↓dItems_lst, ↓dItems_tup, ↓pick_1, ↓dIs_non_int, ↓dIs_non_bool, ↓dIs_non_str, ↓dIs_non_list, ↓dIs_non_tuple, ↓dIs_non_dict, ↓dIs_non_lt, ↓dIs_bl_int, ↓dIs_bl_bool, ↓dIs_bl_str, ↓dIs_bl_list, ↓dIs_bl_tuple, ↓dIs_bl_dict, ↓dIs_bl_lt, ↓dIs_int_int, ↓dIs_int_bool, ↓dIs_int_str, ↓dIs_int_list, ↓dIs_int_tuple, ↓dIs_int_dict, ↓dIs_int_lt, ↓dIs_str_int, ↓dIs_str_bool, ↓dIs_str_str, ↓dIs_str_list, ↓dIs_str_tuple, ↓dIs_str_dict, ↓dIs_str_lt, ↓dIs_lst_int, ↓dIs_lst_bool, ↓dIs_lst_str, ↓dIs_lst_list, ↓dIs_lst_tuple, ↓dIs_lst_dict, ↓dIs_lst_lt, ↓dIs_tup_int, ↓dIs_tup_bool, ↓dIs_tup_str, ↓dIs_tup_list, ↓dIs_tup_tuple, ↓dIs_tup_dict, ↓dIs_tup_lt, ↓dIs_dic_int, ↓dIs_dic_bool, ↓dIs_dic_str, ↓dIs_dic_list, ↓dIs_dic_tuple, ↓dIs_dic_dict, ↓dIs_dic_lt, Bool.not_true, Bool.not_false, Bool.false_eq_true, if_true, if_false, eq_self, reduceIte, List.map_cons, List.map_nil, lcD_n, lcD_y, List.nil_append, List.cons_append, List.singleton_append, asO_sh, true_and, ex_int, dIx_f0, dIx_f1]
    repeat (first | refine op_i (by first | assumption | decide) (by first | assumption | decide) ?_ | refine mul_i (by first | assumption | decide) (by first | assumption | decide) ?_ | refine muln_i (by first | assumption | decide) (by first | assumption | decide) ?_ | refine rmul_i (by first | assumption | decide) (by first | assumption | decide) ?_ | refine plus_i (by first | assumption | decide) (by first | assumption | decide) (by decide) ?_ | refine eq_i ?_ | refine str_i (by first | assumption | decide) ?_ | refine text_i (by first | assumption | decide) ?_ | refine pair_i ?_ | refine less_i (by first | assumption | decide) (by first | assumption | decide) ?_ | refine ⟨szl, ?_⟩ | refine ⟨⟨_, rfl⟩, ?_⟩ | simp only [asO_sh, onO3_s, true_and, ex_int, eq_self, onStr_str])
    have e1 : addF (addF x y) z = addF x (addF y z) := add_assocF L1 L2 L3
    have e2 : mulF (mulF x y) z = mulF x (mulF y z) := mul_assocF L1 L2 L3
    have e3 : mulF x (addF y z) = addF (mulF x y) (mulF x z) := mul_addF L1 L2 L3
    have e4 : subF (addF x y) y = x := add_subF L1 L2
    have e5 : addF (subF x y) y = x := sub_addF L1 L2
    have e6 : scF (addF x y) n = addF (scF x n) (scF y n) := sc_addF L1 L2
    have e7 : addF y x = addF x y := add_commF
    rw [e1, e2, e3, e4, e5, e6]
    rw [jSeq_r]
    simp only [↓jC_r, ↓jBin_r, ↓jTV_r, ↓jChain_r, ↓jAnd_r, ↓jOr_r, ↓jNot_r, ↓jAndV_r, ↓jOrV_r, ↓jNotV_r, ↓jIf_r, ↓jUn_r, ↓jNil_r, ↓jCons_r, ↓jTup_r, ↓jLst_r, ↓jNext_r, ↓jRet_r, ↓jIfS_r, ↓jDrop_r, ↓jSet_r, ↓jCall_r, ↓jCallKw_r, ↓jCB_r, ↓jSl_r, ↓jNo_r, ↓jPart_r, ↓jT0_r, ↓jT1_r, ↓jSS_r, ↓jLc_r, ↓jFor_r, ↓jSeqI_r, ↓jRange1_r, ↓jRange2_r, ↓jZip_r, ↓jYes_r, ↓jOwn_r, ↓jApp_r, ↓jDic0_r, ↓jDic1_r, ↓jPut_r, ↓jVar_0, ↓jVar_s, ↓gN_r, ↓List.set_cons_zero, ↓List.set_cons_succ, wipeD, ↓onI_int, ↓onB_bl, ↓onD_bl, ↓onN_bl, ↓onS_str, ↓onRef_ref, ↓jFld_r, ↓jFldS_r, ↓jMake_mk, ↓jMeth_r, ↓jOwn2_r, ↓jOwnI_r, ↓jOwnR_r, ↓jIsO_r, ↓jStrO_r, ↓jFmt_r, ↓jJoin_r, ↓onJ_str, ↓jJs_nil, ↓jJs_cons, ↓on2_c, ↓jPar_r, ↓jAsg_r, ↓onO3_s, ↓onSm_s, ↓asO_obj, ↓onTxt_str, ↓onTxt_int, ↓isO_obj, ↓isO_int, ↓onStr_str, ↓gPair_t, ↓gUnlD_l, ↓gTupD_l, ↓setAll_nil, ↓setAll_cons, ↓dGcd_ii, ↓dDiv_ii, ↓dMod_ii, ↓dMul_ii, ↓dAbs_int, ↓dInt_int, ↓dStr_int, ↓dStr_str, ↓dEq_ii, ↓dEq_ss, ↓dEq_bb, ↓dIx_t0, ↓dIx_t1, ↓dIx_t2, ↓dIx_l0, ↓Bool.false_xor, ↓Bool.true_xor, ↓dAdd_ii, ↓dAdd_ss, ↓dAdd_ll, ↓dAdd_tt, ↓dSub_ii, ↓dCmp_ii, ↓dCmp_ss, ↓dCmpI_ii, ↓dLen_str, ↓dLen_lst, ↓dLen_tup, ↓dSl_str, ↓dSl_tup, ↓dSl_lst, ↓dRevT_tup, ↓dListX_tup, ↓dListX_lst, ↓dTuple_lst, ↓dNeg_int, ↓dPow_ii, ↓dItems_lst, ↓dItems_tup, ↓pick_1, ↓dIs_non_int, ↓dIs_non_bool, ↓dIs_non_str, ↓dIs_non_list, ↓dIs_non_tuple, ↓dIs_non_dict, ↓dIs_non_lt, ↓dIs_bl_int, ↓dIs_bl_bool, ↓dIs_bl_str, ↓dIs_bl_list, ↓dIs_bl_tuple, ↓dIs_bl_dict, ↓dIs_bl_lt, ↓dIs_int_int, ↓dIs_int_bool, ↓dIs_int_str, ↓dIs_int_list, ↓dIs_int_tuple, ↓dIs_int_dict, ↓dIs_int_lt, ↓dIs_str_int, ↓dIs_str_bool, ↓dIs_str_str, ↓dIs_str_list, ↓dIs_str_tuple, ↓dIs_str_dict, ↓dIs_str_lt, ↓dIs_lst_int, ↓dIs_lst_bool, ↓dIs_lst_str, ↓dIs_lst_list, ↓dIs_lst_tuple, ↓dIs_lst_dict, ↓dIs_lst_lt, ↓dIs_tup_int, ↓dIs_tup_bool, ↓dIs_tup_str, ↓dIs_tup_list, ↓dIs_tup_tuple, ↓dIs_tup_dict, ↓dIs_tup_lt, ↓dIs_dic_int, ↓dIs_dic_bool, ↓dIs_dic_str, ↓dIs_dic_list, ↓dIs_dic_tuple, ↓dIs_dic_dict, ↓dIs_dic_lt, Bool.not_true, Bool.not_false, Bool.false_eq_true, if_true, if_false, eq_self, reduceIte, List.map_cons, List.map_nil, lcD_n, lcD_y, List.nil_append, List.cons_append, List.singleton_append, asO_sh, true_and, ex_int, dIx_f0, dIx_f1]
    repeat (first | refine op_i (by first | assumption | decide) (by first | assumption | decide) ?_ | refine mul_i (by first | assumption | decide) (by first | assumption | decide) ?_ | refine muln_i (by first | assumption | decide) (by first | assumption | decide) ?_ | refine rmul_i (by first | assumption | decide) (by first | assumption | decide) ?_ | refine plus_i (by first | assumption | decide) (by first | assumption | decide) (by decide) ?_ | refine eq_i ?_ | refine str_i (by first | assumption | decide) ?_ | refine text_i (by first | assumption | decide) ?_ | refine pair_i ?_ | refine less_i (by first | assumption | decide) (by first | assumption | decide) ?_ | refine ⟨szl, ?_⟩ | refine ⟨⟨_, rfl⟩, ?_⟩ | simp only [asO_sh, onO3_s, true_and, ex_int, eq_self, onStr_str])
    refine mul_l (by decide) (by decide) (by decide) (same_if (by rw [e7]; simp only [decide_true, eq_self]; rfl) rfl ?_)
    have t9 : Sh (low (x.1 * y.2 + 1 * y.1 * x.2) (x.2 * y.2)) := by rw [plus_1]; exact t0
    have u1 : Sz 199 (addF (addF x y) z) := u0.mono (by decide)
    rw [jSeq_r]
    simp only [↓jC_r, ↓jBin_r, ↓jTV_r, ↓jChain_r, ↓jAnd_r, ↓jOr_r, ↓jNot_r, ↓jAndV_r, ↓jOrV_r, ↓jNotV_r, ↓jIf_r, ↓jUn_r, ↓jNil_r, ↓jCons_r, ↓jTup_r, ↓jLst_r, ↓jNext_r, ↓jRet_r, ↓jIfS_r, ↓jDrop_r, ↓jSet_r, ↓jCall_r, ↓jCallKw_r, ↓jCB_r, ↓jSl_r, ↓jNo_r, ↓jPart_r, ↓jT0_r, ↓jT1_r, ↓jSS_r, ↓jLc_r, ↓jFor_r, ↓jSeqI_r, ↓jRange1_r, ↓jRange2_r, ↓jZip_r, ↓jYes_r, ↓jOwn_r, ↓jApp_r, ↓jDic0_r, ↓jDic1_r, ↓jPut_r, ↓jVar_0, ↓jVar_s, ↓gN_r, ↓List.set_cons_zero, ↓List.set_cons_succ, wipeD, ↓onI_int, ↓onB_bl, ↓onD_bl, ↓onN_bl, ↓onS_str, ↓onRef_ref, ↓jFld_r, ↓jFldS_r, ↓jMake_mk, ↓jMeth_r, ↓jOwn2_r, ↓jOwnI_r, ↓jOwnR_r, ↓jIsO_r, ↓jStrO_r, ↓jFmt_r, ↓jJoin_r, ↓onJ_str, ↓jJs_nil, ↓jJs_cons, ↓on2_c, ↓jPar_r, ↓jAsg_r, ↓onO3_s, ↓onSm_s, ↓asO_obj, ↓onTxt_str, ↓onTxt_int, ↓isO_obj, ↓isO_int, ↓onStr_str, ↓gPair_t, ↓gUnlD_l, ↓gTupD_l, ↓setAll_nil, ↓setAll_cons, ↓dGcd_ii, ↓dDiv_ii, ↓dMod_ii, ↓dMul_ii, ↓dAbs_int, ↓dInt_int, ↓dStr_int, ↓dStr_str, ↓dEq_ii, ↓dEq_ss, ↓dEq_bb, ↓dIx_t0, ↓dIx_t1, ↓dIx_t2, ↓dIx_l0, ↓Bool.false_xor, ↓Bool.true_xor, ↓dAdd_ii, ↓dAdd_ss, ↓dAdd_ll, ↓dAdd_tt, ↓dSub_ii, ↓dCmp_ii, ↓dCmp_ss, ↓dCmpI_ii, ↓dLen_str, ↓dLen_lst, ↓dLen_tup, ↓dSl_str, ↓dSl_tup, ↓dSl_lst, ↓dRevT_tup, ↓dListX_tup, ↓dListX_lst, ↓dTuple_lst, ↓dNeg_int, ↓dPow_ii, ↓dItems_lst, ↓dItems_tup, ↓pick_1, ↓dIs_non_int, ↓dIs_non_bool, ↓dIs_non_str, ↓dIs_non_list, ↓dIs_non_tuple, ↓dIs_non_dict, ↓dIs_non_lt, ↓dIs_bl_int, ↓dIs_bl_bool, ↓dIs_bl_str, ↓dIs_bl_list, ↓dIs_bl_tuple, ↓dIs_bl_dict, ↓dIs_bl_lt, ↓dIs_int_int, ↓dIs_int_bool, ↓dIs_int_str, ↓dIs_int_list, ↓dIs_int_tuple, ↓dIs_int_dict, ↓dIs_int_lt, ↓dIs_str_int, ↓dIs_str_bool, ↓dIs_str_str, ↓dIs_str_list, ↓dIs_str_tuple, ↓dIs_str_dict, ↓dIs_str_lt, ↓dIs_lst_int, ↓dIs_lst_bool, ↓dIs_lst_str, ↓dIs_lst_list, ↓dIs_lst_tuple, ↓dIs_lst_dict, ↓dIs_lst_lt, ↓dIs_tup_int, ↓dIs_tup_bool, ↓dIs_tup_str, ↓dIs_tup_list, ↓dIs_tup_tuple, ↓dIs_tup_dict, ↓dIs_tup_lt, ↓dIs_dic_int, ↓dIs_dic_bool, ↓dIs_dic_str, ↓dIs_dic_list, ↓dIs_dic_tuple, ↓dIs_dic_dict, ↓dIs_dic_lt, Bool.not_true, Bool.not_false, Bool.false_eq_true, if_true, if_false, eq_self, reduceIte, List.map_cons, List.map_nil, lcD_n, lcD_y, List.nil_append, List.cons_append, List.singleton_append, asO_sh, true_and, ex_int, dIx_f0, dIx_f1]
    repeat (first | refine op_i (by first | assumption | decide) (by first | assumption | decide) ?_ | refine mul_i (by first | assumption | decide) (by first | assumption | decide) ?_ | refine muln_i (by first | assumption | decide) (by first | assumption | decide) ?_ | refine rmul_i (by first | assumption | decide) (by first | assumption | decide) ?_ | refine plus_i (by first | assumption | decide) (by first | assumption | decide) (by decide) ?_ | refine eq_i ?_ | refine str_i (by first | assumption | decide) ?_ | refine text_i (by first | assumption | decide) ?_ | refine pair_i ?_ | refine less_i (by first | assumption | decide) (by first | assumption | decide) ?_ | refine ⟨szl, ?_⟩ | refine ⟨⟨_, rfl⟩, ?_⟩ | simp only [asO_sh, onO3_s, true_and, ex_int, eq_self, onStr_str])
    rw [plus_1 (x := x) (y := y), plus_1 (x := addF x y) (y := z)]
    rw [jSeq_r]
    simp only [↓jC_r, ↓jBin_r, ↓jTV_r, ↓jChain_r, ↓jAnd_r, ↓jOr_r, ↓jNot_r, ↓jAndV_r, ↓jOrV_r, ↓jNotV_r, ↓jIf_r, ↓jUn_r, ↓jNil_r, ↓jCons_r, ↓jTup_r, ↓jLst_r, ↓jNext_r, ↓jRet_r, ↓jIfS_r, ↓jDrop_r, ↓jSet_r, ↓jCall_r, ↓jCallKw_r, ↓jCB_r, ↓jSl_r, ↓jNo_r, ↓jPart_r, ↓jT0_r, ↓jT1_r, ↓jSS_r, ↓jLc_r, ↓jFor_r, ↓jSeqI_r, ↓jRange1_r, ↓jRange2_r, ↓jZip_r, ↓jYes_r, ↓jOwn_r, ↓jApp_r, ↓jDic0_r, ↓jDic1_r, ↓jPut_r, ↓jVar_0, ↓jVar_s, ↓gN_r, ↓List.set_cons_zero, ↓List.set_cons_succ, wipeD, ↓onI_int, ↓onB_bl, ↓onD_bl, ↓onN_bl, ↓onS_str, ↓onRef_ref, ↓jFld_r, ↓jFldS_r, ↓jMake_mk, ↓jMeth_r, ↓jOwn2_r, ↓jOwnI_r, ↓jOwnR_r, ↓jIsO_r, ↓jStrO_r, ↓jFmt_r, ↓jJoin_r, ↓onJ_str, ↓jJs_nil, ↓jJs_cons, ↓on2_c, ↓jPar_r, ↓jAsg_r, ↓onO3_s, ↓onSm_s, ↓asO_obj, ↓onTxt_str, ↓onTxt_int, ↓isO_obj, ↓isO_int, ↓onStr_str, ↓gPair_t, ↓gUnlD_l, ↓gTupD_l, ↓setAll_nil, ↓setAll_cons, ↓dGcd_ii, ↓dDiv_ii, ↓dMod_ii, ↓dMul_ii, ↓dAbs_int, ↓dInt_int, ↓dStr_int, ↓dStr_str, ↓dEq_ii, ↓dEq_ss, ↓dEq_bb, ↓dIx_t0, ↓dIx_t1, ↓dIx_t2, ↓dIx_l0, ↓Bool.false_xor, ↓Bool.true_xor, ↓dAdd_ii, ↓dAdd_ss, ↓dAdd_ll, ↓dAdd_tt, ↓dSub_ii, ↓dCmp_ii, ↓dCmp_ss, ↓dCmpI_ii, ↓dLen_str, ↓dLen_lst, ↓dLen_tup, ↓dSl_str, ↓dSl_tup, ↓dSl_lst, ↓dRevT_tup, ↓dListX_tup, ↓dListX_lst, ↓dTuple_lst, ↓dNeg_int, ↓dPow_ii, ↓dItems_lst, ↓dItems_tup, ↓pick_1, ↓dIs_non_int, ↓dIs_non_bool, ↓dIs_non_str, ↓dIs_non_list, ↓dIs_non_tuple, ↓dIs_non_dict, ↓dIs_non_lt, ↓dIs_bl_int, ↓dIs_bl_bool, ↓dIs_bl_str, ↓dIs_bl_list, ↓dIs_bl_tuple, ↓dIs_bl_dict, ↓dIs_bl_lt, ↓dIs_int_int, ↓dIs_int_bool, ↓dIs_int_str, ↓dIs_int_list, ↓dIs_int_tuple, ↓dIs_int_dict, ↓dIs_int_lt, ↓dIs_str_int, ↓dIs_str_bool, ↓dIs_str_str, ↓dIs_str_list, ↓dIs_str_tuple, ↓dIs_str_dict, ↓dIs_str_lt, ↓dIs_lst_int, ↓dIs_lst_bool, ↓dIs_lst_str, ↓dIs_lst_list, ↓dIs_lst_tuple, ↓dIs_lst_dict, ↓dIs_lst_lt, ↓dIs_tup_int, ↓dIs_tup_bool, ↓dIs_tup_str, ↓dIs_tup_list, ↓dIs_tup_tuple, ↓dIs_tup_dict, ↓dIs_tup_lt, ↓dIs_dic_int, ↓dIs_dic_bool, ↓dIs_dic_str, ↓dIs_dic_list, ↓dIs_dic_tuple, ↓dIs_dic_dict, ↓dIs_dic_lt, Bool.not_true, Bool.not_false, Bool.false_eq_true, if_true, if_false, eq_self, reduceIte, List.map_cons, List.map_nil, lcD_n, lcD_y, List.nil_append, List.cons_append, List.singleton_append, asO_sh, true_and, ex_int, dIx_f0, dIx_f1]
    repeat (first | refine op_i (by first | assumption | decide) (by first | assumption | decide) ?_ | refine mul_i (by first | assumption | decide) (by first | assumption | decide) ?_ | refine muln_i (by first | assumption | decide) (by first | assumption | decide) ?_ | refine rmul_i (by first | assumption | decide) (by first | assumption | decide) ?_ | refine plus_i (by first | assumption | decide) (by first | assumption | decide) (by decide) ?_ | refine eq_i ?_ | refine str_i (by first | assumption | decide) ?_ | refine text_i (by first | assumption | decide) ?_ | refine pair_i ?_ | refine less_i (by first | assumption | decide) (by first | assumption | decide) ?_ | refine ⟨szl, ?_⟩ | refine ⟨⟨_, rfl⟩, ?_⟩ | simp only [asO_sh, onO3_s, true_and, ex_int, eq_self, onStr_str])
    refine same_if (by rfl) (by rfl) ?_
    rw [jSeq_r]
    simp only [↓jC_r, ↓jBin_r, ↓jTV_r, ↓jChain_r, ↓jAnd_r, ↓jOr_r, ↓jNot_r, ↓jAndV_r, ↓jOrV_r, ↓jNotV_r, ↓jIf_r, ↓jUn_r, ↓jNil_r, ↓jCons_r, ↓jTup_r, ↓jLst_r, ↓jNext_r, ↓jRet_r, ↓jIfS_r, ↓jDrop_r, ↓jSet_r, ↓jCall_r, ↓jCallKw_r, ↓jCB_r, ↓jSl_r, ↓jNo_r, ↓jPart_r, ↓jT0_r, ↓jT1_r, ↓jSS_r, ↓jLc_r, ↓jFor_r, ↓jSeqI_r, ↓jRange1_r, ↓jRange2_r, ↓jZip_r, ↓jYes_r, ↓jOwn_r, ↓jApp_r, ↓jDic0_r, ↓jDic1_r, ↓jPut_r, ↓jVar_0, ↓jVar_s, ↓gN_r, ↓List.set_cons_zero, ↓List.set_cons_succ, wipeD, ↓onI_int, ↓onB_bl, ↓onD_bl, ↓onN_bl, ↓onS_str, ↓onRef_ref, ↓jFld_r, ↓jFldS_r, ↓jMake_mk, ↓jMeth_r, ↓jOwn2_r, ↓jOwnI_r, ↓jOwnR_r, ↓jIsO_r, ↓jStrO_r, ↓jFmt_r, ↓jJoin_r, ↓onJ_str, ↓jJs_nil, ↓jJs_cons, ↓on2_c, ↓jPar_r, ↓jAsg_r, ↓onO3_s, ↓onSm_s, ↓asO_obj, ↓onTxt_str, ↓onTxt_int, ↓isO_obj, ↓isO_int, ↓onStr_str, ↓gPair_t, ↓gUnlD_l, ↓gTupD_l, ↓setAll_nil, ↓setAll_cons, ↓dGcd_ii, ↓dDiv_ii, ↓dMod_ii, ↓dMul_ii, ↓dAbs_int, ↓dInt_int, ↓dStr_int, ↓dStr_str, ↓dEq_ii, ↓dEq_ss, ↓dEq_bb, ↓dIx_t0, ↓dIx_t1, ↓dIx_t2, ↓dIx_l0, ↓Bool.false_xor, ↓Bool.true_xor, ↓dAdd_ii, ↓dAdd_ss, ↓dAdd_ll, ↓dAdd_tt, ↓dSub_ii, ↓dCmp_ii, ↓dCmp_ss, ↓dCmpI_ii, ↓dLen_str, ↓dLen_lst, ↓dLen_tup, ↓dSl_str, ↓dSl_tup, ↓dSl_lst, ↓dRevT_tup, ↓dListX_tup, ↓dListX_lst, ↓dTuple_lst, ↓dNeg_int, ↓dPow_ii, ↓dItems_lst, ↓dItems_tup, ↓pick_1, ↓dIs_non_int, ↓dIs_non_bool, ↓dIs_non_str, ↓dIs_non_list, ↓dIs_non_tuple, ↓dIs_non_dict, ↓dIs_non_lt, ↓dIs_bl_int, ↓dIs_bl_bool, ↓dIs_bl_str, ↓dIs_bl_list, ↓dIs_bl_tuple, ↓dIs_bl_dict, ↓dIs_bl_lt, ↓dIs_int_int, ↓dIs_int_bool, ↓dIs_int_str, ↓dIs_int_list, ↓dIs_int_tuple, ↓dIs_int_dict, ↓dIs_int_lt, ↓dIs_str_int, ↓dIs_str_bool, ↓dIs_str_str, ↓dIs_str_list, ↓dIs_str_tuple, ↓dIs_str_dict, ↓dIs_str_lt, ↓dIs_lst_int, ↓dIs_lst_bool, ↓dIs_lst_str, ↓dIs_lst_list, ↓dIs_lst_tuple, ↓dIs_lst_dict, ↓dIs_lst_lt, ↓dIs_tup_int, ↓dIs_tup_bool, ↓dIs_tup_str, ↓dIs_tup_list, ↓dIs_tup_tuple, ↓dIs_tup_dict, ↓dIs_tup_lt, ↓dIs_dic_int, ↓dIs_dic_bool, ↓dIs_dic_str, ↓dIs_dic_list, ↓dIs_dic_tuple, ↓dIs_dic_dict, ↓dIs_dic_lt, Bool.not_true, Bool.not_false, Bool.false_eq_true, if_true, if_false, eq_self, reduceIte, List.map_cons, List.map_nil, lcD_n, lcD_y, List.nil_append, List.cons_append, List.singleton_append, asO_sh, true_and, ex_int, dIx_f0, dIx_f1]
    repeat (first | refine op_i (by first | assumption | decide) (by first | assumption | decide) ?_ | refine mul_i (by first | assumption | decide) (by first | assumption | decide) ?_ | refine muln_i (by first | assumption | decide) (by first | assumption | decide) ?_ | refine rmul_i (by first | assumption | decide) (by first | assumption | decide) ?_ | refine plus_i (by first | assumption | decide) (by first | assumption | decide) (by decide) ?_ | refine eq_i ?_ | refine str_i (by first | assumption | decide) ?_ | refine text_i (by first | assumption | decide) ?_ | refine pair_i ?_ | refine less_i (by first | assumption | decide) (by first | assumption | decide) ?_ | refine ⟨szl, ?_⟩ | refine ⟨⟨_, rfl⟩, ?_⟩ | simp only [asO_sh, onO3_s, true_and, ex_int, eq_self, onStr_str])
    refine same_if (by rfl) (by rfl) ?_
    obtain ⟨l1, l2⟩ := less_add (x := x) (y := y) Z1.s Z2.s
    refine op_i (by first | assumption | decide) (by first | assumption | decide) ?_
    simp only [asO_sh, onO3_s, true_and]
    refine ⟨by decide, less_i (by first | assumption | decide) (by first | assumption | decide) ⟨by decide, op_i (by first | assumption | decide) (by first | assumption | decide) (less_i (by first | assumption | decide) (by first | assumption | decide) ⟨szl, szl, ?_⟩)⟩⟩
    refine same_if (by rw [l1, l2]) (by rfl) ?_
    exact hN _ _ ⟨rfl, _, _, _, _, _, _, _, _, _, _, _, _, _, _, _, _, _, _, _, _, rfl⟩
  · rintro Δ μ ⟨rfl, x2, x3, x4, x5, x6, x7, x8, x9, x10, x11, x12, x13, x14, x15, x16, x17, x18, x19, x20, x21, rfl⟩
    show D.bl true = D.bl true
    rfl
end
theorem all_mk {l : PySem.W.OpenLaw} {w : World} {K : PySem.W.Frag} {h : Heap} {mg : Str → Option Value} {fa C_Share f0 f1 f2 T2 f3 f4 f5 f6 f7 f8 f9 f10 f11 f12 f13 f14 f15 f16 f17 f18 f19 f20 : Addr} (X : K.In h) (G : h.Ns mainGlobals mg) (hfa : mg "law" = some (.ref fa))
    (aC_Share : PySem.W.nsIn K mainGlobals "Share" = some (some (.ref C_Share)))
    (pg_Share : PySem.W.plainGet K C_Share Str.empty = true)
    (hd_Share : PySem.W.hasDictIn K C_Share = true)
    (po_Share : PySem.W.plainOver K C_Share = true)
    (sa_Share : PySem.W.findIn K (.ref C_Share) "__setattr__" = some (some (.builtin "object.__setattr__")))
    (mk_Share : PySem.W.makesIn K C_Share = true)
    (kc_Share : PySem.W.keepIn K (.ref C_Share) = true)
    (sf_Share : PySem.W.selfFirst K C_Share = true)
    (ca_Share : PySem.W.findIn K (.ref C_Share) "__class__" = some (some (.builtin "object.__class__")))
    (cn_Share : PySem.W.specialIn K (.builtin "object.__class__") "__get__" = some (some (.builtin "getset_descriptor.__get__")))
    (ct_Share : PySem.W.takesIn K (.builtin "object.__class__") = some true)
    (cm_Share : PySem.W.mroIn K C_Share (.type "object") = some true)
    (n_Share_top : PySem.W.findIn K (.ref C_Share) "top" = some none)
    (n_Share_bottom : PySem.W.findIn K (.ref C_Share) "bottom" = some none)
    {fo_Share ro_Share : Option Value}
    (ic_Share : PySem.W.isClsIn K C_Share = true)
    (ty_Share : PySem.W.typeIn K (.ref C_Share) = some (.type "type"))
    (i_Share_1 : PySem.W.findIn K (.type "int") ("__mul__") = some fo_Share)
    (i_Share_2 : PySem.W.findIn K (.type "int") "__rmul__" = some ro_Share)
    (i_Share_3 : PySem.W.subIn K (.type "int") (.ref C_Share) = some false)
    (i_Share_4 : PySem.W.subIn K (.ref C_Share) (.type "int") = some false)
    {od0 an0 : Option Addr} {sl0 : Array (Option Value)} {oc0 kV0 dc0 pm0 cd0 ct0 : Value}
    (a0 : PySem.W.nsIn K mainGlobals "is_whole" = some (some (.ref f0)))
    (l0 : K.lookup f0 = some ⟨oc0, od0, .func (PySem.W.fnOf "is_whole" "is_whole" (defArgs s_is_whole) (defBody s_is_whole) (defScope s_is_whole) .none kV0 dc0 pm0 an0 cd0 ct0), sl0⟩)
    (c0 : PySem.W.codeIn K cd0 "is_whole" = true)
    (k0 : PySem.W.keepIn K (.ref f0) = true)
    {od1 an1 : Option Addr} {sl1 : Array (Option Value)} {oc1 kV1 dc1 pm1 cd1 ct1 : Value}
    (a1 : PySem.W.nsIn K mainGlobals "number_text" = some (some (.ref f1)))
    (l1 : K.lookup f1 = some ⟨oc1, od1, .func (PySem.W.fnOf "number_text" "number_text" (defArgs s_number_text) (defBody s_number_text) (defScope s_number_text) .none kV1 dc1 pm1 an1 cd1 ct1), sl1⟩)
    (c1 : PySem.W.codeIn K cd1 "number_text" = true)
    (k1 : PySem.W.keepIn K (.ref f1) = true)
    {od2 an2 : Option Addr} {sl2 : Array (Option Value)} {oc2 kV2 dc2 pm2 cd2 ct2 : Value}
    (a2 : PySem.W.findIn K (.ref C_Share) "__init__" = some (some (.ref f2)))
    (i2 : PySem.W.isFn K (.ref f2) = true)
    {oT2 : Value} {dT2 : Option Addr} {nT2 : Nat} {sT2 : Array (Option Value)} {tT2 : Tok}
    (l2 : K.lookup f2 = some ⟨oc2, od2, .func (PySem.W.fnOf "__init__" "Share.__init__" (defArgs s_Share___init__) (defBody s_Share___init__) (defScope s_Share___init__) (.ref T2) kV2 dc2 pm2 an2 cd2 ct2), sl2⟩)
    (t2 : K.lookup T2 = some ⟨oT2, dT2, .seq #[.int 1 tT2] nT2, sT2⟩)
    (c2 : PySem.W.codeIn K cd2 "Share.__init__" = true)
    (k2 : PySem.W.keepIn K (.ref f2) = true)
    {od3 an3 : Option Addr} {sl3 : Array (Option Value)} {oc3 kV3 dc3 pm3 cd3 ct3 : Value}
    (a3 : PySem.W.findIn K (.ref C_Share) "__add__" = some (some (.ref f3)))
    (i3 : PySem.W.isFn K (.ref f3) = true)
    (l3 : K.lookup f3 = some ⟨oc3, od3, .func (PySem.W.fnOf "__add__" "Share.__add__" (defArgs s_Share___add__) (defBody s_Share___add__) (defScope s_Share___add__) .none kV3 dc3 pm3 an3 cd3 ct3), sl3⟩)
    (c3 : PySem.W.codeIn K cd3 "Share.__add__" = true)
    (k3 : PySem.W.keepIn K (.ref f3) = true)
    {od4 an4 : Option Addr} {sl4 : Array (Option Value)} {oc4 kV4 dc4 pm4 cd4 ct4 : Value}
    (a4 : PySem.W.findIn K (.ref C_Share) "__sub__" = some (some (.ref f4)))
    (i4 : PySem.W.isFn K (.ref f4) = true)
    (l4 : K.lookup f4 = some ⟨oc4, od4, .func (PySem.W.fnOf "__sub__" "Share.__sub__" (defArgs s_Share___sub__) (defBody s_Share___sub__) (defScope s_Share___sub__) .none kV4 dc4 pm4 an4 cd4 ct4), sl4⟩)
    (c4 : PySem.W.codeIn K cd4 "Share.__sub__" = true)
    (k4 : PySem.W.keepIn K (.ref f4) = true)
    {od5 an5 : Option Addr} {sl5 : Array (Option Value)} {oc5 kV5 dc5 pm5 cd5 ct5 : Value}
    (a5 : PySem.W.findIn K (.ref C_Share) "__mul__" = some (some (.ref f5)))
    (i5 : PySem.W.isFn K (.ref f5) = true)
    (l5 : K.lookup f5 = some ⟨oc5, od5, .func (PySem.W.fnOf "__mul__" "Share.__mul__" (defArgs s_Share___mul__) (defBody s_Share___mul__) (defScope s_Share___mul__) .none kV5 dc5 pm5 an5 cd5 ct5), sl5⟩)
    (c5 : PySem.W.codeIn K cd5 "Share.__mul__" = true)
    (k5 : PySem.W.keepIn K (.ref f5) = true)
    {od6 an6 : Option Addr} {sl6 : Array (Option Value)} {oc6 kV6 dc6 pm6 cd6 ct6 : Value}
    (a6 : PySem.W.findIn K (.ref C_Share) "__rmul__" = some (some (.ref f6)))
    (i6 : PySem.W.isFn K (.ref f6) = true)
    (l6 : K.lookup f6 = some ⟨oc6, od6, .func (PySem.W.fnOf "__rmul__" "Share.__rmul__" (defArgs s_Share___rmul__) (defBody s_Share___rmul__) (defScope s_Share___rmul__) .none kV6 dc6 pm6 an6 cd6 ct6), sl6⟩)
    (c6 : PySem.W.codeIn K cd6 "Share.__rmul__" = true)
    (k6 : PySem.W.keepIn K (.ref f6) = true)
    {od7 an7 : Option Addr} {sl7 : Array (Option Value)} {oc7 kV7 dc7 pm7 cd7 ct7 : Value}
    (a7 : PySem.W.findIn K (.ref C_Share) "__eq__" = some (some (.ref f7)))
    (i7 : PySem.W.isFn K (.ref f7) = true)
    (l7 : K.lookup f7 = some ⟨oc7, od7, .func (PySem.W.fnOf "__eq__" "Share.__eq__" (defArgs s_Share___eq__) (defBody s_Share___eq__) (defScope s_Share___eq__) .none kV7 dc7 pm7 an7 cd7 ct7), sl7⟩)
    (c7 : PySem.W.codeIn K cd7 "Share.__eq__" = true)
    (k7 : PySem.W.keepIn K (.ref f7) = true)
    {od8 an8 : Option Addr} {sl8 : Array (Option Value)} {oc8 kV8 dc8 pm8 cd8 ct8 : Value}
    (a8 : PySem.W.findIn K (.ref C_Share) "__str__" = some (some (.ref f8)))
    (i8 : PySem.W.isFn K (.ref f8) = true)
    (l8 : K.lookup f8 = some ⟨oc8, od8, .func (PySem.W.fnOf "__str__" "Share.__str__" (defArgs s_Share___str__) (defBody s_Share___str__) (defScope s_Share___str__) .none kV8 dc8 pm8 an8 cd8 ct8), sl8⟩)
    (c8 : PySem.W.codeIn K cd8 "Share.__str__" = true)
    (k8 : PySem.W.keepIn K (.ref f8) = true)
    {od9 an9 : Option Addr} {sl9 : Array (Option Value)} {oc9 kV9 dc9 pm9 cd9 ct9 : Value}
    (a9 : PySem.W.findIn K (.ref C_Share) "less" = some (some (.ref f9)))
    (i9 : PySem.W.isFn K (.ref f9) = true)
    (l9 : K.lookup f9 = some ⟨oc9, od9, .func (PySem.W.fnOf "less" "Share.less" (defArgs s_Share_less) (defBody s_Share_less) (defScope s_Share_less) .none kV9 dc9 pm9 an9 cd9 ct9), sl9⟩)
    (c9 : PySem.W.codeIn K cd9 "Share.less" = true)
    (k9 : PySem.W.keepIn K (.ref f9) = true)
    {od10 an10 : Option Addr} {sl10 : Array (Option Value)} {oc10 kV10 dc10 pm10 cd10 ct10 : Value}
    (a10 : PySem.W.nsIn K mainGlobals "_law_bag" = some (some (.ref f10)))
    (l10 : K.lookup f10 = some ⟨oc10, od10, .func (PySem.W.fnOf "_law_bag" "_law_bag" (defArgs s_L_bag) (defBody s_L_bag) (defScope s_L_bag) .none kV10 dc10 pm10 an10 cd10 ct10), sl10⟩)
    (c10 : PySem.W.codeIn K cd10 "_law_bag" = true)
    (k10 : PySem.W.keepIn K (.ref f10) = true)
    {od11 an11 : Option Addr} {sl11 : Array (Option Value)} {oc11 kV11 dc11 pm11 cd11 ct11 : Value}
    (a11 : PySem.W.nsIn K mainGlobals "_law_draw" = some (some (.ref f11)))
    (l11 : K.lookup f11 = some ⟨oc11, od11, .func (PySem.W.fnOf "_law_draw" "_law_draw" (defArgs s_L_draw) (defBody s_L_draw) (defScope s_L_draw) .none kV11 dc11 pm11 an11 cd11 ct11), sl11⟩)
    (c11 : PySem.W.codeIn K cd11 "_law_draw" = true)
    (k11 : PySem.W.keepIn K (.ref f11) = true)
    {od12 an12 : Option Addr} {sl12 : Array (Option Value)} {oc12 kV12 dc12 pm12 cd12 ct12 : Value}
    (a12 : PySem.W.nsIn K mainGlobals "_law_pick" = some (some (.ref f12)))
    (l12 : K.lookup f12 = some ⟨oc12, od12, .func (PySem.W.fnOf "_law_pick" "_law_pick" (defArgs s_L_pick) (defBody s_L_pick) (defScope s_L_pick) .none kV12 dc12 pm12 an12 cd12 ct12), sl12⟩)
    (c12 : PySem.W.codeIn K cd12 "_law_pick" = true)
    (k12 : PySem.W.keepIn K (.ref f12) = true)
    {od13 an13 : Option Addr} {sl13 : Array (Option Value)} {oc13 kV13 dc13 pm13 cd13 ct13 : Value}
    (a13 : PySem.W.nsIn K mainGlobals "_law_same" = some (some (.ref f13)))
    (l13 : K.lookup f13 = some ⟨oc13, od13, .func (PySem.W.fnOf "_law_same" "_law_same" (defArgs s_L_same) (defBody s_L_same) (defScope s_L_same) .none kV13 dc13 pm13 an13 cd13 ct13), sl13⟩)
    (c13 : PySem.W.codeIn K cd13 "_law_same" = true)
    (k13 : PySem.W.keepIn K (.ref f13) = true)
    {od14 an14 : Option Addr} {sl14 : Array (Option Value)} {oc14 kV14 dc14 pm14 cd14 ct14 : Value}
    (a14 : PySem.W.nsIn K mainGlobals "_law_common" = some (some (.ref f14)))
    (l14 : K.lookup f14 = some ⟨oc14, od14, .func (PySem.W.fnOf "_law_common" "_law_common" (defArgs s_L_common) (defBody s_L_common) (defScope s_L_common) .none kV14 dc14 pm14 an14 cd14 ct14), sl14⟩)
    (c14 : PySem.W.codeIn K cd14 "_law_common" = true)
    (k14 : PySem.W.keepIn K (.ref f14) = true)
    {od15 an15 : Option Addr} {sl15 : Array (Option Value)} {oc15 kV15 dc15 pm15 cd15 ct15 : Value}
    (a15 : PySem.W.nsIn K mainGlobals "_law_low" = some (some (.ref f15)))
    (l15 : K.lookup f15 = some ⟨oc15, od15, .func (PySem.W.fnOf "_law_low" "_law_low" (defArgs s_L_low) (defBody s_L_low) (defScope s_L_low) .none kV15 dc15 pm15 an15 cd15 ct15), sl15⟩)
    (c15 : PySem.W.codeIn K cd15 "_law_low" = true)
    (k15 : PySem.W.keepIn K (.ref f15) = true)
    {od16 an16 : Option Addr} {sl16 : Array (Option Value)} {oc16 kV16 dc16 pm16 cd16 ct16 : Value}
    (a16 : PySem.W.nsIn K mainGlobals "_law_share_text" = some (some (.ref f16)))
    (l16 : K.lookup f16 = some ⟨oc16, od16, .func (PySem.W.fnOf "_law_share_text" "_law_share_text" (defArgs s_L_share_text) (defBody s_L_share_text) (defScope s_L_share_text) .none kV16 dc16 pm16 an16 cd16 ct16), sl16⟩)
    (c16 : PySem.W.codeIn K cd16 "_law_share_text" = true)
    (k16 : PySem.W.keepIn K (.ref f16) = true)
    {od17 an17 : Option Addr} {sl17 : Array (Option Value)} {oc17 kV17 dc17 pm17 cd17 ct17 : Value}
    (a17 : PySem.W.nsIn K mainGlobals "_law_fraction" = some (some (.ref f17)))
    (l17 : K.lookup f17 = some ⟨oc17, od17, .func (PySem.W.fnOf "_law_fraction" "_law_fraction" (defArgs s_L_fraction) (defBody s_L_fraction) (defScope s_L_fraction) .none kV17 dc17 pm17 an17 cd17 ct17), sl17⟩)
    (c17 : PySem.W.codeIn K cd17 "_law_fraction" = true)
    (k17 : PySem.W.keepIn K (.ref f17) = true)
    {od18 an18 : Option Addr} {sl18 : Array (Option Value)} {oc18 kV18 dc18 pm18 cd18 ct18 : Value}
    (a18 : PySem.W.nsIn K mainGlobals "_law_pair" = some (some (.ref f18)))
    (l18 : K.lookup f18 = some ⟨oc18, od18, .func (PySem.W.fnOf "_law_pair" "_law_pair" (defArgs s_L_pair) (defBody s_L_pair) (defScope s_L_pair) .none kV18 dc18 pm18 an18 cd18 ct18), sl18⟩)
    (c18 : PySem.W.codeIn K cd18 "_law_pair" = true)
    (k18 : PySem.W.keepIn K (.ref f18) = true)
    {od19 an19 : Option Addr} {sl19 : Array (Option Value)} {oc19 kV19 dc19 pm19 cd19 ct19 : Value}
    (a19 : PySem.W.nsIn K mainGlobals "_law_plus" = some (some (.ref f19)))
    (l19 : K.lookup f19 = some ⟨oc19, od19, .func (PySem.W.fnOf "_law_plus" "_law_plus" (defArgs s_L_plus) (defBody s_L_plus) (defScope s_L_plus) .none kV19 dc19 pm19 an19 cd19 ct19), sl19⟩)
    (c19 : PySem.W.codeIn K cd19 "_law_plus" = true)
    (k19 : PySem.W.keepIn K (.ref f19) = true)
    {od20 an20 : Option Addr} {sl20 : Array (Option Value)} {oc20 kV20 dc20 pm20 cd20 ct20 : Value}
    (a20 : PySem.W.nsIn K mainGlobals "law" = some (some (.ref f20)))
    (l20 : K.lookup f20 = some ⟨oc20, od20, .func (PySem.W.fnOf "law" "law" (defArgs s_law) (defBody s_law) (defScope s_law) .none kV20 dc20 pm20 an20 cd20 ct20), sl20⟩)
    (c20 : PySem.W.codeIn K cd20 "law" = true)
    (k20 : PySem.W.keepIn K (.ref f20) = true)
    (z_abs : PySem.W.nsIn K mainGlobals "abs" = some none)
    (z_all : PySem.W.nsIn K mainGlobals "all" = some none)
    (z_bool : PySem.W.nsIn K mainGlobals "bool" = some none)
    (z_dict : PySem.W.nsIn K mainGlobals "dict" = some none)
    (z_int : PySem.W.nsIn K mainGlobals "int" = some none)
    (z_isinstance : PySem.W.nsIn K mainGlobals "isinstance" = some none)
    (z_len : PySem.W.nsIn K mainGlobals "len" = some none)
    (z_list : PySem.W.nsIn K mainGlobals "list" = some none)
    (z_range : PySem.W.nsIn K mainGlobals "range" = some none)
    (z_str : PySem.W.nsIn K mainGlobals "str" = some none)
    (z_tuple : PySem.W.nsIn K mainGlobals "tuple" = some none)
    (z_zip : PySem.W.nsIn K mainGlobals "zip" = some none)
    {tk__BLOCK : Tok}
    (g__BLOCK : PySem.W.nsIn K mainGlobals "_BLOCK" = some (some (.int (1000000000000000000000000000000000000000000000000000000000000) tk__BLOCK)))
    (g_gcd : PySem.W.nsIn K mainGlobals "gcd" = some (some (.builtin "math.gcd")))
    : ∃ fd : FuncData, (∀ (s : Shared) (v : Value), BindsTo s fd ⟨[v], []⟩ [("_law_script", v)]) ∧ ∀ base : Heap, K.In base → base.Ns mainGlobals mg → FnOk l.prog w K mg base CX0 6 fa fd ["_law_script"] (spLaw K) := by
  have e := hfa.symm.trans (PySem.W.mg_of X G a20)
  cases e
  have F0 := fun_mk (st := s_is_whole) l0 c0 k0
  have F1 := fun_mk (st := s_number_text) l1 c1 k1
  have F2 : FunD K "__init__" "Share.__init__" (defArgs s_Share___init__) (defBody s_Share___init__) (defScope s_Share___init__) [.int 1] [] f2 (PySem.W.fnOf "__init__" "Share.__init__" (defArgs s_Share___init__) (defBody s_Share___init__) (defScope s_Share___init__) (.ref T2) kV2 dc2 pm2 an2 cd2 ct2) := ⟨⟨_, _, _, _, _, _, _, _, _, _, rfl, l2, c2, .inr ⟨by simp, T2, _, [.int 1 tT2], nT2, rfl, t2, rfl, .cons ⟨_, rfl⟩ .nil⟩, .inl rfl⟩, k2⟩
  have B2 : Binds K (PySem.W.fnOf "__init__" "Share.__init__" (defArgs s_Share___init__) (defBody s_Share___init__) (defScope s_Share___init__) (.ref T2) kV2 dc2 pm2 an2 cd2 ct2) ["self", "top", "bottom"] [] := by
    obtain ⟨ds, hv, hb⟩ := F2.binds1 (ps := ["self", "top", "bottom"]) 3 1 (by simp) (by rfl) (fun T kV doc pm an cdv ct us its hl hi => match us, hl, its, hi with | [_, _, _], _, [_], _ => ⟨_, rfl, rfl⟩)
    cases hv
    exact hb
  have F3 := fun_mk (st := s_Share___add__) l3 c3 k3
  have F4 := fun_mk (st := s_Share___sub__) l4 c4 k4
  have F5 := fun_mk (st := s_Share___mul__) l5 c5 k5
  have F6 := fun_mk (st := s_Share___rmul__) l6 c6 k6
  have F7 := fun_mk (st := s_Share___eq__) l7 c7 k7
  have F8 := fun_mk (st := s_Share___str__) l8 c8 k8
  have F9 := fun_mk (st := s_Share_less) l9 c9 k9
  have F10 := fun_mk (st := s_L_bag) l10 c10 k10
  have F11 := fun_mk (st := s_L_draw) l11 c11 k11
  have F12 := fun_mk (st := s_L_pick) l12 c12 k12
  have F13 := fun_mk (st := s_L_same) l13 c13 k13
  have F14 := fun_mk (st := s_L_common) l14 c14 k14
  have F15 := fun_mk (st := s_L_low) l15 c15 k15
  have F16 := fun_mk (st := s_L_share_text) l16 c16 k16
  have F17 := fun_mk (st := s_L_fraction) l17 c17 k17
  have F18 := fun_mk (st := s_L_pair) l18 c18 k18
  have F19 := fun_mk (st := s_L_plus) l19 c19 k19
  have F20 := fun_mk (st := s_law) l20 c20 k20
  let T : Top K mg := { C_Share := C_Share, O_Share := ⟨⟨pg_Share, hd_Share, po_Share, sa_Share⟩, sf_Share, ca_Share, cn_Share, ct_Share, cm_Share⟩, g_Share := PySem.W.mg_of X G aC_Share, n_Share_top := n_Share_top, n_Share_bottom := n_Share_bottom, fo_Share := fo_Share, ro_Share := ro_Share, i_Share_5 := kit_own ic_Share ty_Share i_Share_3, i_Share_1 := (by rw [show PySem.dunder Operator.Mult.info.2 = ("__mul__" : Str) from by decide +kernel]; exact i_Share_1), i_Share_2 := (by rw [show dunderR Operator.Mult.info.2 = ("__rmul__" : Str) from by decide +kernel]; exact i_Share_2), i_Share_3 := i_Share_3, i_Share_4 := i_Share_4, f_is_whole := f0, fd_is_whole := _, F_is_whole := F0, b_is_whole := (F0.binds fun _ _ _ _ _ _ us hl => (match us, hl with | [_], _ => rfl)), g_is_whole := PySem.W.mg_of X G a0, f_number_text := f1, fd_number_text := _, F_number_text := F1, b_number_text := (F1.binds fun _ _ _ _ _ _ us hl => (match us, hl with | [_], _ => rfl)), g_number_text := PySem.W.mg_of X G a1, f_Share___init__ := f2, fd_Share___init__ := _, F_Share___init__ := F2, b_Share___init__ := B2, M_Share := ⟨mk_Share, a2, i2, kc_Share⟩, f_Share___add__ := f3, fd_Share___add__ := _, F_Share___add__ := F3, b_Share___add__ := (F3.binds fun _ _ _ _ _ _ us hl => (match us, hl with | [_, _], _ => rfl)), a_Share___add__ := (by rw [show PySem.dunder Operator.Add.info.2 = ("__add__" : Str) from by decide +kernel]; exact a3), m_Share___add__ := ⟨a3, i3, k3⟩, f_Share___sub__ := f4, fd_Share___sub__ := _, F_Share___sub__ := F4, b_Share___sub__ := (F4.binds fun _ _ _ _ _ _ us hl => (match us, hl with | [_, _], _ => rfl)), a_Share___sub__ := (by rw [show PySem.dunder Operator.Sub.info.2 = ("__sub__" : Str) from by decide +kernel]; exact a4), m_Share___sub__ := ⟨a4, i4, k4⟩, f_Share___mul__ := f5, fd_Share___mul__ := _, F_Share___mul__ := F5, b_Share___mul__ := (F5.binds fun _ _ _ _ _ _ us hl => (match us, hl with | [_, _], _ => rfl)), a_Share___mul__ := (by rw [show PySem.dunder Operator.Mult.info.2 = ("__mul__" : Str) from by decide +kernel]; exact a5), m_Share___mul__ := ⟨a5, i5, k5⟩, f_Share___rmul__ := f6, fd_Share___rmul__ := _, F_Share___rmul__ := F6, b_Share___rmul__ := (F6.binds fun _ _ _ _ _ _ us hl => (match us, hl with | [_, _], _ => rfl)), a_Share___rmul__ := (by rw [show dunderR Operator.Mult.info.2 = ("__rmul__" : Str) from by decide +kernel]; exact a6), m_Share___rmul__ := ⟨a6, i6, k6⟩, f_Share___eq__ := f7, fd_Share___eq__ := _, F_Share___eq__ := F7, b_Share___eq__ := (F7.binds fun _ _ _ _ _ _ us hl => (match us, hl with | [_, _], _ => rfl)), m_Share___eq__ := ⟨a7, i7, k7⟩, f_Share___str__ := f8, fd_Share___str__ := _, F_Share___str__ := F8, b_Share___str__ := (F8.binds fun _ _ _ _ _ _ us hl => (match us, hl with | [_], _ => rfl)), m_Share___str__ := ⟨a8, i8, k8⟩, f_Share_less := f9, fd_Share_less := _, F_Share_less := F9, b_Share_less := (F9.binds fun _ _ _ _ _ _ us hl => (match us, hl with | [_, _], _ => rfl)), m_Share_less := ⟨a9, i9, k9⟩, f_L_bag := f10, fd_L_bag := _, F_L_bag := F10, b_L_bag := (F10.binds fun _ _ _ _ _ _ us hl => (match us, hl with | [_], _ => rfl)), g_L_bag := PySem.W.mg_of X G a10, f_L_draw := f11, fd_L_draw := _, F_L_draw := F11, b_L_draw := (F11.binds fun _ _ _ _ _ _ us hl => (match us, hl with | [_, _], _ => rfl)), g_L_draw := PySem.W.mg_of X G a11, f_L_pick := f12, fd_L_pick := _, F_L_pick := F12, b_L_pick := (F12.binds fun _ _ _ _ _ _ us hl => (match us, hl with | [_, _], _ => rfl)), g_L_pick := PySem.W.mg_of X G a12, f_L_same := f13, fd_L_same := _, F_L_same := F13, b_L_same := (F13.binds fun _ _ _ _ _ _ us hl => (match us, hl with | [_, _], _ => rfl)), g_L_same := PySem.W.mg_of X G a13, f_L_common := f14, fd_L_common := _, F_L_common := F14, b_L_common := (F14.binds fun _ _ _ _ _ _ us hl => (match us, hl with | [_, _], _ => rfl)), g_L_common := PySem.W.mg_of X G a14, f_L_low := f15, fd_L_low := _, F_L_low := F15, b_L_low := (F15.binds fun _ _ _ _ _ _ us hl => (match us, hl with | [_, _], _ => rfl)), g_L_low := PySem.W.mg_of X G a15, f_L_share_text := f16, fd_L_share_text := _, F_L_share_text := F16, b_L_share_text := (F16.binds fun _ _ _ _ _ _ us hl => (match us, hl with | [_], _ => rfl)), g_L_share_text := PySem.W.mg_of X G a16, f_L_fraction := f17, fd_L_fraction := _, F_L_fraction := F17, b_L_fraction := (F17.binds fun _ _ _ _ _ _ us hl => (match us, hl with | [_], _ => rfl)), g_L_fraction := PySem.W.mg_of X G a17, f_L_pair := f18, fd_L_pair := _, F_L_pair := F18, b_L_pair := (F18.binds fun _ _ _ _ _ _ us hl => (match us, hl with | [_], _ => rfl)), g_L_pair := PySem.W.mg_of X G a18, f_L_plus := f19, fd_L_plus := _, F_L_plus := F19, b_L_plus := (F19.binds fun _ _ _ _ _ _ us hl => (match us, hl with | [_, _, _], _ => rfl)), g_L_plus := PySem.W.mg_of X G a19, f_law := fa, fd_law := _, F_law := F20, b_law := (F20.binds fun _ _ _ _ _ _ us hl => (match us, hl with | [_], _ => rfl)), g_law := PySem.W.mg_of X G a20, z_abs := PySem.W.mg_none_of X G z_abs, z_all := PySem.W.mg_none_of X G z_all, z_bool := PySem.W.mg_none_of X G z_bool, z_dict := PySem.W.mg_none_of X G z_dict, z_int := PySem.W.mg_none_of X G z_int, z_isinstance := PySem.W.mg_none_of X G z_isinstance, z_len := PySem.W.mg_none_of X G z_len, z_list := PySem.W.mg_none_of X G z_list, z_range := PySem.W.mg_none_of X G z_range, z_str := PySem.W.mg_none_of X G z_str, z_tuple := PySem.W.mg_none_of X G z_tuple, z_zip := PySem.W.mg_none_of X G z_zip, tk__BLOCK := tk__BLOCK, g__BLOCK := PySem.W.mg_of X G g__BLOCK, g_gcd := PySem.W.mg_of X G g_gcd }
  exact ⟨PySem.W.fnOf "law" "law" (defArgs s_law) (defBody s_law) (defScope s_law) .none kV20 dc20 pm20 an20 cd20 ct20, fun s v => .of_eq rfl, fun base _ _ => ok_all T⟩
end Law
open PySem PySem.W PyProof.Rows
set_option maxHeartbeats 0 in
theorem PySem.Challenge.cw_deedranks_k03_whole_shares_added_and_mul_holds : PySem.Challenge.rw_deedranks_k03_whole_shares_added_and_mul.Holds := by
  w_on; o_law; k_head; (case hw => w_witness2)
  k_fill
  refine L2.walk_of (l := PySem.Challenge.rw_deedranks_k03_whole_shares_added_and_mul) (n := 63) (k := 6) (x := "_law_script") (CX := fun _ => L2.CX0) (sp := fun w => J.spLaw _) rfl (by decide) rfl ⟨rfl, by decide, by decide⟩ (fun w h Y => PySem.W.kIn_of Y) ?F (fun _ _ a ns hl _ hS => ⟨a, ns, rfl, hS, hl, fun _ => rfl⟩) (fun _ _ _ _ _ h => h)
  case F =>
    intro w mg fa h KX G hmg
    refine' Law.all_mk KX G hmg ?aC_Share ?pg_Share ?hd_Share ?po_Share ?sa_Share ?mk_Share ?kc_Share ?sf_Share ?ca_Share ?cn_Share ?ct_Share ?cm_Share ?n_Share_top ?n_Share_bottom ?ic_Share ?ty_Share ?i_Share_1 ?i_Share_2 ?i_Share_3 ?i_Share_4 ?a0 ?l0 ?c0 ?k0 ?a1 ?l1 ?c1 ?k1 ?a2 ?i2 ?l2 ?t2 ?c2 ?k2 ?a3 ?i3 ?l3 ?c3 ?k3 ?a4 ?i4 ?l4 ?c4 ?k4 ?a5 ?i5 ?l5 ?c5 ?k5 ?a6 ?i6 ?l6 ?c6 ?k6 ?a7 ?i7 ?l7 ?c7 ?k7 ?a8 ?i8 ?l8 ?c8 ?k8 ?a9 ?i9 ?l9 ?c9 ?k9 ?a10 ?l10 ?c10 ?k10 ?a11 ?l11 ?c11 ?k11 ?a12 ?l12 ?c12 ?k12 ?a13 ?l13 ?c13 ?k13 ?a14 ?l14 ?c14 ?k14 ?a15 ?l15 ?c15 ?k15 ?a16 ?l16 ?c16 ?k16 ?a17 ?l17 ?c17 ?k17 ?a18 ?l18 ?c18 ?k18 ?a19 ?l19 ?c19 ?k19 ?a20 ?l20 ?c20 ?k20 ?z_abs ?z_all ?z_bool ?z_dict ?z_int ?z_isinstance ?z_len ?z_list ?z_range ?z_str ?z_tuple ?z_zip ?g__BLOCK ?g_gcd
    (case aC_Share => k_is); (case pg_Share => k_is); (case hd_Share => k_is); (case po_Share => k_is); (case sa_Share => k_is); (case mk_Share => k_is); (case kc_Share => k_is); (case sf_Share => k_is); (case ca_Share => k_is); (case cn_Share => k_is); (case ct_Share => k_is); (case cm_Share => k_is); (case n_Share_top => k_is); (case n_Share_bottom => k_is); (case ic_Share => k_is); (case ty_Share => k_is); (case i_Share_1 => k_is); (case i_Share_2 => k_is); (case i_Share_3 => k_is); (case i_Share_4 => k_is); (case a0 => k_is); (case l0 => k_is); (case c0 => k_is); (case k0 => k_is); (case a1 => k_is); (case l1 => k_is); (case c1 => k_is); (case k1 => k_is); (case a2 => k_is); (case i2 => k_is); (case l2 => k_is); (case t2 => k_is); (case c2 => k_is); (case k2 => k_is); (case a3 => k_is); (case i3 => k_is); (case l3 => k_is); (case c3 => k_is); (case k3 => k_is); (case a4 => k_is); (case i4 => k_is); (case l4 => k_is); (case c4 => k_is); (case k4 => k_is); (case a5 => k_is); (case i5 => k_is); (case l5 => k_is); (case c5 => k_is); (case k5 => k_is); (case a6 => k_is); (case i6 => k_is); (case l6 => k_is); (case c6 => k_is); (case k6 => k_is); (case a7 => k_is); (case i7 => k_is); (case l7 => k_is); (case c7 => k_is); (case k7 => k_is); (case a8 => k_is); (case i8 => k_is); (case l8 => k_is); (case c8 => k_is); (case k8 => k_is); (case a9 => k_is); (case i9 => k_is); (case l9 => k_is); (case c9 => k_is); (case k9 => k_is); (case a10 => k_is); (case l10 => k_is); (case c10 => k_is); (case k10 => k_is); (case a11 => k_is); (case l11 => k_is); (case c11 => k_is); (case k11 => k_is); (case a12 => k_is); (case l12 => k_is); (case c12 => k_is); (case k12 => k_is); (case a13 => k_is); (case l13 => k_is); (case c13 => k_is); (case k13 => k_is); (case a14 => k_is); (case l14 => k_is); (case c14 => k_is); (case k14 => k_is); (case a15 => k_is); (case l15 => k_is); (case c15 => k_is); (case k15 => k_is); (case a16 => k_is); (case l16 => k_is); (case c16 => k_is); (case k16 => k_is); (case a17 => k_is); (case l17 => k_is); (case c17 => k_is); (case k17 => k_is); (case a18 => k_is); (case l18 => k_is); (case c18 => k_is); (case k18 => k_is); (case a19 => k_is); (case l19 => k_is); (case c19 => k_is); (case k19 => k_is); (case a20 => k_is); (case l20 => k_is); (case c20 => k_is); (case k20 => k_is); (case z_abs => k_is); (case z_all => k_is); (case z_bool => k_is); (case z_dict => k_is); (case z_int => k_is); (case z_isinstance => k_is); (case z_len => k_is); (case z_list => k_is); (case z_range => k_is); (case z_str => k_is); (case z_tuple => k_is); (case z_zip => k_is); (case g__BLOCK => k_is); (case g_gcd => k_is)
