import PyProof.Rows.All
import Wide.All
import OpenK.AllK
import Wide.FinOn
import HandS.ForMost
import HandS.ForExc
import HandS.Wide
import HandS.IsInst
import HandS.TupAny
import HandS.WideBits
import HandS.TryMany
import HandS.ExcIs
import KE.KMinKey
import HandS.SortKw
import HandS.TupMul
import HandS.Gcd
import HandS.Star
import HandS.Iter
import HandS.Walk
import HandS.Conv
import HandS.SortInts
import PySem.Challenge.RW_promiseplay_k45_lead_and_causes
set_option Elab.async false
set_option linter.all false
set_option maxRecDepth 100000
set_option maxHeartbeats 4000000
namespace SL
open PySem L2

/-! ## heaps: frozen part, owned objects -/
abbrev Led := List (Addr × HO)
def SameB (p : Addr) (H H' : Hp) : Prop := ∀ b o, b ≠ p → H b = some o → H' b = some o
def del (H : Hp) (p : Addr) : Hp := fun b => if b = p then none else H b
theorem del_self {H : Hp} {p : Addr} : del H p p = none := by unfold del; rw [if_pos rfl]
theorem del_ne {H : Hp} {p b : Addr} (h : b ≠ p) : del H p b = H b := by unfold del; rw [if_neg h]
theorem del_some {H : Hp} {p b : Addr} {o : HO} (h : del H p b = some o) : b ≠ p ∧ H b = some o := by
  by_cases e : b = p
  · rw [e, del_self] at h; cases h
  · rw [del_ne e] at h; exact ⟨e, h⟩
theorem same_new {H : Hp} {p : Addr} {o : HO} (h : H p = none) : Same H (upd H p o) := fun b u e => by
  rw [upd_ne (ne_of_none e h)]; exact e
structure En where
  F : Hp
  H : Hp
structure St (E : En) (F H : Hp) (L : Led) : Prop where
  bh : Same E.H H
  fh : Same F H
  ff : Same E.F F
  pr : ∀ a, F a ≠ none → E.F a ≠ none ∨ E.H a = none
  own : ∀ x ∈ L, H x.1 = some x.2 ∧ F x.1 = none ∧ E.H x.1 = none
  nd : (L.map (·.1)).Nodup
/-- what a call leaves that changes nothing -/
structure Gr (F H F' H' : Hp) : Prop where
  ff : Same F F'
  fh : Same F' H'
  hh : Same H H'
  pr : ∀ a, F' a ≠ none → F a ≠ none ∨ H a = none
/-- .. that changes p alone -/
structure GrB (p : Addr) (F H F' H' : Hp) : Prop where
  ff : Same F F'
  fh : Same F' H'
  hh : SameB p H H'
  pr : ∀ a, F' a ≠ none → F a ≠ none ∨ H a = none
inductive Upd : Led → Addr → HO → HO → Led → Prop
  | head {a o o' L} : Upd ((a, o) :: L) a o o' ((a, o') :: L)
  | tail {a o o' L L' x} : Upd L a o o' L' → Upd (x :: L) a o o' (x :: L')
inductive Tak : Led → Addr → HO → Led → Prop
  | head {a o L} : Tak ((a, o) :: L) a o L
  | tail {a o L L' x} : Tak L a o L' → Tak (x :: L) a o (x :: L')
theorem Upd.mem {L L' : Led} {a : Addr} {o o' : HO} (u : Upd L a o o' L') : (a, o) ∈ L := by
  induction u with
  | head => exact List.mem_cons_self
  | tail _ ih => exact List.mem_cons_of_mem _ ih
theorem Upd.fst {L L' : Led} {a : Addr} {o o' : HO} (u : Upd L a o o' L') : L'.map (·.1) = L.map (·.1) := by
  induction u with
  | head => rfl
  | tail _ ih => rw [List.map_cons, List.map_cons, ih]
theorem Upd.of {L L' : Led} {a : Addr} {o o' : HO} (u : Upd L a o o' L') : ∀ x ∈ L', x = (a, o') ∨ x ∈ L := by
  induction u with
  | head =>
    intro x hx
    rcases List.mem_cons.mp hx with e | e
    · exact .inl e
    · exact .inr (List.mem_cons_of_mem _ e)
  | tail _ ih =>
    intro x hx
    rcases List.mem_cons.mp hx with e | e
    · exact .inr (e ▸ List.mem_cons_self)
    · rcases ih x e with q | q
      · exact .inl q
      · exact .inr (List.mem_cons_of_mem _ q)
theorem Upd.new {L L' : Led} {a : Addr} {o o' : HO} (u : Upd L a o o' L') : (a, o') ∈ L' := by
  induction u with
  | head => exact List.mem_cons_self
  | tail _ ih => exact List.mem_cons_of_mem _ ih
theorem nd_one : ∀ {L : Led} {a : Addr} {o : HO} {x : Addr × HO}, (L.map (·.1)).Nodup → x ∈ L → (a, o) ∈ L → x.1 = a → x = (a, o)
  | [], _, _, _, _, h, _, _ => nomatch h
  | y :: r, a, o, x, n, h1, h2, c => by
    rw [List.map_cons, List.nodup_cons] at n
    rcases List.mem_cons.mp h1 with q | q <;> rcases List.mem_cons.mp h2 with z | z
    · rw [q, z]
    · exact absurd (List.mem_map.mpr ⟨_, z, (by rw [← q]; exact c.symm)⟩) n.1
    · exact absurd (List.mem_map.mpr ⟨_, q, (by rw [← z]; exact c)⟩) n.1
    · exact nd_one n.2 q z c
theorem Tak.mem {L L' : Led} {a : Addr} {o : HO} (u : Tak L a o L') : (a, o) ∈ L := by
  induction u with
  | head => exact List.mem_cons_self
  | tail _ ih => exact List.mem_cons_of_mem _ ih
theorem Tak.sub {L L' : Led} {a : Addr} {o : HO} (u : Tak L a o L') : ∀ x ∈ L', x ∈ L := by
  induction u with
  | head => exact fun x h => List.mem_cons_of_mem _ h
  | tail _ ih =>
    intro x hx
    rcases List.mem_cons.mp hx with e | e
    · exact e ▸ List.mem_cons_self
    · exact List.mem_cons_of_mem _ (ih x e)
theorem Tak.nd {L L' : Led} {a : Addr} {o : HO} (u : Tak L a o L') (n : (L.map (·.1)).Nodup) : (L'.map (·.1)).Nodup ∧ ∀ x ∈ L', x.1 ≠ a := by
  induction u with
  | head =>
    rw [List.map_cons, List.nodup_cons] at n
    exact ⟨n.2, fun x hx e => n.1 (List.mem_map.mpr ⟨x, hx, e⟩)⟩
  | @tail a o L L' x u ih =>
    rw [List.map_cons, List.nodup_cons] at n
    obtain ⟨h1, h2⟩ := ih n.2
    refine ⟨?_, fun y hy => ?_⟩
    · rw [List.map_cons, List.nodup_cons]
      refine ⟨fun hm => n.1 ?_, h1⟩
      obtain ⟨z, hz, e⟩ := List.mem_map.mp hm
      exact List.mem_map.mpr ⟨z, u.sub z hz, e⟩
    · rcases List.mem_cons.mp hy with e | e
      · intro q
        apply n.1
        rw [← e, q]
        exact List.mem_map.mpr ⟨(a, o), u.mem, rfl⟩
      · exact h2 y e
section
variable {E : En} {F H F' H' : Hp} {L L' : Led} {a p : Addr} {o o' : HO} {K : PySem.W.Frag}
theorem St.init (h : Same F H) : St ⟨F, H⟩ F H [] :=
  ⟨Same.refl _, h, Same.refl _, fun _ h => .inl h, (fun _ h => nomatch h), List.nodup_nil⟩
theorem St.init1 (h : Same F H) (hp : H p = some o) (hf : F p = none) : St ⟨F, del H p⟩ F H [(p, o)] := by
  refine ⟨fun b u e => (del_some e).2, h, Same.refl _, fun _ h => .inl h, fun x hx => ?_, ?_⟩
  · rcases List.mem_cons.mp hx with e | e
    · subst e; exact ⟨hp, hf, del_self⟩
    · exact nomatch e
  · exact List.nodup_cons.mpr ⟨fun h => (nomatch h), List.nodup_nil⟩
theorem free_of (e : Same H H') (h : H' p = none) : H p = none := Same.free e h
theorem St.get (G : St E F H L) (m : (a, o) ∈ L) : H a = some o := (G.own _ m).1
theorem St.ne (G : St E F H L) (m : (a, o) ∈ L) (hp : H p = none) : a ≠ p := ne_of_none (G.get m) hp
/-- the heap grew, p is new -/
theorem St.add (G : St E F H L) (e : Same H H') (hn : H p = none) (hp : H' p = some o) : St E F H' ((p, o) :: L) := by
  refine ⟨G.bh.trans e, G.fh.trans e, G.ff, G.pr, fun x hx => ?_, ?_⟩
  · rcases List.mem_cons.mp hx with q | q
    · subst q
      exact ⟨hp, free_of G.fh hn, free_of G.bh hn⟩
    · obtain ⟨h1, h2, h3⟩ := G.own x q
      exact ⟨e _ _ h1, h2, h3⟩
  · rw [List.map_cons, List.nodup_cons]
    refine ⟨fun hm => ?_, G.nd⟩
    obtain ⟨z, hz, q⟩ := List.mem_map.mp hm
    have h1 := (G.own z hz).1
    rw [q, hn] at h1
    cases h1
theorem St.new (G : St E F H L) (hn : H p = none) : St E F (upd H p o) ((p, o) :: L) := G.add (same_new hn) hn upd_same
theorem St.grow (G : St E F H L) (e : Same H H') : St E F H' L :=
  ⟨G.bh.trans e, G.fh.trans e, G.ff, G.pr, fun x hx => ⟨e _ _ (G.own x hx).1, (G.own x hx).2⟩, G.nd⟩
theorem St.putB (G : St E F H L) (u : Upd L a o o' L') (e : SameB a H H') (ha : H' a = some o') : St E F H' L' := by
  obtain ⟨_, hf, hb⟩ := G.own _ u.mem
  have nF : ∀ b u, F b = some u → b ≠ a := fun b u h => ne_of_none h hf
  have nB : ∀ b u, E.H b = some u → b ≠ a := fun b u h => ne_of_none h hb
  refine ⟨fun b u h => e b u (nB b u h) (G.bh b u h), fun b u h => e b u (nF b u h) (G.fh b u h), G.ff, G.pr, fun x hx => ?_, ?_⟩
  · rcases u.of x hx with q | q
    · subst q; exact ⟨ha, hf, hb⟩
    · obtain ⟨h1, h2, h3⟩ := G.own x q
      refine ⟨?_, h2, h3⟩
      by_cases c : x.1 = a
      · have n' : (L'.map (·.1)).Nodup := by rw [u.fst]; exact G.nd
        rw [nd_one n' hx u.new c]; exact ha
      · exact e _ _ c h1
  · rw [u.fst]; exact G.nd
theorem St.put (G : St E F H L) (u : Upd L a o o' L') : St E F (upd H a o') L' :=
  G.putB u (fun b w h e => by rw [upd_ne h]; exact e) upd_same
/-- a call that changes nothing has come back -/
theorem St.call (G : St E F H L) (g : Gr F H F' H') : St E F' H' L := by
  refine ⟨G.bh.trans g.hh, g.fh, G.ff.trans g.ff, fun a h => ?_, fun x hx => ?_, G.nd⟩
  · rcases g.pr a h with q | q
    · exact G.pr a q
    · exact .inr (free_of G.bh q)
  · obtain ⟨h1, h2, h3⟩ := G.own x hx
    refine ⟨g.hh _ _ h1, ?_, h3⟩
    cases c : F' x.1 with
    | none => rfl
    | some w =>
      rcases g.pr x.1 (by rw [c]; exact fun z => nomatch z) with q | q
      · exact absurd h2 q
      · rw [q] at h1; cases h1
theorem St.callB (G : St E F H L) (u : Upd L p o o' L') (g : GrB p F H F' H') (hp : H' p = some o') : St E F' H' L' := by
  have G1 : St E F H' L' := G.putB u g.hh hp
  refine ⟨G1.bh, g.fh, G.ff.trans g.ff, fun a h => ?_, fun x hx => ?_, G1.nd⟩
  · rcases g.pr a h with q | q
    · exact G.pr a q
    · exact .inr (free_of G.bh q)
  · obtain ⟨h1, h2, h3⟩ := G1.own x hx
    refine ⟨h1, ?_, h3⟩
    cases c : F' x.1 with
    | none => rfl
    | some w =>
      rcases g.pr x.1 (by rw [c]; exact fun z => nomatch z) with q | q
      · exact absurd h2 q
      · exfalso
        rcases u.of x hx with z | z
        · subst z
          have := (G.own _ u.mem).1
          rw [q] at this; cases this
        · have := (G.own _ z).1
          rw [q] at this; cases this
/-- the end of a def that changes nothing -/
theorem St.gr (G : St ⟨F, H⟩ F' H' L) : Gr F H F' H' := ⟨G.ff, G.fh, G.bh, G.pr⟩
theorem St.grB (G : St ⟨F, del H p⟩ F' H' L) (m : (p, o) ∈ L) : GrB p F H F' H' := by
  refine ⟨G.ff, G.fh, fun b u h e => G.bh b u (by rw [show (En.mk F (del H p)).H = del H p from rfl, del_ne h]; exact e), fun a h => ?_⟩
  rcases G.pr a h with q | q
  · exact .inl q
  · by_cases c : a = p
    · subst c
      exact absurd (G.own _ m).2.1 h
    · exact .inr (by rw [show (En.mk F (del H p)).H = del H p from rfl, del_ne c] at q; exact q)
theorem Gr.refl (h : Same F H) : Gr F H F H := ⟨Same.refl _, h, Same.refl _, fun _ h => .inl h⟩
/-- an owned object is frozen -/
theorem St.frz (G : St E F H L) (t : Tak L a o L') : ∃ F', Same F F' ∧ F' a = some o ∧ St E F' H L' := by
  obtain ⟨h1, h2, h3⟩ := G.own _ t.mem
  obtain ⟨n1, n2⟩ := t.nd G.nd
  refine ⟨upd F a o, same_new h2, upd_same, ⟨G.bh, fun b u e => ?_, G.ff.trans (same_new h2), fun b hb => ?_, fun x hx => ?_, n1⟩⟩
  · by_cases c : b = a
    · rw [c, upd_same] at e; cases e; rw [c]; exact h1
    · rw [upd_ne c] at e; exact G.fh b u e
  · by_cases c : b = a
    · rw [c]; exact .inr h3
    · rw [upd_ne c] at hb; exact G.pr b hb
  · obtain ⟨q1, q2, q3⟩ := G.own x (t.sub x hx)
    exact ⟨q1, by rw [upd_ne (n2 x hx)]; exact q2, q3⟩
theorem St.drop (G : St E F H L) (t : Tak L a o L') : St E F H L' :=
  ⟨G.bh, G.fh, G.ff, G.pr, fun x hx => G.own x (t.sub x hx), (t.nd G.nd).1⟩

/-! ## what stands at an address, under growth -/
theorem rdS (e : Same H H') (h : Rd H a o) : Rd H' a o := by
  rcases h with h | ⟨z, h⟩
  · exact .inl (e _ _ h)
  · exact .inr ⟨z, e _ _ h⟩
theorem lS {xs : List V} (e : Same H H') (h : SqL K H a xs) : SqL K H' a xs := by
  rcases h with h | h
  · exact .inl (rdS e h)
  · exact .inr h
theorem tS {xs : List V} (e : Same H H') (h : SqT K H a xs) : SqT K H' a xs := by
  rcases h with h | h
  · exact .inl (rdS e h)
  · exact .inr h
mutual
theorem dpS (e : Same H H') : ∀ (d : PyData) (v : V), Dp K H v d → Dp K H' v d
  | .none, _, h => by cases h; exact .non
  | .bool b, _, h => by cases h; exact .bl b
  | .int i, _, h => by cases h; exact .int i
  | .str x, _, h => by cases h; exact .str x
  | .list ds, _, h => by cases h with | lst hs ha => exact .lst (lS e hs) (dpaS e ds _ ha)
  | .tuple ds, _, h => by cases h with | tup hs ha => exact .tup (tS e hs) (dpaS e ds _ ha)
  | .dict _, _, h => nomatch h
theorem dpaS (e : Same H H') : ∀ (ds : List PyData) (vs : List V), DpAll K H vs ds → DpAll K H' vs ds
  | [], _, h => by cases h; exact .nil
  | d :: ds, _, h => by cases h with | cons h1 h2 => exact .cons (dpS e d _ h1) (dpaS e ds _ h2)
end
theorem Dpx.mono {v : V} {d : PyData} (e : Same H H') (h : Dp K H v d) : Dp K H' v d := dpS e d v h
end
theorem sz {n : Nat} (h : n ≤ 1000000) : n ≤ sizeLine := Nat.le_trans h (by decide)
theorem szl {n : Nat} (h : n ≤ 1000000) : n < sizeLine := Nat.lt_of_le_of_lt h (by decide)
end SL

set_option Elab.async false
set_option linter.all false
set_option maxRecDepth 100000
set_option maxHeartbeats 4000000
namespace SL
open PySem L2
def RIf (k : Bool) (A B : Prop) : Prop := if k = true then A else B
def RB (x : V) (H : Hp) (Q : Bool → Hp → Prop) : Prop := ∃ k, x = .bl k ∧ Q k H
def RTup (Q : VK) (xs : List V) (H : Hp) : Prop := xs.length ≤ sizeLine ∧ ∀ p, H p = none → Q (.ref p) (upd H p (.tup xs))
def RLst (Q : VK) (xs : List V) (H : Hp) : Prop := xs.length ≤ sizeLine ∧ ∀ p, H p = none → Q (.ref p) (upd H p (.lst xs))
def RTy (K : PySem.W.Frag) (T : String) (x : V) (H : Hp) (A : Prop) : Prop := tyV K T x H ∧ A
def RPart (x : V) (H : Hp) (Q : Option Int → Hp → Prop) : Prop := ∃ i, x = .int i ∧ Q (some i) H
def RIL (K : PySem.W.Frag) (x : V) (H : Hp) (R : It → Hp → Prop) : Prop := ∃ a, x = .ref a ∧ (∃ xs, SqL K H a xs) ∧ R (Itl K a) H
def RIT (K : PySem.W.Frag) (x : V) (H : Hp) (R : It → Hp → Prop) : Prop := ∃ a, x = .ref a ∧ (∃ xs, SqT K H a xs) ∧ R (Itt K a) H
def RI1 (vs : List V) (H : Hp) (R : It → Hp → Prop) : Prop := ∃ j : Int, vs = [.int j] ∧ -(2 ^ 62) ≤ j ∧ j < 2 ^ 62 ∧ R (Itr 0 j.toNat) H
def RI2 (vs : List V) (H : Hp) (R : It → Hp → Prop) : Prop := ∃ i j : Int, vs = [.int i, .int j] ∧ (-(2 ^ 62) ≤ i ∧ i < 2 ^ 62 ∧ -(2 ^ 62) ≤ j ∧ j < 2 ^ 62) ∧ R (Itr i (j - i).toNat) H
def RFor (J : It) (g : TG) (tb : TS) (D : Ends) (σ : L2.St) (H1 : Hp) : Prop := ∃ W : Nat → Nat → L2.St → Hp → Prop, (∃ m, W 0 m σ H1) ∧ ∀ i m σ H, W i m σ H →
  (J.stop i H ∧ D.nx σ H) ∨ (J.go i H ∧ ∃ N : L2.St → Hp → Prop, (∀ σ' H', N σ' H' → ∃ m', m' < m ∧ W (i + 1) m' σ' H') ∧ ∀ x H', J.yld i H x H' → g x σ H' fun σ2 H2 => tb { D with nx := N, ct := N, bk := D.nx } σ2 H2)
-- calls by values
def rLen (K : PySem.W.Frag) : List V → Hp → VK → Prop := fun xs H Q => ∃ p ys, xs = [V.ref p] ∧ (SqL K H p ys ∨ SqT K H p ys) ∧ Q (V.int ys.length) H
section
variable {n b c : L2.St → Hp → Prop} {r : VK} {σ : L2.St} {H : Hp} {Q : VK} {QB : Bool → Hp → Prop} {t u : TS} {te ta tb : TE} {tc td : TT} {x y v : V} {K : PySem.W.Frag}
theorem w_seq (h : t ⟨u ⟨n, r, b, c⟩, r, b, c⟩ σ H) : tSeq t u ⟨n, r, b, c⟩ σ H := h
theorem w_asg {i : Nat} (h : te σ H fun v H1 => n (σ.set i (some v)) H1) : tAsg te (gName i) ⟨n, r, b, c⟩ σ H := h
theorem w_ret (h : te σ H r) : tRet te ⟨n, r, b, c⟩ σ H := h
theorem w_retN (h : r .non H) : tRetN ⟨n, r, b, c⟩ σ H := h
theorem w_drop (h : te σ H fun _ H1 => n σ H1) : tDrop te ⟨n, r, b, c⟩ σ H := h
theorem w_next (h : n σ H) : tNext ⟨n, r, b, c⟩ σ H := h
theorem w_break (h : b σ H) : tBreak ⟨n, r, b, c⟩ σ H := h
theorem w_cont (h : c σ H) : tCont ⟨n, r, b, c⟩ σ H := h
theorem w_if (h : tc σ H fun k H1 => RIf k (t ⟨n, r, b, c⟩ σ H1) (u ⟨n, r, b, c⟩ σ H1)) : tIfS tc t u ⟨n, r, b, c⟩ σ H := h
theorem w_var {i : Nat} (h : σ[i]? = some (some v)) (q : Q v H) : tVar i σ H Q := ⟨v, h, q⟩
theorem w_c (q : Q v H) : tC v σ H Q := q
theorem w_op {R : R2} (h : ta σ H fun x H1 => tb σ H1 fun y H2 => R x y H2 Q) : tOp R ta tb σ H Q := h
theorem w_un {R : V → Hp → VK → Prop} (h : ta σ H fun x H1 => R x H1 Q) : tUn R ta σ H Q := h
theorem w_test (h : te σ H fun x H1 => RB x H1 QB) : tTest te σ H QB := h
theorem w_tB (h : te σ H fun x H1 => RB x H1 QB) : tB te σ H QB := h
theorem w_and (h : tc σ H fun k H1 => RIf k (td σ H1 QB) (QB false H1)) : tAnd tc td σ H QB := h
theorem w_or (h : tc σ H fun k H1 => RIf k (QB true H1) (td σ H1 QB)) : tOr tc td σ H QB := h
theorem w_not (h : tc σ H fun k H1 => QB (!k) H1) : tNot tc σ H QB := h
theorem w_andV (h : ta σ H fun x H1 => RB x H1 fun k H1 => RIf k (tb σ H1 Q) (Q (.bl false) H1)) : tAndV ta tb σ H Q := h
theorem w_orV (h : ta σ H fun x H1 => RB x H1 fun k H1 => RIf k (Q (.bl true) H1) (tb σ H1 Q)) : tOrV ta tb σ H Q := h
theorem w_notV (h : ta σ H fun x H1 => RB x H1 fun k H1 => Q (.bl (!k)) H1) : tNotV ta σ H Q := h
theorem w_ifE (h : tc σ H fun k H1 => RIf k (ta σ H1 Q) (tb σ H1 Q)) : tIf tc ta tb σ H Q := h
theorem w_nil {QA : List V → Hp → Prop} (q : QA [] H) : tNil σ H QA := q
theorem w_cons {QA : List V → Hp → Prop} {tr : TA} (h : ta σ H fun x H1 => tr σ H1 fun xs H2 => QA (x :: xs) H2) : tCons ta tr σ H QA := h
theorem w_tup {tr : TA} (h : tr σ H fun xs H1 => RTup Q xs H1) : tTup tr σ H Q := h
theorem w_lst {tr : TA} (h : tr σ H fun xs H1 => RLst Q xs H1) : tLst tr σ H Q := h
theorem w_cb {R : List V → Hp → VK → Prop} {tr : TA} (h : tr σ H fun vs H1 => R vs H1 Q) : tCB R tr σ H Q := h
theorem w_call {sp : Sp} {E : XK} {tr : TA} (h : tr σ H fun vs H1 => sp vs H1 Q E) : tCall sp [] E tr σ H Q := by
  show tr σ H fun vs H1 => sp (vs ++ []) H1 Q E
  simpa only [List.append_nil] using h
theorem w_calld {sp : Sp} {dvs : List V} {E : XK} {tr : TA} (h : tr σ H fun vs H1 => sp (vs ++ dvs) H1 Q E) : tCall sp dvs E tr σ H Q := h
theorem w_callS {sp : Sp} {E : L2.St → XK} {tr : TA} (h : tr σ H fun vs H1 => sp vs H1 Q (E σ)) : tCallS sp E tr σ H Q := h
theorem w_bm {T : String} {R : V → List V → Hp → VK → Prop} {tr : TA} (h : te σ H fun x H1 => RTy K T x H1 (tr σ H1 fun xs H2 => R x xs H2 Q)) : tBM K T R te tr σ H Q := h
theorem w_bm0 {T : String} {R : V → List V → Hp → VK → Prop} (h : te σ H fun x H1 => RTy K T x H1 (R x [] H1 Q)) : tBM0 K T R te σ H Q := h
theorem w_sl {R : V → Option Int → Option Int → Hp → VK → Prop} {tl th : TO} (h : te σ H fun x H1 => tl σ H1 fun l H2 => th σ H2 fun u H3 => R x l u H3 Q) : tSl R te tl th σ H Q := h
theorem w_part {QO : Option Int → Hp → Prop} (h : te σ H fun x H1 => RPart x H1 QO) : tPart te σ H QO := h
theorem w_nopart {QO : Option Int → Hp → Prop} (h : QO none H) : tNoPart σ H QO := h
theorem w_for {wi : TI} {g : TG} (h : wi σ H fun J H1 => RFor J g t ⟨n, r, b, c⟩ σ H1) : tFor wi g t ⟨n, r, b, c⟩ σ H := h
theorem w_iL {R : It → Hp → Prop} (h : te σ H fun x H1 => RIL K x H1 R) : iList K te σ H R := h
theorem w_iT {R : It → Hp → Prop} (h : te σ H fun x H1 => RIT K x H1 R) : iTup K te σ H R := h
theorem w_i1 {R : It → Hp → Prop} {tr : TA} (h : tr σ H fun x H1 => RI1 x H1 R) : iRng1 tr σ H R := h
theorem w_i2 {R : It → Hp → Prop} {tr : TA} (h : tr σ H fun x H1 => RI2 x H1 R) : iRng2 tr σ H R := h
theorem w_aug {i : Nat} {ti : TIp} (h : σ[i]? = some (some x)) (q : te σ H fun y H1 => ti x y H1 fun z H2 => n (σ.set i (some z)) H2) : tAug i te ti ⟨n, r, b, c⟩ σ H := ⟨x, h, q⟩
theorem w_par {i j : Nat} {tr : TA} (h : tr σ H fun vs H1 => ∃ v w, vs = [v, w] ∧ n ((σ.set i (some v)).set j (some w)) H1) : tPar i j tr ⟨n, r, b, c⟩ σ H := h
-- values
theorem r_ifT {A B : Prop} (h : A) : RIf true A B := by unfold RIf; rw [if_pos rfl]; exact h
theorem r_ifF {A B : Prop} (h : B) : RIf false A B := by unfold RIf; rw [if_neg Bool.false_ne_true]; exact h
theorem r_ifNt {A B : Prop} (h : B) : RIf (!true) A B := r_ifF h
theorem r_ifNf {A B : Prop} (h : A) : RIf (!false) A B := r_ifT h
theorem r_ifRN {a : Addr} {A B : Prop} (h : B) : RIf (decide (V.ref a = V.non)) A B := by rw [decide_eq_false (fun z => nomatch z)]; exact r_ifF h
theorem r_ifNRN {a : Addr} {A B : Prop} (h : A) : RIf (!decide (V.ref a = V.non)) A B := by rw [decide_eq_false (fun z => nomatch z)]; exact r_ifT h
theorem r_ifNN {A B : Prop} (h : A) : RIf (decide (V.non = V.non)) A B := by rw [decide_eq_true rfl]; exact r_ifT h
theorem r_ifNNN {A B : Prop} (h : B) : RIf (!decide (V.non = V.non)) A B := by rw [decide_eq_true rfl]; exact r_ifF h
theorem r_if {k : Bool} {A B : Prop} (h1 : k = true → A) (h2 : k = false → B) : RIf k A B := by
  cases k with
  | true => exact r_ifT (h1 rfl)
  | false => exact r_ifF (h2 rfl)
theorem r_ifD {p : Prop} [Decidable p] {A B : Prop} (h1 : p → A) (h2 : ¬ p → B) : RIf (decide p) A B := r_if (fun h => h1 (of_decide_eq_true h)) fun h => h2 (of_decide_eq_false h)
theorem r_ifN {p : Prop} [Decidable p] {A B : Prop} (h1 : ¬ p → A) (h2 : p → B) : RIf (!decide p) A B := by
  by_cases h : p
  · rw [decide_eq_true h]; exact r_ifF (h2 h)
  · rw [decide_eq_false h]; exact r_ifT (h1 h)
theorem r_ifDT {p : Prop} [Decidable p] {A B : Prop} (h : p) (q : A) : RIf (decide p) A B := by rw [decide_eq_true h]; exact r_ifT q
theorem r_ifDF {p : Prop} [Decidable p] {A B : Prop} (h : ¬ p) (q : B) : RIf (decide p) A B := by rw [decide_eq_false h]; exact r_ifF q
theorem r_ifNT {p : Prop} [Decidable p] {A B : Prop} (h : ¬ p) (q : A) : RIf (!decide p) A B := by rw [decide_eq_false h]; exact r_ifT q
theorem r_ifNF {p : Prop} [Decidable p] {A B : Prop} (h : p) (q : B) : RIf (!decide p) A B := by rw [decide_eq_true h]; exact r_ifF q
theorem r_b {k : Bool} (q : QB k H) : RB (.bl k) H QB := ⟨k, rfl, q⟩
theorem r_I0 {g : Int → Int → V} {i j : Int} (q : Q (g i j) H) : rI0 g (.int i) (.int j) H Q := ⟨i, j, rfl, rfl, q⟩
theorem r_I {C : Int → Int → Prop} {g : Int → Int → V} {i j : Int} (h : C i j) (q : Q (g i j) H) : rI C g (.int i) (.int j) H Q := ⟨i, j, rfl, rfl, h, q⟩
theorem r_U {g : Int → V} {i : Int} (q : Q (g i) H) : rU g (.int i) H Q := ⟨i, rfl, q⟩
theorem decV {i j : Int} : decide (V.int i = V.int j) = decide (i = j) := by
  by_cases h : i = j
  · subst h; rw [decide_eq_true rfl, decide_eq_true rfl]
  · rw [decide_eq_false h, decide_eq_false (fun q => h (V.int.inj q))]
theorem decS {i j : Str} : decide (V.str i = V.str j) = decide (i = j) := by
  by_cases h : i = j
  · subst h; rw [decide_eq_true rfl, decide_eq_true rfl]
  · rw [decide_eq_false h, decide_eq_false (fun q => h (V.str.inj q))]
theorem decB {i j : Bool} : decide (V.bl i = V.bl j) = decide (i = j) := by
  cases i <;> cases j <;> rfl
theorem r_eqI {i j : Int} (q : Q (.bl (decide (i = j))) H) : rEq (.int i) (.int j) H Q := ⟨rfl, by rw [decV]; exact q⟩
theorem r_neI {i j : Int} (q : Q (.bl (!decide (i = j))) H) : rNe (.int i) (.int j) H Q := ⟨rfl, by rw [decV]; exact q⟩
theorem r_eqS {i j : Str} (q : Q (.bl (decide (i = j))) H) : rEq (.str i) (.str j) H Q := ⟨rfl, by rw [decS]; exact q⟩
theorem r_neS {i j : Str} (q : Q (.bl (!decide (i = j))) H) : rNe (.str i) (.str j) H Q := ⟨rfl, by rw [decS]; exact q⟩
theorem r_eqB {i j : Bool} (q : Q (.bl (decide (i = j))) H) : rEq (.bl i) (.bl j) H Q := ⟨rfl, by rw [decB]; exact q⟩
theorem r_neB {i j : Bool} (q : Q (.bl (!decide (i = j))) H) : rNe (.bl i) (.bl j) H Q := ⟨rfl, by rw [decB]; exact q⟩
theorem r_len {p : Addr} {xs : List V} (h : SqL K H p xs ∨ SqT K H p xs) (q : Q (.int xs.length) H) : rLen K [.ref p] H Q := ⟨p, xs, rfl, h, q⟩
theorem r_ixL {p : Addr} {xs : List V} {i : Int} (h : SqL K H p xs) (ha : atI xs i = some v) (q : Q v H) : rIxL K (.ref p) (.int i) H Q := ⟨p, xs, i, v, rfl, rfl, h, ha, q⟩
theorem r_ixT {p : Addr} {xs : List V} {i : Int} (h : SqT K H p xs) (ha : atI xs i = some v) (q : Q v H) : rIxT K (.ref p) (.int i) H Q := ⟨p, xs, i, v, rfl, rfl, h, ha, q⟩
theorem r_tyL {p : Addr} {xs : List V} {A : Prop} (h : SqL K H p xs) (q : A) : RTy K "list" (.ref p) H A := ⟨Or.inl ⟨rfl, _, h⟩, q⟩
theorem r_part {i : Int} {QO : Option Int → Hp → Prop} (q : QO (some i) H) : RPart (.int i) H QO := ⟨i, rfl, q⟩
variable {E : En} {F H' : Hp} {L L' : Led} {p : Addr} {xs : List V}
theorem r_tup (G : St E F H L) (hs : xs.length ≤ sizeLine) (q : ∀ p H', St E F H' ((p, .tup xs) :: L) → Q (.ref p) H') : RTup Q xs H := ⟨hs, fun p hp => q p _ (G.new hp)⟩
theorem r_lst (G : St E F H L) (hs : xs.length ≤ sizeLine) (q : ∀ p H', St E F H' ((p, .lst xs) :: L) → Q (.ref p) H') : RLst Q xs H := ⟨hs, fun p hp => q p _ (G.new hp)⟩
theorem r_tupS (G : St E F H L) (hs : xs.length ≤ sizeLine) (q : ∀ p H', Same H H' → St E F H' ((p, .tup xs) :: L) → Q (.ref p) H') : RTup Q xs H := ⟨hs, fun p hp => q p _ (same_new hp) (G.new hp)⟩
theorem r_lstS (G : St E F H L) (hs : xs.length ≤ sizeLine) (q : ∀ p H', Same H H' → St E F H' ((p, .lst xs) :: L) → Q (.ref p) H') : RLst Q xs H := ⟨hs, fun p hp => q p _ (same_new hp) (G.new hp)⟩
theorem r_append (G : St E F H L) (u : Upd L p (.lst xs) (.lst (xs ++ [v])) L') (hs : xs.length < sizeLine) (q : ∀ H', St E F H' L' → Q .non H') : rAppend (.ref p) [v] H Q :=
  ⟨p, xs, v, rfl, rfl, G.get u.mem, hs, q _ (G.put u)⟩
theorem r_pop (G : St E F H L) (u : Upd L p (.lst (xs ++ [v])) (.lst xs) L') (q : ∀ H', St E F H' L' → Q v H') : rPop (.ref p) [] H Q :=
  ⟨p, xs ++ [v], v, rfl, rfl, G.get u.mem, by simp, by rw [List.dropLast_concat]; exact q _ (G.put u)⟩
theorem r_reverse (G : St E F H L) (u : Upd L p (.lst xs) (.lst xs.reverse) L') (q : ∀ H', St E F H' L' → Q .non H') : rReverse (.ref p) [] H Q :=
  ⟨p, xs, rfl, rfl, G.get u.mem, q _ (G.put u)⟩
theorem r_setL {k : Int} {j : Nat} {QH : Hp → Prop} (G : St E F H L) (hj : ixN xs.length k = some j) (u : Upd L p (.lst xs) (.lst (xs.set j v)) L') (q : ∀ H', St E F H' L' → QH H') : rSetL (.ref p) (.int k) v H QH :=
  ⟨p, xs, k, j, rfl, rfl, G.get u.mem, hj, q _ (G.put u)⟩
theorem r_slL {lo hi : Option Int} (G : St E F H L) (h : SqL K H p xs) (q : ∀ p' H', St E F H' ((p', .lst (cutV xs lo hi)) :: L) → Q (.ref p') H') : rSlL K (.ref p) lo hi H Q :=
  ⟨p, xs, rfl, h, fun p' hp => q p' _ (G.new hp)⟩
theorem r_cat {p2 : Addr} {ys : List V} (G : St E F H L) (m1 : (p, HO.lst xs) ∈ L) (m2 : (p2, HO.lst ys) ∈ L) (hs : xs.length + ys.length ≤ sizeLine) (q : ∀ p' H', St E F H' ((p', .lst (xs ++ ys)) :: L) → Q (.ref p') H') : rCat (.ref p) (.ref p2) H Q :=
  ⟨p, p2, xs, ys, rfl, rfl, G.get m1, G.get m2, hs, fun p' hp => q p' _ (G.new hp)⟩
-- walks
theorem r_il {a : Addr} {R : It → Hp → Prop} (h : SqL K H a xs) (q : R (Itl K a) H) : RIL K (.ref a) H R := ⟨a, rfl, ⟨xs, h⟩, q⟩
theorem r_it {a : Addr} {R : It → Hp → Prop} (h : SqT K H a xs) (q : R (Itt K a) H) : RIT K (.ref a) H R := ⟨a, rfl, ⟨xs, h⟩, q⟩
theorem r_i1 {j : Int} {R : It → Hp → Prop} (h : -(2 ^ 62) ≤ j ∧ j < 2 ^ 62) (q : R (Itr 0 j.toNat) H) : RI1 [.int j] H R := ⟨j, rfl, h.1, h.2, q⟩
theorem r_i2 {i j : Int} {R : It → Hp → Prop} (h : -(2 ^ 62) ≤ i ∧ i < 2 ^ 62 ∧ -(2 ^ 62) ≤ j ∧ j < 2 ^ 62) (q : R (Itr i (j - i).toNat) H) : RI2 [.int i, .int j] H R := ⟨i, j, rfl, h, q⟩
theorem r_forL {a : Addr} {i0 : Nat} (Pv : Nat → L2.St → Hp → Prop) (h0 : Pv 0 σ H) (hl : ∀ i σ H, i ≤ xs.length → Pv i σ H → SqL K H a xs)
    (hs : ∀ i x σ H, xs[i]? = some x → Pv i σ H → t ⟨Pv (i + 1), r, n, Pv (i + 1)⟩ (σ.set i0 (some x)) H) (hd : ∀ σ H, Pv xs.length σ H → n σ H) : RFor (Itl K a) (gName i0) t ⟨n, r, b, c⟩ σ H :=
  for_list (D := ⟨n, r, b, c⟩) Pv h0 hl hs hd
theorem r_forT {a : Addr} {i0 : Nat} (Pv : Nat → L2.St → Hp → Prop) (h0 : Pv 0 σ H) (hl : ∀ i σ H, i ≤ xs.length → Pv i σ H → SqT K H a xs)
    (hs : ∀ i x σ H, xs[i]? = some x → Pv i σ H → t ⟨Pv (i + 1), r, n, Pv (i + 1)⟩ (σ.set i0 (some x)) H) (hd : ∀ σ H, Pv xs.length σ H → n σ H) : RFor (Itt K a) (gName i0) t ⟨n, r, b, c⟩ σ H :=
  for_tup (D := ⟨n, r, b, c⟩) Pv h0 hl hs hd
theorem r_forR {lo : Int} {m i0 : Nat} (Pv : Nat → L2.St → Hp → Prop) (h0 : Pv 0 σ H)
    (hs : ∀ i σ H, i < m → Pv i σ H → t ⟨Pv (i + 1), r, n, Pv (i + 1)⟩ (σ.set i0 (some (.int (lo + i)))) H) (hd : ∀ σ H, Pv m σ H → n σ H) : RFor (Itr lo m) (gName i0) t ⟨n, r, b, c⟩ σ H :=
  for_range (D := ⟨n, r, b, c⟩) Pv h0 hs hd
end
/-! ## the steps by themselves -/
section
set_option hygiene false
local macro_rules | `(tactic| walk_at "g1") => `(tactic| first
  | with_reducible refine w_seq ?_ | with_reducible refine w_asg ?_ | with_reducible refine w_var rfl ?_ | with_reducible refine w_c ?_ | with_reducible refine w_op ?_
  | with_reducible refine r_I0 ?_ | with_reducible refine w_test ?_ | with_reducible refine r_b ?_ | with_reducible refine w_if ?_ | with_reducible refine w_cons ?_ | with_reducible refine w_nil ?_
  | with_reducible refine w_ret ?_)
end
end SL

set_option Elab.async false
set_option linter.all false
set_option maxRecDepth 100000
set_option maxHeartbeats 4000000
namespace SL
open PySem L2
abbrev rAddI : R2 := rI0 fun i j => .int (i + j)
abbrev rSubI : R2 := rI0 fun i j => .int (i - j)
abbrev rMulI : R2 := rI CMulW fun i j => .int (i * j)
abbrev rDivI : R2 := rI CDivW fun i j => .int (i / j)
abbrev rModI : R2 := rI (fun _ j => 0 < j) fun i j => .int (i % j)
abbrev rPowI : R2 := rI CPow fun i j => .int (i ^ j.toNat)
abbrev rShlI : R2 := rI CShl fun i j => .int (i * 2 ^ j.toNat)
abbrev rShrI : R2 := rI (fun _ j => 0 ≤ j) fun i j => .int (i / 2 ^ j.toNat)
abbrev rAndI : R2 := rI0 fun i j => .int (Builtin.bitAnd i j)
abbrev rOrI : R2 := rI0 fun i j => .int (Builtin.bitOr i j)
abbrev rXorI : R2 := rI0 fun i j => .int (Builtin.bitXor i j)
abbrev rNegI : V → Hp → VK → Prop := rU fun i => .int (-i)
abbrev rLtI : R2 := rI0 fun i j => .bl (decide (i < j))
abbrev rLeI : R2 := rI0 fun i j => .bl (decide (i ≤ j))
abbrev rGtI : R2 := rI0 fun i j => .bl (decide (j < i))
abbrev rGeI : R2 := rI0 fun i j => .bl (decide (j ≤ i))
def rIsNone : R2 := fun x y H Q => y = .non ∧ Q (.bl (decide (x = .non))) H
def rNotNone : R2 := fun x y H Q => y = .non ∧ Q (.bl (!decide (x = .non))) H
def rInt1 : List V → Hp → VK → Prop := fun xs H Q => (∃ i, xs = [.int i] ∧ Q (.int i) H) ∨ ∃ k, xs = [.bl k] ∧ Q (.int (if k then 1 else 0)) H
def rListOf (K : PySem.W.Frag) : List V → Hp → VK → Prop := fun xs H Q => ∃ p ys, xs = [.ref p] ∧ (SqL K H p ys ∨ SqT K H p ys) ∧ ∀ l, H l = none → Q (.ref l) (upd H l (.lst ys))
def rTupOf (K : PySem.W.Frag) : List V → Hp → VK → Prop := fun xs H Q => ∃ p ys, xs = [.ref p] ∧ ((SqL K H p ys ∧ ∀ l, H l = none → Q (.ref l) (upd H l (.tup ys))) ∨ (SqT K H p ys ∧ Q (.ref p) H))
def rMax2 : List V → Hp → VK → Prop := fun xs H Q => ∃ i j, xs = [.int i, .int j] ∧ Q (.int (if j > i then j else i)) H
def rMin2 : List V → Hp → VK → Prop := fun xs H Q => ∃ i j, xs = [.int i, .int j] ∧ Q (.int (if j < i then j else i)) H
def rLenStr : List V → Hp → VK → Prop := fun xs H Q => ∃ z, xs = [.str z] ∧ z.length ≤ sizeLine ∧ Q (.int z.length) H
def rAddS : R2 := fun x y H Q => ∃ i j, x = .str i ∧ y = .str j ∧ i.length + j.length ≤ sizeLine ∧ Q (.str (i ++ j)) H
abbrev iAddI : TIp := ipI fun i j => i + j
abbrev iSubI : TIp := ipI fun i j => i - j
def tTru (K : PySem.W.Frag) (ta : TE) : TT := fun σ H Q => ta σ H fun x H' => ∃ k, TruV K x H' k ∧ Q k H'
def tRs (C : Addr) (E : XK) : TS := fun _ _ H => E (.ref C) none H
/-- what holds of an error wherever it was raised in the suite -/
def wAll (W : WX) : XK := fun cls d H => ∀ σ, W cls d σ H
theorem passes_all {X : Cx} {W : WX} (tk : Takes X W) : Passes (L2.CX X.prog X.w) X (wAll W) := passes_call tk fun _ _ σ _ h => h σ
section
variable {n b c : L2.St → Hp → Prop} {r : VK} {σ : L2.St} {H H' : Hp} {Q : VK} {x y v : V} {K : PySem.W.Frag} {E : En} {F : Hp} {L L' : Led} {p : Addr} {xs : List V}
theorem r_mul {i j : Int} {m k : Nat} (hi : i.natAbs < 2 ^ m) (hj : j.natAbs < 2 ^ k) (q : Q (.int (i * j)) H) (hm : 0 < m := by decide) (hk : 0 < k := by decide) (hs : m + k ≤ 1000000 := by decide) : rI CMulW (fun i j => .int (i * j)) (.int i) (.int j) H Q :=
  r_I (wide_mul hi hj hm hk hs) q
theorem r_div {i j : Int} (hj : 0 < j) (hb : j.natAbs < 2 ^ 200) (q : Q (.int (i / j)) H) : rI CDivW (fun i j => .int (i / j)) (.int i) (.int j) H Q :=
  r_I (wide_div hj hb (by decide) (by decide)) q
theorem r_isnone (q : Q (.bl (decide (x = .non))) H) : rIsNone x .non H Q := ⟨rfl, q⟩
theorem r_notnone (q : Q (.bl (!decide (x = .non))) H) : rNotNone x .non H Q := ⟨rfl, q⟩
theorem r_int1 {i : Int} (q : Q (.int i) H) : rInt1 [.int i] H Q := .inl ⟨i, rfl, q⟩
theorem r_int1b {k : Bool} (q : Q (.int (if k then 1 else 0)) H) : rInt1 [.bl k] H Q := .inr ⟨k, rfl, q⟩
theorem r_listof (G : St E F H L) (h : SqL K H p xs ∨ SqT K H p xs) (q : ∀ p' H', St E F H' ((p', .lst xs) :: L) → Q (.ref p') H') : rListOf K [.ref p] H Q :=
  ⟨p, xs, rfl, h, fun p' hp => q p' _ (G.new hp)⟩
theorem r_tupofL (G : St E F H L) (h : SqL K H p xs) (q : ∀ p' H', St E F H' ((p', .tup xs) :: L) → Q (.ref p') H') : rTupOf K [.ref p] H Q :=
  ⟨p, xs, rfl, .inl ⟨h, fun p' hp => q p' _ (G.new hp)⟩⟩
theorem r_tupofT (h : SqT K H p xs) (q : Q (.ref p) H) : rTupOf K [.ref p] H Q := ⟨p, xs, rfl, .inr ⟨h, q⟩⟩
theorem r_max2 {i j : Int} (q : Q (.int (if j > i then j else i)) H) : rMax2 [.int i, .int j] H Q := ⟨i, j, rfl, q⟩
theorem r_min2 {i j : Int} (q : Q (.int (if j < i then j else i)) H) : rMin2 [.int i, .int j] H Q := ⟨i, j, rfl, q⟩
theorem r_ipI {f : Int → Int → Int} {i j : Int} (q : Q (.int (f i j)) H) : ipI f (.int i) (.int j) H Q := ⟨i, j, rfl, rfl, q⟩
theorem w_tru {ta : TE} {QB : Bool → Hp → Prop} (h : ta σ H fun x H' => ∃ k, TruV K x H' k ∧ QB k H') : tTru K ta σ H QB := h
theorem w_rs {C : Addr} {X : XK} (h : X (.ref C) none H) : tRs C X ⟨n, r, b, c⟩ σ H := h
theorem w_gsub {te ti : TE} {t : TSet} {v : V} {QN : L2.St → Hp → Prop} (h : te σ H fun o H1 => ti σ H1 fun i H2 => t o i v H2 fun H3 => QN σ H3) : gSub te ti t v σ H QN := h
theorem w_asgG {te : TE} {g : TG} (h : te σ H fun v H1 => g v σ H1 n) : tAsg te g ⟨n, r, b, c⟩ σ H := h
end
/-! ## lists of ints, the draws -/
abbrev iv (ns : List Int) : List V := ns.map V.int
theorem iv_len {ns : List Int} : (iv ns).length = ns.length := List.length_map ..
theorem iv_get {ns : List Int} {i : Nat} {x : V} (h : (iv ns)[i]? = some x) : ∃ z, ns[i]? = some z ∧ x = .int z := by
  rw [List.getElem?_map] at h
  cases e : ns[i]? with
  | none => rw [e] at h; cases h
  | some z => rw [e] at h; exact ⟨z, rfl, (Option.some.inj h).symm⟩
theorem atI_iv {ns : List Int} {i : Int} (h0 : 0 ≤ i) (h1 : i < ns.length) : atI (iv ns) i = some (.int (ns.getD i.toNat 0)) := by
  have e : ((i.toNat : Nat) : Int) = i := by omega
  have hlt : i.toNat < ns.length := by omega
  have g : (iv ns)[i.toNat]? = some (.int (ns.getD i.toNat 0)) := by
    rw [List.getElem?_map, List.getElem?_eq_getElem hlt, List.getD_eq_getElem?_getD, List.getElem?_eq_getElem hlt]; rfl
  have q := atI_nat g
  rw [e] at q
  exact q
theorem ixN_of {n : Nat} {i : Int} (h0 : 0 ≤ i) (h1 : i < n) : ixN n i = some i.toNat := by
  unfold ixN; rw [if_pos h0, if_pos h1]
structure Dok (ds : List Int) : Prop where
  len : ds.length ≤ 1000
  rng : ∀ d ∈ ds, 0 ≤ d ∧ d < 1000
end SL

set_option Elab.async false
set_option linter.all false
set_option maxRecDepth 100000
set_option maxHeartbeats 4000000
namespace SL
open PySem L2
section

set_option hygiene false
local macro_rules | `(tactic| walk_at "m") => `(tactic| first | exact List.Mem.head _ | (refine List.Mem.tail _ ?_; walk_at "m"))
local macro_rules | `(tactic| walk_at "u") => `(tactic| first | exact Upd.head | (apply Upd.tail; walk_at "u"))
local macro_rules | `(tactic| walk_at "tk") => `(tactic| first | exact Tak.head | (apply Tak.tail; walk_at "tk"))
local macro_rules | `(tactic| walk_at "l") => `(tactic| first | assumption | exact lS (St.fh (by assumption)) (by assumption) | exact SqL.of (St.get (by assumption) (by walk_at "m")))
local macro_rules | `(tactic| walk_at "t") => `(tactic| first | assumption | exact tS (St.fh (by assumption)) (by assumption) | exact SqT.of (St.get (by assumption) (by walk_at "m")))
local macro_rules | `(tactic| walk_at "lt") => `(tactic| first | exact .inl (by walk_at "l") | exact .inr (by walk_at "t"))
local macro_rules | `(tactic| walk_at "sz") => `(tactic| first | (show _ ≤ sizeLine; decide) | exact sz (by simp) | exact szl (by simp) | exact sz (by omega) | exact szl (by omega) | exact sz (by simp; omega) | exact szl (by simp; omega))
local macro_rules | `(tactic| walk_at "c") => `(tactic| first | assumption | decide | omega)
local macro_rules | `(tactic| walk_at "g1") => `(tactic| with_reducible first
  | refine w_seq ?_ | refine w_asg ?_ | refine w_c ?_ | refine w_op ?_
  | refine r_I0 ?_ | refine w_test ?_ | refine r_b ?_ | refine w_if ?_ | refine w_cons ?_ | refine w_nil ?_
  | refine w_ret ?_ | refine w_drop ?_ | refine w_cb ?_ | refine w_call ?_ | refine w_next ?_ | refine w_tup ?_ | refine w_lst ?_ | refine w_bm ?_ | refine w_bm0 ?_
  | refine w_and ?_ | refine w_or ?_ | refine w_not ?_ | refine w_andV ?_ | refine w_orV ?_ | refine w_notV ?_ | refine w_tB ?_ | refine w_un ?_ | refine r_U ?_
  | refine w_for ?_ | refine w_iL ?_ | refine w_iT ?_ | refine w_i1 ?_ | refine w_i2 ?_ | refine w_sl ?_ | refine w_part ?_ | refine w_nopart ?_ | refine r_part ?_
  | refine r_eqI ?_ | refine r_neI ?_ | refine r_eqS ?_ | refine r_neS ?_ | refine r_eqB ?_ | refine r_neB ?_ | refine r_ifT ?_ | refine r_ifF ?_ | refine r_ifNt ?_ | refine r_ifNf ?_ | refine r_ifRN ?_ | refine r_ifNRN ?_ | refine r_ifNN ?_ | refine r_ifNNN ?_
  | refine w_ifE ?_ | refine r_int1 ?_ | refine r_int1b ?_ | refine r_isnone ?_ | refine r_notnone ?_ | refine r_max2 ?_ | refine r_min2 ?_ | refine r_ipI ?_ | refine w_tru ?_ | refine w_rs ?_
  | refine w_retN ?_ | refine w_break ?_ | refine w_cont ?_ | refine w_callS ?_ | refine w_asgG ?_ | refine w_gsub ?_)
local macro_rules | `(tactic| walk_at "g2") => `(tactic| first
  | ((with_reducible refine' w_var ?hv ?_); (case hv => rfl)) | ((with_reducible refine' w_aug ?hv ?_); (case hv => rfl))
  | ((with_reducible show rLen _ _ _ _); refine r_len (by walk_at "lt") ?_)
  | (with_reducible refine r_I ?cnd ?_; (case cnd => first | decide | omega | assumption | (unfold CPow; decide)))
  | ((with_reducible show RTy _ _ _ _ _); refine r_tyL (by walk_at "l") ?_)
  | (with_reducible refine r_ifDT (by walk_at "c") ?_) | (with_reducible refine r_ifDF (by walk_at "c") ?_)
  | (with_reducible refine r_ifNT (by walk_at "c") ?_) | (with_reducible refine r_ifNF (by walk_at "c") ?_))
local macro_rules | `(tactic| walk_at "go") => `(tactic| repeat (first | walk_at "g1" | walk_at "g2"))

abbrev F2 : L2.St → Hp → Prop := fun _ _ => False
abbrev D0 (Q : VK) : Ends := ⟨fun _ H' => Q .non H', Q, F2, F2⟩
/-! ### take -/
def cp_take (K : PySem.W.Frag) : Sp := fun vs H Q E => ∃ (p : Addr) (ds : List Int) (l : Int), vs = [.ref p, .int l] ∧
  (H p = some (.lst (iv ds)) ∧ Dok ds ∧ 0 < l ∧ ∀ i H' ds', 0 ≤ i → i < l → Dok ds' → SameB p H H' → H' p = some (.lst (iv ds')) → Q (.int i) H')
def ct_take (K : PySem.W.Frag) : TS := (tSeq (tIfS (tTest (tOp rEq (tCB (rLen K) (tCons (tVar 0) tNil)) (tC (.int (0))))) (tRet (tC (.int (0)))) tNext)
 (tRet (tOp rModI (tCB rInt1 (tCons (tBM0 K "list" rPop (tVar 0)) tNil)) (tVar 1))))
theorem cv_take {K : PySem.W.Frag} {vs : List V} {H : Hp} {Q : VK} {E : XK} (h : cp_take K vs H Q E) : ct_take K (D0 Q) (start ["draws", "limit"] vs) H := by
  obtain ⟨p, ds, l, rfl, hp, hd, hl, k⟩ := h
  have G := St.init1 (F := fun _ => none) (fun _ _ e => nomatch e) hp rfl
  unfold ct_take
  show tSeq _ _ (D0 Q) [some (.ref p), some (.int l)] H
  unfold D0
  walk_at "go"
  rw [iv_len]
  refine r_ifD (fun h => ?_) (fun h => ?_)
  · walk_at "go"
    exact k 0 H ds (by omega) hl hd (fun _ _ _ e => e) hp
  · have hne : ds ≠ [] := fun e => h (by rw [e]; rfl)
    obtain ⟨d1, z, rfl⟩ : ∃ d1 z, ds = d1 ++ [z] := ⟨ds.dropLast, ds.getLast hne, (List.dropLast_concat_getLast hne).symm⟩
    rw [show iv (d1 ++ [z]) = iv d1 ++ [.int z] from by simp] at G
    walk_at "go"
    refine r_pop G (by walk_at "u") fun H' G' => ?_
    walk_at "go"
    have hd' : Dok d1 := ⟨by have := hd.len; simp at this; omega, fun d m => hd.rng d (List.mem_append_left _ m)⟩
    exact k _ H' d1 (Int.emod_nonneg _ (by omega)) (Int.emod_lt_of_pos _ hl) hd' (G'.grB (by walk_at "m")).hh (G'.get (by walk_at "m"))
theorem u_take {K : PySem.W.Frag} {H F : Hp} {Q : VK} {X : XK} {E : En} {L : Led} {L' : List Int → Led} {p : Addr} {ds : List Int} {l : Int} (G : St E F H L) (u : ∀ ds', Upd L p (.lst (iv ds)) (.lst (iv ds')) (L' ds')) (hd : Dok ds) (hl : 0 < l)
    (q : ∀ i ds' H', 0 ≤ i → i < l → Dok ds' → St E F H' (L' ds') → Q (.int i) H') : cp_take K [.ref p, .int l] H Q X :=
  ⟨p, ds, l, rfl, G.get (u ds).mem, hd, hl, fun i H' ds' h0 h1 hd' hs hp => q i ds' H' h0 h1 hd' (G.putB (u ds') hs hp)⟩
/-! ### draws -/
def cp_draws (K : PySem.W.Frag) : Sp := fun vs H Q E => ∃ (a : Addr) (ns : List Int) (c : Int), vs = [.ref a, .int c] ∧
  (SqL K H a (iv ns) ∧ ns.length ≤ 63 ∧ 0 ≤ c ∧ c ≤ 1000 ∧ ∀ p H' ds, H p = none → Same H H' → H' p = some (.lst (iv ds)) → Dok ds → Q (.ref p) H')
def ct_draws (K : PySem.W.Frag) : TS := (tSeq (tAsg (tCB (rListOf K) (tCons (tVar 0) tNil)) (gName 2))
 (tSeq (tIfS (tTest (tOp rEq (tCB (rLen K) (tCons (tVar 2) tNil)) (tC (.int (0))))) (tAsg (tLst (tCons (tC (.int (7))) tNil)) (gName 2)) tNext)
 (tSeq (tAsg (tLst tNil) (gName 3))
 (tSeq (tAsg (tC (.int (12345))) (gName 4))
 (tSeq (tFor (iRng1 (tCons (tVar 1) tNil)) (gName 5) (tSeq (tAsg (tOp rModI (tVar 5) (tCB (rLen K) (tCons (tVar 2) tNil))) (gName 6))
 (tSeq (tAsg (tOp (rIxL K) (tVar 2) (tVar 6)) (gName 7))
 (tSeq (tAsg (tOp rModI (tCB rInt1 (tCons (tOp rAddI (tOp rAddI (tOp rAddI (tOp rMulI (tVar 4) (tC (.int (48271)))) (tOp rMulI (tOp rModI (tCB rInt1 (tCons (tVar 7) tNil)) (tC (.int (1000003)))) (tC (.int (69621))))) (tOp rMulI (tVar 5) (tC (.int (7919))))) (tC (.int (11)))) tNil)) (tC (.int (2147483647)))) (gName 4))
 (tSeq (tAsg (tOp rModI (tCB rInt1 (tCons (tOp rAddI (tOp rAddI (tOp rMulI (tVar 4) (tVar 4)) (tOp rMulI (tC (.int (31))) (tVar 4))) (tVar 5)) tNil)) (tC (.int (1000003)))) (gName 8))
 (tIfS (tTest (tOp rGeI (tVar 7) (tOp rPowI (tC (.int (10))) (tC (.int (18)))))) (tSeq (tDrop (tBM K "list" rAppend (tVar 3) (tCons (tOp rModI (tCB rInt1 (tCons (tVar 7) tNil)) (tC (.int (1000)))) tNil)))
 (tAsg (tOp rDivI (tVar 7) (tC (.int (1000)))) (gSub (tVar 2) (tVar 6) rSetL))) (tDrop (tBM K "list" rAppend (tVar 3) (tCons (tOp rModI (tCB rInt1 (tCons (tVar 8) tNil)) (tC (.int (1000)))) tNil)))))))))
 (tSeq (tDrop (tBM0 K "list" rReverse (tVar 3)))
 (tRet (tVar 3))))))))
theorem nab {i : Int} (h0 : 0 ≤ i) (h1 : i < 4294967296) : i.natAbs < 2 ^ 32 := by
  have : (2 : Nat) ^ 32 = 4294967296 := by decide
  omega
theorem iv_snoc {ns : List Int} {z : Int} : iv ns ++ [.int z] = iv (ns ++ [z]) := by simp
theorem iv_set {ns : List Int} {j : Nat} {z : Int} : (iv ns).set j (.int z) = iv (ns.set j z) := by simp [List.map_set]
theorem cv_draws {K : PySem.W.Frag} {vs : List V} {H : Hp} {Q : VK} {E : XK} (h : cp_draws K vs H Q E) : ct_draws K (D0 Q) (start ["script", "count", "cells", "found", "mixed", "k", "j", "cell", "again"] vs) H := by
  obtain ⟨a, ns, c, rfl, ha, hn, hc0, hc1, k⟩ := h
  have G := St.init (Same.refl H)
  unfold ct_draws
  show tSeq _ _ (D0 Q) [some (.ref a), some (.int c), none, none, none, none, none, none, none] H
  unfold D0
  walk_at "go"
  refine r_listof G (.inl ha) fun p1 H1 G1 => ?_
  walk_at "go"
  -- from here on: some list of ints at p1 that is not empty
  suffices S : ∀ (p1 : Addr) (cs : List Int) (H1 : Hp) (L : Led), St ⟨H, H⟩ H H1 ((p1, .lst (iv cs)) :: L) → 0 < cs.length → cs.length ≤ 63 →
      tSeq (tAsg (tLst tNil) (gName 3)) (tSeq (tAsg (tC (.int 12345)) (gName 4)) _) ⟨fun _ H' => Q .non H', Q, F2, F2⟩ [some (.ref a), some (.int c), some (.ref p1), none, none, none, none, none, none] H1 from by
    rw [iv_len]
    refine r_ifD (fun h => ?_) (fun h => ?_)
    · walk_at "go"
      refine r_lst G1 (by walk_at "sz") fun p2 H2 G2 => ?_
      exact S p2 [7] H2 _ G2 (by decide) (by decide)
    · walk_at "g1"
      exact S p1 ns H1 [] G1 (by omega) hn
  intro p1 cs H1 L G1 hc hc63
  walk_at "go"
  refine r_lst G1 (by walk_at "sz") fun p2 H2 G2 => ?_
  walk_at "go"
  refine r_i1 (by omega) ?_
  refine r_forR (fun i σ H' => ∃ (cs' ds : List Int) (m : Int) (v5 v6 v7 v8 : Option V), σ = [some (.ref a), some (.int c), some (.ref p1), some (.ref p2), some (.int m), v5, v6, v7, v8] ∧
      St ⟨H, H⟩ H H' ((p2, .lst (iv ds)) :: (p1, .lst (iv cs')) :: L) ∧ cs'.length = cs.length ∧ ds.length = i ∧ (∀ d ∈ ds, 0 ≤ d ∧ d < 1000) ∧ 0 ≤ m ∧ m < 2147483647)
    ⟨cs, [], 12345, none, none, none, none, rfl, G2, rfl, rfl, (fun _ h => nomatch h), by omega, by omega⟩ ?_ ?_
  · rintro i σ H' hi ⟨cs', ds, m, v5, v6, v7, v8, rfl, G3, hl, hdl, hr, hm0, hm1⟩
    have hi' : (i : Int) < 1000 := by omega
    have hcl : (0 : Int) < (iv cs').length := by rw [iv_len]; omega
    walk_at "go"
    generalize hj : (0 + (i : Int)) % ((iv cs').length : Int) = j
    have hj0 : 0 ≤ j := by rw [← hj]; exact Int.emod_nonneg _ (by omega)
    have hj1 : j < (cs'.length : Int) := by rw [← hj, iv_len]; rw [iv_len] at hcl; exact Int.emod_lt_of_pos _ hcl
    refine r_ixL (by walk_at "l") (atI_iv hj0 hj1) ?_
    generalize cs'.getD j.toNat 0 = z
    walk_at "go"
    refine r_mul (m := 32) (k := 32) (nab hm0 (by omega)) (by decide) ?_
    walk_at "go"
    have hz0 : 0 ≤ z % 1000003 := Int.emod_nonneg _ (by decide)
    have hz1 : z % 1000003 < 1000003 := Int.emod_lt_of_pos _ (by decide)
    refine r_mul (m := 32) (k := 32) (nab hz0 (by omega)) (by decide) ?_
    walk_at "go"
    refine r_mul (m := 32) (k := 32) (nab (by omega) (by omega)) (by decide) ?_
    walk_at "go"
    generalize hM : (m * 48271 + z % 1000003 * 69621 + (0 + (i : Int)) * 7919 + 11) % 2147483647 = m'
    have hm0' : 0 ≤ m' := by rw [← hM]; exact Int.emod_nonneg _ (by decide)
    have hm1' : m' < 2147483647 := by rw [← hM]; exact Int.emod_lt_of_pos _ (by decide)
    refine r_mul (m := 32) (k := 32) (nab hm0' (by omega)) (nab hm0' (by omega)) ?_
    walk_at "go"
    refine r_mul (m := 32) (k := 32) (by decide) (nab hm0' (by omega)) ?_
    walk_at "go"
    generalize (m' * m' + 31 * m' + (0 + (i : Int))) % 1000003 = w
    refine r_ifD (fun h => ?_) (fun h => ?_)
    · walk_at "go"
      refine r_append G3 (by walk_at "u") (szl (by rw [iv_len]; omega)) fun H4 G4 => ?_
      walk_at "go"
      refine r_div (by decide) (by decide) ?_
      walk_at "go"
      refine r_setL (xs := iv cs') G4 (ixN_of hj0 (by rw [iv_len]; exact hj1)) (by walk_at "u") fun H5 G5 => ?_
      rw [iv_snoc, iv_set] at G5
      refine ⟨_, _, m', _, _, _, _, rfl, G5, by rw [List.length_set]; exact hl, by simp [hdl], ?_, hm0', hm1'⟩
      intro d hd
      rcases List.mem_append.mp hd with q | q
      · exact hr d q
      · rw [List.mem_singleton.mp q]
        exact ⟨Int.emod_nonneg _ (by decide), Int.emod_lt_of_pos _ (by decide)⟩
    · walk_at "go"
      refine r_append G3 (by walk_at "u") (szl (by rw [iv_len]; omega)) fun H4 G4 => ?_
      rw [iv_snoc] at G4
      refine ⟨_, _, m', _, _, _, _, rfl, G4, hl, by simp [hdl], ?_, hm0', hm1'⟩
      intro d hd
      rcases List.mem_append.mp hd with q | q
      · exact hr d q
      · rw [List.mem_singleton.mp q]
        exact ⟨Int.emod_nonneg _ (by decide), Int.emod_lt_of_pos _ (by decide)⟩
  · rintro σ H' ⟨cs', ds, m, v5, v6, v7, v8, rfl, G3, hl, hdl, hr, hm0, hm1⟩
    walk_at "go"
    refine r_reverse G3 (by walk_at "u") fun H4 G4 => ?_
    walk_at "go"
    rw [show (iv ds).reverse = iv ds.reverse from by simp] at G4
    refine k p2 H4 ds.reverse ?_ G4.bh (G4.get (by walk_at "m")) ⟨by rw [List.length_reverse]; omega, fun d hd => hr d (List.mem_reverse.mp hd)⟩
    exact (G4.own _ (by walk_at "m")).2.2
theorem u_draws {K : PySem.W.Frag} {H F : Hp} {Q : VK} {X : XK} {E : En} {L : Led} {a : Addr} {ns : List Int} {c : Int} (G : St E F H L) (ha : SqL K H a (iv ns)) (hn : ns.length ≤ 63) (h0 : 0 ≤ c) (h1 : c ≤ 1000)
    (q : ∀ p ds H', Dok ds → St E F H' ((p, .lst (iv ds)) :: L) → Q (.ref p) H') : cp_draws K [.ref a, .int c] H Q X :=
  ⟨a, ns, c, rfl, ha, hn, h0, h1, fun p H' ds hn hs hp hd => q p ds H' hd (G.add hs hn hp)⟩
end
end SL

set_option Elab.async false
set_option linter.all false
set_option maxRecDepth 100000
set_option maxHeartbeats 4000000
namespace L2
open PySem PySem.Spec PyProof.Rows
/-! ## a list or a tuple is walked -/
def SqB (K : PySem.W.Frag) (H : Hp) (a : Addr) (xs : List V) : Bool → Prop
  | true => SqL K H a xs
  | false => SqT K H a xs
def Itb (K : PySem.W.Frag) (a : Addr) : Bool → It
  | true => Itl K a
  | false => Itt K a
def RISq (K : PySem.W.Frag) (x : V) (H : Hp) (R : It → Hp → Prop) : Prop := ∃ (a : Addr) (b : Bool) (xs : List V), x = .ref a ∧ SqB K H a xs b ∧ R (Itb K a b) H
def iSeq (K : PySem.W.Frag) (tl : TE) : TI := fun σ H R => tl σ H fun x H1 => RISq K x H1 R
section
variable {X : Cx} {tg : Expr}
theorem pi_seq {l : Expr} {tl : TE} (hl : PE X l tl) : PI X tg l (iSeq X.K tl) := by
  refine ⟨fun pins s σ H R I h => thn (hl.run pins s σ H _ I h) fun v s1 hq => ?_⟩
  obtain ⟨x, H1, I1, rx, a, b, xs, e, sq, q⟩ := hq
  subst e
  obtain rfl : v = Value.ref a := rx
  have fp : ∀ c ∈ [s1.heap.objs.size], FpOk X pins H1 c := fun c hc => by
    rw [List.mem_singleton.mp hc]
    exact I1.fpOk (Nat.le_refl _) (I1.hok.fresh (Nat.le_refl _))
  have old : ∀ (o : Obj), Inv X pins σ H1 { s1 with heap := s1.heap.push o } := fun o => I1.kept (t' := s1.toks) fun _ _ z => Heap.get?_push_of_some _ z
  cases b with
  | true =>
    obtain ⟨its, _, p, _⟩ := I1.list (show SqL X.K H1 a xs from sq)
    exact wpAny_pyIter_list p.isList ⟨_, [s1.heap.objs.size], _, Itl X.K a, H1, rfl, old _, turn_list a _, ⟨_, Heap.get?_push_size _ rfl, rfl, rfl⟩, fp, q⟩
  | false =>
    obtain ⟨its, _, p, _⟩ := I1.tuple (show SqT X.K H1 a xs from sq)
    exact wpAny_pyIter_tuple (show s1.heap.IsTuple a its.toArray from p) ⟨_, [s1.heap.objs.size], _, Itt X.K a, H1, rfl, old _, turn_tuple a _, ⟨_, Heap.get?_push_size _ rfl, rfl, rfl⟩, fp, q⟩
end
end L2
namespace SL
open PySem L2
section

set_option hygiene false
local macro_rules | `(tactic| walk_at "m") => `(tactic| first | exact List.Mem.head _ | (refine List.Mem.tail _ ?_; walk_at "m"))
local macro_rules | `(tactic| walk_at "u") => `(tactic| first | exact Upd.head | (apply Upd.tail; walk_at "u"))
local macro_rules | `(tactic| walk_at "tk") => `(tactic| first | exact Tak.head | (apply Tak.tail; walk_at "tk"))
local macro_rules | `(tactic| walk_at "l") => `(tactic| first | assumption | exact lS (St.fh (by assumption)) (by assumption) | exact SqL.of (St.get (by assumption) (by walk_at "m")))
local macro_rules | `(tactic| walk_at "t") => `(tactic| first | assumption | exact tS (St.fh (by assumption)) (by assumption) | exact SqT.of (St.get (by assumption) (by walk_at "m")))
local macro_rules | `(tactic| walk_at "lt") => `(tactic| first | exact .inl (by walk_at "l") | exact .inr (by walk_at "t"))
local macro_rules | `(tactic| walk_at "sz") => `(tactic| first | (show _ ≤ sizeLine; decide) | exact sz (by simp) | exact szl (by simp) | exact sz (by omega) | exact szl (by omega) | exact sz (by simp; omega) | exact szl (by simp; omega))
local macro_rules | `(tactic| walk_at "c") => `(tactic| first | assumption | decide | omega)
local macro_rules | `(tactic| walk_at "g1") => `(tactic| with_reducible first
  | refine w_seq ?_ | refine w_asg ?_ | refine w_c ?_ | refine w_op ?_
  | refine r_I0 ?_ | refine w_test ?_ | refine r_b ?_ | refine w_if ?_ | refine w_cons ?_ | refine w_nil ?_
  | refine w_ret ?_ | refine w_drop ?_ | refine w_cb ?_ | refine w_call ?_ | refine w_next ?_ | refine w_tup ?_ | refine w_lst ?_ | refine w_bm ?_ | refine w_bm0 ?_
  | refine w_and ?_ | refine w_or ?_ | refine w_not ?_ | refine w_andV ?_ | refine w_orV ?_ | refine w_notV ?_ | refine w_tB ?_ | refine w_un ?_ | refine r_U ?_
  | refine w_for ?_ | refine w_iL ?_ | refine w_iT ?_ | refine w_i1 ?_ | refine w_i2 ?_ | refine w_sl ?_ | refine w_part ?_ | refine w_nopart ?_ | refine r_part ?_
  | refine r_eqI ?_ | refine r_neI ?_ | refine r_eqS ?_ | refine r_neS ?_ | refine r_eqB ?_ | refine r_neB ?_ | refine r_ifT ?_ | refine r_ifF ?_ | refine r_ifNt ?_ | refine r_ifNf ?_ | refine r_ifRN ?_ | refine r_ifNRN ?_ | refine r_ifNN ?_ | refine r_ifNNN ?_
  | refine w_ifE ?_ | refine r_int1 ?_ | refine r_int1b ?_ | refine r_isnone ?_ | refine r_notnone ?_ | refine r_max2 ?_ | refine r_min2 ?_ | refine r_ipI ?_ | refine w_tru ?_ | refine w_rs ?_
  | refine w_retN ?_ | refine w_break ?_ | refine w_cont ?_ | refine w_callS ?_ | refine w_asgG ?_ | refine w_gsub ?_)
local macro_rules | `(tactic| walk_at "g2") => `(tactic| first
  | ((with_reducible refine' w_var ?hv ?_); (case hv => rfl)) | ((with_reducible refine' w_aug ?hv ?_); (case hv => rfl))
  | ((with_reducible show rLen _ _ _ _); refine r_len (by walk_at "lt") ?_)
  | (with_reducible refine r_I ?cnd ?_; (case cnd => first | decide | omega | assumption | (unfold CPow; decide)))
  | ((with_reducible show RTy _ _ _ _ _); refine r_tyL (by walk_at "l") ?_)
  | (with_reducible refine r_ifDT (by walk_at "c") ?_) | (with_reducible refine r_ifDF (by walk_at "c") ?_)
  | (with_reducible refine r_ifNT (by walk_at "c") ?_) | (with_reducible refine r_ifNF (by walk_at "c") ?_))
local macro_rules | `(tactic| walk_at "go") => `(tactic| repeat (first | walk_at "g1" | walk_at "g2"))

variable {n b c : L2.St → Hp → Prop} {r : VK} {σ : L2.St} {H H' : Hp} {Q : VK} {t : TS} {te : TE} {x y v : V} {K : PySem.W.Frag} {E : En} {F : Hp} {L L' : Led} {p a : Addr} {xs : List V} {k : Bool}
theorem qS (e : Same H H') (h : SqB K H a xs k) : SqB K H' a xs k := by
  cases k with
  | true => exact lS e h
  | false => exact tS e h
theorem qor (h : SqB K H a xs k) : SqL K H a xs ∨ SqT K H a xs := by
  cases k with
  | true => exact .inl h
  | false => exact .inr h
theorem w_iSq {R : It → Hp → Prop} (h : te σ H fun x H1 => RISq K x H1 R) : iSeq K te σ H R := h
theorem r_isq {R : It → Hp → Prop} (h : SqB K H a xs k) (q : R (Itb K a k) H) : RISq K (.ref a) H R := ⟨a, k, xs, rfl, h, q⟩
theorem r_forB {i0 : Nat} (Pv : Nat → L2.St → Hp → Prop) (h0 : Pv 0 σ H) (hl : ∀ i σ H, i ≤ xs.length → Pv i σ H → SqB K H a xs k)
    (hs : ∀ i x σ H, xs[i]? = some x → Pv i σ H → t ⟨Pv (i + 1), r, n, Pv (i + 1)⟩ (σ.set i0 (some x)) H) (hd : ∀ σ H, Pv xs.length σ H → n σ H) : RFor (Itb K a k) (gName i0) t ⟨n, r, b, c⟩ σ H := by
  cases k with
  | true => exact r_forL Pv h0 hl hs hd
  | false => exact r_forT Pv h0 hl hs hd
/-! ## comprehensions -/
def RApp (D : Addr) (y : V) (H : Hp) (P : Hp → Prop) : Prop := ∃ acc, H D = some (.lst acc) ∧ acc.length < sizeLine ∧ P (upd H D (.lst (acc ++ [y])))
def RLc (J : It) (g : TG) (tt : TT) (te : TE) (vs : List Nat) (σ : L2.St) (Q : VK) (H1 : Hp) : Prop := ∀ D, H1 D = none → ∃ W : Nat → Nat → Hp → Prop, (∃ m, W 0 m (upd H1 D (.lst []))) ∧ ∀ i m H, W i m H →
  (J.stop i H ∧ Q (.ref D) H) ∨ (J.go i H ∧ ∃ Nx : Hp → Prop, (∀ H', Nx H' → ∃ m', m' < m ∧ W (i + 1) m' H') ∧ ∀ x H', J.yld i H x H' → g x (wipe σ vs) H' fun σ2 H2 => wipe σ2 vs = wipe σ vs ∧ tt σ2 H2 fun b H3 =>
    if b = true then te σ2 H3 fun y H4 => RApp D y H4 Nx else Nx H3)
theorem w_lc {wi : TI} {g : TG} {tt : TT} {vs : List Nat} (h : wi σ H fun J H1 => RLc J g tt te vs σ Q H1) : tLc wi g tt te vs σ H Q := h
theorem r_app {P : Hp → Prop} {acc : List V} (G : St E F H L) (u : Upd L p (.lst acc) (.lst (acc ++ [y])) L') (hs : acc.length < sizeLine) (q : ∀ H', St E F H' L' → P H') : RApp p y H P :=
  ⟨acc, G.get u.mem, hs, q _ (G.put u)⟩
theorem wipe_set1 {σ : L2.St} {i : Nat} {v : Option V} : wipe ((wipe σ [i]).set i v) [i] = wipe σ [i] := by
  show ((σ.set i none).set i v).set i none = σ.set i none
  rw [List.set_set, List.set_set]
theorem yes_of {σ : L2.St} {H : Hp} {A B : Hp → Prop} (h : A H) : tYes σ H fun b H3 => if b = true then A H3 else B H3 := by
  show (if true = true then A H else B H)
  rw [if_pos rfl]
  exact h
/-- over a list or a tuple, no test -/
theorem r_lcB {i0 : Nat} (G : St E F H L) (Pv : Addr → Nat → Hp → Prop) (h0 : ∀ D H', St E F H' ((D, .lst []) :: L) → Pv D 0 H') (hl : ∀ D i H', i ≤ xs.length → Pv D i H' → SqB K H' a xs k)
    (hs : ∀ D i x H', xs[i]? = some x → Pv D i H' → te ((wipe σ [i0]).set i0 (some x)) H' fun y H4 => RApp D y H4 (Pv D (i + 1))) (hd : ∀ D H', Pv D xs.length H' → Q (.ref D) H') : RLc (Itb K a k) (gName i0) tYes te [i0] σ Q H := by
  intro D hD
  have h0' := h0 D _ (G.new hD)
  cases k with
  | true => exact lc_list (K := K) (a := a) (xs := xs) (Qd := fun H' => Q (.ref D) H') (Pv D) h0' (hl D) (fun i x H' hi p => ⟨wipe_set1, yes_of (hs D i x H' hi p)⟩) (hd D)
  | false => exact lc_tup (K := K) (a := a) (xs := xs) (Qd := fun H' => Q (.ref D) H') (Pv D) h0' (hl D) (fun i x H' hi p => ⟨wipe_set1, yes_of (hs D i x H' hi p)⟩) (hd D)
theorem r_lcR {lo : Int} {m i0 : Nat} (G : St E F H L) (Pv : Addr → Nat → Hp → Prop) (h0 : ∀ D H', St E F H' ((D, .lst []) :: L) → Pv D 0 H')
    (hs : ∀ D i H', i < m → Pv D i H' → te ((wipe σ [i0]).set i0 (some (.int (lo + i)))) H' fun y H4 => RApp D y H4 (Pv D (i + 1))) (hd : ∀ D H', Pv D m H' → Q (.ref D) H') : RLc (Itr lo m) (gName i0) tYes te [i0] σ Q H := by
  intro D hD
  exact lc_range (Qd := fun H' => Q (.ref D) H') (Pv D) (h0 D _ (G.new hD)) (fun i H' hi p => ⟨wipe_set1, yes_of (hs D i H' hi p)⟩) (hd D)
/-- .. with a test -/
theorem r_lcBT {i0 : Nat} {tt : TT} (G : St E F H L) (Pv : Addr → Nat → Hp → Prop) (h0 : ∀ D H', St E F H' ((D, .lst []) :: L) → Pv D 0 H') (hl : ∀ D i H', i ≤ xs.length → Pv D i H' → SqB K H' a xs k)
    (hs : ∀ D i x H', xs[i]? = some x → Pv D i H' → tt ((wipe σ [i0]).set i0 (some x)) H' fun b H3 => RIf b (te ((wipe σ [i0]).set i0 (some x)) H3 fun y H4 => RApp D y H4 (Pv D (i + 1))) (Pv D (i + 1) H3)) (hd : ∀ D H', Pv D xs.length H' → Q (.ref D) H') : RLc (Itb K a k) (gName i0) tt te [i0] σ Q H := by
  intro D hD
  have h0' := h0 D _ (G.new hD)
  cases k with
  | true => exact lc_list (K := K) (a := a) (xs := xs) (Qd := fun H' => Q (.ref D) H') (Pv D) h0' (hl D) (fun i x H' hi p => ⟨wipe_set1, hs D i x H' hi p⟩) (hd D)
  | false => exact lc_tup (K := K) (a := a) (xs := xs) (Qd := fun H' => Q (.ref D) H') (Pv D) h0' (hl D) (fun i x H' hi p => ⟨wipe_set1, hs D i x H' hi p⟩) (hd D)
theorem r_lcRT {lo : Int} {m i0 : Nat} {tt : TT} (G : St E F H L) (Pv : Addr → Nat → Hp → Prop) (h0 : ∀ D H', St E F H' ((D, .lst []) :: L) → Pv D 0 H')
    (hs : ∀ D i H', i < m → Pv D i H' → tt ((wipe σ [i0]).set i0 (some (.int (lo + i)))) H' fun b H3 => RIf b (te ((wipe σ [i0]).set i0 (some (.int (lo + i)))) H3 fun y H4 => RApp D y H4 (Pv D (i + 1))) (Pv D (i + 1) H3)) (hd : ∀ D H', Pv D m H' → Q (.ref D) H') : RLc (Itr lo m) (gName i0) tt te [i0] σ Q H := by
  intro D hD
  exact lc_range (Qd := fun H' => Q (.ref D) H') (Pv D) (h0 D _ (G.new hD)) (fun i H' hi p => ⟨wipe_set1, hs D i H' hi p⟩) (hd D)
theorem take_snoc {α : Type} : ∀ {l : List α} {i : Nat} {x : α}, l[i]? = some x → l.take (i + 1) = l.take i ++ [x]
  | [], i, x, h => by simp at h
  | y :: l, 0, x, h => by
    have e : y = x := Option.some.inj h
    rw [e]; rfl
  | y :: l, i + 1, x, h => by
    have ih := take_snoc (l := l) (i := i) (x := x) h
    rw [List.take_succ_cons, ih]; rfl
/-- each item on its own, nothing else happens -/
theorem r_lcM {i0 : Nat} (f : V → V) (hsz : xs.length ≤ 1000000) (G : St E F H L) (hx : SqB K H a xs k)
    (hs : ∀ D (i : Nat) x acc H' (Q' : VK), xs[i]? = some x → Same H H' → St E F H' ((D, .lst acc) :: L) → Q' (f x) H' → te ((wipe σ [i0]).set i0 (some x)) H' Q')
    (q : ∀ D H', Same H H' → St E F H' ((D, .lst (xs.map f)) :: L) → Q (.ref D) H') : RLc (Itb K a k) (gName i0) tYes te [i0] σ Q H := by
  intro D0 hD0
  have G0 := St.init (Same.refl H)
  refine r_lcB (L := []) G0 (fun D i H' => H D = none ∧ Same H H' ∧ H' D = some (.lst ((xs.take i).map f))) (fun D H' G' => ⟨(G'.own _ (by walk_at "m")).2.2, G'.bh, G'.get (by walk_at "m")⟩) (fun D i H' _ h => qS h.2.1 hx) (fun D i x H' hi h => ?_) (fun D H' h => ?_) D0 hD0
  · have G' : St E F H' ((D, .lst ((xs.take i).map f)) :: L) := G.add h.2.1 h.1 h.2.2
    refine hs D i x _ H' _ hi h.2.1 G' ⟨_, h.2.2, szl (by rw [List.length_map, List.length_take]; omega), h.1, fun b o e => ?_, ?_⟩
    · rw [upd_ne (ne_of_none e h.1)]; exact h.2.1 b o e
    · rw [upd_same, take_snoc hi, List.map_append]; rfl
  · refine q D H' h.2.1 ?_
    have := G.add h.2.1 h.1 h.2.2
    rw [List.take_length] at this
    exact this
end
end SL

set_option Elab.async false
set_option linter.all false
set_option maxRecDepth 100000
set_option maxHeartbeats 4000000

namespace PySem
open Sem (wp)
section
variable {prog : Program} {w : World} {A : Around} {E : Value → Shared → Prop} {RR : Result → Shared → Prop} {J : Addr} {fo wo : List Addr} {sz : Nat} {PP : Nat → Value → Prop} {ST : Nat → Heap → Prop} {kw : List (Str × Value)}
/-- the rest of max, from the second item on; whatever default was given -/
theorem mm_max_rest (Wk : Walks prog w A.in1 J fo wo sz PP ST) (bt : Nat → Nat → Bool) (cm : CmpOf prog w A.in1 .Gt PP bt) (B : Addr) (nB : B ∉ fo) :
    ∀ (d j : Nat) (s : Shared) (u : Value) (c : Nat), sz - (j + 1) = d → j + 1 ≤ sz → ST (j + 1) s.heap → PP (argBest bt j) u →
    s.heap.get? B = some { cls := .type "list", dict := none, data := .seq #[u, u] c, slots := #[] } →
    (∀ v h1 t1, PP (argBest bt (sz - 1)) v → (∀ b o, b ∉ wo → b ≠ B → s.heap.get? b = some o → h1.get? b = some o) → RR (.ok (.ret v)) { s with heap := h1, toks := t1 }) →
    codeAny (model prog w) A (.builtin "max.loop" ⟨[.ref J, .none, .ref B], kw⟩) RR s := by
  have nBw : B ∉ wo := fun h => nB (Wk.sub _ h)
  have nm : (toString "max" ++ toString ".loop" : String) = "max.loop" := by decide
  intro d
  induction d with
  | zero =>
    intro j s u c e1 e2 e3 e4 e5 fin
    have last : j + 1 = sz := by omega
    refine codeAny_builtin F.entry_max_loop ?_
    rw [Around.under_plainId F.plain_max_loop _]
    show wpAny _ A.in1 (seqItems? (.ref B) >>= _) _ _ s
    refine wpAny_bind (wpAny_seqItems e5 rfl ?_)
    show wpAny _ A.in1 (tryCatch (pyNext (.ref J)) _ >>= _) _ _ s
    refine wpAny_bind (wpAny_tryCatch (Wk.done s _ _ (last ▸ e3) fun h1 t1 kp => ?_))
    have e6 := kp B _ nBw e5
    show wpAny _ A.in1 (updateSeq B (fun _ => #[]) >>= _) _ _ _
    refine wpAny_bind ?_
    refine wpAny_updateSeq e6 rfl (wpAny_bind (wpAny_letGo (wpAny_pure ?_)))
    exact fin u _ t1 (by rw [← last]; exact e4) fun b o q1 q2 q3 => (Heap.get?_update_other _ _ (Ne.symm q2)).trans (kp b o q1 q3)
  | succ d ih =>
    intro j s u c e1 e2 e3 e4 e5 fin
    have more : j + 1 < sz := by omega
    refine codeAny_builtin F.entry_max_loop ?_
    rw [Around.under_plainId F.plain_max_loop _]
    show wpAny _ A.in1 (seqItems? (.ref B) >>= _) _ _ s
    refine wpAny_bind (wpAny_seqItems e5 rfl ?_)
    show wpAny _ A.in1 (tryCatch (pyNext (.ref J)) _ >>= _) _ _ s
    refine wpAny_bind (wpAny_tryCatch (Wk.item (j + 1) s _ _ more e3 fun v h1 t1 pv s1 kp => ?_))
    have e6 := kp B _ nBw e5
    show wpAny _ A.in1 (tryCatch (holding [v, v] (richCompare .Gt v u >>= _)) _ >>= _) _ _ _
    refine wpAny_bind (wpAny_tryCatch (wpAny_holding (wpAny_bind (cm (j + 1) (argBest bt j) v u _ _ _ pv e4 ?_))))
    refine wpAny_bind (wpAny_holding (wpAny_truthy_bool ?_))
    refine wpAny_bind (wpAny_letGo (wpAny_pure ?_))
    cases better : bt (j + 1) (argBest bt j) with
    | true =>
      simp only [if_true]
      refine wpAny_bind ?_
      refine wpAny_updateSeq e6 rfl (wpAny_bind (wpAny_letGo ?_))
      rw [nm]
      refine wpAny_pure ⟨plainId_quiet F.plain_max_loop _, ih (j + 1) _ v _ (by omega) more (Wk.frame _ _ _ s1 fun b q o z => ?_) (by simp only [argBest, better, if_true]; exact pv) (Heap.get?_update_self _ e6 rfl) fun v1 h2 t2 q1 q2 => ?_⟩
      · exact (Heap.get?_update_other _ _ (fun z : B = b => nB (by rw [z]; exact q))).trans z
      · exact fin v1 h2 t2 q1 fun b o z1 z2 z3 => q2 b o z1 z2 ((Heap.get?_update_other _ _ (Ne.symm z2)).trans (kp b o z1 z3))
    | false =>
      simp only [Bool.false_eq_true, if_false]
      refine wpAny_bind (wpAny_letGo ?_)
      rw [nm]
      refine wpAny_pure ⟨plainId_quiet F.plain_max_loop _, ih (j + 1) _ u c (by omega) more s1 (by simp only [argBest, better, Bool.false_eq_true, if_false]; exact e4) e6 fun v1 h2 t2 q1 q2 => ?_⟩
      exact fin v1 h2 t2 q1 fun b o z1 z2 z3 => q2 b o z1 z2 (kp b o z1 z3)
theorem mm_max_all (Wk : Walks prog w A.in1 J fo wo sz PP ST) (bt : Nat → Nat → Bool) (cm : CmpOf prog w A.in1 .Gt PP bt) (B : Addr) (nB : B ∉ fo) {s : Shared} {c : Nat} (e3 : ST 0 s.heap)
    (e5 : s.heap.get? B = some { cls := .type "list", dict := none, data := .seq #[] c, slots := #[] }) {dv : Value} (hkw : sz = 0 → kw = [(Str.ofString "default", dv)])
    (fin : ∀ v h1 t1, (0 < sz → PP (argBest bt (sz - 1)) v) → (sz = 0 → v = dv) → (∀ b o, b ∉ wo → b ≠ B → s.heap.get? b = some o → h1.get? b = some o) → RR (.ok (.ret v)) { s with heap := h1, toks := t1 }) :
    codeAny (model prog w) A (.builtin "max.loop" ⟨[.ref J, .none, .ref B], kw⟩) RR s := by
  have nBw : B ∉ wo := fun h => nB (Wk.sub _ h)
  have nm : (toString "max" ++ toString ".loop" : String) = "max.loop" := by decide
  refine codeAny_builtin F.entry_max_loop ?_
  rw [Around.under_plainId F.plain_max_loop _]
  show wpAny _ A.in1 (seqItems? (.ref B) >>= _) _ _ s
  refine wpAny_bind (wpAny_seqItems e5 rfl ?_)
  show wpAny _ A.in1 (tryCatch (pyNext (.ref J)) _ >>= _) _ _ s
  by_cases none : sz = 0
  · have hk := hkw none
    subst hk
    refine wpAny_bind (wpAny_tryCatch (Wk.done s _ _ (by rw [none]; exact e3) fun h1 t1 kp => ?_))
    show wpAny _ A.in1 (rule (toString "max" ++ toString ".default") >>= _) _ _ _
    refine wpAny_bind (wpAny_rule ?_)
    exact wpAny_pure (fin dv h1 t1 (fun z => absurd z (by omega)) (fun _ => rfl) fun b o q1 q2 q3 => kp b o q1 q3)
  · have some0 : 0 < sz := by omega
    refine wpAny_bind (wpAny_tryCatch (Wk.item 0 s _ _ some0 e3 fun v h1 t1 pv s1 kp => ?_))
    have e6 := kp B _ nBw e5
    show wpAny _ A.in1 (updateSeq B (fun _ => #[v, v]) >>= _) _ _ _
    refine wpAny_bind ?_
    refine wpAny_updateSeq e6 rfl ?_
    rw [nm]
    refine wpAny_pure ⟨plainId_quiet F.plain_max_loop _, mm_max_rest Wk bt cm B nB _ 0 _ v _ rfl some0 (Wk.frame _ _ _ s1 fun b q o z => ?_) pv (Heap.get?_update_self _ e6 rfl) fun v1 h2 t2 q1 q2 => ?_⟩
    · exact (Heap.get?_update_other _ _ (fun z : B = b => nB (by rw [z]; exact q))).trans z
    · exact fin v1 h2 t2 (fun _ => q1) (fun z => absurd z none) fun b o z1 z2 z3 => q2 b o z1 z2 ((Heap.get?_update_other _ _ (Ne.symm z2)).trans (kp b o z1 z3))
theorem F.mm_max_d (a v : Value) : argsOk "max" ⟨[a], [(Str.ofString "default", v)]⟩ := by unfold argsOk; kernel_rfl
/-- max(x), max(x, default=d) -/
theorem mm_max {s : Shared} {x : Value} {Q : Value → Shared → Prop} {kw : List (Str × Value)} {dv : Value} (hkw : kw = [] ∨ kw = [(Str.ofString "default", dv)])
    (h : wpAny (model prog w) A.in1 (pyIter x) (fun it s2 => ∃ J fo wo sz PP ST bt, it = .ref J ∧ Walks prog w A.in1 J fo wo sz PP ST ∧ ST 0 s2.heap ∧ (∀ b ∈ fo, b < s2.heap.objs.size) ∧ (sz = 0 → kw = [(Str.ofString "default", dv)]) ∧ CmpOf prog w A.in1 .Gt PP bt ∧
      ∀ v h1 t1, (0 < sz → PP (argBest bt (sz - 1)) v) → (sz = 0 → v = dv) → (∀ b o, b ∉ wo → s2.heap.get? b = some o → h1.get? b = some o) → Q v { s2 with heap := h1, toks := t1 }) E s) :
    wpAny (model prog w) A (call (.builtin "max") [x] kw) Q E s := by
  have nm : (toString "max" ++ toString ".loop" : String) = "max.loop" := by decide
  have go : ∀ (it : Value) (s2 : Shared), (∃ J fo wo sz PP ST bt, it = .ref J ∧ Walks prog w A.in1 J fo wo sz PP ST ∧ ST 0 s2.heap ∧ (∀ b ∈ fo, b < s2.heap.objs.size) ∧ (sz = 0 → kw = [(Str.ofString "default", dv)]) ∧ CmpOf prog w A.in1 .Gt PP bt ∧
      ∀ v h1 t1, (0 < sz → PP (argBest bt (sz - 1)) v) → (sz = 0 → v = dv) → (∀ b o, b ∉ wo → s2.heap.get? b = some o → h1.get? b = some o) → Q v { s2 with heap := h1, toks := t1 }) →
      codeAny (model prog w) A (.builtin "max.loop" ⟨[it, .none, .ref s2.heap.objs.size], kw⟩) (fun r s' => match r with | .ok (.ret v) => Q v s' | .ok _ => False | .error e => E e s')
        { s2 with heap := s2.heap.push { cls := .type "list", data := .seq #[] } } := by
    rintro it s2 ⟨J, fo, wo, sz, PP, ST, bt, rfl, Wk, st, lt, hd, cm, q⟩
    have nB : s2.heap.objs.size ∉ fo := fun z => Nat.lt_irrefl _ (lt _ z)
    refine mm_max_all (s := { s2 with heap := s2.heap.push { cls := .type "list", data := .seq #[] } }) (dv := dv) Wk bt cm s2.heap.objs.size nB (Wk.frame _ _ _ st fun b _ o e => Heap.get?_push_of_some _ e) (Heap.get?_push_size _ rfl) hd fun v h1 t1 q1 q2 q3 => ?_
    exact q v h1 t1 q1 q2 fun b o z1 z2 => q3 b o z1 (Nat.ne_of_lt (Heap.lt_size z2)) (Heap.get?_push_of_some _ z2)
  rcases hkw with z | z
  · subst z
    refine call_function_tree F.kind_max F.plain_max F.entry_max (F.args_max1 _) ?_
    show wpAny _ A.in1 (Builtin.Builtins.bindParams "max" ["key", "default"] 0 ⟨[], []⟩ >>= _) _ _ s
    refine wpAny_bind (wpAny_of_eq (show Builtin.Builtins.bindParams "max" ["key", "default"] 0 ⟨[], []⟩ = pure [none, none] from rfl) ?_)
    refine wpAny_bind (wpAny_pure ?_)
    refine wpAny_bind (wpAny_mono h (fun it s2 hh => ?_) fun _ _ e => e)
    refine wpAny_bind (wpAny_newObj_type ?_)
    rw [nm]
    exact wpAny_pure ⟨plainId_quiet F.plain_max_loop _, go it s2 hh⟩
  · subst z
    refine PyProof.Rows.kmk_tree F.kind_max F.plain_max F.entry_max (F.mm_max_d _ _) ?_
    show wpAny _ A.in1 (Builtin.Builtins.bindParams "max" ["key", "default"] 0 ⟨[], [(Str.ofString "default", dv)]⟩ >>= _) _ _ s
    refine wpAny_bind (wpAny_of_eq (show Builtin.Builtins.bindParams "max" ["key", "default"] 0 ⟨[], [(Str.ofString "default", dv)]⟩ = pure [none, some dv] from rfl) ?_)
    refine wpAny_bind (wpAny_pure ?_)
    refine wpAny_bind (wpAny_mono h (fun it s2 hh => ?_) fun _ _ e => e)
    refine wpAny_bind (wpAny_newObj_type ?_)
    rw [nm]
    exact wpAny_pure ⟨plainId_quiet F.plain_max_loop _, go it s2 hh⟩
end
end PySem

namespace PySem
open Sem (wp)
section
variable {prog : Program} {w : World} {A : Around} {E : Value → Shared → Prop} {RR : Result → Shared → Prop} {J : Addr} {fo wo : List Addr} {sz : Nat} {PP : Nat → Value → Prop} {ST : Nat → Heap → Prop} {kw : List (Str × Value)}
/-- the rest of min, from the second item on; whatever default was given -/
theorem mm_min_rest (Wk : Walks prog w A.in1 J fo wo sz PP ST) (bt : Nat → Nat → Bool) (cm : CmpOf prog w A.in1 .Lt PP bt) (B : Addr) (nB : B ∉ fo) :
    ∀ (d j : Nat) (s : Shared) (u : Value) (c : Nat), sz - (j + 1) = d → j + 1 ≤ sz → ST (j + 1) s.heap → PP (argBest bt j) u →
    s.heap.get? B = some { cls := .type "list", dict := none, data := .seq #[u, u] c, slots := #[] } →
    (∀ v h1 t1, PP (argBest bt (sz - 1)) v → (∀ b o, b ∉ wo → b ≠ B → s.heap.get? b = some o → h1.get? b = some o) → RR (.ok (.ret v)) { s with heap := h1, toks := t1 }) →
    codeAny (model prog w) A (.builtin "min.loop" ⟨[.ref J, .none, .ref B], kw⟩) RR s := by
  have nBw : B ∉ wo := fun h => nB (Wk.sub _ h)
  have nm : (toString "min" ++ toString ".loop" : String) = "min.loop" := by decide
  intro d
  induction d with
  | zero =>
    intro j s u c e1 e2 e3 e4 e5 fin
    have last : j + 1 = sz := by omega
    refine codeAny_builtin F.entry_min_loop ?_
    rw [Around.under_plainId F.plain_min_loop _]
    show wpAny _ A.in1 (seqItems? (.ref B) >>= _) _ _ s
    refine wpAny_bind (wpAny_seqItems e5 rfl ?_)
    show wpAny _ A.in1 (tryCatch (pyNext (.ref J)) _ >>= _) _ _ s
    refine wpAny_bind (wpAny_tryCatch (Wk.done s _ _ (last ▸ e3) fun h1 t1 kp => ?_))
    have e6 := kp B _ nBw e5
    show wpAny _ A.in1 (updateSeq B (fun _ => #[]) >>= _) _ _ _
    refine wpAny_bind ?_
    refine wpAny_updateSeq e6 rfl (wpAny_bind (wpAny_letGo (wpAny_pure ?_)))
    exact fin u _ t1 (by rw [← last]; exact e4) fun b o q1 q2 q3 => (Heap.get?_update_other _ _ (Ne.symm q2)).trans (kp b o q1 q3)
  | succ d ih =>
    intro j s u c e1 e2 e3 e4 e5 fin
    have more : j + 1 < sz := by omega
    refine codeAny_builtin F.entry_min_loop ?_
    rw [Around.under_plainId F.plain_min_loop _]
    show wpAny _ A.in1 (seqItems? (.ref B) >>= _) _ _ s
    refine wpAny_bind (wpAny_seqItems e5 rfl ?_)
    show wpAny _ A.in1 (tryCatch (pyNext (.ref J)) _ >>= _) _ _ s
    refine wpAny_bind (wpAny_tryCatch (Wk.item (j + 1) s _ _ more e3 fun v h1 t1 pv s1 kp => ?_))
    have e6 := kp B _ nBw e5
    show wpAny _ A.in1 (tryCatch (holding [v, v] (richCompare .Lt v u >>= _)) _ >>= _) _ _ _
    refine wpAny_bind (wpAny_tryCatch (wpAny_holding (wpAny_bind (cm (j + 1) (argBest bt j) v u _ _ _ pv e4 ?_))))
    refine wpAny_bind (wpAny_holding (wpAny_truthy_bool ?_))
    refine wpAny_bind (wpAny_letGo (wpAny_pure ?_))
    cases better : bt (j + 1) (argBest bt j) with
    | true =>
      simp only [if_true]
      refine wpAny_bind ?_
      refine wpAny_updateSeq e6 rfl (wpAny_bind (wpAny_letGo ?_))
      rw [nm]
      refine wpAny_pure ⟨plainId_quiet F.plain_min_loop _, ih (j + 1) _ v _ (by omega) more (Wk.frame _ _ _ s1 fun b q o z => ?_) (by simp only [argBest, better, if_true]; exact pv) (Heap.get?_update_self _ e6 rfl) fun v1 h2 t2 q1 q2 => ?_⟩
      · exact (Heap.get?_update_other _ _ (fun z : B = b => nB (by rw [z]; exact q))).trans z
      · exact fin v1 h2 t2 q1 fun b o z1 z2 z3 => q2 b o z1 z2 ((Heap.get?_update_other _ _ (Ne.symm z2)).trans (kp b o z1 z3))
    | false =>
      simp only [Bool.false_eq_true, if_false]
      refine wpAny_bind (wpAny_letGo ?_)
      rw [nm]
      refine wpAny_pure ⟨plainId_quiet F.plain_min_loop _, ih (j + 1) _ u c (by omega) more s1 (by simp only [argBest, better, Bool.false_eq_true, if_false]; exact e4) e6 fun v1 h2 t2 q1 q2 => ?_⟩
      exact fin v1 h2 t2 q1 fun b o z1 z2 z3 => q2 b o z1 z2 (kp b o z1 z3)
theorem mm_min_all (Wk : Walks prog w A.in1 J fo wo sz PP ST) (bt : Nat → Nat → Bool) (cm : CmpOf prog w A.in1 .Lt PP bt) (B : Addr) (nB : B ∉ fo) {s : Shared} {c : Nat} (e3 : ST 0 s.heap)
    (e5 : s.heap.get? B = some { cls := .type "list", dict := none, data := .seq #[] c, slots := #[] }) {dv : Value} (hkw : sz = 0 → kw = [(Str.ofString "default", dv)])
    (fin : ∀ v h1 t1, (0 < sz → PP (argBest bt (sz - 1)) v) → (sz = 0 → v = dv) → (∀ b o, b ∉ wo → b ≠ B → s.heap.get? b = some o → h1.get? b = some o) → RR (.ok (.ret v)) { s with heap := h1, toks := t1 }) :
    codeAny (model prog w) A (.builtin "min.loop" ⟨[.ref J, .none, .ref B], kw⟩) RR s := by
  have nBw : B ∉ wo := fun h => nB (Wk.sub _ h)
  have nm : (toString "min" ++ toString ".loop" : String) = "min.loop" := by decide
  refine codeAny_builtin F.entry_min_loop ?_
  rw [Around.under_plainId F.plain_min_loop _]
  show wpAny _ A.in1 (seqItems? (.ref B) >>= _) _ _ s
  refine wpAny_bind (wpAny_seqItems e5 rfl ?_)
  show wpAny _ A.in1 (tryCatch (pyNext (.ref J)) _ >>= _) _ _ s
  by_cases none : sz = 0
  · have hk := hkw none
    subst hk
    refine wpAny_bind (wpAny_tryCatch (Wk.done s _ _ (by rw [none]; exact e3) fun h1 t1 kp => ?_))
    show wpAny _ A.in1 (rule (toString "min" ++ toString ".default") >>= _) _ _ _
    refine wpAny_bind (wpAny_rule ?_)
    exact wpAny_pure (fin dv h1 t1 (fun z => absurd z (by omega)) (fun _ => rfl) fun b o q1 q2 q3 => kp b o q1 q3)
  · have some0 : 0 < sz := by omega
    refine wpAny_bind (wpAny_tryCatch (Wk.item 0 s _ _ some0 e3 fun v h1 t1 pv s1 kp => ?_))
    have e6 := kp B _ nBw e5
    show wpAny _ A.in1 (updateSeq B (fun _ => #[v, v]) >>= _) _ _ _
    refine wpAny_bind ?_
    refine wpAny_updateSeq e6 rfl ?_
    rw [nm]
    refine wpAny_pure ⟨plainId_quiet F.plain_min_loop _, mm_min_rest Wk bt cm B nB _ 0 _ v _ rfl some0 (Wk.frame _ _ _ s1 fun b q o z => ?_) pv (Heap.get?_update_self _ e6 rfl) fun v1 h2 t2 q1 q2 => ?_⟩
    · exact (Heap.get?_update_other _ _ (fun z : B = b => nB (by rw [z]; exact q))).trans z
    · exact fin v1 h2 t2 (fun _ => q1) (fun z => absurd z none) fun b o z1 z2 z3 => q2 b o z1 z2 ((Heap.get?_update_other _ _ (Ne.symm z2)).trans (kp b o z1 z3))
theorem F.mm_min_d (a v : Value) : argsOk "min" ⟨[a], [(Str.ofString "default", v)]⟩ := by unfold argsOk; kernel_rfl
/-- min(x), min(x, default=d) -/
theorem mm_min {s : Shared} {x : Value} {Q : Value → Shared → Prop} {kw : List (Str × Value)} {dv : Value} (hkw : kw = [] ∨ kw = [(Str.ofString "default", dv)])
    (h : wpAny (model prog w) A.in1 (pyIter x) (fun it s2 => ∃ J fo wo sz PP ST bt, it = .ref J ∧ Walks prog w A.in1 J fo wo sz PP ST ∧ ST 0 s2.heap ∧ (∀ b ∈ fo, b < s2.heap.objs.size) ∧ (sz = 0 → kw = [(Str.ofString "default", dv)]) ∧ CmpOf prog w A.in1 .Lt PP bt ∧
      ∀ v h1 t1, (0 < sz → PP (argBest bt (sz - 1)) v) → (sz = 0 → v = dv) → (∀ b o, b ∉ wo → s2.heap.get? b = some o → h1.get? b = some o) → Q v { s2 with heap := h1, toks := t1 }) E s) :
    wpAny (model prog w) A (call (.builtin "min") [x] kw) Q E s := by
  have nm : (toString "min" ++ toString ".loop" : String) = "min.loop" := by decide
  have go : ∀ (it : Value) (s2 : Shared), (∃ J fo wo sz PP ST bt, it = .ref J ∧ Walks prog w A.in1 J fo wo sz PP ST ∧ ST 0 s2.heap ∧ (∀ b ∈ fo, b < s2.heap.objs.size) ∧ (sz = 0 → kw = [(Str.ofString "default", dv)]) ∧ CmpOf prog w A.in1 .Lt PP bt ∧
      ∀ v h1 t1, (0 < sz → PP (argBest bt (sz - 1)) v) → (sz = 0 → v = dv) → (∀ b o, b ∉ wo → s2.heap.get? b = some o → h1.get? b = some o) → Q v { s2 with heap := h1, toks := t1 }) →
      codeAny (model prog w) A (.builtin "min.loop" ⟨[it, .none, .ref s2.heap.objs.size], kw⟩) (fun r s' => match r with | .ok (.ret v) => Q v s' | .ok _ => False | .error e => E e s')
        { s2 with heap := s2.heap.push { cls := .type "list", data := .seq #[] } } := by
    rintro it s2 ⟨J, fo, wo, sz, PP, ST, bt, rfl, Wk, st, lt, hd, cm, q⟩
    have nB : s2.heap.objs.size ∉ fo := fun z => Nat.lt_irrefl _ (lt _ z)
    refine mm_min_all (s := { s2 with heap := s2.heap.push { cls := .type "list", data := .seq #[] } }) (dv := dv) Wk bt cm s2.heap.objs.size nB (Wk.frame _ _ _ st fun b _ o e => Heap.get?_push_of_some _ e) (Heap.get?_push_size _ rfl) hd fun v h1 t1 q1 q2 q3 => ?_
    exact q v h1 t1 q1 q2 fun b o z1 z2 => q3 b o z1 (Nat.ne_of_lt (Heap.lt_size z2)) (Heap.get?_push_of_some _ z2)
  rcases hkw with z | z
  · subst z
    refine call_function_tree F.kind_min F.plain_min F.entry_min (F.args_min1 _) ?_
    show wpAny _ A.in1 (Builtin.Builtins.bindParams "min" ["key", "default"] 0 ⟨[], []⟩ >>= _) _ _ s
    refine wpAny_bind (wpAny_of_eq (show Builtin.Builtins.bindParams "min" ["key", "default"] 0 ⟨[], []⟩ = pure [none, none] from rfl) ?_)
    refine wpAny_bind (wpAny_pure ?_)
    refine wpAny_bind (wpAny_mono h (fun it s2 hh => ?_) fun _ _ e => e)
    refine wpAny_bind (wpAny_newObj_type ?_)
    rw [nm]
    exact wpAny_pure ⟨plainId_quiet F.plain_min_loop _, go it s2 hh⟩
  · subst z
    refine PyProof.Rows.kmk_tree F.kind_min F.plain_min F.entry_min (F.mm_min_d _ _) ?_
    show wpAny _ A.in1 (Builtin.Builtins.bindParams "min" ["key", "default"] 0 ⟨[], [(Str.ofString "default", dv)]⟩ >>= _) _ _ s
    refine wpAny_bind (wpAny_of_eq (show Builtin.Builtins.bindParams "min" ["key", "default"] 0 ⟨[], [(Str.ofString "default", dv)]⟩ = pure [none, some dv] from rfl) ?_)
    refine wpAny_bind (wpAny_pure ?_)
    refine wpAny_bind (wpAny_mono h (fun it s2 hh => ?_) fun _ _ e => e)
    refine wpAny_bind (wpAny_newObj_type ?_)
    rw [nm]
    exact wpAny_pure ⟨plainId_quiet F.plain_min_loop _, go it s2 hh⟩
end
end PySem

namespace L2
open PySem PySem.Spec PyProof.Rows
section
variable {X : Cx}
/-- max of a list or tuple of ints that is not empty; with a default: of any -/
def rB_max (K : PySem.W.Frag) : List V → Hp → VK → Prop := fun vs H Q => ∃ (a : Addr) (k : Bool) (ns : List Int), vs = [V.ref a] ∧ SqB K H a (ns.map V.int) k ∧ 0 < ns.length ∧ ∀ m, m ∈ ns → (∀ y ∈ ns, y ≤ m) → Q (.int m) H
def rD_max (K : PySem.W.Frag) : List V → List V → Hp → VK → Prop := fun vs zs H Q => ∃ (a : Addr) (k : Bool) (ns : List Int) (d : Int), vs = [V.ref a] ∧ zs = [V.int d] ∧ SqB K H a (ns.map V.int) k ∧
  ∀ m, (ns = [] → m = d) → (ns ≠ [] → m ∈ ns ∧ ∀ y ∈ ns, y ≤ m) → Q (.int m) H
theorem mm_core_max {pins : List (Addr × Obj)} {s : Shared} {σ : L2.St} {H : Hp} {Q : VK} (hc : X.calm = true) (I : Inv X pins σ H s) {a : Addr} {k : Bool} {ns : List Int} {kw : List (Str × Value)} {dv : Value} {d : Int} (hkw : kw = [] ∨ kw = [(Str.ofString "default", dv)])
    (h0 : ns.length = 0 → kw = [(Str.ofString "default", dv)]) (hd : ns.length = 0 → ∃ t, dv = .int d t) (hs : SqB X.K H a (ns.map V.int) k) (q : ∀ m, (ns = [] → m = d) → (ns ≠ [] → m ∈ ns ∧ ∀ y ∈ ns, y ≤ m) → Q (.int m) H) :
    wpAny (model X.prog X.w) X.A (call (.builtin "max") [.ref a] kw) (EP X pins σ Q) X.xe s := by
  have fin : ∀ (its : List Value), Vals (ns.map V.int) its → ∀ (xs : Array (Int × Tok)), its.toArray = intItems xs → ∀ (v : Value) (h1 : Heap) (t1 : Nat), (0 < xs.size → (intItems xs)[argBest (fun i j => decide (numAt xs i > numAt xs j)) (xs.size - 1)]? = some v) → (xs.size = 0 → v = dv) →
      (∀ b o, s.heap.get? b = some o → h1.get? b = some o) → EP X pins σ Q v { s with heap := h1, toks := t1 } := by
    intro its rv xs e v h1 t1 q1 q2 q3
    have hi := rv.ints
    have hn : numsOf (intItems xs).toList = ns := by rw [← e]; exact hi.numsOf
    rw [nums_intItems] at hn
    have hl : ns.length = xs.size := by rw [← hn]; simp
    by_cases z : xs.size = 0
    · obtain ⟨t, et⟩ := hd (by rw [hl]; exact z)
      rw [q2 z, et]
      have ne : ns = [] := List.eq_nil_of_length_eq_zero (by rw [hl]; exact z)
      exact ⟨.int d, H, I.kept q3, ⟨_, rfl⟩, q d (fun _ => rfl) fun w => absurd ne w⟩
    · have hv := q1 (by omega)
      obtain ⟨t, rfl⟩ := intItems_at hv
      obtain ⟨b1, b2⟩ := argBest_gt (numAt xs) (xs.size - 1)
      refine ⟨.int _, H, I.kept q3, ⟨_, rfl⟩, q _ (fun w => absurd (by rw [← hl, w]; rfl) z) fun _ => ⟨?_, fun y hy => ?_⟩⟩
      · rw [← hn, numAt_eq]; exact PySem.getD_mem (by rw [List.length_map, Array.length_toList]; omega)
      · rw [← hn] at hy
        obtain ⟨j, hj, rfl⟩ := mem_getD hy
        rw [List.length_map, Array.length_toList] at hj
        rw [← numAt_eq]; exact b2 j (by omega)
  have hh := I.ok.hd hc
  cases k with
  | true =>
    obtain ⟨its, rv, p, _⟩ := I.list (show SqL X.K H a (ns.map V.int) from hs)
    obtain ⟨xs, e⟩ := rv.ints.allInts.items
    have hl : ns.length = xs.size := by
      have h1 := rv.length
      have h2 : its.toArray.size = xs.size := by rw [e]; simp [intItems]
      simp at h1 h2
      omega
    have p' := p.isList
    rw [e] at p'
    refine mm_max hkw (iter_intList p' fun s₂ e2 st hfp hlI => ?_)
    subst e2
    refine ⟨_, _, _, _, _, _, _, rfl, Walks.list (A := X.A.in1) hh _ a hlI (intItems xs), st, hfp, (fun z => h0 (by rw [hl]; simpa [intItems] using z)), CmpOf.ints_gt (numAt xs) (fun _ _ => intItems_at), fun v h1 t1 q1 q2 q3 => ?_⟩
    exact fin its rv xs e v h1 t1 (fun z => by simpa [intItems] using q1 (by simpa [intItems] using z)) (fun z => q2 (by simpa [intItems] using z)) (old_kept q3)
  | false =>
    obtain ⟨its, rv, p, _⟩ := I.tuple (show SqT X.K H a (ns.map V.int) from hs)
    obtain ⟨xs, e⟩ := rv.ints.allInts.items
    have hl : ns.length = xs.size := by
      have h1 := rv.length
      have h2 : its.toArray.size = xs.size := by rw [e]; simp [intItems]
      simp at h1 h2
      omega
    have p' : s.heap.IsTuple a (intItems xs) := by rw [← e]; exact p
    have hlt : a < s.heap.objs.size := by obtain ⟨_, z, _⟩ := p'; exact Heap.lt_size z
    refine mm_max hkw (wpAny_pyIter_tuple p' ?_)
    refine ⟨s.heap.objs.size, _, _, _, _, _, _, rfl, Walks.tuple (A := X.A.in1) hh _ a (Nat.ne_of_lt hlt) (intItems xs), ⟨⟨_, Heap.get?_push_size _ rfl, rfl, rfl⟩, p'.push _⟩, fun b hb => ?_, (fun z => h0 (by rw [hl]; simpa [intItems] using z)), CmpOf.ints_gt (numAt xs) (fun _ _ => intItems_at), fun v h1 t1 q1 q2 q3 => ?_⟩
    · show b < (s.heap.push _).objs.size
      rw [Heap.size_push]
      rcases List.mem_cons.mp hb with z | z
      · rw [z]; exact Nat.lt_succ_self _
      · rw [List.mem_singleton.mp z]; exact Nat.lt_succ_of_lt hlt
    · refine fin its rv xs e v h1 t1 (fun z => by simpa [intItems] using q1 (by simpa [intItems] using z)) (fun z => q2 (by simpa [intItems] using z)) fun b o z => q3 b o (fun y => ?_) (Heap.get?_push_of_some _ z)
      rw [List.mem_singleton.mp y] at z
      exact absurd (Heap.lt_size z) (Nat.lt_irrefl _)
theorem cB_max (hc : X.calm = true) : CallR X (.builtin "max") (rB_max X.K) := by
  intro pins s σ H vs us Q I r h
  obtain ⟨a, k, ns, rfl, hs, hne, q⟩ := h
  rw [Vals.ref1 r]
  exact mm_core_max (kw := []) (dv := .none) (d := 0) hc I (.inl rfl) (fun z => absurd z (by omega)) (fun z => absurd z (by omega)) hs fun m _ h2 => (h2 (fun z => by rw [z] at hne; cases hne)).elim (q m)
theorem cD_max (hc : X.calm = true) : CallRK X (.builtin "max") [Str.ofString "default"] (rD_max X.K) := by
  intro pins s σ H vs zs us ws Q I r rz h
  obtain ⟨a, k, ns, d, rfl, rfl, hs, q⟩ := h
  rw [Vals.ref1 r]
  cases rz with
  | cons r1 r2 =>
    cases r2
    obtain ⟨t, rfl⟩ := r1
    exact mm_core_max (dv := .int d t) (d := d) hc I (.inr rfl) (fun _ => rfl) (fun _ => ⟨t, rfl⟩) hs q
end
end L2

namespace L2
open PySem PySem.Spec PyProof.Rows
section
variable {X : Cx}
/-- min of a list or tuple of ints that is not empty; with a default: of any -/
def rB_min (K : PySem.W.Frag) : List V → Hp → VK → Prop := fun vs H Q => ∃ (a : Addr) (k : Bool) (ns : List Int), vs = [V.ref a] ∧ SqB K H a (ns.map V.int) k ∧ 0 < ns.length ∧ ∀ m, m ∈ ns → (∀ y ∈ ns, m ≤ y) → Q (.int m) H
def rD_min (K : PySem.W.Frag) : List V → List V → Hp → VK → Prop := fun vs zs H Q => ∃ (a : Addr) (k : Bool) (ns : List Int) (d : Int), vs = [V.ref a] ∧ zs = [V.int d] ∧ SqB K H a (ns.map V.int) k ∧
  ∀ m, (ns = [] → m = d) → (ns ≠ [] → m ∈ ns ∧ ∀ y ∈ ns, m ≤ y) → Q (.int m) H
theorem mm_core_min {pins : List (Addr × Obj)} {s : Shared} {σ : L2.St} {H : Hp} {Q : VK} (hc : X.calm = true) (I : Inv X pins σ H s) {a : Addr} {k : Bool} {ns : List Int} {kw : List (Str × Value)} {dv : Value} {d : Int} (hkw : kw = [] ∨ kw = [(Str.ofString "default", dv)])
    (h0 : ns.length = 0 → kw = [(Str.ofString "default", dv)]) (hd : ns.length = 0 → ∃ t, dv = .int d t) (hs : SqB X.K H a (ns.map V.int) k) (q : ∀ m, (ns = [] → m = d) → (ns ≠ [] → m ∈ ns ∧ ∀ y ∈ ns, m ≤ y) → Q (.int m) H) :
    wpAny (model X.prog X.w) X.A (call (.builtin "min") [.ref a] kw) (EP X pins σ Q) X.xe s := by
  have fin : ∀ (its : List Value), Vals (ns.map V.int) its → ∀ (xs : Array (Int × Tok)), its.toArray = intItems xs → ∀ (v : Value) (h1 : Heap) (t1 : Nat), (0 < xs.size → (intItems xs)[argBest (fun i j => decide (numAt xs i < numAt xs j)) (xs.size - 1)]? = some v) → (xs.size = 0 → v = dv) →
      (∀ b o, s.heap.get? b = some o → h1.get? b = some o) → EP X pins σ Q v { s with heap := h1, toks := t1 } := by
    intro its rv xs e v h1 t1 q1 q2 q3
    have hi := rv.ints
    have hn : numsOf (intItems xs).toList = ns := by rw [← e]; exact hi.numsOf
    rw [nums_intItems] at hn
    have hl : ns.length = xs.size := by rw [← hn]; simp
    by_cases z : xs.size = 0
    · obtain ⟨t, et⟩ := hd (by rw [hl]; exact z)
      rw [q2 z, et]
      have ne : ns = [] := List.eq_nil_of_length_eq_zero (by rw [hl]; exact z)
      exact ⟨.int d, H, I.kept q3, ⟨_, rfl⟩, q d (fun _ => rfl) fun w => absurd ne w⟩
    · have hv := q1 (by omega)
      obtain ⟨t, rfl⟩ := intItems_at hv
      obtain ⟨b1, b2⟩ := argBest_lt (numAt xs) (xs.size - 1)
      refine ⟨.int _, H, I.kept q3, ⟨_, rfl⟩, q _ (fun w => absurd (by rw [← hl, w]; rfl) z) fun _ => ⟨?_, fun y hy => ?_⟩⟩
      · rw [← hn, numAt_eq]; exact PySem.getD_mem (by rw [List.length_map, Array.length_toList]; omega)
      · rw [← hn] at hy
        obtain ⟨j, hj, rfl⟩ := mem_getD hy
        rw [List.length_map, Array.length_toList] at hj
        rw [← numAt_eq]; exact b2 j (by omega)
  have hh := I.ok.hd hc
  cases k with
  | true =>
    obtain ⟨its, rv, p, _⟩ := I.list (show SqL X.K H a (ns.map V.int) from hs)
    obtain ⟨xs, e⟩ := rv.ints.allInts.items
    have hl : ns.length = xs.size := by
      have h1 := rv.length
      have h2 : its.toArray.size = xs.size := by rw [e]; simp [intItems]
      simp at h1 h2
      omega
    have p' := p.isList
    rw [e] at p'
    refine mm_min hkw (iter_intList p' fun s₂ e2 st hfp hlI => ?_)
    subst e2
    refine ⟨_, _, _, _, _, _, _, rfl, Walks.list (A := X.A.in1) hh _ a hlI (intItems xs), st, hfp, (fun z => h0 (by rw [hl]; simpa [intItems] using z)), CmpOf.ints_lt (numAt xs) (fun _ _ => intItems_at), fun v h1 t1 q1 q2 q3 => ?_⟩
    exact fin its rv xs e v h1 t1 (fun z => by simpa [intItems] using q1 (by simpa [intItems] using z)) (fun z => q2 (by simpa [intItems] using z)) (old_kept q3)
  | false =>
    obtain ⟨its, rv, p, _⟩ := I.tuple (show SqT X.K H a (ns.map V.int) from hs)
    obtain ⟨xs, e⟩ := rv.ints.allInts.items
    have hl : ns.length = xs.size := by
      have h1 := rv.length
      have h2 : its.toArray.size = xs.size := by rw [e]; simp [intItems]
      simp at h1 h2
      omega
    have p' : s.heap.IsTuple a (intItems xs) := by rw [← e]; exact p
    have hlt : a < s.heap.objs.size := by obtain ⟨_, z, _⟩ := p'; exact Heap.lt_size z
    refine mm_min hkw (wpAny_pyIter_tuple p' ?_)
    refine ⟨s.heap.objs.size, _, _, _, _, _, _, rfl, Walks.tuple (A := X.A.in1) hh _ a (Nat.ne_of_lt hlt) (intItems xs), ⟨⟨_, Heap.get?_push_size _ rfl, rfl, rfl⟩, p'.push _⟩, fun b hb => ?_, (fun z => h0 (by rw [hl]; simpa [intItems] using z)), CmpOf.ints_lt (numAt xs) (fun _ _ => intItems_at), fun v h1 t1 q1 q2 q3 => ?_⟩
    · show b < (s.heap.push _).objs.size
      rw [Heap.size_push]
      rcases List.mem_cons.mp hb with z | z
      · rw [z]; exact Nat.lt_succ_self _
      · rw [List.mem_singleton.mp z]; exact Nat.lt_succ_of_lt hlt
    · refine fin its rv xs e v h1 t1 (fun z => by simpa [intItems] using q1 (by simpa [intItems] using z)) (fun z => q2 (by simpa [intItems] using z)) fun b o z => q3 b o (fun y => ?_) (Heap.get?_push_of_some _ z)
      rw [List.mem_singleton.mp y] at z
      exact absurd (Heap.lt_size z) (Nat.lt_irrefl _)
theorem cB_min (hc : X.calm = true) : CallR X (.builtin "min") (rB_min X.K) := by
  intro pins s σ H vs us Q I r h
  obtain ⟨a, k, ns, rfl, hs, hne, q⟩ := h
  rw [Vals.ref1 r]
  exact mm_core_min (kw := []) (dv := .none) (d := 0) hc I (.inl rfl) (fun z => absurd z (by omega)) (fun z => absurd z (by omega)) hs fun m _ h2 => (h2 (fun z => by rw [z] at hne; cases hne)).elim (q m)
theorem cD_min (hc : X.calm = true) : CallRK X (.builtin "min") [Str.ofString "default"] (rD_min X.K) := by
  intro pins s σ H vs zs us ws Q I r rz h
  obtain ⟨a, k, ns, d, rfl, rfl, hs, q⟩ := h
  rw [Vals.ref1 r]
  cases rz with
  | cons r1 r2 =>
    cases r2
    obtain ⟨t, rfl⟩ := r1
    exact mm_core_min (dv := .int d t) (d := d) hc I (.inr rfl) (fun _ => rfl) (fun _ => ⟨t, rfl⟩) hs q
end
end L2

set_option Elab.async false
set_option linter.all false
set_option maxRecDepth 100000
set_option maxHeartbeats 4000000
namespace SL
open PySem L2
section

set_option hygiene false
local macro_rules | `(tactic| walk_at "m") => `(tactic| first | exact List.Mem.head _ | (refine List.Mem.tail _ ?_; walk_at "m"))
local macro_rules | `(tactic| walk_at "u") => `(tactic| first | exact Upd.head | (apply Upd.tail; walk_at "u"))
local macro_rules | `(tactic| walk_at "tk") => `(tactic| first | exact Tak.head | (apply Tak.tail; walk_at "tk"))
local macro_rules | `(tactic| walk_at "l") => `(tactic| first | assumption | exact lS (St.fh (by assumption)) (by assumption) | exact SqL.of (St.get (by assumption) (by walk_at "m")))
local macro_rules | `(tactic| walk_at "t") => `(tactic| first | assumption | exact tS (St.fh (by assumption)) (by assumption) | exact SqT.of (St.get (by assumption) (by walk_at "m")))
local macro_rules | `(tactic| walk_at "lt") => `(tactic| first | exact .inl (by walk_at "l") | exact .inr (by walk_at "t"))
local macro_rules | `(tactic| walk_at "sz") => `(tactic| first | (show _ ≤ sizeLine; decide) | exact sz (by simp) | exact szl (by simp) | exact sz (by omega) | exact szl (by omega) | exact sz (by simp; omega) | exact szl (by simp; omega))
local macro_rules | `(tactic| walk_at "c") => `(tactic| first | assumption | decide | omega)
local macro_rules | `(tactic| walk_at "g1") => `(tactic| with_reducible first
  | refine w_seq ?_ | refine w_asg ?_ | refine w_c ?_ | refine w_op ?_
  | refine r_I0 ?_ | refine w_test ?_ | refine r_b ?_ | refine w_if ?_ | refine w_cons ?_ | refine w_nil ?_
  | refine w_ret ?_ | refine w_drop ?_ | refine w_cb ?_ | refine w_call ?_ | refine w_next ?_ | refine w_tup ?_ | refine w_lst ?_ | refine w_bm ?_ | refine w_bm0 ?_
  | refine w_and ?_ | refine w_or ?_ | refine w_not ?_ | refine w_andV ?_ | refine w_orV ?_ | refine w_notV ?_ | refine w_tB ?_ | refine w_un ?_ | refine r_U ?_
  | refine w_for ?_ | refine w_iL ?_ | refine w_iT ?_ | refine w_i1 ?_ | refine w_i2 ?_ | refine w_sl ?_ | refine w_part ?_ | refine w_nopart ?_ | refine r_part ?_
  | refine r_eqI ?_ | refine r_neI ?_ | refine r_eqS ?_ | refine r_neS ?_ | refine r_eqB ?_ | refine r_neB ?_ | refine r_ifT ?_ | refine r_ifF ?_ | refine r_ifNt ?_ | refine r_ifNf ?_ | refine r_ifRN ?_ | refine r_ifNRN ?_ | refine r_ifNN ?_ | refine r_ifNNN ?_
  | refine w_ifE ?_ | refine r_int1 ?_ | refine r_int1b ?_ | refine r_isnone ?_ | refine r_notnone ?_ | refine r_max2 ?_ | refine r_min2 ?_ | refine r_ipI ?_ | refine w_tru ?_ | refine w_rs ?_
  | refine w_retN ?_ | refine w_break ?_ | refine w_cont ?_ | refine w_callS ?_ | refine w_asgG ?_ | refine w_gsub ?_)
local macro_rules | `(tactic| walk_at "g2") => `(tactic| first
  | ((with_reducible refine' w_var ?hv ?_); (case hv => rfl)) | ((with_reducible refine' w_aug ?hv ?_); (case hv => rfl))
  | ((with_reducible show rLen _ _ _ _); refine r_len (by walk_at "lt") ?_)
  | (with_reducible refine r_I ?cnd ?_; (case cnd => first | decide | omega | assumption | (unfold CPow; decide)))
  | ((with_reducible show RTy _ _ _ _ _); refine r_tyL (by walk_at "l") ?_)
  | (with_reducible refine r_ifDT (by walk_at "c") ?_) | (with_reducible refine r_ifDF (by walk_at "c") ?_)
  | (with_reducible refine r_ifNT (by walk_at "c") ?_) | (with_reducible refine r_ifNF (by walk_at "c") ?_))
local macro_rules | `(tactic| walk_at "go") => `(tactic| repeat (first | walk_at "g1" | walk_at "g2"))

variable {n b c : L2.St → Hp → Prop} {r : VK} {σ : L2.St} {H H' : Hp} {Q : VK} {t : TS} {te ta tb : TE} {x y v : V} {K : PySem.W.Frag} {E : En} {F F' : Hp} {L L' L1 L2 : Led} {p a : Addr} {xs ys : List V} {ns ms : List Int} {k : Bool} {QB : Bool → Hp → Prop} {C dx : Addr} {fs : List (Str × V)} {f : Str} {o : HO}
/-! ## min and max -/
theorem r_maxB (hs : SqB K H a (iv ns) k) (hn : 0 < ns.length) (q : ∀ m, m ∈ ns → (∀ y ∈ ns, y ≤ m) → Q (.int m) H) : rB_max K [.ref a] H Q := ⟨a, k, ns, rfl, hs, hn, q⟩
theorem r_minB (hs : SqB K H a (iv ns) k) (hn : 0 < ns.length) (q : ∀ m, m ∈ ns → (∀ y ∈ ns, m ≤ y) → Q (.int m) H) : rB_min K [.ref a] H Q := ⟨a, k, ns, rfl, hs, hn, q⟩
theorem r_maxD {d : Int} (hs : SqB K H a (iv ns) k) (q : ∀ m, (ns = [] → m = d) → (ns ≠ [] → m ∈ ns ∧ ∀ y ∈ ns, y ≤ m) → Q (.int m) H) : rD_max K [.ref a] [.int d] H Q := ⟨a, k, ns, d, rfl, rfl, hs, q⟩
theorem r_minD {d : Int} (hs : SqB K H a (iv ns) k) (q : ∀ m, (ns = [] → m = d) → (ns ≠ [] → m ∈ ns ∧ ∀ y ∈ ns, m ≤ y) → Q (.int m) H) : rD_min K [.ref a] [.int d] H Q := ⟨a, k, ns, d, rfl, rfl, hs, q⟩
theorem w_ckw {R : List V → List V → Hp → VK → Prop} {tr tk : TA} (h : tr σ H fun vs H1 => tk σ H1 fun zs H2 => R vs zs H2 Q) : tCKw R tr tk σ H Q := h
/-! ## isinstance -/
theorem r_isi {a b : String} {r : Bool} (ty : TyX K H x (.type a)) (h : kitB a b = some r) (q : Q (.bl r) H) : rIsi K [x, .ty b] H Q := ⟨x, .ty b, .type a, .type b, r, rfl, .ty b, ty, kit_ty h, q⟩
theorem tyB (h : SqB K H a xs k) : TyX K H (.ref a) (.type (if k then "list" else "tuple")) := by
  cases k with
  | true =>
    rcases (show SqL K H a xs from h) with (h | ⟨o, h⟩) | ⟨o, its, n, e, c, _⟩
    · exact .base (.lst h)
    · exact .base (.frz h)
    · exact .kList e c
  | false =>
    rcases (show SqT K H a xs from h) with (h | ⟨o, h⟩) | ⟨o, its, n, e, c, _⟩
    · exact .base (.tup h)
    · exact .fTuple h
    · exact .kTuple e c
theorem r_isiT (h : SqT K H a xs) (q : Q (.bl true) H) : rIsi K [.ref a, .ty "tuple"] H Q := r_isi (tyB (k := false) h) (by decide +kernel) q
theorem r_isiL (h : SqL K H a xs) (q : Q (.bl true) H) : rIsi K [.ref a, .ty "list"] H Q := r_isi (tyB (k := true) h) (by decide +kernel) q
theorem r_isiI {i : Int} (q : Q (.bl true) H) : rIsi K [.int i, .ty "int"] H Q := r_isi (.base (.int i)) (by decide +kernel) q
theorem r_isiIb {i : Int} (q : Q (.bl false) H) : rIsi K [.int i, .ty "bool"] H Q := r_isi (.base (.int i)) (by decide +kernel) q
theorem r_isiB {i : Bool} (q : Q (.bl true) H) : rIsi K [.bl i, .ty "bool"] H Q := r_isi (.base (.bl i)) (by decide +kernel) q
theorem r_isin_ref (q : Q (.bl false) H) : rIsNone (.ref a) .non H Q := r_isnone (by rw [decide_eq_false (fun z => nomatch z)]; exact q)
theorem r_isin_non (q : Q (.bl true) H) : rIsNone .non .non H Q := r_isnone (by rw [decide_eq_true rfl]; exact q)
theorem r_notn_ref (q : Q (.bl true) H) : rNotNone (.ref a) .non H Q := r_notnone (by rw [decide_eq_false (fun z => nomatch z)]; exact q)
theorem r_notn_non (q : Q (.bl false) H) : rNotNone .non .non H Q := r_notnone (by rw [decide_eq_true rfl]; exact q)
/-! ## fields, instances -/
def RFld (K : PySem.W.Frag) (f : Str) (x : V) (H : Hp) (Q : VK) : Prop := ∃ a C dx fs v, x = .ref a ∧ H a = some (.ins C dx fs) ∧ Cls K C ∧ NoAttr K C f ∧ fs.lookup f = some v ∧ Q v H
theorem w_fld (h : te σ H fun x H1 => RFld K f x H1 Q) : tFld K te f σ H Q := h
theorem r_fld (h : H a = some (.ins C dx fs)) (c : Cls K C) (nf : NoAttr K C f) (e : fs.lookup f = some v) (q : Q v H) : RFld K f (.ref a) H Q := ⟨a, C, dx, fs, v, rfl, h, c, nf, e, q⟩
def RSFld (K : PySem.W.Frag) (f : Str) (x y : V) (H : Hp) (P : Hp → Prop) : Prop := ∃ a C dx fs, x = .ref a ∧ H a = some (.ins C dx fs) ∧ Cls K C ∧ NoAttr K C f ∧ fs.length < 1000 ∧ P (upd H a (.ins C dx (putF f y fs)))
theorem w_sfld (h : tb σ H fun y H1 => ta σ H1 fun x H2 => RSFld K f x y H2 (n σ)) : sFld K ta tb f ⟨n, r, b, c⟩ σ H := h
theorem r_sfld {P : Hp → Prop} {fs' : List (Str × V)} (G : St E F H L) (cl : Cls K C) (nf : NoAttr K C f) (u : Upd L a (.ins C dx fs) (.ins C dx fs') L') (e : putF f y fs = fs') (hl : fs.length < 1000) (q : ∀ H', St E F H' L' → P H') : RSFld K f (.ref a) y H P :=
  ⟨a, C, dx, fs, rfl, G.get u.mem, cl, nf, hl, by rw [e]; exact q _ (G.put u)⟩
def RMk (C : Addr) (sp : Sp) (vs : List V) (H : Hp) (Q : VK) (X : XK) : Prop := ∀ x dx, H x = none → H dx = none → dx ≠ x → sp (.ref x :: vs) (upd (upd H dx (.own x)) x (.ins C dx [])) (fun v H2 => v = .non ∧ Q (.ref x) H2) X
theorem w_mk {sp : Sp} {X : XK} {tr : TA} (h : tr σ H fun vs H1 => RMk C sp vs H1 Q X) : tMake C sp [] X tr σ H Q := by
  have e : ∀ vs H1, RMk C sp vs H1 Q X → RMk C sp (vs ++ []) H1 Q X := fun vs H1 h => by rw [List.append_nil]; exact h
  show tr σ H fun vs H1 => RMk C sp (vs ++ []) H1 Q X
  simpa only [List.append_nil] using h
theorem r_mk {sp : Sp} {X : XK} {vs : List V} (G : St E F H L) (q : ∀ x dx H', St E F H' ((x, .ins C dx []) :: (dx, .own x) :: L) → sp (.ref x :: vs) H' (fun v H2 => v = .non ∧ Q (.ref x) H2) X) : RMk C sp vs H Q X := by
  intro x dx hx hd ne
  have G1 := G.new (o := .own x) hd
  exact q x dx _ (G1.new (by rw [upd_ne (Ne.symm ne)]; exact hx))
/-! ## more of the ledger -/
theorem St.perm (G : St E F H L) (pm : L'.Perm L) : St E F H L' := ⟨G.bh, G.fh, G.ff, G.pr, fun x hx => G.own x (pm.mem_iff.mp hx), (pm.map _).nodup_iff.mpr G.nd⟩
theorem St.frzs : ∀ {L1 : Led} {F : Hp}, St E F H (L1 ++ L2) → ∃ F', Same F F' ∧ (∀ x ∈ L1, F' x.1 = some x.2) ∧ St E F' H L2
  | [], F, G => ⟨F, Same.refl _, (fun _ h => nomatch h), G⟩
  | (a, o) :: r, F, G => by
    obtain ⟨F1, s1, h1, G1⟩ := G.frz (L' := r ++ L2) Tak.head
    obtain ⟨F2, s2, h2, G2⟩ := St.frzs G1
    refine ⟨F2, s1.trans s2, fun x hx => ?_, G2⟩
    rcases List.mem_cons.mp hx with q | q
    · subst q; exact s2 _ _ h1
    · exact h2 x q
theorem Tak.perm (t : Tak L a o L') : ((a, o) :: L').Perm L := by
  induction t with
  | head => exact List.Perm.refl _
  | tail _ ih => exact (List.Perm.swap _ _ _).trans (List.Perm.cons _ ih)
theorem St.front (G : St E F H L) (t : Tak L a o L') : St E F H ((a, o) :: L') := G.perm t.perm
theorem St.toEnd {x : Addr × HO} (G : St E F H (x :: L)) : St E F H (L ++ [x]) := G.perm (List.perm_append_comm (l₂ := [x]))
theorem St.same (G : St E F H L) : Same E.H H := G.bh
/-! ## data -/
abbrev dI (ns : List Int) : List PyData := ns.map PyData.int
theorem dpa_iv : ∀ {ns : List Int}, DpAll K H (iv ns) (dI ns)
  | [] => .nil
  | _ :: _ => .cons (.int _) dpa_iv
theorem dp_ints (h : SqL K H a (iv ns)) : Dp K H (.ref a) (.list (dI ns)) := .lst h dpa_iv
theorem dpT_ints (h : SqT K H a (iv ns)) : Dp K H (.ref a) (.tuple (dI ns)) := .tup h dpa_iv
theorem dpa_map {α : Type} {g : α → V} {d : α → PyData} : ∀ {xs : List α}, (∀ x ∈ xs, Dp K H (g x) (d x)) → DpAll K H (xs.map g) (xs.map d)
  | [], _ => .nil
  | x :: xs, h => .cons (h x List.mem_cons_self) (dpa_map fun y hy => h y (List.mem_cons_of_mem _ hy))
theorem eqvAll_map {α : Type} [DecidableEq α] {d : α → PyData} (h : ∀ x y, PyData.eqv (d x) (d y) = decide (x = y)) : ∀ (xs ys : List α), PyData.eqvAll (xs.map d) (ys.map d) = decide (xs = ys)
  | [], [] => rfl
  | [], _ :: _ => by simp [PyData.eqvAll]
  | _ :: _, [] => by simp [PyData.eqvAll]
  | x :: xs, y :: ys => by
    rw [List.map_cons, List.map_cons, PyData.eqvAll, h, eqvAll_map h xs ys]
    by_cases e : x = y <;> by_cases e2 : xs = ys <;> simp [e, e2]
theorem eqv_int (i j : Int) : PyData.eqv (.int i) (.int j) = decide (i = j) := by simp [PyData.eqv, Bool.beq_eq_decide_eq]
theorem eqvAll_ints (xs ys : List Int) : PyData.eqvAll (dI xs) (dI ys) = decide (xs = ys) := eqvAll_map eqv_int xs ys
theorem eqv_list (xs ys : List PyData) : PyData.eqv (.list xs) (.list ys) = PyData.eqvAll xs ys := by rw [PyData.eqv]
theorem eqv_tuple (xs ys : List PyData) : PyData.eqv (.tuple xs) (.tuple ys) = PyData.eqvAll xs ys := by rw [PyData.eqv]
theorem eqvAll_nil : PyData.eqvAll [] [] = true := rfl
theorem eqvAll_cons (x y : PyData) (xs ys : List PyData) : PyData.eqvAll (x :: xs) (y :: ys) = (PyData.eqv x y && PyData.eqvAll xs ys) := by rw [PyData.eqvAll]
/-- laid and not deep -/
structure Shp (m : Nat) (d : PyData) : Prop where
  lay : d.canLay0 = true
  dep : d.depth ≤ m
theorem Shp.ok {m : Nat} {d : PyData} (h : Shp m d) (hm : m ≤ 64) : SeqAt.shaped d = true := by
  unfold SeqAt.shaped
  rw [h.lay, decide_eq_true (Nat.le_trans h.dep hm)]; rfl
theorem Shp.mono {m m' : Nat} {d : PyData} (h : Shp m d) (hm : m ≤ m') : Shp m' d := ⟨h.lay, Nat.le_trans h.dep hm⟩
theorem eqv_self {m : Nat} {d : PyData} (h : Shp m d) : PyData.eqv d d = true := PySem.SeqAt.eqv_refl d h.lay
theorem shp_int {i : Int} : Shp 0 (.int i) := ⟨rfl, Nat.le_refl _⟩
theorem shp_bool {i : Bool} : Shp 0 (.bool i) := ⟨rfl, Nat.le_refl _⟩
theorem shp_none : Shp 0 .none := ⟨rfl, Nat.le_refl _⟩
structure ShpA (m : Nat) (ds : List PyData) : Prop where
  lay : PyData.canLayAll0 ds = true
  dep : PyData.depthAll ds ≤ m
theorem shpa_nil {m : Nat} : ShpA m [] := ⟨rfl, Nat.zero_le _⟩
theorem shpa_cons {m : Nat} {d : PyData} {ds : List PyData} (h : Shp m d) (h2 : ShpA m ds) : ShpA m (d :: ds) := by
  refine ⟨?_, ?_⟩
  · rw [PyData.canLayAll0, h.lay, h2.lay]; rfl
  · rw [PyData.depthAll]; exact Nat.max_le.mpr ⟨h.dep, h2.dep⟩
theorem shpa_map {α : Type} {m : Nat} {d : α → PyData} : ∀ {xs : List α}, (∀ x ∈ xs, Shp m (d x)) → ShpA m (xs.map d)
  | [], _ => shpa_nil
  | x :: xs, h => shpa_cons (h x List.mem_cons_self) (shpa_map fun y hy => h y (List.mem_cons_of_mem _ hy))
theorem shp_list {m : Nat} {ds : List PyData} (h : ShpA m ds) : Shp (m + 1) (.list ds) := ⟨by rw [PyData.canLay0]; exact h.lay, by rw [PyData.depth]; exact Nat.succ_le_succ h.dep⟩
theorem shp_tuple {m : Nat} {ds : List PyData} (h : ShpA m ds) : Shp (m + 1) (.tuple ds) := ⟨by rw [PyData.canLay0]; exact h.lay, by rw [PyData.depth]; exact Nat.succ_le_succ h.dep⟩
theorem shpa_ints {m : Nat} : ShpA m (dI ns) := shpa_map fun _ _ => shp_int.mono (Nat.zero_le _)
theorem r_eqD {d e : PyData} {m m' : Nat} {k : Bool} (h1 : Dp K H x d) (h2 : Dp K H y e) (s1 : Shp m d) (s2 : Shp m' e) (hk : PyData.eqv d e = k) (q : Q (.bl k) H) (hm : m ≤ 64 := by decide) (hm' : m' ≤ 64 := by decide) : rEqD K x y H Q :=
  ⟨d, e, h1, h2, s1.ok hm, s2.ok hm', by rw [hk]; exact q⟩
theorem r_neD {d e : PyData} {m m' : Nat} {k : Bool} (h1 : Dp K H x d) (h2 : Dp K H y e) (s1 : Shp m d) (s2 : Shp m' e) (hk : PyData.eqv d e = k) (q : Q (.bl (!k)) H) (hm : m ≤ 64 := by decide) (hm' : m' ≤ 64 := by decide) : rNeD K x y H Q :=
  ⟨d, e, h1, h2, s1.ok hm, s2.ok hm', by rw [hk]; exact q⟩
theorem sIx_nat {n d k : Nat} : HT.sIx n d (some (k : Int)) = min k n := by
  unfold HT.sIx
  simp
  omega
theorem cut_from {k : Nat} : cutV xs (some (k : Int)) none = xs.drop k := by
  unfold cutV
  rw [sIx_nat, show HT.sIx xs.length xs.length none = xs.length from rfl]
  by_cases h : k ≤ xs.length
  · rw [Nat.min_eq_left h, List.take_of_length_le (by simp)]
  · rw [Nat.min_eq_right (by omega), List.drop_of_length_le (by omega), List.drop_of_length_le (by omega)]; simp
theorem cut_to {k : Nat} : cutV xs none (some (k : Int)) = xs.take k := by
  unfold cutV
  rw [sIx_nat, show HT.sIx xs.length 0 none = 0 from rfl, List.drop_zero, Nat.sub_zero]
  by_cases h : k ≤ xs.length
  · rw [Nat.min_eq_left h]
  · rw [Nat.min_eq_right (by omega), List.take_of_length_le (by omega), List.take_of_length_le (by omega)]
/-! ## rows: lists of lists of ints -/
inductive Rows (K : PySem.W.Frag) (H : Hp) (k : Bool) : List Addr → List (List Int) → Prop
  | nil : Rows K H k [] []
  | cons {a as ns rs} : SqB K H a (iv ns) k → Rows K H k as rs → Rows K H k (a :: as) (ns :: rs)
theorem Rows.len {as : List Addr} {rs : List (List Int)} (h : Rows K H k as rs) : as.length = rs.length := by
  induction h with
  | nil => rfl
  | cons _ _ ih => rw [List.length_cons, List.length_cons, ih]
theorem Rows.mono {as : List Addr} {rs : List (List Int)} (e : Same H H') (h : Rows K H k as rs) : Rows K H' k as rs := by
  induction h with
  | nil => exact .nil
  | cons h1 _ ih => exact .cons (qS e h1) ih
theorem Rows.at {as : List Addr} {rs : List (List Int)} (h : Rows K H k as rs) : ∀ {i : Nat} {a : Addr}, as[i]? = some a → ∃ ns, rs[i]? = some ns ∧ SqB K H a (iv ns) k := by
  induction h with
  | nil => intro i a e; simp at e
  | cons h1 _ ih =>
    intro i a e
    cases i with
    | zero => rw [List.getElem?_cons_zero] at e; cases e; exact ⟨_, rfl, h1⟩
    | succ i => exact ih (by simpa using e)
theorem Rows.snoc {as : List Addr} {rs : List (List Int)} (h : Rows K H k as rs) (h2 : SqB K H a (iv ns) k) : Rows K H k (as ++ [a]) (rs ++ [ns]) := by
  induction h with
  | nil => exact .cons h2 .nil
  | cons h1 _ ih => exact .cons h1 ih
theorem Rows.set {as : List Addr} {rs : List (List Int)} (h : Rows K H k as rs) (h2 : SqB K H a (iv ns) k) : ∀ {j : Nat}, Rows K H k (as.set j a) (rs.set j ns) := by
  induction h with
  | nil => intro j; exact .nil
  | cons h1 hr ih =>
    intro j
    cases j with
    | zero => exact .cons h2 hr
    | succ j => exact .cons h1 ih
abbrev dRow : Bool → List Int → PyData
  | true, ns => .list (dI ns)
  | false, ns => .tuple (dI ns)
theorem Rows.dp {as : List Addr} {rs : List (List Int)} (h : Rows K H k as rs) : DpAll K H (as.map V.ref) (rs.map (dRow k)) := by
  induction h with
  | nil => exact .nil
  | cons h1 _ ih =>
    refine .cons ?_ ih
    cases k with
    | true => exact dp_ints h1
    | false => exact dpT_ints h1
theorem eqv_row {k : Bool} (xs ys : List Int) : PyData.eqv (dRow k xs) (dRow k ys) = decide (xs = ys) := by
  cases k with
  | true => rw [dRow, dRow, eqv_list, eqvAll_ints]
  | false => rw [dRow, dRow, eqv_tuple, eqvAll_ints]
theorem shp_row {k : Bool} : Shp 1 (dRow k ns) := by
  cases k with
  | true => exact shp_list shpa_ints
  | false => exact shp_tuple shpa_ints
abbrev rv (as : List Addr) : List V := as.map V.ref
theorem rv_len {as : List Addr} : (rv as).length = as.length := List.length_map ..
theorem rv_get {as : List Addr} {i : Nat} {x : V} (h : (rv as)[i]? = some x) : ∃ z, as[i]? = some z ∧ x = .ref z := by
  rw [List.getElem?_map] at h
  cases e : as[i]? with
  | none => rw [e] at h; cases h
  | some z => rw [e] at h; exact ⟨z, rfl, (Option.some.inj h).symm⟩
end
end SL

set_option Elab.async false
set_option linter.all false
set_option maxRecDepth 100000
set_option maxHeartbeats 4000000
namespace SL
open PySem L2
section

set_option hygiene false
local macro_rules | `(tactic| walk_at "m") => `(tactic| first | exact List.Mem.head _ | (refine List.Mem.tail _ ?_; walk_at "m"))
local macro_rules | `(tactic| walk_at "u") => `(tactic| first | exact Upd.head | (apply Upd.tail; walk_at "u"))
local macro_rules | `(tactic| walk_at "tk") => `(tactic| first | exact Tak.head | (apply Tak.tail; walk_at "tk"))
local macro_rules | `(tactic| walk_at "l") => `(tactic| first | assumption | exact lS (St.fh (by assumption)) (by assumption) | exact SqL.of (St.get (by assumption) (by walk_at "m")))
local macro_rules | `(tactic| walk_at "t") => `(tactic| first | assumption | exact tS (St.fh (by assumption)) (by assumption) | exact SqT.of (St.get (by assumption) (by walk_at "m")))
local macro_rules | `(tactic| walk_at "lt") => `(tactic| first | exact .inl (by walk_at "l") | exact .inr (by walk_at "t"))
local macro_rules | `(tactic| walk_at "sz") => `(tactic| first | (show _ ≤ sizeLine; decide) | exact sz (by simp) | exact szl (by simp) | exact sz (by omega) | exact szl (by omega) | exact sz (by simp; omega) | exact szl (by simp; omega))
local macro_rules | `(tactic| walk_at "c") => `(tactic| first | assumption | decide | omega)
local macro_rules | `(tactic| walk_at "g1") => `(tactic| with_reducible first
  | refine w_seq ?_ | refine w_asg ?_ | refine w_c ?_ | refine w_op ?_
  | refine r_I0 ?_ | refine w_test ?_ | refine r_b ?_ | refine w_if ?_ | refine w_cons ?_ | refine w_nil ?_
  | refine w_ret ?_ | refine w_drop ?_ | refine w_cb ?_ | refine w_call ?_ | refine w_next ?_ | refine w_tup ?_ | refine w_lst ?_ | refine w_bm ?_ | refine w_bm0 ?_
  | refine w_and ?_ | refine w_or ?_ | refine w_not ?_ | refine w_andV ?_ | refine w_orV ?_ | refine w_notV ?_ | refine w_tB ?_ | refine w_un ?_ | refine r_U ?_
  | refine w_for ?_ | refine w_iL ?_ | refine w_iT ?_ | refine w_i1 ?_ | refine w_i2 ?_ | refine w_sl ?_ | refine w_part ?_ | refine w_nopart ?_ | refine r_part ?_
  | refine r_eqI ?_ | refine r_neI ?_ | refine r_eqS ?_ | refine r_neS ?_ | refine r_eqB ?_ | refine r_neB ?_ | refine r_ifT ?_ | refine r_ifF ?_ | refine r_ifNt ?_ | refine r_ifNf ?_ | refine r_ifRN ?_ | refine r_ifNRN ?_ | refine r_ifNN ?_ | refine r_ifNNN ?_
  | refine w_ifE ?_ | refine r_int1 ?_ | refine r_int1b ?_ | refine r_isnone ?_ | refine r_notnone ?_ | refine r_max2 ?_ | refine r_min2 ?_ | refine r_ipI ?_ | refine w_tru ?_ | refine w_rs ?_
  | refine w_retN ?_ | refine w_break ?_ | refine w_cont ?_ | refine w_callS ?_ | refine w_asgG ?_ | refine w_gsub ?_)
local macro_rules | `(tactic| walk_at "g2") => `(tactic| first
  | ((with_reducible refine' w_var ?hv ?_); (case hv => rfl)) | ((with_reducible refine' w_aug ?hv ?_); (case hv => rfl))
  | ((with_reducible show rLen _ _ _ _); refine r_len (by walk_at "lt") ?_)
  | (with_reducible refine r_I ?cnd ?_; (case cnd => first | decide | omega | assumption | (unfold CPow; decide)))
  | ((with_reducible show RTy _ _ _ _ _); refine r_tyL (by walk_at "l") ?_)
  | (with_reducible refine r_ifDT (by walk_at "c") ?_) | (with_reducible refine r_ifDF (by walk_at "c") ?_)
  | (with_reducible refine r_ifNT (by walk_at "c") ?_) | (with_reducible refine r_ifNF (by walk_at "c") ?_))
local macro_rules | `(tactic| walk_at "go") => `(tactic| repeat (first | walk_at "g1" | walk_at "g2"))

variable {n b c : L2.St → Hp → Prop} {r : VK} {σ : L2.St} {H H' : Hp} {Q : VK} {t : TS} {te ta tb : TE} {x y v : V} {K : PySem.W.Frag} {E : En} {F F' : Hp} {L L' L1 L2 : Led} {p a : Addr} {xs ys : List V} {ns ms : List Int} {k : Bool} {o o' : HO}
/-! ## the law's promise, calls that hand back what they made -/
def spL (K : PySem.W.Frag) : Sp := fun vs H Q E => ∃ (a : Addr) (ns : List Int), vs = [.ref a] ∧ (SqL K H a (iv ns) ∧ ns.length ≤ 63 ∧ ∀ H', Q (.bl true) H')
structure Own (H H' : Hp) (L : Led) : Prop where
  hh : Same H H'
  own : ∀ x ∈ L, H' x.1 = some x.2 ∧ H x.1 = none
  nd : (L.map (·.1)).Nodup
structure OwnB (p : Addr) (H H' : Hp) (o' : HO) (L : Led) : Prop where
  hh : SameB p H H'
  hp : H' p = some o'
  own : ∀ x ∈ L, H' x.1 = some x.2 ∧ H x.1 = none
  nd : (L.map (·.1)).Nodup
theorem nd_app {L1 L2 : Led} (h1 : (L1.map (·.1)).Nodup) (h2 : (L2.map (·.1)).Nodup) (h : ∀ x ∈ L1, ∀ y ∈ L2, x.1 ≠ y.1) : ((L1 ++ L2).map (·.1)).Nodup := by
  rw [List.map_append, List.nodup_append]
  refine ⟨h1, h2, fun a ha b hb => ?_⟩
  obtain ⟨x, hx, rfl⟩ := List.mem_map.mp ha
  obtain ⟨y, hy, rfl⟩ := List.mem_map.mp hb
  exact h x hx y hy
theorem St.addL (G : St E F H L) (w : Own H H' L1) : St E F H' (L1 ++ L) := by
  have G1 := G.grow w.hh
  refine ⟨G1.bh, G1.fh, G1.ff, G1.pr, fun x hx => ?_, nd_app w.nd G.nd fun x hx y hy e => ?_⟩
  · rcases List.mem_append.mp hx with q | q
    · obtain ⟨h1, h2⟩ := w.own x q
      exact ⟨h1, free_of G.fh h2, free_of G.bh h2⟩
    · exact G1.own x q
  · have h1 := (w.own x hx).2
    rw [e, (G.own y hy).1] at h1
    cases h1
theorem St.addLB (G : St E F H L) (u : Upd L p o o' L') (w : OwnB p H H' o' L1) : St E F H' (L1 ++ L') := by
  have G1 := G.putB u w.hh w.hp
  refine ⟨G1.bh, G1.fh, G1.ff, G1.pr, fun x hx => ?_, nd_app w.nd G1.nd fun x hx y hy e => ?_⟩
  · rcases List.mem_append.mp hx with q | q
    · obtain ⟨h1, h2⟩ := w.own x q
      exact ⟨h1, free_of G.fh h2, free_of G.bh h2⟩
    · exact G1.own x q
  · have h1 := (w.own x hx).2
    have : y.1 ∈ L.map (·.1) := by rw [← u.fst]; exact List.mem_map.mpr ⟨y, hy, rfl⟩
    obtain ⟨z, hz, q⟩ := List.mem_map.mp this
    have q' : z.1 = y.1 := q
    rw [e, ← q', (G.own z hz).1] at h1
    cases h1
theorem St.toOwn (G : St ⟨F, H⟩ F' H' L) : Own H H' L := ⟨G.bh, fun x hx => ⟨(G.own x hx).1, (G.own x hx).2.2⟩, G.nd⟩
theorem St.toOwnB (G : St ⟨F, del H p⟩ F' H' ((p, o') :: L)) : OwnB p H H' o' L := by
  have hn := G.nd
  rw [List.map_cons, List.nodup_cons] at hn
  refine ⟨fun b u h e => G.bh b u (by rw [show (En.mk F (del H p)).H = del H p from rfl, del_ne h]; exact e), G.get List.mem_cons_self, fun x hx => ?_, hn.2⟩
  obtain ⟨h1, _, h3⟩ := G.own x (List.mem_cons_of_mem _ hx)
  have ne : x.1 ≠ p := fun e => hn.1 (List.mem_map.mpr ⟨x, hx, e⟩)
  exact ⟨h1, by rw [show (En.mk F (del H p)).H = del H p from rfl, del_ne ne] at h3; exact h3⟩
theorem St.same1 (G : St ⟨F, del H p⟩ F' H' L) (m : (p, o) ∈ L) (h : H p = some o) : Same H H' := fun b u e => by
  by_cases c : b = p
  · subst c; rw [h] at e; cases e; exact G.get m
  · exact G.bh b u (by rw [show (En.mk F (del H p)).H = del H p from rfl, del_ne c]; exact e)
/-- an instance is no list and no tuple -/
theorem sq_del {C dx : Addr} {fs : List (Str × V)} (h : H p = some (.ins C dx fs)) (s : SqB K H a xs k) : SqB K (del H p) a xs k := by
  cases k with
  | true =>
    rcases s with (s | ⟨z, s⟩) | s
    · exact .inl (.inl (by rw [del_ne (ne_of s h (fun z => nomatch z))]; exact s))
    · exact .inl (.inr ⟨z, by rw [del_ne (ne_of s h (fun z => nomatch z))]; exact s⟩)
    · exact .inr s
  | false =>
    rcases s with (s | ⟨z, s⟩) | s
    · exact .inl (.inl (by rw [del_ne (ne_of s h (fun z => nomatch z))]; exact s))
    · exact .inl (.inr ⟨z, by rw [del_ne (ne_of s h (fun z => nomatch z))]; exact s⟩)
    · exact .inr s
theorem Rows.del {C dx : Addr} {fs : List (Str × V)} {as : List Addr} {rs : List (List Int)} (h : H p = some (.ins C dx fs)) (s : Rows K H k as rs) : Rows K (del H p) k as rs := by
  induction s with
  | nil => exact .nil
  | cons h1 _ ih => exact .cons (sq_del h h1) ih
/-! ## rows that are owned -/
def rowL : List Addr → List (List Int) → Led
  | a :: as, r :: rs => (a, .lst (iv r)) :: rowL as rs
  | _, _ => []
theorem rowL_rows {as : List Addr} {rs : List (List Int)} (hl : as.length = rs.length) (h : ∀ x ∈ rowL as rs, H x.1 = some x.2) : Rows K H true as rs := by
  induction as generalizing rs with
  | nil => cases rs with
    | nil => exact .nil
    | cons _ _ => cases hl
  | cons a as ih => cases rs with
    | nil => cases hl
    | cons r rs => exact .cons (show SqL K H a (iv r) from SqL.of (h _ List.mem_cons_self)) (ih (by simpa using hl) fun x hx => h x (List.mem_cons_of_mem _ hx))
theorem rowL_upd : ∀ {as : List Addr} {rs : List (List Int)} {j : Nat} {a : Addr} {r r' : List Int}, as[j]? = some a → rs[j]? = some r → Upd (rowL as rs) a (.lst (iv r)) (.lst (iv r')) (rowL as (rs.set j r'))
  | [], _, _, _, _, _, h, _ => by simp at h
  | _ :: _, [], _, _, _, _, _, h => by simp at h
  | a :: as, r :: rs, 0, a', r0, r', h1, h2 => by
    simp at h1 h2
    subst h1 h2
    exact .head
  | a :: as, r :: rs, j + 1, a', r0, r', h1, h2 => .tail (rowL_upd (by simpa using h1) (by simpa using h2))
theorem rowL_snoc : ∀ {as : List Addr} {rs : List (List Int)} {a : Addr} {r : List Int}, as.length = rs.length → rowL (as ++ [a]) (rs ++ [r]) = rowL as rs ++ [(a, .lst (iv r))]
  | [], [], _, _, _ => rfl
  | [], _ :: _, _, _, h => by cases h
  | _ :: _, [], _, _, h => by cases h
  | x :: as, y :: rs, a, r, h => by
    show (x, HO.lst (iv y)) :: rowL (as ++ [a]) (rs ++ [r]) = (x, HO.lst (iv y)) :: (rowL as rs ++ [(a, .lst (iv r))])
    rw [rowL_snoc (by simpa using h)]
theorem Upd.app {L0 : Led} (u : Upd L a o o' L') : Upd (L0 ++ L) a o o' (L0 ++ L') := by
  induction L0 with
  | nil => exact u
  | cons x r ih => exact .tail ih
theorem Upd.appL {L0 : Led} (u : Upd L a o o' L') : Upd (L ++ L0) a o o' (L' ++ L0) := by
  induction u with
  | head => exact .head
  | tail _ ih => exact .tail ih
/-! ## integers in a tuple -/
def cp_is_integer (K : PySem.W.Frag) : Sp := fun vs H Q E => ∃ (i : Int), vs = [.int i] ∧ (Q (.bl true) H)
theorem u_isint {K : PySem.W.Frag} {i : Int} {H : Hp} {Q : VK} {X : XK} (q : Q (.bl true) H) : cp_is_integer K [.int i] H Q X := ⟨i, rfl, q⟩
def ct_is_integer (K : PySem.W.Frag) : TS := (tRet (tAndV (tCB (rIsi K) (tCons (tVar 0) (tCons (tC (.ty "int")) tNil))) (tNotV (tCB (rIsi K) (tCons (tVar 0) (tCons (tC (.ty "bool")) tNil))))))
theorem cv_is_integer {K : PySem.W.Frag} {vs : List V} {H : Hp} {Q : VK} {E : XK} (h : cp_is_integer K vs H Q E) : ct_is_integer K (D0 Q) (start ["actual"] vs) H := by
  obtain ⟨i, rfl, q⟩ := h
  unfold ct_is_integer
  show tRet _ (D0 Q) [some (.int i)] H
  unfold D0
  walk_at "go"
  refine r_isiI ?_
  walk_at "go"
  refine r_isiIb ?_
  walk_at "go"
  exact q
def cp_integers (K : PySem.W.Frag) : Sp := fun vs H Q E => ∃ (a : Addr) (ns : List Int) (lo hi : Int), vs = [.ref a, .int lo, .int hi] ∧ (SqT K H a (iv ns) ∧ ((∀ z ∈ ns, lo ≤ z ∧ z < hi) → Q (.bl true) H) ∧ (¬ (∀ z ∈ ns, lo ≤ z ∧ z < hi) → Q (.bl false) H))
def ct_integers (K : PySem.W.Frag) : TS := (tSeq (tIfS (tNot (tB (tCB (rIsi K) (tCons (tVar 0) (tCons (tC (.ty "tuple")) tNil))))) (tRet (tC (.bl false))) tNext)
 (tSeq (tFor (iTup K (tVar 0)) (gName 3) (tIfS (tOr (tNot (tB (tCall (cp_is_integer K) [] E0 (tCons (tVar 3) tNil)))) (tOr (tTest (tOp rLtI (tVar 3) (tVar 1))) (tTest (tOp rGeI (tVar 3) (tVar 2))))) (tRet (tC (.bl false))) tNext))
 (tRet (tC (.bl true)))))
theorem cv_integers {K : PySem.W.Frag} {vs : List V} {H : Hp} {Q : VK} {E : XK} (h : cp_integers K vs H Q E) : ct_integers K (D0 Q) (start ["actual", "low", "high", "item"] vs) H := by
  obtain ⟨a, ns, lo, hi, rfl, ha, q1, q2⟩ := h
  unfold ct_integers
  show tSeq _ _ (D0 Q) [some (.ref a), some (.int lo), some (.int hi), none] H
  unfold D0
  walk_at "go"
  refine r_isiT ha ?_
  walk_at "go"
  refine r_it ha ?_
  refine r_forT (xs := iv ns) (fun i σ H' => H' = H ∧ (∃ v, σ = [some (.ref a), some (.int lo), some (.int hi), v]) ∧ ∀ z ∈ ns.take i, lo ≤ z ∧ z < hi) ⟨rfl, ⟨_, rfl⟩, (fun _ h => by simp at h)⟩ (fun _ _ _ _ h => h.1 ▸ ha) ?_ ?_
  · rintro i x σ H' hi' ⟨rfl, ⟨v, rfl⟩, hz⟩
    obtain ⟨z, hz1, rfl⟩ := iv_get hi'
    walk_at "go"
    refine u_isint ?_
    walk_at "go"
    have hm : z ∈ ns := List.mem_of_getElem? hz1
    refine r_ifD (fun h => ?_) (fun h => ?_)
    · walk_at "go"
      exact q2 fun w => absurd (w z hm).1 (by omega)
    · walk_at "go"
      refine r_ifD (fun h2 => ?_) (fun h2 => ?_)
      · walk_at "go"
        exact q2 fun w => absurd (w z hm).2 (by omega)
      · walk_at "go"
        refine ⟨rfl, ⟨_, rfl⟩, fun y hy => ?_⟩
        rw [take_snoc hz1] at hy
        rcases List.mem_append.mp hy with q | q
        · exact hz y q
        · rw [List.mem_singleton.mp q]; omega
  · rintro σ H' ⟨rfl, ⟨v, rfl⟩, hz⟩
    walk_at "go"
    refine q1 fun z hz' => hz z ?_
    rw [iv_len, List.take_length]; exact hz'
end
end SL

set_option Elab.async false
set_option linter.all false
set_option maxRecDepth 100000
set_option maxHeartbeats 4000000
namespace L2
open PySem PySem.Spec PyProof.Rows
/-! ## an error that has a name -/
def wAllN (n : Nat) (W : WX) : XK := fun cls d H => ∀ σ : St, σ.length = n → W cls d σ H
theorem passes_allN {X : Cx} {W : WX} {n : Nat} (tk : Takes X W) (hn : X.N.length = n) : Passes (L2.CX X.prog X.w) X (wAllN n W) :=
  fun _ σ _ _ e s' I c => tk e s' (XE.of_call I (fun cls d H' h => h σ (I.len.trans hn)) c)
def rIsE' (K : PySem.W.Frag) (a : Addr) (cls : Value) (d : Option Addr) : List V → Hp → VK → Prop := fun xs H Q => ∃ D, cls = .ref D ∧ d = none ∧ ExcC K D ∧ rIsE K D a xs H Q
theorem call_isE' {X : Cx} {a : Addr} {cls : Value} {d : Option Addr} {oe : Obj} {pn : List (Addr × Obj)} (hz : Zc cls d oe) (hf : ∃ vs, oe.data = .fields vs) : CallR (X.suite a ((a, oe) :: pn)) (.builtin "isinstance") (rIsE' X.K a cls d) := by
  intro pins s σ H xs us Q I r h
  obtain ⟨D, rfl, rfl, C, q⟩ := h
  exact call_isE C hz hf pins s σ H xs us Q I r q
theorem kit_true {K : PySem.W.Frag} {R S : Addr} (h1 : PySem.W.hasDictIn K S = true) (ht : PySem.W.typeIn K (.ref S) = some (.type "type")) (h2 : PySem.W.subIn K (.ref R) (.ref S) = some true) : PySem.W.kitOne K (.ref R) (.ref S) = some true := by
  obtain ⟨cd, hc, _⟩ := PySem.W.any_some h1
  have e2 : ((PySem.W.clsIn K S).isSome && PySem.W.typeIn K (.ref S) == some (.type "type")) = true := by rw [hc, ht] <;> rfl
  unfold PySem.W.kitOne
  split
  · rfl
  · show (if ((PySem.W.clsIn K S).isSome && PySem.W.typeIn K (.ref S) == some (.type "type")) = true then PySem.W.subIn K (.ref R) (.ref S) else none) = some true
    rw [if_pos e2]; exact h2
theorem kit_self {K : PySem.W.Frag} {R : Addr} : PySem.W.kitOne K (.ref R) (.ref R) = some true := by
  unfold PySem.W.kitOne
  rw [if_pos (by simp)]
/-! ## a comprehension in a comprehension -/
def relabelS (scope sc : Scope) : Scope :=
  { scope with names := scope.names.map fun (n, k) => if (k == .free && sc.kind == .function && sc.names.lookup n == some .cell) then (n, .cell) else (n, k) }
theorem blk_in {N : List Str} {env : Env} {sc0 scope0 scope : Scope} {cl : List (Str × Addr)} {C : Addr} {own : List (Str × Nat)} (he : env.scope = sc0) (h : blkC N (relabelS scope0 sc0) scope own = true) : BlkOk N (compEnvC scope0 cl C env).scope scope own := by
  subst he
  exact blkOk_by h
end L2
namespace SL
open PySem L2
section

set_option hygiene false
local macro_rules | `(tactic| walk_at "m") => `(tactic| first | exact List.Mem.head _ | (refine List.Mem.tail _ ?_; walk_at "m"))
local macro_rules | `(tactic| walk_at "u") => `(tactic| first | exact Upd.head | (apply Upd.tail; walk_at "u"))
local macro_rules | `(tactic| walk_at "tk") => `(tactic| first | exact Tak.head | (apply Tak.tail; walk_at "tk"))
local macro_rules | `(tactic| walk_at "l") => `(tactic| first | assumption | exact lS (St.fh (by assumption)) (by assumption) | exact SqL.of (St.get (by assumption) (by walk_at "m")))
local macro_rules | `(tactic| walk_at "t") => `(tactic| first | assumption | exact tS (St.fh (by assumption)) (by assumption) | exact SqT.of (St.get (by assumption) (by walk_at "m")))
local macro_rules | `(tactic| walk_at "lt") => `(tactic| first | exact .inl (by walk_at "l") | exact .inr (by walk_at "t"))
local macro_rules | `(tactic| walk_at "sz") => `(tactic| first | (show _ ≤ sizeLine; decide) | exact sz (by simp) | exact szl (by simp) | exact sz (by omega) | exact szl (by omega) | exact sz (by simp; omega) | exact szl (by simp; omega))
local macro_rules | `(tactic| walk_at "c") => `(tactic| first | assumption | decide | omega)
local macro_rules | `(tactic| walk_at "g1") => `(tactic| with_reducible first
  | refine w_seq ?_ | refine w_asg ?_ | refine w_c ?_ | refine w_op ?_
  | refine r_I0 ?_ | refine w_test ?_ | refine r_b ?_ | refine w_if ?_ | refine w_cons ?_ | refine w_nil ?_
  | refine w_ret ?_ | refine w_drop ?_ | refine w_cb ?_ | refine w_call ?_ | refine w_next ?_ | refine w_tup ?_ | refine w_lst ?_ | refine w_bm ?_ | refine w_bm0 ?_
  | refine w_and ?_ | refine w_or ?_ | refine w_not ?_ | refine w_andV ?_ | refine w_orV ?_ | refine w_notV ?_ | refine w_tB ?_ | refine w_un ?_ | refine r_U ?_
  | refine w_for ?_ | refine w_iL ?_ | refine w_iT ?_ | refine w_i1 ?_ | refine w_i2 ?_ | refine w_sl ?_ | refine w_part ?_ | refine w_nopart ?_ | refine r_part ?_
  | refine r_eqI ?_ | refine r_neI ?_ | refine r_eqS ?_ | refine r_neS ?_ | refine r_eqB ?_ | refine r_neB ?_ | refine r_ifT ?_ | refine r_ifF ?_ | refine r_ifNt ?_ | refine r_ifNf ?_ | refine r_ifRN ?_ | refine r_ifNRN ?_ | refine r_ifNN ?_ | refine r_ifNNN ?_
  | refine w_ifE ?_ | refine r_int1 ?_ | refine r_int1b ?_ | refine r_isnone ?_ | refine r_notnone ?_ | refine r_max2 ?_ | refine r_min2 ?_ | refine r_ipI ?_ | refine w_tru ?_ | refine w_rs ?_
  | refine w_retN ?_ | refine w_break ?_ | refine w_cont ?_ | refine w_callS ?_ | refine w_asgG ?_ | refine w_gsub ?_ | refine w_fld ?_ | refine w_sfld ?_ | refine w_mk ?_ | refine w_lc ?_ | refine w_iSq ?_ | refine u_isint ?_ | refine w_dnew ?_ | refine w_dnotin ?_ | refine w_din ?_ | refine w_dget ?_ | refine w_dput ?_ | refine w_ckw ?_)
local macro_rules | `(tactic| walk_at "g2") => `(tactic| first
  | ((with_reducible refine' w_var ?hv ?_); (case hv => rfl)) | ((with_reducible refine' w_aug ?hv ?_); (case hv => rfl))
  | ((with_reducible show rLen _ _ _ _); refine r_len (by walk_at "lt") ?_)
  | (with_reducible refine r_I ?cnd ?_; (case cnd => first | decide | omega | assumption | (unfold CPow; decide)))
  | ((with_reducible show RTy _ _ _ _ _); refine r_tyL (by walk_at "l") ?_)
  | (with_reducible refine r_ifDT (by walk_at "c") ?_) | (with_reducible refine r_ifDF (by walk_at "c") ?_)
  | (with_reducible refine r_ifNT (by walk_at "c") ?_) | (with_reducible refine r_ifNF (by walk_at "c") ?_))
local macro_rules | `(tactic| walk_at "go") => `(tactic| repeat (first | walk_at "g1" | walk_at "g2"))

variable {n b c : L2.St → Hp → Prop} {r : VK} {σ : L2.St} {H H' : Hp} {Q : VK} {t : TS} {te ta tb : TE} {x y v : V} {K : PySem.W.Frag} {E : En} {F F' : Hp} {L L' L1 L2 : Led} {p a : Addr} {xs ys : List V} {ns ms : List Int} {k : Bool} {o o' : HO}
theorem r_isE {D S : Addr} {b : Bool} (C : ExcC K D) (h : PySem.W.kitOne K (.ref D) (.ref S) = some b) (q : Q (.bl b) H) : rIsE' K a (.ref D) none [.ref a, .ref S] H Q := ⟨D, rfl, rfl, C, .ref S, .ref S, b, rfl, fun u r => r, h, q⟩
theorem r_isiC {C : Addr} (ty : TyX K H (.ref a) (.ref C)) (q : Q (.bl true) H) : rIsi K [.ref a, .ref C] H Q := ⟨.ref a, .ref C, .ref C, .ref C, true, rfl, .own C, ty, kit_self, q⟩
theorem r_all {bs : List Bool} (h : SqL K H a (bs.map V.bl)) (q : Q (.bl (bs.all id)) H) : rAll K [.ref a] H Q := ⟨a, bs, rfl, h, q⟩
theorem r_any {bs : List Bool} (h : SqL K H a (bs.map V.bl)) (q : Q (.bl (bs.any id)) H) : rAny K [.ref a] H Q := ⟨a, bs, rfl, h, q⟩
theorem set_slot {i n : Nat} {v : Option V} (h : σ.length = n) (hi : i < n) : (σ.set i v)[i]? = some v := List.getElem?_set_self (by omega)
/-! ## calls that hand back what they own -/
theorem St.join (G : St E F H L) (w : St ⟨F, H⟩ F' H' L1) : St E F' H' (L1 ++ L) := by
  have G1 : St E F' H' L := G.call w.gr
  refine ⟨G1.bh, G1.fh, G1.ff, G1.pr, fun x hx => ?_, nd_app w.nd G.nd fun x hx y hy e => ?_⟩
  · rcases List.mem_append.mp hx with q | q
    · obtain ⟨h1, h2, h3⟩ := w.own x q
      exact ⟨h1, h2, free_of G.bh h3⟩
    · exact G1.own x q
  · have h1 : H x.1 = none := (w.own x hx).2.2
    rw [e, (G.own y hy).1] at h1
    cases h1
theorem St.joinB (G : St E F H L) (u : Upd L p o o' L') (w : St ⟨F, del H p⟩ F' H' ((p, o') :: L1)) : St E F' H' (L1 ++ L') := by
  have G1 : St E F' H' L' := G.callB u (w.grB List.mem_cons_self) (w.get List.mem_cons_self)
  have hn := w.nd
  rw [List.map_cons, List.nodup_cons] at hn
  have hf : ∀ x ∈ L1, H' x.1 = some x.2 ∧ F' x.1 = none ∧ H x.1 = none := fun x q => by
    obtain ⟨h1, h2, h3⟩ := w.own x (List.mem_cons_of_mem _ q)
    have ne : x.1 ≠ p := fun e => hn.1 (List.mem_map.mpr ⟨x, q, e⟩)
    exact ⟨h1, h2, by rw [← del_ne (H := H) ne]; exact h3⟩
  refine ⟨G1.bh, G1.fh, G1.ff, G1.pr, fun x hx => ?_, nd_app hn.2 G1.nd fun x hx y hy e => ?_⟩
  · rcases List.mem_append.mp hx with q | q
    · obtain ⟨h1, h2, h3⟩ := hf x q
      exact ⟨h1, h2, free_of G.bh h3⟩
    · exact G1.own x q
  · have h1 := (hf x hx).2.2
    have : y.1 ∈ L.map (·.1) := by rw [← u.fst]; exact List.mem_map.mpr ⟨y, hy, rfl⟩
    obtain ⟨z, hz, q⟩ := List.mem_map.mp this
    have q' : z.1 = y.1 := q
    rw [e, ← q', (G.own z hz).1] at h1
    cases h1
theorem St.dropL {L1 : Led} (G : St E F H (L1 ++ L)) : St E F H L := ⟨G.bh, G.fh, G.ff, G.pr, fun x hx => G.own x (List.mem_append_right _ hx), by have := G.nd; rw [List.map_append, List.nodup_append] at this; exact this.2.1⟩
/-! ## lists of refs that are owned -/
def rowV : List Addr → List (List V) → Led
  | a :: as, r :: rs => (a, .lst r) :: rowV as rs
  | _, _ => []
theorem rowV_upd : ∀ {as : List Addr} {rs : List (List V)} {j : Nat} {a : Addr} {r r' : List V}, as[j]? = some a → rs[j]? = some r → Upd (rowV as rs) a (.lst r) (.lst r') (rowV as (rs.set j r'))
  | [], _, _, _, _, _, h, _ => by simp at h
  | _ :: _, [], _, _, _, _, _, h => by simp at h
  | a :: as, r :: rs, 0, a', r0, r', h1, h2 => by
    simp at h1 h2
    subst h1 h2
    exact .head
  | a :: as, r :: rs, j + 1, a', r0, r', h1, h2 => .tail (rowV_upd (by simpa using h1) (by simpa using h2))
theorem rowV_snoc : ∀ {as : List Addr} {rs : List (List V)} {a : Addr} {r : List V}, as.length = rs.length → rowV (as ++ [a]) (rs ++ [r]) = rowV as rs ++ [(a, .lst r)]
  | [], [], _, _, _ => rfl
  | [], _ :: _, _, _, h => by cases h
  | _ :: _, [], _, _, h => by cases h
  | x :: as, y :: rs, a, r, h => by
    show (x, HO.lst y) :: rowV (as ++ [a]) (rs ++ [r]) = (x, HO.lst y) :: (rowV as rs ++ [(a, .lst r)])
    rw [rowV_snoc (by simpa using h)]
/-! ## a list in the heap or a tuple in the frozen part -/
def SqX (K : PySem.W.Frag) (F H : Hp) (a : Addr) (xs : List V) : Prop := SqL K H a xs ∨ SqT K F a xs
theorem SqX.mono (e : Same F F') (e2 : Same H H') (h : SqX K F H a xs) : SqX K F' H' a xs := by
  rcases h with h | h
  · exact .inl (lS e2 h)
  · exact .inr (tS e h)
theorem SqX.bb (e : Same F H) (h : SqX K F H a xs) : ∃ k, SqB K H a xs k := by
  rcases h with h | h
  · exact ⟨true, h⟩
  · exact ⟨false, tS e h⟩
theorem SqX.bs (h : SqX K F H a xs) : ∃ k, ∀ H', Same H H' → Same F H' → SqB K H' a xs k := by
  rcases h with h | h
  · exact ⟨true, fun _ e _ => lS e h⟩
  · exact ⟨false, fun _ _ e => tS e h⟩
theorem SqX.or (e : Same F H) (h : SqX K F H a xs) : SqL K H a xs ∨ SqT K H a xs := by
  rcases h with h | h
  · exact .inl h
  · exact .inr (tS e h)
theorem SqX.del {C dx : Addr} {fs : List (Str × V)} (e : H p = some (.ins C dx fs)) (h : SqX K F H a xs) : SqX K F (del H p) a xs := by
  rcases h with h | h
  · exact .inl (sq_del (k := true) e h)
  · exact .inr h
theorem r_tupX (G : St E F H L) (h : SqX K F H a xs) (q : ∀ F' H' t, Same F F' → Same H H' → SqT K F' t xs → St E F' H' L → Q (.ref t) H') : rTupOf K [.ref a] H Q := by
  rcases h with h | h
  · refine ⟨a, xs, rfl, .inl ⟨h, fun p hp => ?_⟩⟩
    obtain ⟨F1, s1, ht, G2⟩ := (G.new (o := .tup xs) hp).frz Tak.head
    exact q F1 _ _ s1 (same_new hp) (SqT.of ht) G2
  · exact r_tupofT (tS G.fh h) (q F H a (Same.refl _) (Same.refl _) h G)
inductive LeafX (K : PySem.W.Frag) (F H : Hp) : List Addr → List (List Int) → Prop
  | nil : LeafX K F H [] []
  | cons {a as ns rs} : SqX K F H a (iv ns) → LeafX K F H as rs → LeafX K F H (a :: as) (ns :: rs)
theorem LeafX.mono {as : List Addr} {rs : List (List Int)} (e : Same F F') (e2 : Same H H') (h : LeafX K F H as rs) : LeafX K F' H' as rs := by
  induction h with
  | nil => exact .nil
  | cons h1 _ ih => exact .cons (h1.mono e e2) ih
theorem LeafX.len {as : List Addr} {rs : List (List Int)} (h : LeafX K F H as rs) : as.length = rs.length := by
  induction h with
  | nil => rfl
  | cons _ _ ih => rw [List.length_cons, List.length_cons, ih]
theorem LeafX.del {C dx : Addr} {fs : List (Str × V)} {as : List Addr} {rs : List (List Int)} (e : H p = some (.ins C dx fs)) (h : LeafX K F H as rs) : LeafX K F (SL.del H p) as rs := by
  induction h with
  | nil => exact .nil
  | cons h1 _ ih => exact .cons (h1.del e) ih
theorem LeafX.at {as : List Addr} {rs : List (List Int)} (h : LeafX K F H as rs) : ∀ {i : Nat} {a : Addr}, as[i]? = some a → ∃ ns, rs[i]? = some ns ∧ SqX K F H a (iv ns) := by
  induction h with
  | nil => intro i a e; simp at e
  | cons h1 _ ih =>
    intro i a e
    cases i with
    | zero => rw [List.getElem?_cons_zero] at e; cases e; exact ⟨_, rfl, h1⟩
    | succ i => exact ih (by simpa using e)
theorem LeafX.ofL {as : List Addr} {rs : List (List Int)} (h : Rows K H true as rs) : LeafX K F H as rs := by
  induction h with
  | nil => exact .nil
  | cons h1 _ ih => exact .cons (.inl h1) ih
theorem LeafX.ofT {as : List Addr} {rs : List (List Int)} (h : Rows K F false as rs) : LeafX K F H as rs := by
  induction h with
  | nil => exact .nil
  | cons h1 _ ih => exact .cons (.inr h1) ih
inductive RowsX (K : PySem.W.Frag) (F H : Hp) : List Addr → List (List (List Int)) → Prop
  | nil : RowsX K F H [] []
  | cons {a as bs r rs} : SqX K F H a (rv bs) → LeafX K F H bs r → RowsX K F H as rs → RowsX K F H (a :: as) (r :: rs)
theorem RowsX.mono {as : List Addr} {rs : List (List (List Int))} (e : Same F F') (e2 : Same H H') (h : RowsX K F H as rs) : RowsX K F' H' as rs := by
  induction h with
  | nil => exact .nil
  | cons h1 h2 _ ih => exact .cons (h1.mono e e2) (h2.mono e e2) ih
theorem RowsX.len {as : List Addr} {rs : List (List (List Int))} (h : RowsX K F H as rs) : as.length = rs.length := by
  induction h with
  | nil => rfl
  | cons _ _ _ ih => rw [List.length_cons, List.length_cons, ih]
theorem RowsX.del {C dx : Addr} {fs : List (Str × V)} {as : List Addr} {rs : List (List (List Int))} (e : H p = some (.ins C dx fs)) (h : RowsX K F H as rs) : RowsX K F (SL.del H p) as rs := by
  induction h with
  | nil => exact .nil
  | cons h1 h2 _ ih => exact .cons (h1.del e) (h2.del e) ih
theorem RowsX.at {as : List Addr} {rs : List (List (List Int))} (h : RowsX K F H as rs) : ∀ {i : Nat} {a : Addr}, as[i]? = some a → ∃ bs r, rs[i]? = some r ∧ SqX K F H a (rv bs) ∧ LeafX K F H bs r := by
  induction h with
  | nil => intro i a e; simp at e
  | cons h1 h2 _ ih =>
    intro i a e
    cases i with
    | zero => rw [List.getElem?_cons_zero] at e; cases e; exact ⟨_, _, rfl, h1, h2⟩
    | succ i => exact ih (by simpa using e)
/-! ## rows of rows, all lists or all tuples -/
inductive Rows2 (K : PySem.W.Frag) (H : Hp) (k : Bool) : List Addr → List (List (List Int)) → Prop
  | nil : Rows2 K H k [] []
  | cons {a as bs r rs} : SqB K H a (rv bs) k → Rows K H k bs r → Rows2 K H k as rs → Rows2 K H k (a :: as) (r :: rs)
theorem Rows2.mono {as : List Addr} {rs : List (List (List Int))} (e : Same H H') (h : Rows2 K H k as rs) : Rows2 K H' k as rs := by
  induction h with
  | nil => exact .nil
  | cons h1 h2 _ ih => exact .cons (qS e h1) (h2.mono e) ih
theorem Rows2.len {as : List Addr} {rs : List (List (List Int))} (h : Rows2 K H k as rs) : as.length = rs.length := by
  induction h with
  | nil => rfl
  | cons _ _ _ ih => rw [List.length_cons, List.length_cons, ih]
theorem Rows2.at {as : List Addr} {rs : List (List (List Int))} (h : Rows2 K H k as rs) : ∀ {i : Nat} {a : Addr}, as[i]? = some a → ∃ bs r, rs[i]? = some r ∧ SqB K H a (rv bs) k ∧ Rows K H k bs r := by
  induction h with
  | nil => intro i a e; simp at e
  | cons h1 h2 _ ih =>
    intro i a e
    cases i with
    | zero => rw [List.getElem?_cons_zero] at e; cases e; exact ⟨_, _, rfl, h1, h2⟩
    | succ i => exact ih (by simpa using e)
theorem Rows2.snoc {as : List Addr} {bs : List Addr} {r : List (List Int)} {rs : List (List (List Int))} (h : Rows2 K H k as rs) (h1 : SqB K H a (rv bs) k) (h2 : Rows K H k bs r) : Rows2 K H k (as ++ [a]) (rs ++ [r]) := by
  induction h with
  | nil => exact .cons h1 h2 .nil
  | cons q1 q2 _ ih => exact .cons q1 q2 ih
theorem Rows2.set {as : List Addr} {bs : List Addr} {r : List (List Int)} {rs : List (List (List Int))} (h : Rows2 K H k as rs) (h1 : SqB K H a (rv bs) k) (h2 : Rows K H k bs r) : ∀ {j : Nat}, Rows2 K H k (as.set j a) (rs.set j r) := by
  induction h with
  | nil => intro j; exact .nil
  | cons q1 q2 hr ih =>
    intro j
    cases j with
    | zero => exact .cons h1 h2 hr
    | succ j => exact .cons q1 q2 ih
theorem _root_.SL.Rows.take {as : List Addr} {rs : List (List Int)} (h : Rows K H k as rs) : ∀ {n : Nat}, Rows K H k (as.take n) (rs.take n) := by
  induction h with
  | nil => intro n; rw [List.take_nil, List.take_nil]; exact .nil
  | cons h1 _ ih =>
    intro n
    cases n with
    | zero => exact .nil
    | succ n => exact .cons h1 ih
theorem Rows2.toX {as : List Addr} {rs : List (List (List Int))} (h : Rows2 K H true as rs) : RowsX K F H as rs := by
  induction h with
  | nil => exact .nil
  | cons h1 h2 _ ih => exact .cons (.inl h1) (.ofL h2) ih
theorem Rows2.toXT {as : List Addr} {rs : List (List (List Int))} (h : Rows2 K F false as rs) : RowsX K F H as rs := by
  induction h with
  | nil => exact .nil
  | cons h1 h2 _ ih => exact .cons (.inr h1) (.ofT h2) ih
abbrev dRow2 (r : List (List Int)) : PyData := .list (r.map (dRow true))
theorem Rows2.dp {as : List Addr} {rs : List (List (List Int))} (h : Rows2 K H true as rs) : DpAll K H (as.map V.ref) (rs.map dRow2) := by
  induction h with
  | nil => exact .nil
  | cons h1 h2 _ ih => exact .cons (.lst h1 h2.dp) ih
theorem shp_row2 {r : List (List Int)} : Shp 2 (dRow2 r) := shp_list (shpa_map fun _ _ => shp_row)
theorem eqv_row2 (xs ys : List (List Int)) : PyData.eqv (dRow2 xs) (dRow2 ys) = decide (xs = ys) := by
  rw [dRow2, dRow2, eqv_list]
  exact eqvAll_map eqv_row xs ys
/-- frozen leaves -/
inductive Leaf (K : PySem.W.Frag) (H : Hp) : List (List Addr) → List (List (List Int)) → Prop
  | nil : Leaf K H [] []
  | cons {bs r bss rs} : Rows K H true bs r → Leaf K H bss rs → Leaf K H (bs :: bss) (r :: rs)
theorem Leaf.mono {bss : List (List Addr)} {rs : List (List (List Int))} (e : Same H H') (h : Leaf K H bss rs) : Leaf K H' bss rs := by
  induction h with
  | nil => exact .nil
  | cons h1 _ ih => exact .cons (h1.mono e) ih
theorem Leaf.len {bss : List (List Addr)} {rs : List (List (List Int))} (h : Leaf K H bss rs) : bss.length = rs.length := by
  induction h with
  | nil => rfl
  | cons _ _ ih => rw [List.length_cons, List.length_cons, ih]
theorem Leaf.snoc {bs : List Addr} {r : List (List Int)} {bss : List (List Addr)} {rs : List (List (List Int))} (h : Leaf K H bss rs) (h1 : Rows K H true bs r) : Leaf K H (bss ++ [bs]) (rs ++ [r]) := by
  induction h with
  | nil => exact .cons h1 .nil
  | cons q1 _ ih => exact .cons q1 ih
theorem Leaf.set {bs : List Addr} {r : List (List Int)} {bss : List (List Addr)} {rs : List (List (List Int))} (h : Leaf K H bss rs) (h1 : Rows K H true bs r) : ∀ {j : Nat}, Leaf K H (bss.set j bs) (rs.set j r) := by
  induction h with
  | nil => intro j; exact .nil
  | cons q1 hr ih =>
    intro j
    cases j with
    | zero => exact .cons h1 hr
    | succ j => exact .cons q1 ih
theorem Leaf.at {bss : List (List Addr)} {rs : List (List (List Int))} (h : Leaf K H bss rs) : ∀ {i : Nat} {r : List (List Int)}, rs[i]? = some r → ∃ bs, bss[i]? = some bs ∧ Rows K H true bs r := by
  induction h with
  | nil => intro i a e; simp at e
  | cons h1 _ ih =>
    intro i a e
    cases i with
    | zero => rw [List.getElem?_cons_zero] at e; cases e; exact ⟨_, rfl, h1⟩
    | succ i => exact ih (by simpa using e)
theorem Rows2.of {as : List Addr} {bss : List (List Addr)} {rs : List (List (List Int))} (h : Leaf K H bss rs) (hl : as.length = bss.length) (hv : ∀ x ∈ rowV as (bss.map rv), H x.1 = some x.2) : Rows2 K H true as rs := by
  induction h generalizing as with
  | nil => cases as with
    | nil => exact .nil
    | cons _ _ => cases hl
  | cons h1 _ ih => cases as with
    | nil => cases hl
    | cons a as => exact .cons (show SqL K H a _ from SqL.of (hv _ List.mem_cons_self)) h1 (ih (by simpa using hl) fun x hx => hv x (List.mem_cons_of_mem _ hx))
/-! ## ascending lists of states -/
def asc (c : Int) : Int → List Int → Bool
  | _, [] => true
  | b, x :: xs => decide (b < x) && decide (x < c) && asc c x xs
theorem asc_iff {c : Int} : ∀ {ns : List Int} {b : Int}, asc c b ns = true ↔ (∀ x ∈ ns, b < x ∧ x < c) ∧ ns.Pairwise (· < ·)
  | [], b => by simp [asc]
  | x :: xs, b => by
    rw [asc, Bool.and_eq_true, Bool.and_eq_true, decide_eq_true_eq, decide_eq_true_eq, asc_iff (ns := xs) (b := x), List.pairwise_cons]
    constructor
    · rintro ⟨⟨h1, h2⟩, h3, h4⟩
      refine ⟨fun y hy => ?_, fun y hy => (h3 y hy).1, h4⟩
      rcases List.mem_cons.mp hy with e | e
      · subst e; exact ⟨h1, h2⟩
      · have := h3 y e; omega
    · rintro ⟨h1, h2, h3⟩
      exact ⟨h1 x List.mem_cons_self, fun y hy => ⟨h2 y hy, (h1 y (List.mem_cons_of_mem _ hy)).2⟩, h3⟩
theorem asc_mono {c c' b : Int} {ns : List Int} (h : asc c b ns = true) (hc : c ≤ c') : asc c' b ns = true := by
  obtain ⟨h1, h2⟩ := asc_iff.mp h
  exact asc_iff.mpr ⟨fun x hx => by have := h1 x hx; omega, h2⟩
theorem asc_snoc {c : Int} {ns : List Int} (h : asc c (-1) ns = true) (hc : 0 ≤ c) : asc (c + 1) (-1) (ns ++ [c]) = true := by
  obtain ⟨h1, h2⟩ := asc_iff.mp h
  refine asc_iff.mpr ⟨fun x hx => ?_, ?_⟩
  · rcases List.mem_append.mp hx with q | q
    · have := h1 x q; omega
    · rw [List.mem_singleton.mp q]; omega
  · rw [List.pairwise_append]
    exact ⟨h2, List.pairwise_singleton _ _, fun x hx y hy => by rw [List.mem_singleton.mp hy]; exact (h1 x hx).2⟩
theorem asc_len {c b : Int} : ∀ {ns : List Int}, asc c b ns = true → b < c → b + ns.length ≤ c - 1 + 0
  | [], _, hb => by simp; omega
  | x :: xs, h, hb => by
    rw [asc, Bool.and_eq_true, Bool.and_eq_true, decide_eq_true_eq, decide_eq_true_eq] at h
    have := asc_len h.2 h.1.2
    rw [List.length_cons]
    omega
theorem asc_get {ns : List Int} (h : ns.Pairwise (· < ·)) {i j : Nat} (hij : i < j) (hj : j < ns.length) : ns.getD i 0 < ns.getD j 0 := by
  have := List.pairwise_iff_getElem.mp h i j (by omega) hj hij
  rw [List.getD_eq_getElem?_getD, List.getD_eq_getElem?_getD, List.getElem?_eq_getElem (by omega), List.getElem?_eq_getElem hj]
  exact this
theorem drop_cons {α : Type} : ∀ {l : List α} {i : Nat} {x : α}, l[i]? = some x → l.drop i = x :: l.drop (i + 1)
  | [], i, x, h => by simp at h
  | y :: l, 0, x, h => by
    have e : y = x := Option.some.inj h
    rw [e]; rfl
  | y :: l, i + 1, x, h => by
    have ih := drop_cons (l := l) (i := i) (x := x) h
    rw [List.drop_succ_cons, ih]; rfl
/-! ## Buchi automata -/
structure Aok (m : Int) (is cs : List Int) (rs : List (List (List Int))) : Prop where
  m1 : 1 ≤ m
  ne : 0 < rs.length
  ai : asc rs.length (-1) is = true
  ac : asc rs.length (-1) cs = true
  rr : ∀ r ∈ rs, (r.length : Int) = m ∧ ∀ x ∈ r, asc rs.length (-1) x = true
def auF (m : Int) (ia ca ra : Addr) : List (Str × V) := [("letters", .int m), ("initial", .ref ia), ("accepting", .ref ca), ("rows", .ref ra)]
structure AuAt (K : PySem.W.Frag) (C : Addr) (F : Hp) (x : Addr) (m : Int) (is cs : List Int) (rs : List (List (List Int))) : Prop where
  ex : ∃ dx ia ca ra as, F x = some (.ins C dx (auF m ia ca ra)) ∧ SqT K F ia (iv is) ∧ SqT K F ca (iv cs) ∧ SqT K F ra (rv as) ∧ Rows2 K F false as rs
theorem AuAt.mono {C x : Addr} {m : Int} {is cs : List Int} {rs : List (List (List Int))} (e : Same F F') (h : AuAt K C F x m is cs rs) : AuAt K C F' x m is cs rs := by
  obtain ⟨dx, ia, ca, ra, as, h1, h2, h3, h4, h5⟩ := h.ex
  exact ⟨⟨dx, ia, ca, ra, as, e _ _ h1, tS e h2, tS e h3, tS e h4, h5.mono e⟩⟩
theorem la_letters {m : Int} {ia ca ra : Addr} : (auF m ia ca ra).lookup ("letters" : Str) = some (.int m) := rfl
theorem la_initial {m : Int} {ia ca ra : Addr} : (auF m ia ca ra).lookup ("initial" : Str) = some (.ref ia) := rfl
theorem la_accepting {m : Int} {ia ca ra : Addr} : (auF m ia ca ra).lookup ("accepting" : Str) = some (.ref ca) := rfl
theorem la_rows {m : Int} {ia ca ra : Addr} : (auF m ia ca ra).lookup ("rows" : Str) = some (.ref ra) := rfl
end
end SL

set_option Elab.async false
set_option linter.all false
set_option maxRecDepth 100000
set_option maxHeartbeats 4000000
namespace SL
open PySem L2
section

set_option hygiene false
local macro_rules | `(tactic| walk_at "m") => `(tactic| first | exact List.Mem.head _ | (refine List.Mem.tail _ ?_; walk_at "m"))
local macro_rules | `(tactic| walk_at "u") => `(tactic| first | exact Upd.head | (apply Upd.tail; walk_at "u"))
local macro_rules | `(tactic| walk_at "tk") => `(tactic| first | exact Tak.head | (apply Tak.tail; walk_at "tk"))
local macro_rules | `(tactic| walk_at "l") => `(tactic| first | assumption | exact lS (St.fh (by assumption)) (by assumption) | exact SqL.of (St.get (by assumption) (by walk_at "m")))
local macro_rules | `(tactic| walk_at "t") => `(tactic| first | assumption | exact tS (St.fh (by assumption)) (by assumption) | exact SqT.of (St.get (by assumption) (by walk_at "m")))
local macro_rules | `(tactic| walk_at "lt") => `(tactic| first | exact .inl (by walk_at "l") | exact .inr (by walk_at "t"))
local macro_rules | `(tactic| walk_at "sz") => `(tactic| first | (show _ ≤ sizeLine; decide) | exact sz (by simp) | exact szl (by simp) | exact sz (by omega) | exact szl (by omega) | exact sz (by simp; omega) | exact szl (by simp; omega))
local macro_rules | `(tactic| walk_at "c") => `(tactic| first | assumption | decide | omega)
local macro_rules | `(tactic| walk_at "g1") => `(tactic| with_reducible first
  | refine w_seq ?_ | refine w_asg ?_ | refine w_c ?_ | refine w_op ?_
  | refine r_I0 ?_ | refine w_test ?_ | refine r_b ?_ | refine w_if ?_ | refine w_cons ?_ | refine w_nil ?_
  | refine w_ret ?_ | refine w_drop ?_ | refine w_cb ?_ | refine w_call ?_ | refine w_next ?_ | refine w_tup ?_ | refine w_lst ?_ | refine w_bm ?_ | refine w_bm0 ?_
  | refine w_and ?_ | refine w_or ?_ | refine w_not ?_ | refine w_andV ?_ | refine w_orV ?_ | refine w_notV ?_ | refine w_tB ?_ | refine w_un ?_ | refine r_U ?_
  | refine w_for ?_ | refine w_iL ?_ | refine w_iT ?_ | refine w_i1 ?_ | refine w_i2 ?_ | refine w_sl ?_ | refine w_part ?_ | refine w_nopart ?_ | refine r_part ?_
  | refine r_eqI ?_ | refine r_neI ?_ | refine r_eqS ?_ | refine r_neS ?_ | refine r_eqB ?_ | refine r_neB ?_ | refine r_ifT ?_ | refine r_ifF ?_ | refine r_ifNt ?_ | refine r_ifNf ?_ | refine r_ifRN ?_ | refine r_ifNRN ?_ | refine r_ifNN ?_ | refine r_ifNNN ?_
  | refine w_ifE ?_ | refine r_int1 ?_ | refine r_int1b ?_ | refine r_isnone ?_ | refine r_notnone ?_ | refine r_max2 ?_ | refine r_min2 ?_ | refine r_ipI ?_ | refine w_tru ?_ | refine w_rs ?_
  | refine w_retN ?_ | refine w_break ?_ | refine w_cont ?_ | refine w_callS ?_ | refine w_asgG ?_ | refine w_gsub ?_ | refine w_fld ?_ | refine w_sfld ?_ | refine w_mk ?_ | refine w_lc ?_ | refine w_iSq ?_ | refine u_isint ?_ | refine w_dnew ?_ | refine w_dnotin ?_ | refine w_din ?_ | refine w_dget ?_ | refine w_dput ?_ | refine w_ckw ?_)
local macro_rules | `(tactic| walk_at "g2") => `(tactic| first
  | ((with_reducible refine' w_var ?hv ?_); (case hv => rfl)) | ((with_reducible refine' w_aug ?hv ?_); (case hv => rfl))
  | ((with_reducible show rLen _ _ _ _); refine r_len (by walk_at "lt") ?_)
  | (with_reducible refine r_I ?cnd ?_; (case cnd => first | decide | omega | assumption | (unfold CPow; decide)))
  | ((with_reducible show RTy _ _ _ _ _); refine r_tyL (by walk_at "l") ?_)
  | (with_reducible refine r_ifDT (by walk_at "c") ?_) | (with_reducible refine r_ifDF (by walk_at "c") ?_)
  | (with_reducible refine r_ifNT (by walk_at "c") ?_) | (with_reducible refine r_ifNF (by walk_at "c") ?_))
local macro_rules | `(tactic| walk_at "go") => `(tactic| repeat (first | walk_at "g1" | walk_at "g2"))

variable {n b c : L2.St → Hp → Prop} {r : VK} {σ : L2.St} {H H' : Hp} {Q : VK} {t : TS} {te ta tb ty td tv : TE} {x y v : V} {K : PySem.W.Frag} {E : En} {F F' : Hp} {L L' L1 : Led} {p a : Addr} {xs ys : List V} {ns ms : List Int} {k : Bool} {kvs : List (Key × V)} {i : Int}
/-! ## dicts with integers as keys -/
def RDNew (H : Hp) (Q : VK) : Prop := ∀ p, H p = none → Q (.ref p) (upd H p (.dK []))
theorem w_dnew (h : RDNew H Q) : tDNewK σ H Q := h
theorem r_dnew (G : St E F H L) (q : ∀ p H', St E F H' ((p, .dK []) :: L) → Q (.ref p) H') : RDNew H Q := fun p hp => q p _ (G.new hp)
def RDN (x y : V) (H : Hp) (Q : VK) : Prop := ∃ a o, x = .ref a ∧ DGet H a y o ∧ Q (.bl (!o.isSome)) H
def RDI (x y : V) (H : Hp) (Q : VK) : Prop := ∃ a o, x = .ref a ∧ DGet H a y o ∧ Q (.bl o.isSome) H
def RDG (x y : V) (H : Hp) (Q : VK) : Prop := ∃ a v, x = .ref a ∧ DGet H a y (some v) ∧ Q v H
def RDP (x y v : V) (H : Hp) (P : Hp → Prop) : Prop := ∃ a H4, x = .ref a ∧ DPut H a y v H4 ∧ P H4
theorem w_dnotin (h : ty σ H fun y H1 => td σ H1 fun x H2 => RDN x y H2 Q) : tDNotIn ty td σ H Q := h
theorem w_din (h : ty σ H fun y H1 => td σ H1 fun x H2 => RDI x y H2 Q) : tDIn ty td σ H Q := h
theorem w_dget (h : td σ H fun x H1 => ty σ H1 fun y H2 => RDG x y H2 Q) : tDGet td ty σ H Q := h
theorem w_dput (h : tv σ H fun v H1 => td σ H1 fun x H2 => ty σ H2 fun y H3 => RDP x y v H3 (n σ)) : sDPut td ty tv ⟨n, r, b, c⟩ σ H := h
theorem r_dnot (h : H a = some (.dK kvs)) (q : Q (.bl (!(valV kvs (.inl i)).isSome)) H) : RDN (.ref a) (.int i) H Q := ⟨a, _, rfl, DGet.k (k := .inl i) h, q⟩
theorem r_din (h : H a = some (.dK kvs)) (q : Q (.bl (valV kvs (.inl i)).isSome) H) : RDI (.ref a) (.int i) H Q := ⟨a, _, rfl, DGet.k (k := .inl i) h, q⟩
theorem r_dget (h : H a = some (.dK kvs)) (e : valV kvs (.inl i) = some v) (q : Q v H) : RDG (.ref a) (.int i) H Q := ⟨a, v, rfl, by rw [← e]; exact DGet.k (k := .inl i) h, q⟩
theorem r_dput {P : Hp → Prop} (G : St E F H L) (u : Upd L a (.dK kvs) (.dK (putK kvs (.inl i) v)) L') (hs : kvs.length < sizeLine) (q : ∀ H', St E F H' L' → P H') : RDP (.ref a) (.int i) v H P := ⟨a, _, rfl, DPut.k (k := .inl i) (G.get u.mem) hs, q _ (G.put u)⟩
theorem putK_new {k : Key} (h : valV kvs k = none) : putK kvs k v = kvs ++ [(k, v)] := by
  unfold putK
  rw [valV_any, h]
  rfl
/-- a dict that tells of the first numbers where they stand -/
def kvF (q : Nat → Int) (t : Nat) : List (Key × V) := (List.range t).map fun k => (.inl (q k), .int k)
theorem kvF_succ {q : Nat → Int} {t : Nat} : kvF q (t + 1) = kvF q t ++ [(.inl (q t), .int t)] := by
  unfold kvF; rw [List.range_succ, List.map_append]; rfl
theorem kvF_len {q : Nat → Int} {t : Nat} : (kvF q t).length = t := by unfold kvF; simp
theorem kvF_val {q : Nat → Int} {t : Nat} {z : Int} : (∃ k, k < t ∧ q k = z ∧ valV (kvF q t) (.inl z) = some (.int k)) ∨ (valV (kvF q t) (.inl z) = none ∧ ∀ k, k < t → q k ≠ z) := by
  induction t with
  | zero => exact .inr ⟨rfl, fun k h => absurd h (Nat.not_lt_zero _)⟩
  | succ t ih =>
    have e : valV (kvF q (t + 1)) (.inl z) = (valV (kvF q t) (.inl z)).or (valV [((.inl (q t) : Key), V.int t)] (.inl z)) := by
      rw [kvF_succ]
      unfold valV
      rw [List.find?_append]
      cases (List.find? (fun kv => decide (kv.1 = Sum.inl z)) (kvF q t)) <;> rfl
    rcases ih with ⟨k, h1, h2, h3⟩ | ⟨h1, h2⟩
    · exact .inl ⟨k, by omega, h2, by rw [e, h3]; rfl⟩
    · by_cases c : q t = z
      · refine .inl ⟨t, by omega, c, ?_⟩
        rw [e, h1, c, valV_pos rfl]; rfl
      · refine .inr ⟨?_, fun k hk => ?_⟩
        · rw [e, h1, valV_neg (fun w => c (Sum.inl.inj w))]; rfl
        · rcases Nat.lt_succ_iff_lt_or_eq.mp hk with w | w
          · exact h2 k w
          · rw [w]; exact c
/-! ## while -/
def RWb (k : Bool) (Pv : Nat → L2.St → Hp → Prop) (m : Nat) (t : TS) (n : L2.St → Hp → Prop) (r : VK) (σ : L2.St) (H : Hp) : Prop :=
  if k = true then ∃ N : L2.St → Hp → Prop, (∀ σ' H', N σ' H' → ∃ m', m' < m ∧ Pv m' σ' H') ∧ t { nx := N, rt := r, bk := n, ct := N } σ H else n σ H
theorem r_while {c' : TT} (Pv : Nat → L2.St → Hp → Prop) (m : Nat) (h0 : Pv m σ H) (hs : ∀ m σ H, Pv m σ H → c' σ H fun k H1 => RWb k Pv m t n r σ H1) : tWhile c' t ⟨n, r, b, c⟩ σ H := ⟨Pv, ⟨m, h0⟩, hs⟩
theorem r_wb {Pv : Nat → L2.St → Hp → Prop} {m : Nat} (h1 : k = true → t ⟨fun σ' H' => ∃ m', m' < m ∧ Pv m' σ' H', r, n, fun σ' H' => ∃ m', m' < m ∧ Pv m' σ' H'⟩ σ H) (h2 : k = false → n σ H) : RWb k Pv m t n r σ H := by
  unfold RWb
  cases k with
  | true => rw [if_pos rfl]; exact ⟨_, fun _ _ h => h, h1 rfl⟩
  | false => rw [if_neg Bool.false_ne_true]; exact h2 rfl
/-! ## few places -/
theorem nodup_few : ∀ {n : Nat} {l : List Int}, l.Nodup → (∀ x ∈ l, 0 ≤ x ∧ x < n) → l.length ≤ n
  | 0, [], _, _ => Nat.le_refl _
  | 0, x :: l, _, h => by have := h x List.mem_cons_self; omega
  | n + 1, l, hn, h => by
    by_cases c : (n : Int) ∈ l
    · have e := List.length_erase_of_mem c
      have ih := nodup_few (n := n) (l := l.erase n) (hn.erase _) fun x hx => by
        have h1 := (List.Nodup.mem_erase_iff hn).mp hx
        have := h x h1.2
        have : x ≠ n := h1.1
        omega
      omega
    · have ih := nodup_few (n := n) (l := l) hn fun x hx => by
        have := h x hx
        have : x ≠ n := fun w => c (w ▸ hx)
        omega
      omega
def Inj (q : Nat → Int) (t : Nat) : Prop := ∀ a b, a < t → b < t → q a = q b → a = b
theorem inj_few {q : Nat → Int} {t n : Nat} (h : Inj q t) (hb : ∀ k, 0 ≤ q k ∧ q k < n) : t ≤ n := by
  have := nodup_few (n := n) (l := (List.range t).map q) (by
    unfold List.Nodup
    rw [List.pairwise_map]
    refine List.Pairwise.imp_of_mem (R := (· ≠ ·)) (fun {a b} ha hb ne w => ne (h a b (List.mem_range.mp ha) (List.mem_range.mp hb) w)) List.nodup_range) (fun x hx => by
    obtain ⟨k, _, rfl⟩ := List.mem_map.mp hx
    exact hb k)
  simpa using this
theorem pigeon {q : Nat → Int} {n : Nat} (hb : ∀ k, 0 ≤ q k ∧ q k < n) : ∃ i r, i < r ∧ r ≤ n ∧ q i = q r := by
  by_cases c : ∃ i r, i < r ∧ r ≤ n ∧ q i = q r
  · exact c
  · exfalso
    have : Inj q (n + 1) := fun a b ha hb e => by
      rcases Nat.lt_trichotomy a b with w | w | w
      · exact absurd ⟨a, b, w, by omega, e⟩ c
      · exact w
      · exact absurd ⟨b, a, w, by omega, e.symm⟩ c
    have := inj_few this hb
    omega
def InfBest (g : Nat → Int) (M : Int) : Prop := (∀ N, ∃ k, N ≤ k ∧ g k = M) ∧ ∃ N, ∀ k, N ≤ k → g k ≤ M
theorem InfBest.uniq {g : Nat → Int} {M M' : Int} (h : InfBest g M) (h' : InfBest g M') : M = M' := by
  obtain ⟨h1, N, h2⟩ := h
  obtain ⟨h3, N', h4⟩ := h'
  obtain ⟨k, k1, k2⟩ := h1 (max N N')
  obtain ⟨l, l1, l2⟩ := h3 (max N N')
  have a1 := h4 k (by omega)
  have a2 := h2 l (by omega)
  omega
theorem inf_best {q g : Nat → Int} {i r k0 : Nat} {M : Int} (hq : ∀ a b, q a = q b → q (a + 1) = q (b + 1)) (hg : ∀ a b, q a = q b → g a = g b) (e : q i = q r) (hir : i < r) (hb : ∀ k, i ≤ k → k < r → g k ≤ M) (hk : i ≤ k0) (hM : g k0 = M) : InfBest g M := by
  have per : ∀ s, q (i + s) = q (r + s) := fun s => by
    induction s with
    | zero => exact e
    | succ s ih => exact hq _ _ ih
  have per2 : ∀ k, i ≤ k → q (k + (r - i)) = q k := fun k h => by
    have := per (k - i)
    rw [show i + (k - i) = k from by omega, show r + (k - i) = k + (r - i) from by omega] at this
    exact this.symm
  have per3 : ∀ N, q (k0 + N * (r - i)) = q k0 := fun N => by
    induction N with
    | zero => rw [Nat.zero_mul]; rfl
    | succ N ih => rw [Nat.succ_mul, ← Nat.add_assoc, per2 _ (by omega), ih]
  have le : ∀ (f k : Nat), k ≤ f → i ≤ k → g k ≤ M := fun f => by
    induction f with
    | zero => intro k h1 h2; exact hb k h2 (by omega)
    | succ f ih =>
      intro k h1 h2
      by_cases c : k < r
      · exact hb k h2 c
      · have := per2 (k - (r - i)) (by omega)
        rw [show k - (r - i) + (r - i) = k from by omega] at this
        rw [hg _ _ this]
        exact ih _ (by omega) (by omega)
  refine ⟨fun N => ⟨k0 + N * (r - i), ?_, by rw [hg _ _ (per3 N)]; exact hM⟩, i, fun k h => le k k (Nat.le_refl _) h⟩
  have : N * 1 ≤ N * (r - i) := Nat.mul_le_mul_left _ (by omega)
  omega
/-! ## runs of parity automata -/
def mx (i j : Int) : Int := if j > i then j else i
theorem mx_le {i j : Int} : i ≤ mx i j ∧ j ≤ mx i j ∧ (mx i j = i ∨ mx i j = j) := by
  unfold mx
  split <;> omega
def stp (rs : List (List Int)) (s z : Int) : Int := (rs.getD s.toNat []).getD z.toNat 0
def gp (ps : List Int) (s : Int) : Int := ps.getD s.toNat 0
def run (rs : List (List Int)) (s : Int) (zs : List Int) : Int := zs.foldl (stp rs) s
def lb (rs : List (List Int)) (ps : List Int) : Int → List Int → Int → Int
  | _, [], b => b
  | s, z :: zs, b => lb rs ps (stp rs s z) zs (mx b (gp ps (stp rs s z)))
def qk (rs : List (List Int)) (ls : List Int) (s : Int) : Nat → Int
  | 0 => s
  | k + 1 => run rs (qk rs ls s k) ls
def gk (rs : List (List Int)) (ps ls : List Int) (s : Int) (k : Nat) : Int := lb rs ps (qk rs ls s k) ls 0
theorem run_snoc {rs : List (List Int)} {s z : Int} {zs : List Int} : run rs s (zs ++ [z]) = stp rs (run rs s zs) z := by
  unfold run; rw [List.foldl_append]; rfl
theorem lb_snoc {rs : List (List Int)} {ps : List Int} : ∀ {zs : List Int} {s z b : Int}, lb rs ps s (zs ++ [z]) b = mx (lb rs ps s zs b) (gp ps (stp rs (run rs s zs) z))
  | [], _, _, _ => rfl
  | y :: zs, s, z, b => by
    show lb rs ps (stp rs s y) (zs ++ [z]) _ = _
    rw [lb_snoc]; rfl
theorem lb_mx {rs : List (List Int)} {ps : List Int} : ∀ {zs : List Int} {s b : Int}, 0 ≤ b → lb rs ps s zs b = mx b (lb rs ps s zs 0) ∧ 0 ≤ lb rs ps s zs 0
  | [], s, b, hb => by refine ⟨?_, Int.le_refl _⟩; unfold lb mx; split <;> omega
  | z :: zs, s, b, hb => by
    have e1 := mx_le (i := b) (j := gp ps (stp rs s z))
    have e2 := mx_le (i := 0) (j := gp ps (stp rs s z))
    have i1 := lb_mx (rs := rs) (ps := ps) (zs := zs) (s := stp rs s z) (b := mx b (gp ps (stp rs s z))) (by omega)
    have i2 := lb_mx (rs := rs) (ps := ps) (zs := zs) (s := stp rs s z) (b := mx 0 (gp ps (stp rs s z))) (by omega)
    have e3 : lb rs ps s (z :: zs) b = lb rs ps (stp rs s z) zs (mx b (gp ps (stp rs s z))) := rfl
    have e4 : lb rs ps s (z :: zs) 0 = lb rs ps (stp rs s z) zs (mx 0 (gp ps (stp rs s z))) := rfl
    rw [e3, e4, i1.1, i2.1]
    generalize lb rs ps (stp rs s z) zs 0 = u at *
    generalize gp ps (stp rs s z) = w at *
    unfold mx
    refine ⟨?_, ?_⟩
    · repeat' split
      all_goals omega
    · repeat' split
      all_goals omega
theorem gk_pos {rs : List (List Int)} {ps ls : List Int} {s : Int} {k : Nat} : 0 ≤ gk rs ps ls s k := (lb_mx (b := 0) (Int.le_refl _)).2
theorem qk_next {rs : List (List Int)} {ls : List Int} {s : Int} {a b : Nat} (h : qk rs ls s a = qk rs ls s b) : qk rs ls s (a + 1) = qk rs ls s (b + 1) := by
  show run rs (qk rs ls s a) ls = run rs (qk rs ls s b) ls
  rw [h]
theorem gk_same {rs : List (List Int)} {ps ls : List Int} {s : Int} {a b : Nat} (h : qk rs ls s a = qk rs ls s b) : gk rs ps ls s a = gk rs ps ls s b := by
  unfold gk; rw [h]
/-- a lasso -/
structure LasAt (K : PySem.W.Frag) (H : Hp) (w : Addr) (hs ls : List Int) : Prop where
  ex : ∃ h l, SqT K H w [.ref h, .ref l] ∧ SqT K H h (iv hs) ∧ SqT K H l (iv ls)
theorem LasAt.mono {w : Addr} {hs ls : List Int} (e : Same H H') (h : LasAt K H w hs ls) : LasAt K H' w hs ls := by
  obtain ⟨h1, l, q1, q2, q3⟩ := h.ex
  exact ⟨⟨h1, l, tS e q1, tS e q2, tS e q3⟩⟩
theorem atI_rv {as : List Addr} {i : Int} {a : Addr} (h0 : 0 ≤ i) (h : as[i.toNat]? = some a) : atI (rv as) i = some (.ref a) := by
  have e : ((i.toNat : Nat) : Int) = i := by omega
  have q := atI_nat (xs := rv as) (j := i.toNat) (v := .ref a) (by rw [List.getElem?_map, h]; rfl)
  rw [e] at q
  exact q
theorem r_ifnn {k : Bool} {A B : Prop} (h : B) : RIf (decide (V.bl k = V.non)) A B := by rw [decide_eq_false (fun z => nomatch z)]; exact r_ifF h
end
end SL

set_option Elab.async false
set_option linter.all false
set_option maxRecDepth 100000
set_option maxHeartbeats 4000000
/-! words without end, borders and roots: numbers and lists alone -/
namespace SL
def Bd (x : Nat → Int) (n b : Nat) : Prop := b < n ∧ ∀ i, i < b → x i = x (n - b + i)
structure LBd (x : Nat → Int) (n b : Nat) : Prop where
  bd : Bd x n b
  mx : ∀ c, Bd x n c → c ≤ b
theorem bd_zero {x : Nat → Int} {n : Nat} (h : 0 < n) : Bd x n 0 := ⟨h, fun i h => absurd h (Nat.not_lt_zero _)⟩
theorem bd_trans {x : Nat → Int} {n b c : Nat} (h1 : Bd x n b) (h2 : Bd x b c) : Bd x n c := by
  obtain ⟨a1, a2⟩ := h1
  obtain ⟨b1, b2⟩ := h2
  refine ⟨by omega, fun i hi => ?_⟩
  rw [b2 i hi, a2 (b - c + i) (by omega)]
  congr 1
  omega
theorem bd_sub {x : Nat → Int} {n b c : Nat} (h1 : Bd x n b) (h2 : Bd x n c) (h : c < b) : Bd x b c := by
  obtain ⟨a1, a2⟩ := h1
  obtain ⟨b1, b2⟩ := h2
  refine ⟨h, fun i hi => ?_⟩
  rw [b2 i hi, a2 (b - c + i) (by omega)]
  congr 1
  omega
theorem bd_succ {x : Nat → Int} {n c : Nat} : Bd x (n + 1) (c + 1) ↔ Bd x n c ∧ x c = x n := by
  constructor
  · rintro ⟨h1, h2⟩
    refine ⟨⟨by omega, fun i hi => ?_⟩, ?_⟩
    · rw [h2 i (by omega)]; congr 1; omega
    · rw [h2 c (by omega)]; congr 1; omega
  · rintro ⟨⟨h1, h2⟩, h3⟩
    refine ⟨by omega, fun i hi => ?_⟩
    rcases Nat.lt_succ_iff_lt_or_eq.mp hi with q | q
    · rw [h2 i q]; congr 1; omega
    · subst q; rw [h3]; congr 1; omega
/-- a candidate while the border of the next prefix is looked for -/
structure Cand (x : Nat → Int) (k b : Nat) : Prop where
  bd : Bd x k b
  mx : ∀ c, Bd x (k + 1) (c + 1) → c ≤ b
theorem cand_of {x : Nat → Int} {k b : Nat} (h : LBd x k b) : Cand x k b := ⟨h.bd, fun c hc => h.mx c (bd_succ.mp hc).1⟩
theorem cand_step {x : Nat → Int} {k b b' : Nat} (h : Cand x k b) (ne : x k ≠ x b) (h' : LBd x b b') : Cand x k b' := by
  refine ⟨bd_trans h.bd h'.bd, fun c hc => ?_⟩
  obtain ⟨h1, h2⟩ := bd_succ.mp hc
  have h3 := h.mx c hc
  have h4 : c ≠ b := fun e => ne (by rw [← e, h2])
  exact h'.mx c (bd_sub h.bd h1 (by omega))
theorem cand_yes {x : Nat → Int} {k b : Nat} (h : Cand x k b) (e : x k = x b) : LBd x (k + 1) (b + 1) := by
  refine ⟨bd_succ.mpr ⟨h.bd, e.symm⟩, fun c hc => ?_⟩
  cases c with
  | zero => omega
  | succ c => have := h.mx c hc; omega
theorem cand_no {x : Nat → Int} {k : Nat} (h : Cand x k 0) (ne : x k ≠ x 0) : LBd x (k + 1) 0 := by
  refine ⟨bd_zero (by omega), fun c hc => ?_⟩
  cases c with
  | zero => omega
  | succ c =>
    have := h.mx c hc
    have e : c = 0 := by omega
    subst e
    exact absurd (bd_succ.mp hc).2.symm ne
/-! ## periods -/
def Per (x : Nat → Int) (n p : Nat) : Prop := ∀ i, i + p < n → x (i + p) = x i
theorem per_bd {x : Nat → Int} {n p : Nat} (h1 : 1 ≤ p) (h2 : p ≤ n) : Per x n p ↔ Bd x n (n - p) := by
  constructor
  · intro h
    refine ⟨by omega, fun i hi => ?_⟩
    have := h i (by omega)
    rw [← this]; congr 1; omega
  · rintro ⟨_, h⟩ i hi
    have := h i (by omega)
    rw [this]; congr 1; omega
theorem per_all {x : Nat → Int} {n p : Nat} (h : n ≤ p) : Per x n p := fun i hi => by omega
structure LPer (x : Nat → Int) (n p : Nat) : Prop where
  p1 : 1 ≤ p
  pn : p ≤ n
  per : Per x n p
  mn : ∀ q, 1 ≤ q → Per x n q → p ≤ q
theorem lper_of {x : Nat → Int} {n b : Nat} (h : LBd x n b) : LPer x n (n - b) := by
  have hb := h.bd.1
  refine ⟨by omega, by omega, (per_bd (by omega) (by omega)).mpr (by rw [show n - (n - b) = b from by omega]; exact h.bd), fun q hq hp => ?_⟩
  by_cases c : q ≤ n
  · have := h.mx _ ((per_bd hq c).mp hp)
    omega
  · omega
theorem per_diff {x : Nat → Int} {n p q : Nat} (hp : Per x n p) (hq : Per x n q) (h : p ≤ q) (hn : p + q ≤ n) : Per x n (q - p) := by
  intro i hi
  by_cases c : i + q < n
  · have h1 := hq i c
    have h2 := hp (i + (q - p)) (by omega)
    rw [show i + (q - p) + p = i + q from by omega] at h2
    rw [← h2, h1]
  · have h1 := hq (i - p) (by omega)
    have h2 := hp (i - p) (by omega)
    rw [show i - p + p = i from by omega] at h2
    rw [show i + (q - p) = i - p + q from by omega, h1, h2]
theorem per_dvd {x : Nat → Int} {n p : Nat} (h : LPer x n p) : ∀ (f q : Nat), q ≤ f → 1 ≤ q → Per x n q → p + q ≤ n → p ∣ q
  | 0, q, h1, h2, _, _ => by omega
  | f + 1, q, h1, h2, h3, h4 => by
    have h5 := h.mn q h2 h3
    by_cases c : q = p
    · rw [c]; exact Nat.dvd_refl _
    · have h6 := per_dvd h f (q - p) (by have := h.p1; omega) (by omega) (per_diff h.per h3 h5 h4) (by omega)
      have h7 := Nat.dvd_add h6 (Nat.dvd_refl p)
      rw [show q - p + p = q from by omega] at h7
      exact h7
/-- the shortest word of which a word of n letters is a power has p letters -/
structure IsRoot (x : Nat → Int) (n p : Nat) : Prop where
  p1 : 1 ≤ p
  dv : p ∣ n
  per : Per x n p
  mn : ∀ q, 1 ≤ q → q ∣ n → Per x n q → p ≤ q
theorem root_of {x : Nat → Int} {n p : Nat} (h0 : 0 < n) (h : LPer x n p) : IsRoot x n (if n % p = 0 then p else n) := by
  split
  · rename_i c
    exact ⟨h.p1, Nat.dvd_of_mod_eq_zero c, h.per, fun q hq _ hp => h.mn q hq hp⟩
  · rename_i c
    refine ⟨h0, Nat.dvd_refl _, per_all (Nat.le_refl _), fun q hq hd hp => ?_⟩
    by_cases e : q = n
    · omega
    · exfalso
      have hle := Nat.le_of_dvd h0 hd
      obtain ⟨k, hk⟩ := hd
      have k2 : 2 ≤ k := by
        rcases Nat.lt_or_ge k 2 with z | z
        · rcases (show k = 0 ∨ k = 1 by omega) with y | y
          · rw [y] at hk; omega
          · rw [y] at hk; omega
        · exact z
      have h2 : q * 2 ≤ q * k := Nat.mul_le_mul_left _ k2
      have h3 := h.mn q hq hp
      have h4 := per_dvd h q q (Nat.le_refl _) hq hp (by omega)
      have h5 : p ∣ n := Nat.dvd_trans h4 ⟨k, hk⟩
      exact c (Nat.mod_eq_zero_of_dvd h5)
theorem IsRoot.uniq {x : Nat → Int} {n p q : Nat} (h : IsRoot x n p) (h' : IsRoot x n q) : p = q := by
  have h1 := h.mn q h'.p1 h'.dv h'.per
  have h2 := h'.mn p h.p1 h.dv h.per
  omega
/-- a letter of a periodic word stands in its first period -/
theorem per_mod {x : Nat → Int} {n p : Nat} (h : Per x n p) (hp : 1 ≤ p) : ∀ (f i : Nat), i ≤ f → i < n → x i = x (i % p)
  | 0, i, h1, h2 => by
    have : i = 0 := by omega
    subst this
    rw [Nat.zero_mod]
  | f + 1, i, h1, h2 => by
    by_cases c : i < p
    · rw [Nat.mod_eq_of_lt c]
    · have := h (i - p) (by omega)
      rw [show i - p + p = i from by omega] at this
      rw [this, per_mod h hp f (i - p) (by omega) (by omega), ← Nat.mod_eq_sub_mod (by omega)]
/-! ## words of lassos -/
abbrev fx (ns : List Int) : Nat → Int := fun i => ns.getD i 0
def wd (hs ls : List Int) (i : Nat) : Int := if i < hs.length then fx hs i else fx ls ((i - hs.length) % ls.length)
def SameW (hs ls hs' ls' : List Int) : Prop := ∀ i, wd hs ls i = wd hs' ls' i
/-- the normal form -/
structure Nf (hs ls : List Int) : Prop where
  ne : 0 < ls.length
  rt : IsRoot (fx ls) ls.length ls.length
  lst : ∀ k, hs.length = k + 1 → fx hs k ≠ fx ls (ls.length - 1)
theorem wd_root {hs ls : List Int} {p : Nat} (h : IsRoot (fx ls) ls.length p) : SameW hs ls hs (ls.take p) := by
  intro i
  unfold wd
  have hd := h.dv
  by_cases hn : ls.length = 0
  · have e : ls = [] := List.length_eq_zero_iff.mp hn
    subst e; simp
  have hp : p ≤ ls.length := Nat.le_of_dvd (by omega) hd
  have hl : (ls.take p).length = p := by rw [List.length_take]; omega
  split
  · rfl
  · rw [hl]
    have h1 := per_mod h.per h.p1 _ ((i - hs.length) % ls.length) (Nat.le_refl _) (Nat.mod_lt _ (by omega))
    rw [h1, Nat.mod_mod_of_dvd _ hd]
    show ls.getD _ 0 = (ls.take p).getD _ 0
    have h2 : (i - hs.length) % p < p := Nat.mod_lt _ (by have := h.p1; omega)
    rw [List.getD_eq_getElem?_getD, List.getD_eq_getElem?_getD, List.getElem?_take, if_pos h2]
/-! ## read round and round -/
def rI (x : Nat → Int) (p : Nat) (z : Int) : Int := x (z % (p : Int)).toNat
theorem rI_nat {x : Nat → Int} {p i : Nat} (h : i < p) : rI x p i = x i := by
  unfold rI
  rw [show (i : Int) % (p : Int) = ((i % p : Nat) : Int) from (Int.natCast_emod i p).symm, Nat.mod_eq_of_lt h]
  rfl
theorem rI_mod {x : Nat → Int} {p : Nat} {z z' : Int} (h : z % (p : Int) = z' % (p : Int)) : rI x p z = rI x p z' := by unfold rI; rw [h]
theorem rI_add {x : Nat → Int} {p : Nat} {z : Int} : rI x p (z + p) = rI x p z := rI_mod (by rw [Int.add_emod_right])
theorem rI_natmod {x : Nat → Int} {p i : Nat} (hp : 0 < p) : x (i % p) = rI x p i := by
  unfold rI
  rw [show (i : Int) % (p : Int) = ((i % p : Nat) : Int) from (Int.natCast_emod i p).symm]
  rfl
theorem rI_per {x : Nat → Int} {p q : Nat} (hq : 1 ≤ q) (hp : 0 < p) (hd : q ∣ p) (h : Per x p q) (z : Int) : rI x p (z + q) = rI x p z := by
  have h0 : 0 ≤ z % (p : Int) := Int.emod_nonneg _ (by omega)
  have h1 : z % (p : Int) < p := Int.emod_lt_of_pos _ (by omega)
  have hle := Nat.le_of_dvd hp hd
  obtain ⟨i, hi⟩ : ∃ i : Nat, z % (p : Int) = i := ⟨(z % (p : Int)).toNat, by omega⟩
  have e1 : rI x p z = x i := by unfold rI; rw [hi]; rfl
  have e2 : (z + q) % (p : Int) = ((i : Int) + q) % p := by rw [← hi, Int.emod_add_emod]
  have hip : i < p := by omega
  by_cases c : i + q < p
  · have e3 : rI x p (z + q) = x (i + q) := by
      unfold rI
      rw [e2, show ((i : Int) + q) % (p : Int) = (i : Int) + q from Int.emod_eq_of_lt (by omega) (by omega)]
      rfl
    rw [e1, e3, h i c]
  · have e3 : rI x p (z + q) = x (i + q - p) := by
      unfold rI
      rw [e2, show ((i : Int) + q) % (p : Int) = (i : Int) + q - p from by
        rw [show (i : Int) + q = ((i : Int) + q - p) + p from by omega, Int.add_emod_right, Int.emod_eq_of_lt (by omega) (by omega)]
        omega]
      congr 1
      omega
    obtain ⟨k, hk⟩ := hd
    rw [e1, e3, per_mod h hq _ i (Nat.le_refl _) hip, per_mod h hq _ (i + q - p) (Nat.le_refl _) (by omega)]
    congr 1
    have e4 : (i + q - p + p) % q = (i + q) % q := by congr 1; omega
    rw [Nat.add_mod_right, hk, Nat.add_mul_mod_self_left] at e4
    rw [hk]
    exact e4
/-- a loop begins earlier -/
def rotL (ls : List Int) (cut : Nat) : List Int := ls.drop cut ++ ls.take cut
theorem rotL_len {ls : List Int} {cut : Nat} : (rotL ls cut).length = ls.length := by unfold rotL; rw [List.length_append, List.length_drop, List.length_take]; omega
theorem rotL_at {ls : List Int} {cut i : Nat} (hc : cut ≤ ls.length) (hi : i < ls.length) : fx (rotL ls cut) i = rI (fx ls) ls.length ((i : Int) + cut) := by
  have hr : fx (rotL ls cut) i = if i < ls.length - cut then fx ls (i + cut) else fx ls (i + cut - ls.length) := by
    show (rotL ls cut).getD i 0 = _
    unfold rotL
    rw [List.getD_eq_getElem?_getD, List.getElem?_append, List.length_drop]
    split
    · rw [List.getElem?_drop, Nat.add_comm cut i]; rfl
    · rw [List.getElem?_take, if_pos (by omega), show i - (ls.length - cut) = i + cut - ls.length from by omega]; rfl
  rw [hr]
  split
  · rw [show (i : Int) + cut = ((i + cut : Nat) : Int) from by omega, rI_nat (by omega)]
  · rw [show (i : Int) + cut = ((i + cut - ls.length : Nat) : Int) + (ls.length : Nat) from by omega, rI_add, rI_nat (by omega)]
/-- what the search for the shortest head ends with -/
theorem nf_of {hs R : List Int} {kept moved cut : Nat} (h0 : 0 < R.length) (hR : IsRoot (fx R) R.length R.length) (hk : kept + moved = hs.length) (hm : ∀ t, t < moved → fx hs (hs.length - 1 - t) = rI (fx R) R.length (-1 - (t : Int)))
    (hx : 0 < kept → fx hs (kept - 1) ≠ rI (fx R) R.length (-1 - (moved : Int))) (hc : (cut : Int) = R.length - (moved : Int) % R.length) : Nf (hs.take kept) (rotL R cut) ∧ SameW hs R (hs.take kept) (rotL R cut) := by
  have hcle : cut ≤ R.length := by have : 0 ≤ (moved : Int) % R.length := Int.emod_nonneg _ (by omega); omega
  have hkl : (hs.take kept).length = kept := by rw [List.length_take]; omega
  have hcm : ∀ z : Int, rI (fx R) R.length (z + cut) = rI (fx R) R.length (z - moved) := fun z => by
    rw [hc, show z + ((R.length : Int) - (moved : Int) % R.length) = (z - (moved : Int) % R.length) + (R.length : Nat) from by omega, rI_add]
    exact rI_mod (by rw [Int.sub_emod_emod])
  have hrot : ∀ i : Nat, i < R.length → fx (rotL R cut) i = rI (fx R) R.length ((i : Int) - moved) := fun i hi => by rw [rotL_at hcle hi, hcm]
  have hmod : ∀ i : Nat, fx (rotL R cut) (i % R.length) = rI (fx R) R.length ((i : Int) - moved) := fun i => by
    rw [hrot _ (Nat.mod_lt _ h0)]
    exact rI_mod (by rw [Int.natCast_emod, Int.emod_sub_emod])
  refine ⟨⟨by rw [rotL_len]; exact h0, ⟨by rw [rotL_len]; omega, Nat.dvd_refl _, per_all (Nat.le_refl _), fun q hq hd hp => ?_⟩, fun k hk2 => ?_⟩, fun i => ?_⟩
  · rw [rotL_len] at hd hp ⊢
    refine hR.mn q hq hd fun i hi => ?_
    have h1 := rI_per hq h0 hd hp ((i : Int) + moved)
    have h2 : ∀ z : Int, rI (fx (rotL R cut)) R.length z = rI (fx R) R.length (z - moved) := fun z => by
      have z0 : 0 ≤ z % (R.length : Int) := Int.emod_nonneg _ (by omega)
      have z1 : z % (R.length : Int) < R.length := Int.emod_lt_of_pos _ (by omega)
      obtain ⟨j, hj⟩ : ∃ j : Nat, z % (R.length : Int) = j := ⟨(z % (R.length : Int)).toNat, by omega⟩
      have : rI (fx (rotL R cut)) R.length z = fx (rotL R cut) j := by unfold rI; rw [hj]; rfl
      rw [this, hrot j (by omega), ← hj]
      exact rI_mod (by rw [Int.emod_sub_emod])
    rw [h2, h2, show (i : Int) + moved + q - moved = ((i + q : Nat) : Int) from by omega, show (i : Int) + moved - moved = (i : Int) from by omega, rI_nat hi, rI_nat (by omega)] at h1
    exact h1
  · rw [hkl] at hk2
    rw [rotL_len, hrot _ (by omega)]
    have e1 : fx (hs.take kept) k = fx hs k := by
      show (hs.take kept).getD k 0 = hs.getD k 0
      rw [List.getD_eq_getElem?_getD, List.getD_eq_getElem?_getD, List.getElem?_take, if_pos (by omega)]
    rw [e1, show (((R.length - 1 : Nat) : Int) - moved) = (-1 - (moved : Int)) + (R.length : Nat) from by omega, rI_add]
    have := hx (by omega)
    rw [show kept - 1 = k from by omega] at this
    exact this
  · unfold wd
    rw [hkl, rotL_len]
    by_cases c1 : i < kept
    · rw [if_pos c1, if_pos (by omega)]
      show hs.getD i 0 = (hs.take kept).getD i 0
      rw [List.getD_eq_getElem?_getD, List.getD_eq_getElem?_getD, List.getElem?_take, if_pos c1]
    · rw [if_neg c1, hmod]
      by_cases c2 : i < hs.length
      · rw [if_pos c2]
        have := hm (hs.length - 1 - i) (by omega)
        rw [show hs.length - 1 - (hs.length - 1 - i) = i from by omega] at this
        rw [this]
        congr 1
        omega
      · rw [if_neg c2, rI_natmod (x := fx R) h0]
        congr 1
        omega
end SL

set_option Elab.async false
set_option linter.all false
set_option maxRecDepth 100000
set_option maxHeartbeats 4000000
namespace L2
open PySem PySem.Spec PyProof.Rows
/-! ## a part of a list or of a tuple -/
def rSlQ (K : PySem.W.Frag) : V → Option Int → Option Int → Hp → VK → Prop := fun x lo hi H Q => rSlL K x lo hi H Q ∨ rSlA K x lo hi H Q
theorem sl_seq {X : Cx} : SlR X (rSlQ X.K) := sl_list.or sl_tupA
end L2
namespace SL
open PySem L2
section

set_option hygiene false
local macro_rules | `(tactic| walk_at "m") => `(tactic| first | exact List.Mem.head _ | (refine List.Mem.tail _ ?_; walk_at "m"))
local macro_rules | `(tactic| walk_at "u") => `(tactic| first | exact Upd.head | (apply Upd.tail; walk_at "u"))
local macro_rules | `(tactic| walk_at "tk") => `(tactic| first | exact Tak.head | (apply Tak.tail; walk_at "tk"))
local macro_rules | `(tactic| walk_at "l") => `(tactic| first | assumption | exact lS (St.fh (by assumption)) (by assumption) | exact SqL.of (St.get (by assumption) (by walk_at "m")))
local macro_rules | `(tactic| walk_at "t") => `(tactic| first | assumption | exact tS (St.fh (by assumption)) (by assumption) | exact SqT.of (St.get (by assumption) (by walk_at "m")))
local macro_rules | `(tactic| walk_at "lt") => `(tactic| first | exact .inl (by walk_at "l") | exact .inr (by walk_at "t"))
local macro_rules | `(tactic| walk_at "sz") => `(tactic| first | (show _ ≤ sizeLine; decide) | exact sz (by simp) | exact szl (by simp) | exact sz (by omega) | exact szl (by omega) | exact sz (by simp; omega) | exact szl (by simp; omega))
local macro_rules | `(tactic| walk_at "c") => `(tactic| first | assumption | decide | omega)
local macro_rules | `(tactic| walk_at "g1") => `(tactic| with_reducible first
  | refine w_seq ?_ | refine w_asg ?_ | refine w_c ?_ | refine w_op ?_
  | refine r_I0 ?_ | refine w_test ?_ | refine r_b ?_ | refine w_if ?_ | refine w_cons ?_ | refine w_nil ?_
  | refine w_ret ?_ | refine w_drop ?_ | refine w_cb ?_ | refine w_call ?_ | refine w_next ?_ | refine w_tup ?_ | refine w_lst ?_ | refine w_bm ?_ | refine w_bm0 ?_
  | refine w_and ?_ | refine w_or ?_ | refine w_not ?_ | refine w_andV ?_ | refine w_orV ?_ | refine w_notV ?_ | refine w_tB ?_ | refine w_un ?_ | refine r_U ?_
  | refine w_for ?_ | refine w_iL ?_ | refine w_iT ?_ | refine w_i1 ?_ | refine w_i2 ?_ | refine w_sl ?_ | refine w_part ?_ | refine w_nopart ?_ | refine r_part ?_
  | refine r_eqI ?_ | refine r_neI ?_ | refine r_eqS ?_ | refine r_neS ?_ | refine r_eqB ?_ | refine r_neB ?_ | refine r_ifT ?_ | refine r_ifF ?_ | refine r_ifNt ?_ | refine r_ifNf ?_ | refine r_ifRN ?_ | refine r_ifNRN ?_ | refine r_ifNN ?_ | refine r_ifNNN ?_
  | refine w_ifE ?_ | refine r_int1 ?_ | refine r_int1b ?_ | refine r_isnone ?_ | refine r_notnone ?_ | refine r_max2 ?_ | refine r_min2 ?_ | refine r_ipI ?_ | refine w_tru ?_ | refine w_rs ?_
  | refine w_retN ?_ | refine w_break ?_ | refine w_cont ?_ | refine w_callS ?_ | refine w_asgG ?_ | refine w_gsub ?_ | refine w_fld ?_ | refine w_sfld ?_ | refine w_mk ?_ | refine w_lc ?_ | refine w_iSq ?_ | refine u_isint ?_ | refine w_dnew ?_ | refine w_dnotin ?_ | refine w_din ?_ | refine w_dget ?_ | refine w_dput ?_ | refine w_ckw ?_)
local macro_rules | `(tactic| walk_at "g2") => `(tactic| first
  | ((with_reducible refine' w_var ?hv ?_); (case hv => rfl)) | ((with_reducible refine' w_aug ?hv ?_); (case hv => rfl))
  | ((with_reducible show rLen _ _ _ _); refine r_len (by walk_at "lt") ?_)
  | (with_reducible refine r_I ?cnd ?_; (case cnd => first | decide | omega | assumption | (unfold CPow; decide)))
  | ((with_reducible show RTy _ _ _ _ _); refine r_tyL (by walk_at "l") ?_)
  | (with_reducible refine r_ifDT (by walk_at "c") ?_) | (with_reducible refine r_ifDF (by walk_at "c") ?_)
  | (with_reducible refine r_ifNT (by walk_at "c") ?_) | (with_reducible refine r_ifNF (by walk_at "c") ?_))
local macro_rules | `(tactic| walk_at "go") => `(tactic| repeat (first | walk_at "g1" | walk_at "g2"))

variable {n b c : L2.St → Hp → Prop} {r : VK} {σ : L2.St} {H H' : Hp} {Q : VK} {t : TS} {te ta tb : TE} {x y v : V} {K : PySem.W.Frag} {E : En} {F F' : Hp} {L L' L1 : Led} {p a : Addr} {xs ys : List V} {ns ms : List Int} {k : Bool} {lo hi : Option Int}
theorem cut_full (h : HT.sIx xs.length 0 lo = 0 ∧ HT.sIx xs.length xs.length hi = xs.length) : cutV xs lo hi = xs := by
  unfold cutV
  rw [h.1, h.2]
  simp
/-- a part of a tuple, that lies still -/
theorem r_slAX (G : St E F H L) (h : SqT K F a xs) (q : ∀ F' H' t, Same F F' → Same H H' → SqT K F' t (cutV xs lo hi) → St E F' H' L → Q (.ref t) H') : rSlA K (.ref a) lo hi H Q := by
  refine ⟨a, xs, rfl, tS G.fh h, fun w => ?_, fun _ p hp => ?_⟩
  · exact q F H a (Same.refl _) (Same.refl _) (by rw [cut_full w]; exact h) G
  · obtain ⟨F1, s1, ht, G2⟩ := (G.new (o := .tup (cutV xs lo hi)) hp).frz Tak.head
    exact q F1 _ p s1 (same_new hp) (SqT.of ht) G2
/-- a part of a list or a tuple -/
theorem r_slX (G : St E F H L) (h : SqX K F H a xs) (q : ∀ F' H' t, Same F F' → Same H H' → SqX K F' F' t (cutV xs lo hi) → St E F' H' L → Q (.ref t) H') : rSlQ K (.ref a) lo hi H Q := by
  rcases h with h | h
  · refine .inl ⟨a, xs, rfl, h, fun p hp => ?_⟩
    obtain ⟨F1, s1, ht, G2⟩ := (G.new (o := .lst (cutV xs lo hi)) hp).frz Tak.head
    exact q F1 _ p s1 (same_new hp) (.inl (SqL.of ht)) G2
  · exact .inr (r_slAX G h fun F' H' t s1 s2 ht G' => q F' H' t s1 s2 (.inr ht) G')
theorem r_catAX {a2 : Addr} (G : St E F H L) (h : SqT K F a xs) (h2 : SqT K F a2 ys) (hs : xs.length + ys.length ≤ sizeLine) (q : ∀ F' H' t, Same F F' → Same H H' → SqT K F' t (xs ++ ys) → St E F' H' L → Q (.ref t) H') : rCatA K (.ref a) (.ref a2) H Q := by
  refine ⟨a, a2, xs, ys, rfl, rfl, tS G.fh h, tS G.fh h2, hs, fun e => ?_, fun _ e => ?_, fun _ _ p hp => ?_⟩
  · subst e; exact q F H a2 (Same.refl _) (Same.refl _) h2 G
  · subst e; exact q F H a (Same.refl _) (Same.refl _) (by rw [List.append_nil]; exact h) G
  · obtain ⟨F1, s1, ht, G2⟩ := (G.new (o := .tup (xs ++ ys)) hp).frz Tak.head
    exact q F1 _ p s1 (same_new hp) (SqT.of ht) G2
theorem r_ixQ {i : Int} (h : SqL K H a xs ∨ SqT K H a xs) (e : atI xs i = some v) (q : Q v H) : rIx K (.ref a) (.int i) H Q := by
  rcases h with h | h
  · exact .inl (r_ixL h e q)
  · exact .inr (.inl (r_ixT h e q))
theorem r_rep {m : Int} (G : St E F H L) (u : (a, HO.lst xs) ∈ L) (h0 : 0 ≤ m) (h1 : m < 2 ^ 63) (hs : xs.length * m.toNat ≤ sizeLine) (q : ∀ p H', St E F H' ((p, .lst (List.replicate m.toNat xs).flatten) :: L) → Q (.ref p) H') : rRep (.ref a) (.int m) H Q :=
  ⟨a, m, xs, rfl, rfl, G.get u, by omega, h1, hs, fun p hp => q p _ (G.new hp)⟩
theorem flat_one {α : Type} {z : α} : ∀ {m : Nat}, (List.replicate m [z]).flatten = List.replicate m z
  | 0 => rfl
  | m + 1 => by rw [List.replicate_succ, List.flatten_cons, flat_one, List.replicate_succ]; rfl
theorem r_wA {Pv : Nat → L2.St → Hp → Prop} {m : Nat} (h1 : t ⟨fun σ' H' => ∃ m', m' < m ∧ Pv m' σ' H', r, n, fun σ' H' => ∃ m', m' < m ∧ Pv m' σ' H'⟩ σ H) : RWb true Pv m t n r σ H := r_wb (fun _ => h1) (fun z => by cases z)
theorem r_wB {Pv : Nat → L2.St → Hp → Prop} {m : Nat} (h2 : n σ H) : RWb false Pv m t n r σ H := r_wb (fun z => by cases z) (fun _ => h2)
theorem r_wD {p : Prop} [Decidable p] {Pv : Nat → L2.St → Hp → Prop} {m : Nat} (h1 : p → t ⟨fun σ' H' => ∃ m', m' < m ∧ Pv m' σ' H', r, n, fun σ' H' => ∃ m', m' < m ∧ Pv m' σ' H'⟩ σ H) (h2 : ¬ p → n σ H) : RWb (decide p) Pv m t n r σ H := r_wb (fun z => h1 (of_decide_eq_true z)) (fun z => h2 (of_decide_eq_false z))
theorem r_wN {p : Prop} [Decidable p] {Pv : Nat → L2.St → Hp → Prop} {m : Nat} (h1 : ¬ p → t ⟨fun σ' H' => ∃ m', m' < m ∧ Pv m' σ' H', r, n, fun σ' H' => ∃ m', m' < m ∧ Pv m' σ' H'⟩ σ H) (h2 : p → n σ H) : RWb (!decide p) Pv m t n r σ H := r_wb (fun z => h1 (by simpa using z)) (fun z => h2 (by simpa using z))
theorem w_rng2n {n' : Nat} {R : It → Hp → Prop} {i : Int} (h : -(2 ^ 62) ≤ i ∧ i < 2 ^ 62 ∧ (n' : Int) < 2 ^ 62) (q : R (Itr i ((n' : Int) - i).toNat) H) : RI2 [.int i, .int n'] H R := r_i2 (by omega) q
end
end SL

set_option Elab.async false
set_option linter.all false
set_option maxRecDepth 100000
set_option maxHeartbeats 4000000
namespace L2
open PySem PySem.Spec PyProof.Rows
/-! ## several except clauses, each with a name for its error or without one -/
def hEnds (D : Ends) : Option Nat → Ends
  | none => D
  | some i => ⟨fun σ1 H1 => D.nx (σ1.set i none) H1, D.rt, fun σ1 H1 => D.bk (σ1.set i none) H1, fun σ1 H1 => D.ct (σ1.set i none) H1⟩
def hSt (σ : St) (a : Addr) : Option Nat → St
  | none => σ
  | some i => σ.set i (some (.ref a))
abbrev Hdl := Value × Option Nat × (Addr → Value → Option Addr → TS)
def wHds (K : PySem.W.Frag) (Wo : WX) (D : Ends) : List Hdl → WX
  | [] => Wo
  | h :: r => fun cls d σ H => ∃ b, PySem.W.exmOne K cls h.1 = some b ∧ (b = true → ∀ a, H a = none → h.2.2 a cls d (hEnds D h.2.1) (hSt σ a h.2.1) H) ∧ (b = false → wHds K Wo D r cls d σ H)
/-- the name of a clause and its slot -/
def NameIn (X : Cx) : Option Str → Option Nat → Prop
  | none, none => True
  | some n, some i => X.N[i]? = some n ∧ X.env.kindOf n = some .local
  | _, _ => False
inductive HdsN (X : Cx) : List ExceptHandler → List Hdl → Prop
  | nil : HdsN X [] []
  | cons {x : Str} {c : Value} {s : Option Nat} {on : Option Str} {ts : Addr → Value → Option Addr → TS} {q₀ : Stmt} {qs : List Stmt} {p1 p2 : Pos} {hr : List ExceptHandler} {lr : List Hdl} (hn : NameIn X on s) (hc : Names X x c)
      (hq : ∀ (a : Addr) (oe : Obj) (cls : Value) (d : Option Addr) (pn : List (Addr × Obj)), Zc cls d oe → (∃ vs, oe.data = .fields vs) → PSs (X.suite a ((a, oe) :: pn)) (q₀ :: qs) (ts a cls d)) (rest : HdsN X hr lr) :
      HdsN X (.ExceptHandler (some (.Name x p1)) on (q₀ :: qs) p2 :: hr) ((c, s, ts) :: lr)
theorem flow_back {X : Cx} {pins : List (Addr × Obj)} {D : Ends} {a : Addr} {q : Addr × Obj} {f : Flow} {s6 : Shared} (ok : X.Ok) (h : SP (X.suite a (q :: (X.pn ++ pins))) [] D f s6) : SP X pins D f s6 := by
  cases f with
  | ret u =>
    obtain ⟨v, σ1, H1, S, r, w⟩ := h
    exact ⟨v, σ1, H1, S.unsuite ok, r, w⟩
  | next => obtain ⟨σ1, H1, S, w⟩ := h; exact ⟨σ1, H1, S.unsuite ok, w⟩
  | brk => obtain ⟨σ1, H1, S, w⟩ := h; exact ⟨σ1, H1, S.unsuite ok, w⟩
  | cont => obtain ⟨σ1, H1, S, w⟩ := h; exact ⟨σ1, H1, S.unsuite ok, w⟩
theorem flow_try {X : Cx} {pins : List (Addr × Obj)} {xe : Value → Shared → Prop} {D : Ends} {f : Flow} {s1 : Shared} (ok : X.Ok) (h : SP (X.tr (X.pn ++ pins) xe) [] D f s1) : SP X pins D f s1 := by
  cases f with
  | ret u =>
    obtain ⟨v, σ1, H1, S, r, w⟩ := h
    exact ⟨v, σ1, H1, S.ofTry ok, r, w⟩
  | next => obtain ⟨σ1, H1, S, w⟩ := h; exact ⟨σ1, H1, S.ofTry ok, w⟩
  | brk => obtain ⟨σ1, H1, S, w⟩ := h; exact ⟨σ1, H1, S.ofTry ok, w⟩
  | cont => obtain ⟨σ1, H1, S, w⟩ := h; exact ⟨σ1, H1, S.ofTry ok, w⟩
theorem ps_try_hds {X : Cx} {body : List Stmt} {hh : ExceptHandler} {hr : List ExceptHandler} {l : List Hdl} {pos : Pos} {tb : WX → TS} {Wo : WX} (stk : X.stack = X.env :: X.outer) (fr : X.env.frame = some X.env.locals) (nd : X.N.Nodup) (tk : Takes X Wo)
    (hb : ∀ (W : WX) (pn : List (Addr × Obj)) (xe : Value → Shared → Prop), Takes (X.tr pn xe) W → PassesOwn (model X.prog X.w) X.A X.env xe → PSs (X.tr pn xe) body (tb W)) (cl : HdsN X (hh :: hr) l) :
    PS X (.Try body (hh :: hr) [] [] pos) (fun D σ H => tb (wHds X.K Wo D l) D σ H) := by
  refine ⟨fun pins s σ H D I q => ?_⟩
  have okX := I.ok
  have frx : X.A.frames = some (X.env :: X.outer) := okX.frames.trans (congrArg some stk)
  let down : Value → Shared → Prop := fun e t1 => wpAny (model X.prog X.w) X.A (noteFrame e X.env) (fun _ t2 => wpAny (model X.prog X.w) X.A (setFlight e none) (fun _ t3 => wpAny (model X.prog X.w) X.A (handleBy e X.env (hh :: hr)) (SP X pins D) X.xe t3) X.xe t2) X.xe t1
  have caught : Takes (X.tr (X.pn ++ pins) down) (wHds X.K Wo D l) := by
    rintro u t ⟨a, B, tI, _, σ1, H1, cls, d, rfl, J0, nb, up, sky, na, os, ag, wish⟩
    have J := J0.ofTry okX
    have sky1 : Sky B (X.env :: X.outer) a (Zc cls d) X.env.locals t.heap := stk ▸ sky
    show wpAny (model X.prog X.w) X.A (noteFrame (.ref a) X.env) _ _ _
    refine Sky.land Zc.steady frx fr sky1 fun hA flA upA => ?_
    have JA : Inv X pins σ1 H1 { t with heap := hA } := J.landed nb flA.1 (up.trans upA) os ag
    obtain ⟨oeA, vsA, getA, zcA, fieldsA⟩ := flA.there
    have away : a ∉ frs (X.env :: X.outer) := fun mem => by
      obtain ⟨_, o1, g1, no⟩ := flA.2.2.1.mem mem
      rw [getA] at g1
      cases g1
      exact no _ fieldsA
    have aL : a ≠ X.env.locals := fun z => away (List.mem_filterMap.mpr ⟨X.env, List.mem_cons_self, by rw [fr, z]⟩)
    have aF : a ∉ X.fs := fun mem => by
      obtain ⟨e, he, z⟩ := List.mem_filterMap.mp mem
      exact away (List.mem_filterMap.mpr ⟨e, List.mem_cons_of_mem _ he, z⟩)
    have SA := JA.suite getA fieldsA na aL aF
    have walk : ∀ {hs' : List ExceptHandler} {l' : List Hdl}, HdsN X hs' l' → wHds X.K Wo D l' cls d σ1 H1 → wpAny (model X.prog X.w) X.A (handleBy (.ref a) X.env hs') (SP X pins D) X.xe { t with heap := hA } := fun cl' => by
      induction cl' with
      | nil =>
        intro w'
        obtain ⟨_, _, _, oe, vs, U, oU, us, g0, _, f0, at1, _⟩ := id flA
        refine wpAny_handleBy_nil ?_
        unfold PySem.passOn
        refine wpAny_bind (wpAny_field g0 f0 at1 ?_)
        have out : wpAny (model X.prog X.w) X.A (setFlight (.ref a) X.env.frame) (fun _ t4 => wpAny (model X.prog X.w) X.A (throw (.ref a) : Sem Flow) (SP X pins D) X.xe t4) X.xe { t with heap := hA } := by
          rw [fr]
          exact HandSPX.setFlight_upZ flA fun hB heldB upB => wpAny_throw (tk _ _ ⟨a, B, tI, pins, σ1, H1, cls, d, rfl, J, nb, (up.trans upA).trans upB, .inr (.inr (by rw [stk]; exact heldB)), na, os, ag, w'⟩)
        rw [if_neg (show ¬ (Value.ref U == Value.none) = true from by simp)]
        first
          | exact wpAny_bind (wpAny_pure (wpAny_bind out))
          | exact wpAny_bind out
      | @cons x c s on ts q₀ qs p1 p2 hr' lr' hn hc hq rest ih =>
        rintro ⟨b, m, yes, no⟩
        have lt : PySem.W.Looks (model X.prog X.w) hA (typeOf (.ref a)) cls := fun A' Q' E' t' k' q' => wpAny_typeOf_ref (k' _ _ getA) (by rw [zcA.1]; exact q')
        have name : ∀ {Q1 E1 : Value → Shared → Prop}, Q1 c { t with heap := hA } → wpAny (model X.prog X.w) (X.A.mark (some (.ref a))) (eval (.Name x p1) X.env) Q1 E1 { t with heap := hA } := fun {Q1 E1} z => by
          rcases hc with ⟨g, dbg, glob | ⟨ng, bl, nn⟩⟩
          · exact ld_glob (X := X.suite a ((a, oeA) :: (X.pn ++ pins))) SA g glob z dbg
          · exact ld_blt (X := X.suite a ((a, oeA) :: (X.pn ++ pins))) SA g ng bl z nn dbg
        refine wpAny_handleBy_cons (codeAny_handlers_test (name ((PySem.W.exm_one (M := model X.prog X.w) JA.kIn lt m).here ?_))) (by intro z; cases z)
        cases b with
        | false => exact ih (no rfl)
        | true =>
          have begin_ : ∀ {hB : Heap}, HandSPX.FlyingZ B (X.env :: X.outer) a (Zc cls d) hB → t.heap.UpToSlots hB → ∃ oe, Zc cls d oe ∧ (∃ vs, oe.data = .fields vs) ∧ Inv (X.suite a ((a, oe) :: (X.pn ++ pins))) [] σ1 H1 { t with heap := hB } := fun {hB} flB upB => by
            obtain ⟨oe, vs, g, z, f⟩ := flB.there
            have JB : Inv X pins σ1 H1 { t with heap := hB } := J.landed nb flB.1 (up.trans upB) os ag
            exact ⟨oe, z, ⟨vs, f⟩, JB.suite g f na aL aF⟩
          have go := yes rfl a na
          match on, s, hn with
          | none, none, _ =>
            refine codeAny_handlers_suite (HandSPX.lands_againZ flA fun hB flB upB => ?_)
            obtain ⟨oe, z, f, S⟩ := begin_ flB (upA.trans upB)
            exact wpAny_mono ((hq a oe cls d (X.pn ++ pins) z f).run [] _ _ H1 _ S go) (fun fl t6 r => flow_back okX r) (fun _ _ w' => False.elim w')
          | some n, some i, ⟨hi, hl⟩ =>
            refine codeAny_handlers_suite_as (HandSPX.lands_againZ flA fun hB flB upB => ?_)
            obtain ⟨oe, z, f, S⟩ := begin_ flB (upA.trans upB)
            refine store_ok (X := X.suite a ((a, oe) :: (X.pn ++ pins))) (v := .ref a) S nd hi (.inl hl) rfl (fun t5 S5 => ?_) (.inr hl)
            refine wpAny_mono ((hq a oe cls d (X.pn ++ pins) z f).run [] t5 _ H1 _ S5 go) (fun fl t6 r => ?_) (fun _ _ w' => False.elim w')
            have fin : ∀ {σ6 : St} {H6 : Hp} {R : Shared → Prop}, Inv (X.suite a ((a, oe) :: (X.pn ++ pins))) [] σ6 H6 t6 → (∀ t7, Inv X pins (σ6.set i none) H6 t7 → R t7) → wpAny (model X.prog X.w) X.A (do bindName X.env n .none; unbindBehindTheSuite X.env n p2) (fun _ t7 => R t7) X.xe t6 := fun S6 k6 => gone_ok (S6.unsuite okX) nd hi hl k6
            cases fl with
            | ret u => obtain ⟨v, σ6, H6, S6, rv6, w6⟩ := r; exact fin S6 fun t7 J7 => ⟨v, _, _, J7, rv6, w6⟩
            | next => obtain ⟨σ6, H6, S6, w6⟩ := r; exact fin S6 fun t7 J7 => ⟨_, _, J7, w6⟩
            | brk => obtain ⟨σ6, H6, S6, w6⟩ := r; exact fin S6 fun t7 J7 => ⟨_, _, J7, w6⟩
            | cont => obtain ⟨σ6, H6, S6, w6⟩ := r; exact fin S6 fun t7 J7 => ⟨_, _, J7, w6⟩
    exact walk cl wish
  refine wpAny_Try_except (wpAny_mono ((hb _ (X.pn ++ pins) down caught PassesOwn.looking).run [] s σ H D (I.toTry _) q) (fun f s1 r => ?_) (fun e s1 z => z))
  have r1 : SP X pins D f s1 := flow_try okX r
  cases f with
  | next => exact wpAny_execs_nil r1
  | ret u => exact r1
  | brk => exact r1
  | cont => exact r1
end L2

set_option Elab.async false
set_option linter.all false
set_option maxRecDepth 100000
set_option maxHeartbeats 4000000
namespace L2
open PySem PySem.Spec PyProof.Rows
theorem kit_false {K : PySem.W.Frag} {R S : Addr} (h1 : PySem.W.hasDictIn K S = true) (ht : PySem.W.typeIn K (.ref S) = some (.type "type")) (hr : PySem.W.subIn K (.ref R) (.ref R) = some true) (h2 : PySem.W.subIn K (.ref R) (.ref S) = some false) : PySem.W.kitOne K (.ref R) (.ref S) = some false := by
  obtain ⟨cd, hc, _⟩ := PySem.W.any_some h1
  have e2 : ((PySem.W.clsIn K S).isSome && PySem.W.typeIn K (.ref S) == some (.type "type")) = true := by rw [hc, ht] <;> rfl
  have ne : ¬ (Value.ref R == Value.ref S) = true := fun z => by
    have e : R = S := Value.ref.inj (beq_iff_eq.mp z)
    subst e
    rw [hr] at h2
    cases h2
  unfold PySem.W.kitOne
  rw [if_neg ne]
  show (if ((PySem.W.clsIn K S).isSome && PySem.W.typeIn K (.ref S) == some (.type "type")) = true then PySem.W.subIn K (.ref R) (.ref S) else none) = some false
  rw [if_pos e2]; exact h2
theorem kit_tyT {K : PySem.W.Frag} {R : Addr} {T : String} (hm : PySem.W.kitMeta T = true) (h : PySem.W.subIn K (.ref R) (.type T) = some true) : PySem.W.kitOne K (.ref R) (.type T) = some true := by
  unfold PySem.W.kitOne
  split
  · rfl
  · show (if PySem.W.kitMeta T = true then PySem.W.subIn K (.ref R) (.type T) else none) = some true
    rw [if_pos hm]; exact h
end L2
namespace SL
open PySem L2
section

set_option hygiene false
local macro_rules | `(tactic| walk_at "m") => `(tactic| first | exact List.Mem.head _ | (refine List.Mem.tail _ ?_; walk_at "m"))
local macro_rules | `(tactic| walk_at "u") => `(tactic| first | exact Upd.head | (apply Upd.tail; walk_at "u"))
local macro_rules | `(tactic| walk_at "tk") => `(tactic| first | exact Tak.head | (apply Tak.tail; walk_at "tk"))
local macro_rules | `(tactic| walk_at "l") => `(tactic| first | assumption | exact lS (St.fh (by assumption)) (by assumption) | exact SqL.of (St.get (by assumption) (by walk_at "m")))
local macro_rules | `(tactic| walk_at "t") => `(tactic| first | assumption | exact tS (St.fh (by assumption)) (by assumption) | exact SqT.of (St.get (by assumption) (by walk_at "m")))
local macro_rules | `(tactic| walk_at "lt") => `(tactic| first | exact .inl (by walk_at "l") | exact .inr (by walk_at "t"))
local macro_rules | `(tactic| walk_at "sz") => `(tactic| first | (show _ ≤ sizeLine; decide) | exact sz (by simp) | exact szl (by simp) | exact sz (by omega) | exact szl (by omega) | exact sz (by simp; omega) | exact szl (by simp; omega))
local macro_rules | `(tactic| walk_at "c") => `(tactic| first | assumption | decide | omega)
local macro_rules | `(tactic| walk_at "g1") => `(tactic| with_reducible first
  | refine w_seq ?_ | refine w_asg ?_ | refine w_c ?_ | refine w_op ?_
  | refine r_I0 ?_ | refine w_test ?_ | refine r_b ?_ | refine w_if ?_ | refine w_cons ?_ | refine w_nil ?_
  | refine w_ret ?_ | refine w_drop ?_ | refine w_cb ?_ | refine w_call ?_ | refine w_next ?_ | refine w_tup ?_ | refine w_lst ?_ | refine w_bm ?_ | refine w_bm0 ?_
  | refine w_and ?_ | refine w_or ?_ | refine w_not ?_ | refine w_andV ?_ | refine w_orV ?_ | refine w_notV ?_ | refine w_tB ?_ | refine w_un ?_ | refine r_U ?_
  | refine w_for ?_ | refine w_iL ?_ | refine w_iT ?_ | refine w_i1 ?_ | refine w_i2 ?_ | refine w_sl ?_ | refine w_part ?_ | refine w_nopart ?_ | refine r_part ?_
  | refine r_eqI ?_ | refine r_neI ?_ | refine r_eqS ?_ | refine r_neS ?_ | refine r_eqB ?_ | refine r_neB ?_ | refine r_ifT ?_ | refine r_ifF ?_ | refine r_ifNt ?_ | refine r_ifNf ?_ | refine r_ifRN ?_ | refine r_ifNRN ?_ | refine r_ifNN ?_ | refine r_ifNNN ?_
  | refine w_ifE ?_ | refine r_int1 ?_ | refine r_int1b ?_ | refine r_isnone ?_ | refine r_notnone ?_ | refine r_max2 ?_ | refine r_min2 ?_ | refine r_ipI ?_ | refine w_tru ?_ | refine w_rs ?_
  | refine w_retN ?_ | refine w_break ?_ | refine w_cont ?_ | refine w_callS ?_ | refine w_asgG ?_ | refine w_gsub ?_ | refine w_fld ?_ | refine w_sfld ?_ | refine w_mk ?_ | refine w_lc ?_ | refine w_iSq ?_ | refine u_isint ?_ | refine w_dnew ?_ | refine w_dnotin ?_ | refine w_din ?_ | refine w_dget ?_ | refine w_dput ?_ | refine w_ckw ?_)
local macro_rules | `(tactic| walk_at "g2") => `(tactic| first
  | ((with_reducible refine' w_var ?hv ?_); (case hv => rfl)) | ((with_reducible refine' w_aug ?hv ?_); (case hv => rfl))
  | ((with_reducible show rLen _ _ _ _); refine r_len (by walk_at "lt") ?_)
  | (with_reducible refine r_I ?cnd ?_; (case cnd => first | decide | omega | assumption | (unfold CPow; decide)))
  | ((with_reducible show RTy _ _ _ _ _); refine r_tyL (by walk_at "l") ?_)
  | (with_reducible refine r_ifDT (by walk_at "c") ?_) | (with_reducible refine r_ifDF (by walk_at "c") ?_)
  | (with_reducible refine r_ifNT (by walk_at "c") ?_) | (with_reducible refine r_ifNF (by walk_at "c") ?_))
local macro_rules | `(tactic| walk_at "go") => `(tactic| repeat (first | walk_at "g1" | walk_at "g2"))

variable {n b c : L2.St → Hp → Prop} {r : VK} {σ : L2.St} {H H' : Hp} {Q : VK} {t : TS} {te ta tb : TE} {x y v : V} {K : PySem.W.Frag} {E : En} {F F' : Hp} {L L' L1 : Led} {p a : Addr} {xs ys : List V} {ns ms : List Int} {k : Bool} {lo hi : Option Int}
theorem r_isET {D : Addr} {T : String} (C : ExcC K D) (h : PySem.W.kitOne K (.ref D) (.type T) = some k) (q : Q (.bl k) H) : rIsE' K a (.ref D) none [.ref a, .ty T] H Q := ⟨D, rfl, rfl, C, .ty T, .type T, k, rfl, fun u r => r, h, q⟩
theorem r_repT {m : Int} (G : St E F H L) (h : SqT K F a xs) (ne : xs ≠ []) (h0 : 2 ≤ m) (h1 : m ≤ 1000) (hl : xs.length ≤ 1000) (q : ∀ p H', St E F H' ((p, .tup (List.replicate m.toNat xs).flatten) :: L) → Q (.ref p) H') : rRepT K (.ref a) (.int m) H Q :=
  ⟨a, m, xs, rfl, rfl, tS G.fh h, ne, h0, h1, hl, fun p hp => q p _ (G.new hp)⟩
theorem atI_last (h : 0 < ns.length) : atI (iv ns) (-1) = some (.int (ns.getD (ns.length - 1) 0)) := by
  have e : (iv ns)[ns.length - 1]? = some (.int (ns.getD (ns.length - 1) 0)) := by
    rw [List.getElem?_map, List.getElem?_eq_getElem (by omega), List.getD_eq_getElem?_getD, List.getElem?_eq_getElem (by omega)]; rfl
  have q : ixN ns.length (-1) = some (ns.length - 1) := by
    unfold ixN
    rw [if_neg (by decide)]
    first
      | (rw [if_pos (by omega)]; congr 1; omega)
      | (split <;> (first | (congr 1; omega) | omega))
  unfold atI
  rw [iv_len, q]
  exact e
theorem eqv_str (x y : Str) : PyData.eqv (.str x) (.str y) = decide (x = y) := by simp [PyData.eqv, Bool.beq_eq_decide_eq]
theorem eqv_bool (x y : Bool) : PyData.eqv (.bool x) (.bool y) = decide (x = y) := by simp [PyData.eqv, Bool.beq_eq_decide_eq]
theorem shp_str {z : Str} (h : (PyData.str z).canLay0 = true) : Shp 0 (.str z) := ⟨h, Nat.le_refl _⟩
theorem flat_at {α : Type} {l : List α} : ∀ {m i : Nat}, i < l.length → 0 < m → ((List.replicate m l).flatten)[i]? = l[i]?
  | 0, _, _, h => absurd h (by decide)
  | m + 1, i, h, _ => by rw [List.replicate_succ, List.flatten_cons, List.getElem?_append_left h]
theorem flat_add {α : Type} {l : List α} : ∀ {m i : Nat}, i < l.length * m → ((List.replicate (m + 1) l).flatten)[i + l.length]? = ((List.replicate (m + 1) l).flatten)[i]?
  | 0, i, h => by simp at h
  | m + 1, i, h => by
    have e1 : ((List.replicate (m + 2) l).flatten)[i + l.length]? = ((List.replicate (m + 1) l).flatten)[i]? := by
      rw [List.replicate_succ, List.flatten_cons, List.getElem?_append_right (by omega), Nat.add_sub_cancel]
    by_cases c : i < l.length
    · rw [e1, flat_at c (by omega), flat_at c (by omega)]
    · rw [e1]
      have e2 : ((List.replicate (m + 2) l).flatten)[i]? = ((List.replicate (m + 1) l).flatten)[i - l.length]? := by
        rw [List.replicate_succ, List.flatten_cons, List.getElem?_append_right (by omega)]
      rw [e2]
      have := flat_add (l := l) (m := m) (i := i - l.length) (by rw [Nat.mul_succ] at h; omega)
      rw [show i - l.length + l.length = i from by omega] at this
      exact this
end
end SL

set_option Elab.async false
set_option linter.all false
set_option maxRecDepth 100000
set_option maxHeartbeats 4000000
/-! a word without end has one normal form: numbers and lists alone -/
namespace SL
theorem wd_head {hs ls : List Int} {i : Nat} (h : i < hs.length) : wd hs ls i = fx hs i := by unfold wd; rw [if_pos h]
theorem wd_loop {hs ls : List Int} {j : Nat} (h : j < ls.length) : wd hs ls (hs.length + j) = fx ls j := by
  unfold wd
  rw [if_neg (by omega), show hs.length + j - hs.length = j from by omega, Nat.mod_eq_of_lt h]
theorem wd_per {hs ls : List Int} {i : Nat} (h : hs.length ≤ i) : wd hs ls (i + ls.length) = wd hs ls i := by
  unfold wd
  rw [if_neg (by omega), if_neg (by omega), show i + ls.length - hs.length = i - hs.length + ls.length from by omega, Nat.add_mod_right]
theorem gcd_per {w : Nat → Int} {n : Nat} : ∀ (f p q : Nat), p + q ≤ f → 1 ≤ p → 1 ≤ q → (∀ i, n ≤ i → w (i + p) = w i) → (∀ i, n ≤ i → w (i + q) = w i) → ∀ i, n ≤ i → w (i + Nat.gcd p q) = w i
  | 0, p, q, h, h1, _, _, _ => by omega
  | f + 1, p, q, h, h1, h2, hp, hq => by
    rcases Nat.lt_trichotomy p q with c | c | c
    · have := gcd_per f p (q - p) (by omega) h1 (by omega) hp (fun i hi => by
        have e1 := hp (i + (q - p)) (by omega)
        rw [show i + (q - p) + p = i + q from by omega, hq i hi] at e1
        exact e1.symm)
      rw [Nat.gcd_sub_self_right (by omega)] at this
      exact this
    · subst c
      rw [Nat.gcd_self]
      exact hp
    · have := gcd_per f (p - q) q (by omega) (by omega) h2 (fun i hi => by
        have e1 := hq (i + (p - q)) (by omega)
        rw [show i + (p - q) + q = i + p from by omega, hp i hi] at e1
        exact e1.symm) hq
      rw [Nat.gcd_comm, Nat.gcd_sub_self_right (by omega), Nat.gcd_comm] at this
      exact this
theorem per_mul {w : Nat → Int} {m p : Nat} (h : ∀ i, m ≤ i → w (i + p) = w i) (i : Nat) (hi : m ≤ i) : ∀ k, w (i + k * p) = w i
  | 0 => by rw [Nat.zero_mul]; rfl
  | k + 1 => by rw [Nat.succ_mul, ← Nat.add_assoc, h _ (by omega), per_mul h i hi k]
theorem tail_back {w : Nat → Int} {n m p d : Nat} (p1 : 1 ≤ p) (hp : ∀ i, m ≤ i → w (i + p) = w i) (hd : ∀ i, n ≤ i → w (i + d) = w i) (i : Nat) (hi : m ≤ i) : w (i + d) = w i := by
  have h1 := per_mul hp i hi n
  have h2 := per_mul hp (i + d) (by omega) n
  have h3 : n * 1 ≤ n * p := Nat.mul_le_mul_left _ p1
  rw [← h2, show i + d + n * p = i + n * p + d from by omega, hd _ (by omega), h1]
theorem root_le {hs ls : List Int} {d : Nat} (nf : Nf hs ls) (d1 : 1 ≤ d) (dv : d ∣ ls.length) (h : ∀ i, hs.length ≤ i → wd hs ls (i + d) = wd hs ls i) : ls.length ≤ d :=
  nf.rt.mn d d1 dv fun i hi => by
    have := h (hs.length + i) (by omega)
    rw [show hs.length + i + d = hs.length + (i + d) from by omega, wd_loop hi, wd_loop (by omega)] at this
    exact this
theorem nf_len {h1 l1 h2 l2 : List Int} (n1 : Nf h1 l1) (n2 : Nf h2 l2) (hS : SameW h1 l1 h2 l2) : l1.length = l2.length := by
  have p1 := n1.ne
  have p2 := n2.ne
  have e : wd h1 l1 = wd h2 l2 := funext hS
  have a1 : ∀ i, h1.length ≤ i → wd h1 l1 (i + l1.length) = wd h1 l1 i := fun i hi => wd_per hi
  have a2 : ∀ i, h2.length ≤ i → wd h1 l1 (i + l2.length) = wd h1 l1 i := fun i hi => by rw [e]; exact wd_per hi
  have g := gcd_per (w := wd h1 l1) (n := max h1.length h2.length) _ l1.length l2.length (Nat.le_refl _) p1 p2 (fun i hi => a1 i (by omega)) (fun i hi => a2 i (by omega))
  have gp : 1 ≤ Nat.gcd l1.length l2.length := Nat.gcd_pos_of_pos_left _ p1
  have b1 := root_le n1 gp (Nat.gcd_dvd_left _ _) (tail_back p1 a1 g)
  have b2 := root_le n2 gp (Nat.gcd_dvd_right _ _) (by rw [← e]; exact tail_back p2 a2 g)
  have c1 := Nat.le_of_dvd p1 (Nat.gcd_dvd_left l1.length l2.length)
  have c2 := Nat.le_of_dvd p2 (Nat.gcd_dvd_right l1.length l2.length)
  omega
theorem nf_head {h1 l1 h2 l2 : List Int} (n1 : Nf h1 l1) (n2 : Nf h2 l2) (hS : SameW h1 l1 h2 l2) : h2.length ≤ h1.length := by
  rcases Nat.lt_or_ge h1.length h2.length with c | c
  · exfalso
    have el := nf_len n1 n2 hS
    have p2 := n2.ne
    refine n2.lst (h2.length - 1) (by omega) ?_
    have q1 := wd_per (hs := h1) (ls := l1) (i := h2.length - 1) (by omega)
    rw [hS, hS, el, show h2.length - 1 + l2.length = h2.length + (l2.length - 1) from by omega, wd_loop (by omega), wd_head (by omega)] at q1
    exact q1.symm
  · exact c
theorem fx_ext {xs ys : List Int} (hl : xs.length = ys.length) (h : ∀ i, i < xs.length → fx xs i = fx ys i) : xs = ys := by
  refine List.ext_getElem hl fun i h1 h2 => ?_
  have := h i h1
  have e1 : fx xs i = xs[i] := by show xs.getD i 0 = _; rw [List.getD_eq_getElem?_getD, List.getElem?_eq_getElem h1]; rfl
  have e2 : fx ys i = ys[i] := by show ys.getD i 0 = _; rw [List.getD_eq_getElem?_getD, List.getElem?_eq_getElem h2]; rfl
  rw [← e1, ← e2]
  exact this
/-- two normal forms of one word are one -/
theorem nf_uniq {h1 l1 h2 l2 : List Int} (n1 : Nf h1 l1) (n2 : Nf h2 l2) (hS : SameW h1 l1 h2 l2) : h1 = h2 ∧ l1 = l2 := by
  have el := nf_len n1 n2 hS
  have a := nf_head n1 n2 hS
  have b := nf_head n2 n1 fun i => (hS i).symm
  refine ⟨fx_ext (by omega) fun i hi => ?_, fx_ext el fun i hi => ?_⟩
  · have := hS i
    rw [wd_head hi, wd_head (by omega)] at this
    exact this
  · have := hS (h1.length + i)
    rw [wd_loop hi, show h1.length + i = h2.length + i from by omega, wd_loop (by omega)] at this
    exact this
/-- words that are alike long enough are the same -/
theorem same_of {h1 l1 h2 l2 : List Int} (p1 : 0 < l1.length) (p2 : 0 < l2.length) (h : ∀ i, i < max h1.length h2.length + l1.length + l2.length → wd h1 l1 i = wd h2 l2 i) : SameW h1 l1 h2 l2 := by
  have all : ∀ (f i : Nat), i ≤ f → wd h1 l1 i = wd h2 l2 i := fun f => by
    induction f with
    | zero => intro i hi; exact h i (by omega)
    | succ f ih =>
      intro i hi
      by_cases c : i < max h1.length h2.length + l1.length + l2.length
      · exact h i c
      · have a1 := wd_per (hs := h1) (ls := l1) (i := i - l1.length) (by omega)
        have a2 := wd_per (hs := h2) (ls := l2) (i := i - l2.length) (by omega)
        have a3 := wd_per (hs := h1) (ls := l1) (i := i - l2.length - l1.length) (by omega)
        have a4 := wd_per (hs := h2) (ls := l2) (i := i - l2.length - l1.length) (by omega)
        rw [show i - l1.length + l1.length = i from by omega] at a1
        rw [show i - l2.length + l2.length = i from by omega] at a2
        rw [show i - l2.length - l1.length + l1.length = i - l2.length from by omega] at a3
        rw [show i - l2.length - l1.length + l2.length = i - l1.length from by omega] at a4
        rw [a1, a2, ih (i - l1.length) (by omega), a4, ← ih (i - l2.length - l1.length) (by omega), ← a3, ih (i - l2.length) (by omega)]
  exact fun i => all i i (Nat.le_refl _)
end SL

set_option Elab.async false
set_option linter.all false
set_option maxRecDepth 100000
set_option maxHeartbeats 4000000
namespace L2
open PySem PySem.Spec PyProof.Rows
/-! ## the least common multiple of two small numbers -/
def rLcm : List V → Hp → VK → Prop := fun vs H Q => ∃ a b : Nat, vs = [.int (a : Int), .int (b : Int)] ∧ (0 < a ∧ a < 2 ^ 20 ∧ 0 < b ∧ b < 2 ^ 20) ∧ Q (.int ((Nat.lcm a b : Nat) : Int)) H
theorem lcm_small {a b : Nat} (h1 : a < 2 ^ 20) (h2 : b < 2 ^ 20) : ((Nat.lcm a b : Nat) : Int).natAbs.log2 < bitsLine := by
  have h : Nat.lcm a b < 2 ^ 41 := by
    have h3 : Nat.lcm a b ≤ a * b := Nat.div_le_self _ _
    have h4 : a * b ≤ 2 ^ 20 * 2 ^ 20 := Nat.mul_le_mul (by omega) (by omega)
    have : (2 : Nat) ^ 20 * 2 ^ 20 = 1099511627776 := by decide
    have : (2 : Nat) ^ 41 = 2199023255552 := by decide
    omega
  have h5 : (Nat.lcm a b).log2 ≤ 40 := PySem.W.mg_log h
  exact Nat.lt_of_le_of_lt h5 (by decide)
theorem cr_lcm {X : Cx} : CallR X (.builtin "math.lcm") rLcm := by
  intro pins s σ H vs us Q I r h
  obtain ⟨a, b, rfl, ⟨h1, h2, h3, h4⟩, q⟩ := h
  obtain ⟨t, u, rfl⟩ := Vals.int2 r
  have e : (((Nat.lcm 1 (a : Int).natAbs).lcm (b : Int).natAbs : Nat) : Int) = ((Nat.lcm a b : Nat) : Int) := by
    show (((Nat.lcm 1 a).lcm b : Nat) : Int) = _
    rw [Nat.lcm_one_left]
  have w64 : (2 : Nat) ^ 20 < 2 ^ 64 := by decide
  refine PySem.W.mg_lcm (show a < 2 ^ 64 by omega) (show b < 2 ^ 64 by omega) (by rw [e]; exact lcm_small h2 h4) ?_
  rw [e]
  exact ⟨.int _, H, I.tok _, ⟨_, rfl⟩, q⟩
end L2
namespace SL
open PySem L2
/-! ## words from words -/
theorem wd_cut {f : Nat → Int} {s p : Nat} (p0 : 0 < p) (hf : ∀ i, s ≤ i → f (i + p) = f i) (i : Nat) : wd (((List.range (s + p)).map f).take s) (((List.range (s + p)).map f).drop s) i = f i := by
  have g : ∀ j, j < s + p → ((List.range (s + p)).map f)[j]? = some (f j) := fun j hj => by rw [List.getElem?_map, List.getElem?_range hj]; rfl
  have l1 : (((List.range (s + p)).map f).take s).length = s := by simp
  have l2 : (((List.range (s + p)).map f).drop s).length = p := by simp
  unfold wd
  rw [l1, l2]
  split
  · rename_i h
    show (((List.range (s + p)).map f).take s).getD i 0 = f i
    rw [List.getD_eq_getElem?_getD, List.getElem?_take, if_pos h, g i (by omega)]; rfl
  · rename_i h
    have hm := Nat.mod_lt (i - s) p0
    show (((List.range (s + p)).map f).drop s).getD ((i - s) % p) 0 = f i
    rw [List.getD_eq_getElem?_getD, List.getElem?_drop, g _ (by omega)]
    show f (s + (i - s) % p) = f i
    have := per_mul (w := f) (m := s) (p := p) hf (s + (i - s) % p) (by omega) ((i - s) / p)
    rw [← this]
    congr 1
    have := Nat.mod_add_div (i - s) p
    rw [Nat.mul_comm] at this
    omega
theorem wd_drop {hs ls : List Int} {t : Nat} (h : t ≤ hs.length) (i : Nat) : wd (hs.drop t) ls i = wd hs ls (i + t) := by
  unfold wd
  rw [List.length_drop]
  by_cases c : i < hs.length - t
  · rw [if_pos c, if_pos (by omega)]
    show (hs.drop t).getD i 0 = hs.getD (i + t) 0
    rw [List.getD_eq_getElem?_getD, List.getD_eq_getElem?_getD, List.getElem?_drop, Nat.add_comm]
  · rw [if_neg c, if_neg (by omega), show i - (hs.length - t) = i + t - hs.length from by omega]
theorem wd_rot {hs ls : List Int} {t : Nat} (h0 : 0 < ls.length) (h : hs.length ≤ t) (i : Nat) : wd [] (rotL ls ((t - hs.length) % ls.length)) i = wd hs ls (i + t) := by
  have hc := Nat.mod_lt (t - hs.length) h0
  have hi := Nat.mod_lt i h0
  unfold wd
  rw [if_neg (by simp), if_neg (by omega), rotL_len]
  show fx (rotL ls _) ((i - 0) % ls.length) = _
  rw [Nat.sub_zero, rotL_at (by omega) hi]
  show fx ls ((((i % ls.length : Nat) : Int) + (((t - hs.length) % ls.length : Nat) : Int)) % (ls.length : Int)).toNat = _
  congr 1
  rw [← Int.natCast_add, ← Int.natCast_emod, ← Nat.add_mod]
  show ((((i + (t - hs.length)) % ls.length : Nat)) : Int).toNat = _
  rw [Int.toNat_natCast]
  congr 1
  omega
theorem wd_map {g : Int → Int} {hs ls : List Int} (h0 : 0 < ls.length) (i : Nat) : wd (hs.map g) (ls.map g) i = g (wd hs ls i) := by
  have gt : ∀ (xs : List Int) (j : Nat), j < xs.length → fx (xs.map g) j = g (fx xs j) := fun xs j hj => by
    show (xs.map g).getD j 0 = g (xs.getD j 0)
    rw [List.getD_eq_getElem?_getD, List.getD_eq_getElem?_getD, List.getElem?_map, List.getElem?_eq_getElem hj]; rfl
  unfold wd
  rw [List.length_map, List.length_map]
  split
  · exact gt _ _ (by assumption)
  · exact gt _ _ (Nat.mod_lt _ h0)
theorem wd_mem {hs ls : List Int} (h0 : 0 < ls.length) (i : Nat) : wd hs ls i ∈ hs ++ ls := by
  have gm : ∀ (xs : List Int) (j : Nat), j < xs.length → fx xs j ∈ xs := fun xs j hj => by
    show xs.getD j 0 ∈ xs
    rw [List.getD_eq_getElem?_getD, List.getElem?_eq_getElem hj]
    exact List.getElem_mem _
  unfold wd
  split
  · exact List.mem_append_left _ (gm _ _ (by assumption))
  · exact List.mem_append_right _ (gm _ _ (Nat.mod_lt _ h0))
theorem wd_dvd {hs ls : List Int} {p : Nat} (hd : ls.length ∣ p) (i : Nat) (h : hs.length ≤ i) : wd hs ls (i + p) = wd hs ls i := by
  obtain ⟨c, rfl⟩ := hd
  rw [Nat.mul_comm]
  exact per_mul (w := wd hs ls) (m := hs.length) (p := ls.length) (fun j hj => wd_per hj) i h c
/-- a word is known by its letters -/
theorem mem_wdH {hs ls : List Int} {z : Int} (h : z ∈ hs) : ∃ i, z = wd hs ls i := by
  obtain ⟨i, hi⟩ := List.mem_iff_getElem?.mp h
  have hl := (List.getElem?_eq_some_iff.mp hi).1
  refine ⟨i, ?_⟩
  rw [wd_head hl]
  show z = hs.getD i 0
  rw [List.getD_eq_getElem?_getD, hi]; rfl
theorem mem_wdL {hs ls : List Int} {z : Int} (h : z ∈ ls) : ∃ i, z = wd hs ls i := by
  obtain ⟨i, hi⟩ := List.mem_iff_getElem?.mp h
  have hl := (List.getElem?_eq_some_iff.mp hi).1
  refine ⟨hs.length + i, ?_⟩
  rw [wd_loop hl]
  show z = ls.getD i 0
  rw [List.getD_eq_getElem?_getD, hi]; rfl
theorem r_lcm {a b : Nat} {H : Hp} {Q : VK} (h : 0 < a ∧ a < 2 ^ 20 ∧ 0 < b ∧ b < 2 ^ 20) (q : Q (.int ((Nat.lcm a b : Nat) : Int)) H) : rLcm [.int (a : Int), .int (b : Int)] H Q := ⟨a, b, rfl, h, q⟩
end SL

set_option Elab.async false
set_option linter.all false
set_option maxRecDepth 100000
set_option maxHeartbeats 4000000
namespace L2
open PySem PySem.Spec PyProof.Rows
/-! ## an instance is called -/
theorem FnOk.rawN {P : Program} {w : World} {K : PySem.W.Frag} {mg : Str → Option Value} {base : Heap} {CX : CXT} {k : Nat} {f : Addr} {fd : FuncData} {ps : List Str} {sp : Sp} (F : FnOk P w K mg base CX k f fd ps sp) (hb : Binds K fd ps []) : FnR P w K mg base CX k f sp :=
  (F.raw hb .nil).imp fun vs H Q E h => by simpa using h
def tCallO2 (C : Addr) (sp : Sp) (E : XK) (tf : TE) (t : TA) : TE := fun σ H Q => tf σ H fun y H1 => ∃ a, y = V.ref a ∧ t σ H1 fun vs H2 => (∃ dx fs, H2 a = some (.ins C dx fs)) ∧ sp (V.ref a :: vs) H2 Q E
abbrev CallO2 := StX.CallO
theorem pe_callO2 {X : Cx} {CX : CXT} {k : Nat} {C g : Addr} {sp : Sp} {E : XK} {fe e : Expr} {es : List Expr} {tf : TE} {t : TA} {pos : Pos} (hf : PE X fe tf) (c : CallO2 X.K C g) (F : FnR X.prog X.w X.K X.mg X.base CX k g sp) (hr : Room k X.A) (hx : Passes CX X E) (ha : PA X (e :: es) t)
    (ht : eval (.Call fe (e :: es) [] pos) X.env = (do callWith pos (← eval fe X.env) [] (backTo pos (starEach (e :: es) X.env)) (backToKw pos (keywordEach [] X.env))) := by rfl)
    (he : starEach (e :: es) X.env = (false, eval e X.env) :: starEach es X.env := by rfl) (hpl : (backTo pos (starEach es X.env)).any (·.1) = false := by rfl) : PE X (.Call fe (e :: es) [] pos) (tCallO2 C sp E tf t) := by
  refine ⟨fun pins s σ H Q I h => ?_⟩
  refine Call_ (thn (hf.run pins s σ H _ I h) fun u s1 ⟨y, H1, I1, ry, a, ey, q⟩ => ?_) ht
  subst ey
  obtain rfl : u = Value.ref a := ry
  refine StX.callO_with (thn (ha.run pos pins s1 σ H1 _ I1 q) fun us s2 ⟨vs, H2, I2, r, hi, q2⟩ => ?_) he hpl
  have hi' : StX.InsC X H2 a C := .inr hi
  obtain ⟨ox, od, J, hd⟩ := StX.insC_at I2 hi'
  exact ⟨⟨C, ox, od, J, hd⟩, StX.run_callO c F hr hx I2 hi' r q2⟩
end L2
namespace SL
open PySem L2
section

set_option hygiene false
local macro_rules | `(tactic| walk_at "m") => `(tactic| first | exact List.Mem.head _ | (refine List.Mem.tail _ ?_; walk_at "m"))
local macro_rules | `(tactic| walk_at "u") => `(tactic| first | exact Upd.head | (apply Upd.tail; walk_at "u"))
local macro_rules | `(tactic| walk_at "tk") => `(tactic| first | exact Tak.head | (apply Tak.tail; walk_at "tk"))
local macro_rules | `(tactic| walk_at "l") => `(tactic| first | assumption | exact lS (St.fh (by assumption)) (by assumption) | exact SqL.of (St.get (by assumption) (by walk_at "m")))
local macro_rules | `(tactic| walk_at "t") => `(tactic| first | assumption | exact tS (St.fh (by assumption)) (by assumption) | exact SqT.of (St.get (by assumption) (by walk_at "m")))
local macro_rules | `(tactic| walk_at "lt") => `(tactic| first | exact .inl (by walk_at "l") | exact .inr (by walk_at "t"))
local macro_rules | `(tactic| walk_at "sz") => `(tactic| first | (show _ ≤ sizeLine; decide) | exact sz (by simp) | exact szl (by simp) | exact sz (by omega) | exact szl (by omega) | exact sz (by simp; omega) | exact szl (by simp; omega))
local macro_rules | `(tactic| walk_at "c") => `(tactic| first | assumption | decide | omega)
local macro_rules | `(tactic| walk_at "g1") => `(tactic| with_reducible first
  | refine w_seq ?_ | refine w_asg ?_ | refine w_c ?_ | refine w_op ?_
  | refine r_I0 ?_ | refine w_test ?_ | refine r_b ?_ | refine w_if ?_ | refine w_cons ?_ | refine w_nil ?_
  | refine w_ret ?_ | refine w_drop ?_ | refine w_cb ?_ | refine w_call ?_ | refine w_next ?_ | refine w_tup ?_ | refine w_lst ?_ | refine w_bm ?_ | refine w_bm0 ?_
  | refine w_and ?_ | refine w_or ?_ | refine w_not ?_ | refine w_andV ?_ | refine w_orV ?_ | refine w_notV ?_ | refine w_tB ?_ | refine w_un ?_ | refine r_U ?_
  | refine w_for ?_ | refine w_iL ?_ | refine w_iT ?_ | refine w_i1 ?_ | refine w_i2 ?_ | refine w_sl ?_ | refine w_part ?_ | refine w_nopart ?_ | refine r_part ?_
  | refine r_eqI ?_ | refine r_neI ?_ | refine r_eqS ?_ | refine r_neS ?_ | refine r_eqB ?_ | refine r_neB ?_ | refine r_ifT ?_ | refine r_ifF ?_ | refine r_ifNt ?_ | refine r_ifNf ?_ | refine r_ifRN ?_ | refine r_ifNRN ?_ | refine r_ifNN ?_ | refine r_ifNNN ?_
  | refine w_ifE ?_ | refine r_int1 ?_ | refine r_int1b ?_ | refine r_isnone ?_ | refine r_notnone ?_ | refine r_max2 ?_ | refine r_min2 ?_ | refine r_ipI ?_ | refine w_tru ?_ | refine w_rs ?_
  | refine w_retN ?_ | refine w_break ?_ | refine w_cont ?_ | refine w_callS ?_ | refine w_asgG ?_ | refine w_gsub ?_ | refine w_fld ?_ | refine w_sfld ?_ | refine w_mk ?_ | refine w_lc ?_ | refine w_iSq ?_ | refine u_isint ?_ | refine w_dnew ?_ | refine w_dnotin ?_ | refine w_din ?_ | refine w_dget ?_ | refine w_dput ?_ | refine w_ckw ?_)
local macro_rules | `(tactic| walk_at "g2") => `(tactic| first
  | ((with_reducible refine' w_var ?hv ?_); (case hv => rfl)) | ((with_reducible refine' w_aug ?hv ?_); (case hv => rfl))
  | ((with_reducible show rLen _ _ _ _); refine r_len (by walk_at "lt") ?_)
  | (with_reducible refine r_I ?cnd ?_; (case cnd => first | decide | omega | assumption | (unfold CPow; decide)))
  | ((with_reducible show RTy _ _ _ _ _); refine r_tyL (by walk_at "l") ?_)
  | (with_reducible refine r_ifDT (by walk_at "c") ?_) | (with_reducible refine r_ifDF (by walk_at "c") ?_)
  | (with_reducible refine r_ifNT (by walk_at "c") ?_) | (with_reducible refine r_ifNF (by walk_at "c") ?_))
local macro_rules | `(tactic| walk_at "go") => `(tactic| repeat (first | walk_at "g1" | walk_at "g2"))

variable {n b c : L2.St → Hp → Prop} {r : VK} {σ : L2.St} {H H' : Hp} {Q : VK} {t : TS} {te ta tb : TE} {x y v : V} {K : PySem.W.Frag} {E : En} {F F' : Hp} {L L' L1 : Led} {p a : Addr} {xs ys : List V} {ns ms : List Int} {k : Bool} {i j : Int}
/-- for i, x in enumerate(xs) -/
theorem r_forE {i0 j0 : Nat} (Pv : Nat → L2.St → Hp → Prop) (h0 : Pv 0 σ H) (hl : ∀ i σ H, i ≤ xs.length → Pv i σ H → SqL K H a xs)
    (hs : ∀ i x σ H H', xs[i]? = some x → Pv i σ H → Same H H' → t ⟨Pv (i + 1), r, n, Pv (i + 1)⟩ ((σ.set i0 (some (.int (i : Nat)))).set j0 (some x)) H') (hd : ∀ σ H, Pv xs.length σ H → n σ H) : RFor (Ite K a) (gTup K 2 (gCons (gName i0) (gCons (gName j0) gNil))) t ⟨n, r, b, c⟩ σ H := by
  refine L2.for_it (D := ⟨n, r, b, c⟩) L2.walk_enum Pv h0 hl (fun i x σ H H' hi p y => ?_) hd
  obtain ⟨T, u, w, rfl, hT, rfl, e1, e2⟩ := y
  have e1' : V.int (i : Nat) = u := Option.some.inj e1
  subst e1'
  refine ⟨T, _, rfl, SqT.of upd_same, rfl, ?_⟩
  exact ⟨_, _, rfl, _, _, rfl, rfl, hs i w σ H _ e2 p (same_new hT)⟩
theorem w_iE {ta : TA} {R : It → Hp → Prop} (h : ta σ H fun vs H1 => ∃ a xs, vs = [.ref a] ∧ SqL K H1 a xs ∧ R (Ite K a) H1) : iEnum K ta σ H R := h
theorem St.clr (G : St E F H L) : St E F H [] := ⟨G.bh, G.fh, G.ff, G.pr, (fun _ h => nomatch h), List.nodup_nil⟩
theorem w_callO2 {C : Addr} {sp : Sp} {X : XK} {tf : TE} {ta : TA} (h : tf σ H fun y H1 => ∃ a, y = V.ref a ∧ ta σ H1 fun vs H2 => (∃ dx fs, H2 a = some (.ins C dx fs)) ∧ sp (V.ref a :: vs) H2 Q X) : tCallO2 C sp X tf ta σ H Q := h
theorem inV_leads {l : Int} : inV (.int l) [.int (-3), .int (-2), .int (-1), .int 0, .int 1, .int 2] = decide (-3 ≤ l ∧ l ≤ 2) := by
  have h : ∀ k : Int, eqV (.int k) (.int l) = decide (k = l) := fun k => by
    show (k == l) = _
    by_cases q : k = l
    · subst q; simp
    · rw [decide_eq_false q]; simpa using q
  unfold inV
  simp only [List.any_cons, List.any_nil, h, Bool.or_false]
  by_cases q : -3 ≤ l ∧ l ≤ 2
  · rw [decide_eq_true q]
    have : l = -3 ∨ l = -2 ∨ l = -1 ∨ l = 0 ∨ l = 1 ∨ l = 2 := by omega
    rcases this with e | e | e | e | e | e <;> subst e <;> decide
  · rw [decide_eq_false q]
    rw [decide_eq_false (by omega), decide_eq_false (by omega), decide_eq_false (by omega), decide_eq_false (by omega), decide_eq_false (by omega), decide_eq_false (by omega)]
    rfl
theorem r_notinI (hs : SqL K H a xs ∨ SqT K H a xs) (hf : xs.all flatV = true) (q : Q (.bl (!inV (.int i) xs)) H) : rIn K true (.int i) (.ref a) H Q := ⟨a, xs, rfl, hs, rfl, hf, q⟩
/-! ## dicts from integers to integers -/
def kvG (q g : Nat → Int) (t : Nat) : List (Key × V) := (List.range t).map fun k => (.inl (q k), .int (g k))
theorem kvG_succ {q g : Nat → Int} {t : Nat} : kvG q g (t + 1) = kvG q g t ++ [(.inl (q t), .int (g t))] := by
  unfold kvG; rw [List.range_succ, List.map_append]; rfl
theorem kvG_len {q g : Nat → Int} {t : Nat} : (kvG q g t).length = t := by unfold kvG; simp
theorem kvG_val {q g : Nat → Int} {t : Nat} {z : Int} : (∃ k, k < t ∧ q k = z ∧ valV (kvG q g t) (.inl z) = some (.int (g k))) ∨ (valV (kvG q g t) (.inl z) = none ∧ ∀ k, k < t → q k ≠ z) := by
  induction t with
  | zero => exact .inr ⟨rfl, fun k h => absurd h (Nat.not_lt_zero _)⟩
  | succ t ih =>
    have e : valV (kvG q g (t + 1)) (.inl z) = (valV (kvG q g t) (.inl z)).or (valV [((.inl (q t) : Key), V.int (g t))] (.inl z)) := by
      rw [kvG_succ]
      unfold valV
      rw [List.find?_append]
      cases (List.find? (fun kv => decide (kv.1 = Sum.inl z)) (kvG q g t)) <;> rfl
    rcases ih with ⟨k, h1, h2, h3⟩ | ⟨h1, h2⟩
    · exact .inl ⟨k, by omega, h2, by rw [e, h3]; rfl⟩
    · by_cases c : q t = z
      · refine .inl ⟨t, by omega, c, ?_⟩
        rw [e, h1, c, valV_pos rfl]; rfl
      · refine .inr ⟨?_, fun k hk => ?_⟩
        · rw [e, h1, valV_neg (fun w => c (Sum.inl.inj w))]; rfl
        · rcases Nat.lt_succ_iff_lt_or_eq.mp hk with w | w
          · exact h2 k w
          · rw [w]; exact c
/-! ## machines -/
structure Mok (m o l : Int) (os : List Int) (rs : List (List (List Int))) : Prop where
  m1 : 1 ≤ m
  o1 : 1 ≤ o
  l0 : -3 ≤ l
  l1 : l ≤ 2
  ol : (os.length : Int) = if -l > 0 then -l else 0
  ob : ∀ z ∈ os, 0 ≤ z ∧ z < o
  ne : 0 < rs.length
  rr : ∀ r ∈ rs, (r.length : Int) = m ∧ ∀ x ∈ r, (0 ≤ x.getD 0 0 ∧ x.getD 0 0 < rs.length) ∧ 0 ≤ x.getD 1 0 ∧ x.getD 1 0 < o
def maF (m o l : Int) (oa ra : Addr) : List (Str × V) := [("inputs", .int m), ("outputs", .int o), ("lead", .int l), ("opening", .ref oa), ("rows", .ref ra)]
structure MaAt (K : PySem.W.Frag) (C : Addr) (F : Hp) (x : Addr) (m o l : Int) (os : List Int) (rs : List (List (List Int))) : Prop where
  ex : ∃ dx oa ra as, F x = some (.ins C dx (maF m o l oa ra)) ∧ SqT K F oa (iv os) ∧ SqT K F ra (rv as) ∧ Rows2 K F false as rs
  p2 : ∀ r ∈ rs, ∀ x ∈ r, x.length = 2
theorem MaAt.mono {C x : Addr} {m o l : Int} {os : List Int} {rs : List (List (List Int))} (e : Same F F') (h : MaAt K C F x m o l os rs) : MaAt K C F' x m o l os rs := by
  obtain ⟨dx, oa, ra, as, h1, h2, h3, h4⟩ := h.ex
  exact ⟨⟨dx, oa, ra, as, e _ _ h1, tS e h2, tS e h3, h4.mono e⟩, h.p2⟩
theorem lm_inputs {m o l : Int} {oa ra : Addr} : (maF m o l oa ra).lookup ("inputs" : Str) = some (.int m) := rfl
theorem lm_outputs {m o l : Int} {oa ra : Addr} : (maF m o l oa ra).lookup ("outputs" : Str) = some (.int o) := rfl
theorem lm_lead {m o l : Int} {oa ra : Addr} : (maF m o l oa ra).lookup ("lead" : Str) = some (.int l) := rfl
theorem lm_opening {m o l : Int} {oa ra : Addr} : (maF m o l oa ra).lookup ("opening" : Str) = some (.ref oa) := rfl
theorem lm_rows {m o l : Int} {oa ra : Addr} : (maF m o l oa ra).lookup ("rows" : Str) = some (.ref ra) := rfl
/-- rows that are lists of tuples, all frozen -/
inductive RowsLT (K : PySem.W.Frag) (H : Hp) : List Addr → List (List (List Int)) → Prop
  | nil : RowsLT K H [] []
  | cons {a as bs r rs} : SqL K H a (rv bs) → Rows K H false bs r → RowsLT K H as rs → RowsLT K H (a :: as) (r :: rs)
theorem RowsLT.mono {as : List Addr} {rs : List (List (List Int))} (e : Same H H') (h : RowsLT K H as rs) : RowsLT K H' as rs := by
  induction h with
  | nil => exact .nil
  | cons h1 h2 _ ih => exact .cons (lS e h1) (h2.mono e) ih
theorem RowsLT.len {as : List Addr} {rs : List (List (List Int))} (h : RowsLT K H as rs) : as.length = rs.length := by
  induction h with
  | nil => rfl
  | cons _ _ _ ih => rw [List.length_cons, List.length_cons, ih]
theorem RowsLT.at {as : List Addr} {rs : List (List (List Int))} (h : RowsLT K H as rs) : ∀ {i : Nat} {a : Addr}, as[i]? = some a → ∃ bs r, rs[i]? = some r ∧ SqL K H a (rv bs) ∧ Rows K H false bs r := by
  induction h with
  | nil => intro i a e; simp at e
  | cons h1 h2 _ ih =>
    intro i a e
    cases i with
    | zero => rw [List.getElem?_cons_zero] at e; cases e; exact ⟨_, _, rfl, h1, h2⟩
    | succ i => exact ih (by simpa using e)
theorem RowsLT.snoc {as : List Addr} {bs : List Addr} {r : List (List Int)} {rs : List (List (List Int))} (h : RowsLT K H as rs) (h1 : SqL K H a (rv bs)) (h2 : Rows K H false bs r) : RowsLT K H (as ++ [a]) (rs ++ [r]) := by
  induction h with
  | nil => exact .cons h1 h2 .nil
  | cons q1 q2 _ ih => exact .cons q1 q2 ih
theorem RowsLT.toX {as : List Addr} {rs : List (List (List Int))} (e : Same F H) (h : RowsLT K F as rs) : RowsX K F H as rs := by
  induction h with
  | nil => exact .nil
  | cons h1 h2 _ ih => exact .cons (.inl (lS e h1)) (.ofT h2) ih
def cellM (rs : List (List (List Int))) (s z : Int) : List Int := (rs.getD s.toNat []).getD z.toNat []
def nxt (rs : List (List (List Int))) (s z : Int) : Int := (cellM rs s z).getD 0 0
def outM (rs : List (List (List Int))) (s z : Int) : Int := (cellM rs s z).getD 1 0
def smM (rs : List (List (List Int))) (f : Nat → Int) : Nat → Int
  | 0 => 0
  | k + 1 => nxt rs (smM rs f k) (f k)
def emM (rs : List (List (List Int))) (f : Nat → Int) (k : Nat) : Int := outM rs (smM rs f k) (f k)
/-- what is said in turn i -/
def sd (os : List Int) (l : Int) (e : Nat → Int) (i : Nat) : Int := if (i : Int) + l < 0 then fx os i else e ((i : Int) + l).toNat
theorem two_of {x : List Int} (h : x.length = 2) : x = [x.getD 0 0, x.getD 1 0] := by
  match x, h with
  | [a, b], _ => rfl
theorem stp_okM {m o l : Int} {os : List Int} {rs : List (List (List Int))} (OK : Mok m o l os rs) (p2 : ∀ r ∈ rs, ∀ x ∈ r, x.length = 2) {s z : Int} (hs : 0 ≤ s ∧ s < rs.length) (hz : 0 ≤ z ∧ z < m) :
    ∃ r, rs[s.toNat]? = some r ∧ r[z.toNat]? = some [nxt rs s z, outM rs s z] ∧ (r.length : Int) = m ∧ (0 ≤ nxt rs s z ∧ nxt rs s z < rs.length) ∧ 0 ≤ outM rs s z ∧ outM rs s z < o := by
  have hl : s.toNat < rs.length := by omega
  have hm := List.getElem_mem hl
  obtain ⟨h1, h2⟩ := OK.rr _ hm
  have hz2 : z.toNat < rs[s.toNat].length := by omega
  have hx := List.getElem_mem hz2
  have e : cellM rs s z = rs[s.toNat][z.toNat] := by
    unfold cellM
    rw [List.getD_eq_getElem?_getD (l := rs), List.getElem?_eq_getElem hl, Option.getD_some, List.getD_eq_getElem?_getD, List.getElem?_eq_getElem hz2]; rfl
  obtain ⟨a, b⟩ := h2 _ hx
  rw [← e] at a b
  refine ⟨_, List.getElem?_eq_getElem hl, ?_, h1, a, b⟩
  rw [List.getElem?_eq_getElem hz2, ← e]
  have := p2 _ hm _ hx
  rw [← e] at this
  rw [two_of this]; rfl
theorem st_ok {m o l : Int} {os : List Int} {rs : List (List (List Int))} (OK : Mok m o l os rs) (p2 : ∀ r ∈ rs, ∀ x ∈ r, x.length = 2) {f : Nat → Int} {N : Nat} (hf : ∀ i, i < N → 0 ≤ f i ∧ f i < m) : ∀ k, k ≤ N → 0 ≤ smM rs f k ∧ smM rs f k < rs.length
  | 0, _ => ⟨Int.le_refl _, by have := OK.ne; show (0 : Int) < _; omega⟩
  | k + 1, h => by
    obtain ⟨_, _, _, _, q, _⟩ := stp_okM OK p2 (st_ok OK p2 hf k (by omega)) (hf k (by omega))
    exact q
theorem st_per {rs : List (List (List Int))} {f : Nat → Int} {b p : Nat} (hf : ∀ i, b ≤ i → f (i + p) = f i) (hs : smM rs f (b + p) = smM rs f b) : ∀ d, smM rs f (b + d + p) = smM rs f (b + d)
  | 0 => hs
  | d + 1 => by
    show smM rs f (b + d + 1 + p) = nxt rs (smM rs f (b + d)) (f (b + d))
    rw [show b + d + 1 + p = (b + d + p) + 1 from by omega]
    show nxt rs (smM rs f (b + d + p)) (f (b + d + p)) = _
    rw [st_per hf hs d, hf _ (by omega)]
theorem em_per {rs : List (List (List Int))} {f : Nat → Int} {b p : Nat} (hf : ∀ i, b ≤ i → f (i + p) = f i) (hs : smM rs f (b + p) = smM rs f b) (i : Nat) (h : b ≤ i) : emM rs f (i + p) = emM rs f i := by
  obtain ⟨d, rfl⟩ : ∃ d, i = b + d := ⟨i - b, by omega⟩
  unfold emM
  rw [st_per hf hs d, hf _ h]
theorem em_ext {rs : List (List (List Int))} {f g : Nat → Int} {N : Nat} (h : ∀ i, i < N → f i = g i) : ∀ k, k ≤ N → smM rs f k = smM rs g k
  | 0, _ => rfl
  | k + 1, hk => by
    show nxt rs (smM rs f k) (f k) = nxt rs (smM rs g k) (g k)
    rw [em_ext h k (by omega), h k (by omega)]
theorem wd_front {fs hs ls : List Int} (i : Nat) : wd (fs ++ hs) ls (i + fs.length) = wd hs ls i := by
  have e : (fs ++ hs).drop fs.length = hs := List.drop_left' rfl
  have q := wd_drop (hs := fs ++ hs) (ls := ls) (t := fs.length) (by simp) i
  rw [e] at q
  exact q.symm
theorem wd_app {fs hs ls : List Int} (i : Nat) (h : i < fs.length) : wd (fs ++ hs) ls i = fx fs i := by
  rw [wd_head (by rw [List.length_append]; omega)]
  show (fs ++ hs).getD i 0 = fs.getD i 0
  rw [List.getD_eq_getElem?_getD, List.getD_eq_getElem?_getD, List.getElem?_append_left h]
def saidL (os : List Int) (l : Int) (rs : List (List (List Int))) (f : Nat → Int) (n : Nat) : List Int := os ++ ((List.range n).map (emM rs f)).drop l.toNat
theorem saidL_succ {os : List Int} {l : Int} {rs : List (List (List Int))} {f : Nat → Int} {n : Nat} : saidL os l rs f (n + 1) = if (n : Int) ≥ l then saidL os l rs f n ++ [emM rs f n] else saidL os l rs f n := by
  unfold saidL
  rw [List.range_succ, List.map_append]
  split
  · rw [List.drop_append_of_le_length (by simp; omega), List.append_assoc]; rfl
  · rw [List.drop_eq_nil_of_le (by simp; omega), List.drop_eq_nil_of_le (by simp; omega)]
end
end SL

set_option Elab.async false
set_option linter.all false
set_option maxRecDepth 100000
set_option maxHeartbeats 4000000
namespace L2
open PySem PySem.Spec PyProof.Rows
/-! ## a tuple once -/
theorem tuple_mul1 (l : Addr) (items : Array Value) (n : Nat) (dd : Option Addr) (sl : Array (Option Value)) (u : Tok) :
    Meets (Builtin.«tuple.__mul__» ⟨[.ref l, .int 1 u], []⟩) (fun _ R s => s.heap.get? l = some { cls := .type "tuple", dict := dd, data := .seq items n, slots := sl } ∧
      R (.ok (.ret (Value.ref l))) s) :=
  .of_wp fun prog w A R s h => by
    obtain ⟨hp, g, d, tk, os⟩ := s
    obtain ⟨hl, h⟩ := h
    have f1 := AutoSeq1.idx_int
    have c1 : (items.isEmpty || (1 : Int) == 1) = true := by simp
    wp_walk using wpAny_loadPart' hl
    repeat (first
      | (refine wpAny_ite_false (decide_eq_false (by decide)) ?_; wp_walk using wpAny_loadPart' hl)
      | (refine wpAny_ite_true (decide_eq_true c1) ?_; wp_walk using wpAny_loadPart' hl))
    exact ⟨_, rfl, h⟩
def rRepT1 (K : PySem.W.Frag) : R2 := fun x y H Q => ∃ l xs, x = .ref l ∧ y = .int 1 ∧ SqT K H l xs ∧ Q (.ref l) H
theorem op_repT1 {X : Cx} : OpR X (binaryOp .Mult) (rRepT1 X.K) := by
  intro pins s σ H x y v u Q I rx ry h
  obtain ⟨l, xs, rfl, rfl, hT, q⟩ := h
  cases rx
  obtain ⟨t, rfl⟩ := ry
  obtain ⟨its, r, ⟨⟨cls, dd, data, sl⟩, ho, hc, n, hd⟩, hs⟩ := I.tuple hT
  simp only at hc hd
  subst hc hd
  refine wpAny_binaryOp_repeat_ref (T := "tuple") (U := "int") (by decide) ⟨_, ho, rfl⟩ (fun s' => typeIs_int s' 1 t) noFill_tuple_mul F.fills_int_mul F.slot_int_rmul repeat_tuple F.slot_int_index.lookup
    (call_meets F.slot_int_rmul (typeIs_int s 1 t) F.entry_int_rmul (F.args_int_rmul_2 _ _) (int_rmul_tuple 1 t l its.toArray n dd sl)
      ⟨ho, rfl, ⟨_, ho, rfl⟩, call_meets F.slot_tuple_mul ⟨_, ho, rfl⟩ F.entry_tuple_mul (F.args_tuple_mul_2 _ _) (tuple_mul1 l its.toArray n dd sl t) ⟨ho, ?_⟩⟩)
  exact ⟨.ref l, H, I, rfl, q⟩
def rRepTQ (K : PySem.W.Frag) : R2 := fun x y H Q => rRepT1 K x y H Q ∨ rRepT K x y H Q
theorem op_repTQ {X : Cx} : OpR X (binaryOp .Mult) (rRepTQ X.K) := by
  intro pins s σ H x y v u Q I rx ry h
  rcases h with h | h
  · exact op_repT1 pins s σ H x y v u Q I rx ry h
  · exact op_repT pins s σ H x y v u Q I rx ry h
end L2
namespace SL
open PySem L2
section

set_option hygiene false
local macro_rules | `(tactic| walk_at "m") => `(tactic| first | exact List.Mem.head _ | (refine List.Mem.tail _ ?_; walk_at "m"))
local macro_rules | `(tactic| walk_at "u") => `(tactic| first | exact Upd.head | (apply Upd.tail; walk_at "u"))
local macro_rules | `(tactic| walk_at "tk") => `(tactic| first | exact Tak.head | (apply Tak.tail; walk_at "tk"))
local macro_rules | `(tactic| walk_at "l") => `(tactic| first | assumption | exact lS (St.fh (by assumption)) (by assumption) | exact SqL.of (St.get (by assumption) (by walk_at "m")))
local macro_rules | `(tactic| walk_at "t") => `(tactic| first | assumption | exact tS (St.fh (by assumption)) (by assumption) | exact SqT.of (St.get (by assumption) (by walk_at "m")))
local macro_rules | `(tactic| walk_at "lt") => `(tactic| first | exact .inl (by walk_at "l") | exact .inr (by walk_at "t"))
local macro_rules | `(tactic| walk_at "sz") => `(tactic| first | (show _ ≤ sizeLine; decide) | exact sz (by simp) | exact szl (by simp) | exact sz (by omega) | exact szl (by omega) | exact sz (by simp; omega) | exact szl (by simp; omega))
local macro_rules | `(tactic| walk_at "c") => `(tactic| first | assumption | decide | omega)
local macro_rules | `(tactic| walk_at "g1") => `(tactic| with_reducible first
  | refine w_seq ?_ | refine w_asg ?_ | refine w_c ?_ | refine w_op ?_
  | refine r_I0 ?_ | refine w_test ?_ | refine r_b ?_ | refine w_if ?_ | refine w_cons ?_ | refine w_nil ?_
  | refine w_ret ?_ | refine w_drop ?_ | refine w_cb ?_ | refine w_call ?_ | refine w_next ?_ | refine w_tup ?_ | refine w_lst ?_ | refine w_bm ?_ | refine w_bm0 ?_
  | refine w_and ?_ | refine w_or ?_ | refine w_not ?_ | refine w_andV ?_ | refine w_orV ?_ | refine w_notV ?_ | refine w_tB ?_ | refine w_un ?_ | refine r_U ?_
  | refine w_for ?_ | refine w_iL ?_ | refine w_iT ?_ | refine w_i1 ?_ | refine w_i2 ?_ | refine w_sl ?_ | refine w_part ?_ | refine w_nopart ?_ | refine r_part ?_
  | refine r_eqI ?_ | refine r_neI ?_ | refine r_eqS ?_ | refine r_neS ?_ | refine r_eqB ?_ | refine r_neB ?_ | refine r_ifT ?_ | refine r_ifF ?_ | refine r_ifNt ?_ | refine r_ifNf ?_ | refine r_ifRN ?_ | refine r_ifNRN ?_ | refine r_ifNN ?_ | refine r_ifNNN ?_
  | refine w_ifE ?_ | refine r_int1 ?_ | refine r_int1b ?_ | refine r_isnone ?_ | refine r_notnone ?_ | refine r_max2 ?_ | refine r_min2 ?_ | refine r_ipI ?_ | refine w_tru ?_ | refine w_rs ?_
  | refine w_retN ?_ | refine w_break ?_ | refine w_cont ?_ | refine w_callS ?_ | refine w_asgG ?_ | refine w_gsub ?_ | refine w_fld ?_ | refine w_sfld ?_ | refine w_mk ?_ | refine w_lc ?_ | refine w_iSq ?_ | refine u_isint ?_ | refine w_dnew ?_ | refine w_dnotin ?_ | refine w_din ?_ | refine w_dget ?_ | refine w_dput ?_ | refine w_ckw ?_)
local macro_rules | `(tactic| walk_at "g2") => `(tactic| first
  | ((with_reducible refine' w_var ?hv ?_); (case hv => rfl)) | ((with_reducible refine' w_aug ?hv ?_); (case hv => rfl))
  | ((with_reducible show rLen _ _ _ _); refine r_len (by walk_at "lt") ?_)
  | (with_reducible refine r_I ?cnd ?_; (case cnd => first | decide | omega | assumption | (unfold CPow; decide)))
  | ((with_reducible show RTy _ _ _ _ _); refine r_tyL (by walk_at "l") ?_)
  | (with_reducible refine r_ifDT (by walk_at "c") ?_) | (with_reducible refine r_ifDF (by walk_at "c") ?_)
  | (with_reducible refine r_ifNT (by walk_at "c") ?_) | (with_reducible refine r_ifNF (by walk_at "c") ?_))
local macro_rules | `(tactic| walk_at "go") => `(tactic| repeat (first | walk_at "g1" | walk_at "g2"))

variable {n b c : L2.St → Hp → Prop} {r : VK} {σ : L2.St} {H H' : Hp} {Q : VK} {K : PySem.W.Frag} {E : En} {F F' : Hp} {L L' L1 : Led} {p a : Addr} {xs ys : List V} {ns ms : List Int}
theorem wd_grow {hs ls : List Int} (h0 : 0 < ls.length) (i : Nat) : wd (hs ++ ls) ls i = wd hs ls i := by
  by_cases c : i < hs.length
  · rw [wd_head (by rw [List.length_append]; omega), wd_head c]
    show (hs ++ ls).getD i 0 = hs.getD i 0
    rw [List.getD_eq_getElem?_getD, List.getD_eq_getElem?_getD, List.getElem?_append_left c]
  · by_cases c2 : i < hs.length + ls.length
    · obtain ⟨j, rfl⟩ : ∃ j, i = hs.length + j := ⟨i - hs.length, by omega⟩
      rw [wd_head (by rw [List.length_append]; omega), wd_loop (by omega)]
      show (hs ++ ls).getD (hs.length + j) 0 = ls.getD j 0
      rw [List.getD_eq_getElem?_getD, List.getD_eq_getElem?_getD, List.getElem?_append_right (by omega)]
      congr 2
      omega
    · unfold wd
      rw [if_neg (by rw [List.length_append]; omega), if_neg c, List.length_append]
      congr 1
      have e : i - hs.length = (i - (hs.length + ls.length)) + ls.length := by omega
      rw [e, Nat.add_mod_right]
theorem em_ok {m o l : Int} {os : List Int} {rs : List (List (List Int))} (OK : Mok m o l os rs) (p2 : ∀ r ∈ rs, ∀ x ∈ r, x.length = 2) {f : Nat → Int} (hf : ∀ i, 0 ≤ f i ∧ f i < m) (k : Nat) : 0 ≤ emM rs f k ∧ emM rs f k < o := by
  obtain ⟨_, _, _, _, _, q⟩ := stp_okM OK p2 (st_ok OK p2 (N := k) (fun i _ => hf i) k (Nat.le_refl _)) (hf k)
  exact q
theorem sd_ok {m o l : Int} {os : List Int} {rs : List (List (List Int))} (OK : Mok m o l os rs) (p2 : ∀ r ∈ rs, ∀ x ∈ r, x.length = 2) {f : Nat → Int} (hf : ∀ i, 0 ≤ f i ∧ f i < m) (k : Nat) : 0 ≤ sd os l (emM rs f) k ∧ sd os l (emM rs f) k < o := by
  unfold sd
  split
  · have ol := OK.ol
    have hk : k < os.length := by split at ol <;> omega
    refine OK.ob _ ?_
    show os.getD k 0 ∈ os
    rw [List.getD_eq_getElem?_getD, List.getElem?_eq_getElem hk]
    exact List.getElem_mem _
  · exact em_ok OK p2 hf _
theorem emc {rs : List (List (List Int))} {cs : List Int} {f : Nat → Int} (h : ∀ i, i < cs.length → f i = fx cs i) (i : Nat) (hi : i < cs.length) : emM rs f i = emM rs (fx cs) i := by
  unfold emM
  rw [em_ext (N := cs.length) h i (by omega), h i hi]
theorem saidL_len {os : List Int} {l : Int} {rs : List (List (List Int))} {f : Nat → Int} {n : Nat} : (saidL os l rs f n).length = os.length + (n - l.toNat) := by unfold saidL; simp
theorem saidL_get {m o l : Int} {os cs : List Int} {rs : List (List (List Int))} (OK : Mok m o l os rs) {f : Nat → Int} (h : ∀ i, i < cs.length → f i = fx cs i) (i : Nat) (hi : i < (saidL os l rs (fx cs) cs.length).length) : (saidL os l rs (fx cs) cs.length).getD i 0 = sd os l (emM rs f) i := by
  have ol := OK.ol
  rw [saidL_len] at hi
  unfold saidL sd
  rw [List.getD_eq_getElem?_getD]
  by_cases c : i < os.length
  · rw [List.getElem?_append_left c, if_pos (by split at ol <;> omega)]
    show os[i]?.getD 0 = os.getD i 0
    rw [List.getD_eq_getElem?_getD]
  · rw [List.getElem?_append_right (by omega), if_neg (by split at ol <;> omega), List.getElem?_drop, List.getElem?_map, List.getElem?_range (by omega)]
    have e : ((i : Int) + l).toNat = l.toNat + (i - os.length) := by split at ol <;> omega
    rw [e, emc h _ (by omega)]; rfl
theorem cellL_at {m o l : Int} {os : List Int} {rs : List (List (List Int))} {as : List Addr} (OK : Mok m o l os rs) (p2 : ∀ r ∈ rs, ∀ x ∈ r, x.length = 2) (hR : RowsLT K F as rs) {s z : Int} (hs : 0 ≤ s ∧ s < rs.length) (hz : 0 ≤ z ∧ z < m) :
    ∃ e bs u, atI (rv as) s = some (.ref e) ∧ SqL K F e (rv bs) ∧ atI (rv bs) z = some (.ref u) ∧ SqT K F u [.int (nxt rs s z), .int (outM rs s z)] := by
  obtain ⟨r, hr, hx, hl, _, _⟩ := stp_okM OK p2 hs hz
  have al := hR.len
  obtain ⟨e, he⟩ : ∃ e, as[s.toNat]? = some e := ⟨_, List.getElem?_eq_getElem (by omega)⟩
  obtain ⟨bs, r', hr', h1, h2⟩ := hR.at he
  rw [hr] at hr'
  cases hr'
  have bl := h2.len
  obtain ⟨u, hu⟩ : ∃ u, bs[z.toNat]? = some u := ⟨_, List.getElem?_eq_getElem (by omega)⟩
  obtain ⟨ns, hn, h3⟩ := h2.at hu
  rw [hx] at hn
  cases hn
  exact ⟨e, bs, u, atI_rv hs.1 he, h1, atI_rv hz.1 hu, h3⟩
/-- where the rounds through the loop began -/
structure Beg (q g : Nat → Int) (n i : Nat) (bs : List Int) : Prop where
  len : bs.length = n
  at_ : ∀ z, z < n → (∃ k, k < i ∧ q k = z ∧ bs.getD z 0 = g k) ∨ (bs.getD z 0 = -1 ∧ ∀ k, k < i → q k ≠ z)
theorem Beg.zero {q g : Nat → Int} {n : Nat} : Beg q g n 0 (List.replicate n (-1)) := ⟨by simp, fun z hz => .inr ⟨by rw [List.getD_eq_getElem?_getD, List.getElem?_replicate, if_pos hz]; rfl, fun k h => absurd h (Nat.not_lt_zero _)⟩⟩
theorem Beg.next {q g : Nat → Int} {n i : Nat} {bs : List Int} (h : Beg q g n i bs) (hq : 0 ≤ q i ∧ q i < n) : Beg q g n (i + 1) (bs.set (q i).toNat (g i)) := by
  refine ⟨by rw [List.length_set]; exact h.len, fun z hz => ?_⟩
  by_cases c : z = (q i).toNat
  · refine .inl ⟨i, by omega, by omega, ?_⟩
    rw [c, List.getD_eq_getElem?_getD, List.getElem?_set_self (by rw [h.len]; omega)]; rfl
  · rw [List.getD_eq_getElem?_getD, List.getElem?_set_ne (by omega), ← List.getD_eq_getElem?_getD]
    rcases h.at_ z hz with ⟨k, h1, h2, h3⟩ | ⟨h1, h2⟩
    · exact .inl ⟨k, by omega, h2, h3⟩
    · refine .inr ⟨h1, fun k hk => ?_⟩
      rcases Nat.lt_succ_iff_lt_or_eq.mp hk with d | d
      · exact h2 k d
      · subst d; omega
end
end SL

set_option Elab.async false
set_option linter.all false
set_option maxRecDepth 100000
set_option maxHeartbeats 4000000
namespace SL
open PySem L2
section

set_option hygiene false
local macro_rules | `(tactic| walk_at "m") => `(tactic| first | exact List.Mem.head _ | (refine List.Mem.tail _ ?_; walk_at "m"))
local macro_rules | `(tactic| walk_at "u") => `(tactic| first | exact Upd.head | (apply Upd.tail; walk_at "u"))
local macro_rules | `(tactic| walk_at "tk") => `(tactic| first | exact Tak.head | (apply Tak.tail; walk_at "tk"))
local macro_rules | `(tactic| walk_at "l") => `(tactic| first | assumption | exact lS (St.fh (by assumption)) (by assumption) | exact SqL.of (St.get (by assumption) (by walk_at "m")))
local macro_rules | `(tactic| walk_at "t") => `(tactic| first | assumption | exact tS (St.fh (by assumption)) (by assumption) | exact SqT.of (St.get (by assumption) (by walk_at "m")))
local macro_rules | `(tactic| walk_at "lt") => `(tactic| first | exact .inl (by walk_at "l") | exact .inr (by walk_at "t"))
local macro_rules | `(tactic| walk_at "sz") => `(tactic| first | (show _ ≤ sizeLine; decide) | exact sz (by simp) | exact szl (by simp) | exact sz (by omega) | exact szl (by omega) | exact sz (by simp; omega) | exact szl (by simp; omega))
local macro_rules | `(tactic| walk_at "c") => `(tactic| first | assumption | decide | omega)
local macro_rules | `(tactic| walk_at "g1") => `(tactic| with_reducible first
  | refine w_seq ?_ | refine w_asg ?_ | refine w_c ?_ | refine w_op ?_
  | refine r_I0 ?_ | refine w_test ?_ | refine r_b ?_ | refine w_if ?_ | refine w_cons ?_ | refine w_nil ?_
  | refine w_ret ?_ | refine w_drop ?_ | refine w_cb ?_ | refine w_call ?_ | refine w_next ?_ | refine w_tup ?_ | refine w_lst ?_ | refine w_bm ?_ | refine w_bm0 ?_
  | refine w_and ?_ | refine w_or ?_ | refine w_not ?_ | refine w_andV ?_ | refine w_orV ?_ | refine w_notV ?_ | refine w_tB ?_ | refine w_un ?_ | refine r_U ?_
  | refine w_for ?_ | refine w_iL ?_ | refine w_iT ?_ | refine w_i1 ?_ | refine w_i2 ?_ | refine w_sl ?_ | refine w_part ?_ | refine w_nopart ?_ | refine r_part ?_
  | refine r_eqI ?_ | refine r_neI ?_ | refine r_eqS ?_ | refine r_neS ?_ | refine r_eqB ?_ | refine r_neB ?_ | refine r_ifT ?_ | refine r_ifF ?_ | refine r_ifNt ?_ | refine r_ifNf ?_ | refine r_ifRN ?_ | refine r_ifNRN ?_ | refine r_ifNN ?_ | refine r_ifNNN ?_
  | refine w_ifE ?_ | refine r_int1 ?_ | refine r_int1b ?_ | refine r_isnone ?_ | refine r_notnone ?_ | refine r_max2 ?_ | refine r_min2 ?_ | refine r_ipI ?_ | refine w_tru ?_ | refine w_rs ?_
  | refine w_retN ?_ | refine w_break ?_ | refine w_cont ?_ | refine w_callS ?_ | refine w_asgG ?_ | refine w_gsub ?_ | refine w_fld ?_ | refine w_sfld ?_ | refine w_mk ?_ | refine w_lc ?_ | refine w_iSq ?_ | refine u_isint ?_ | refine w_dnew ?_ | refine w_dnotin ?_ | refine w_din ?_ | refine w_dget ?_ | refine w_dput ?_ | refine w_ckw ?_)
local macro_rules | `(tactic| walk_at "g2") => `(tactic| first
  | ((with_reducible refine' w_var ?hv ?_); (case hv => rfl)) | ((with_reducible refine' w_aug ?hv ?_); (case hv => rfl))
  | ((with_reducible show rLen _ _ _ _); refine r_len (by walk_at "lt") ?_)
  | (with_reducible refine r_I ?cnd ?_; (case cnd => first | decide | omega | assumption | (unfold CPow; decide)))
  | ((with_reducible show RTy _ _ _ _ _); refine r_tyL (by walk_at "l") ?_)
  | (with_reducible refine r_ifDT (by walk_at "c") ?_) | (with_reducible refine r_ifDF (by walk_at "c") ?_)
  | (with_reducible refine r_ifNT (by walk_at "c") ?_) | (with_reducible refine r_ifNF (by walk_at "c") ?_))
local macro_rules | `(tactic| walk_at "go") => `(tactic| repeat (first | walk_at "g1" | walk_at "g2"))

variable {n b c : L2.St → Hp → Prop} {r : VK} {σ : L2.St} {H H' : Hp} {Q : VK} {K : PySem.W.Frag} {E : En} {F F' : Hp} {L L' L1 : Led} {p a : Addr} {xs ys : List V} {ns ms : List Int} {o : HO}
/-- rows that are lists of tuples, all frozen, and what stands in them -/
inductive RowsR (K : PySem.W.Frag) (H : Hp) : List Addr → List (List Addr) → List (List (List Int)) → Prop
  | nil : RowsR K H [] [] []
  | cons {a as bs bss r rs} : H a = some (.lst (rv bs)) → Rows K H false bs r → RowsR K H as bss rs → RowsR K H (a :: as) (bs :: bss) (r :: rs)
variable {as as' : List Addr} {bss bss' : List (List Addr)} {rs rs' : List (List (List Int))}
theorem RowsR.mono (e : Same H H') (h : RowsR K H as bss rs) : RowsR K H' as bss rs := by
  induction h with
  | nil => exact .nil
  | cons h1 h2 _ ih => exact .cons (e _ _ h1) (h2.mono e) ih
theorem RowsR.len1 (h : RowsR K H as bss rs) : as.length = bss.length := by
  induction h with
  | nil => rfl
  | cons _ _ _ ih => rw [List.length_cons, List.length_cons, ih]
theorem RowsR.len (h : RowsR K H as bss rs) : as.length = rs.length := by
  induction h with
  | nil => rfl
  | cons _ _ _ ih => rw [List.length_cons, List.length_cons, ih]
theorem RowsR.at (h : RowsR K H as bss rs) : ∀ {i : Nat} {a : Addr}, as[i]? = some a → ∃ bs r, bss[i]? = some bs ∧ rs[i]? = some r ∧ H a = some (.lst (rv bs)) ∧ Rows K H false bs r := by
  induction h with
  | nil => intro i a e; simp at e
  | cons h1 h2 _ ih =>
    intro i a e
    cases i with
    | zero => rw [List.getElem?_cons_zero] at e; cases e; exact ⟨_, _, rfl, rfl, h1, h2⟩
    | succ i => exact ih (by simpa using e)
theorem RowsR.app (h : RowsR K H as bss rs) (h' : RowsR K H as' bss' rs') : RowsR K H (as ++ as') (bss ++ bss') (rs ++ rs') := by
  induction h with
  | nil => exact h'
  | cons h1 h2 _ ih => exact .cons h1 h2 ih
theorem RowsR.one {bs : List Addr} {r : List (List Int)} (h1 : H a = some (.lst (rv bs))) (h2 : Rows K H false bs r) : RowsR K H [a] [bs] [r] := .cons h1 h2 .nil
theorem RowsR.take (h : RowsR K H as bss rs) : ∀ (n : Nat), RowsR K H (as.take n) (bss.take n) (rs.take n) := by
  induction h with
  | nil => intro n; rw [List.take_nil, List.take_nil, List.take_nil]; exact .nil
  | cons h1 h2 _ ih =>
    intro n
    cases n with
    | zero => exact .nil
    | succ n => exact .cons h1 h2 (ih n)
theorem RowsR.drop (h : RowsR K H as bss rs) : ∀ (n : Nat), RowsR K H (as.drop n) (bss.drop n) (rs.drop n) := by
  induction h with
  | nil => intro n; rw [List.drop_nil, List.drop_nil, List.drop_nil]; exact .nil
  | cons h1 h2 h3 ih =>
    intro n
    cases n with
    | zero => exact .cons h1 h2 h3
    | succ n => exact ih n
theorem RowsR.lt (h : RowsR K H as bss rs) : RowsLT K H as rs := by
  induction h with
  | nil => exact .nil
  | cons h1 h2 _ ih => exact .cons (SqL.of h1) h2 ih
theorem Rows.drop {k : Bool} {ts : List Addr} {r : List (List Int)} (h : Rows K H k ts r) : ∀ (n : Nat), Rows K H k (ts.drop n) (r.drop n) := by
  induction h with
  | nil => intro n; rw [List.drop_nil, List.drop_nil]; exact .nil
  | cons h1 h2 ih =>
    intro n
    cases n with
    | zero => exact .cons h1 h2
    | succ n => exact ih n
theorem Rows.app {k : Bool} {ts ts' : List Addr} {r r' : List (List Int)} (h : Rows K H k ts r) (h' : Rows K H k ts' r') : Rows K H k (ts ++ ts') (r ++ r') := by
  induction h with
  | nil => exact h'
  | cons h1 _ ih => exact .cons h1 ih
theorem RowsX.own {bs : List Addr} (h : RowsR K F as bss rs) (hl : bs.length = bss.length) (ho : ∀ x ∈ rowV bs (bss.map rv), H x.1 = some x.2) : RowsX K F H bs rs := by
  induction h generalizing bs with
  | nil => cases bs with
    | nil => exact .nil
    | cons _ _ => cases hl
  | cons h1 h2 _ ih => cases bs with
    | nil => cases hl
    | cons b bs => exact .cons (.inl (SqL.of (ho _ List.mem_cons_self))) (.ofT h2) (ih (by simpa using hl) fun x hx => ho x (List.mem_cons_of_mem _ hx))
abbrev dRowT (r : List (List Int)) : PyData := .list (r.map (dRow false))
theorem RowsLT.dp (h : RowsLT K H as rs) : DpAll K H (as.map V.ref) (rs.map dRowT) := by
  induction h with
  | nil => exact .nil
  | cons h1 h2 _ ih => exact .cons (.lst h1 h2.dp) ih
theorem shp_rowT {r : List (List Int)} : Shp 2 (dRowT r) := shp_list (shpa_map fun _ _ => shp_row)
theorem St.only (G : St E F H L) (m : (a, o) ∈ L) : St E F H [(a, o)] := ⟨G.bh, G.fh, G.ff, G.pr, fun x hx => by rw [List.mem_singleton.mp hx]; exact G.own _ m, by simp⟩
/-- rows that are owned, with what stands in them frozen -/
theorem RowsLT.own {bs : List Addr} (e : Same F H) (h : RowsR K F as bss rs) (hl : bs.length = bss.length) (ho : ∀ x ∈ rowV bs (bss.map rv), H x.1 = some x.2) : RowsLT K H bs rs := by
  induction h generalizing bs with
  | nil => cases bs with
    | nil => exact .nil
    | cons _ _ => cases hl
  | cons h1 h2 _ ih => cases bs with
    | nil => cases hl
    | cons b bs => exact .cons (SqL.of (ho _ List.mem_cons_self)) (h2.mono e) (ih (by simpa using hl) fun x hx => ho x (List.mem_cons_of_mem _ hx))
theorem Mok.no {m o l : Int} {os : List Int} {rs : List (List (List Int))} {r : List (List Int)} (hr : r ∈ rs) (h : (r.length : Int) ≠ m) : ¬ Mok m o l os rs := fun w => h (w.rr r hr).1
end
end SL

set_option Elab.async false
set_option linter.all false
set_option maxRecDepth 100000
set_option maxHeartbeats 4000000
namespace L2
open PySem PySem.Spec PyProof.Rows
/-! ## every so many items of a tuple -/
theorem vals_places {xs : List V} {us : List Value} (h : Vals xs us) : ∀ js : List Nat, Vals (js.filterMap (xs[·]?)) (js.filterMap (us[·]?))
  | [] => .nil
  | j :: js => by
    have ih := vals_places h js
    cases hx : xs[j]? with
    | some x =>
      obtain ⟨u, hu, ru⟩ := h.get hx
      simp only [List.filterMap_cons, hx, hu]
      exact .cons ru ih
    | none =>
      have hu : us[j]? = none := by
        rw [List.getElem?_eq_none_iff] at hx ⊢
        rw [← h.length]; exact hx
      simp only [List.filterMap_cons, hx, hu]
      exact ih
def jsOf (l m c : Nat) : List Nat := (List.range c).map fun k => l + k * m
theorem places_step {l m c : Nat} (hl : l < m) (hc : 0 < c) : Builtin.Slice.slicePlaces (l : Int) ((c * m : Nat) : Int) (m : Int) = c := by
  unfold Builtin.Slice.slicePlaces
  have h1 : (m : Int) > 0 := by omega
  have h2 : (l : Int) < ((c * m : Nat) : Int) := by
    have : 1 * m ≤ c * m := Nat.mul_le_mul_right m hc
    omega
  rw [if_pos h1, if_pos h2]
  obtain ⟨d, rfl⟩ : ∃ d, c = d + 1 := ⟨c - 1, by omega⟩
  have e : (((d + 1) * m : Nat) : Int) - (l : Int) - 1 = (m - 1 - l : Nat) + (m : Int) * (d : Int) := by
    rw [Nat.add_mul, Nat.one_mul, Int.natCast_add, Int.natCast_mul, Int.mul_comm]
    omega
  rw [e, Int.add_mul_ediv_left _ _ (by omega), Int.ediv_eq_zero_of_lt (by omega) (by omega)]
  omega
theorem sliceApplied_step {prog : Program} {w : World} {A : Around} {E : Value → Shared → Prop} {s : Shared} {sl : Addr} {vl vu vk : Value} {l m c : Nat} {Q : Int × Int × Nat → Shared → Prop} (hs : s.heap.IsSliceOf sl vl vu vk) (pl : IsPart vl (some (l : Int))) (pu : IsPart vu none) (pk : IsPart vk (some (m : Int))) (hl : l < m) (hc : 0 < c)
    (h : Q ((l : Int), (m : Int), c) s) : wpAny (model prog w) A (Builtin.Slice.sliceApplied (.ref sl) (pure ((c * m : Nat) : Int))) Q E s := by
  obtain ⟨os, hos, hcs, hds⟩ := id hs
  unfold Builtin.Slice.sliceApplied Builtin.Slice.sliceFields
  refine wpAny_bind (wpAny_bind (wpAny_field hos hds (x := vl) rfl (wpAny_bind (wpAny_field hos hds (x := vu) rfl (wpAny_bind (wpAny_field hos hds (x := vk) rfl (wpAny_pure ?_)))))))
  refine wpAny_bind (HT.slicePart_ pk ?_)
  show wpAny _ _ (if (((m : Nat) : Int) == 0) = true then _ else _) _ _ s
  rw [if_neg (by intro q; have := eq_of_beq q; omega)]
  refine wpAny_bind (HT.slicePart_ pl (wpAny_bind (HT.slicePart_ pu (wpAny_bind (wpAny_pure ?_)))))
  have ha : Builtin.Slice.sliceAdjust (some (l : Int)) none (m : Int) ((c * m : Nat) : Int) = ((l : Int), ((c * m : Nat) : Int)) := by
    have h1 : ¬ ((m : Int) < 0) := by omega
    have h2 : (l : Int) ≤ ((c * m : Nat) : Int) := by
      have : 1 * m ≤ c * m := Nat.mul_le_mul_right m hc
      omega
    unfold Builtin.Slice.sliceAdjust
    simp only [h1, if_false]
    refine Prod.ext ?_ rfl
    show (if (l : Int) < 0 then max ((l : Int) + ((c * m : Nat) : Int)) 0 else min (l : Int) ((c * m : Nat) : Int)) = (l : Int)
    rw [if_neg (by omega)]
    omega
  show wpAny _ _ (match Builtin.Slice.sliceAdjust (some (l : Int)) none (m : Int) ((c * m : Nat) : Int) with | (lo, hi) => pure (lo, (m : Int), Builtin.Slice.slicePlaces lo hi (m : Int))) _ _ s
  rw [ha]
  show wpAny _ _ (pure ((l : Int), (m : Int), Builtin.Slice.slicePlaces (l : Int) ((c * m : Nat) : Int) (m : Int))) _ _ s
  rw [places_step hl hc]
  exact wpAny_pure h
theorem pick_step (xs : Array Value) (l m c : Nat) : ((List.range c).filterMap fun (k : Nat) => xs[((l : Int) + (k : Int) * (m : Int)).toNat]?).toArray = ((jsOf l m c).filterMap (xs.toList[·]?)).toArray := by
  unfold jsOf
  rw [List.filterMap_map]
  congr 2
  funext k
  show xs[((l : Int) + (k : Int) * (m : Int)).toNat]? = xs.toList[l + k * m]?
  rw [show ((l : Int) + (k : Int) * (m : Int)).toNat = l + k * m from by rw [← Int.natCast_mul, ← Int.natCast_add]; rfl, Array.getElem?_toList]
theorem getItem_tuple_step {prog : Program} {w : World} {A : Around} {E : Value → Shared → Prop} {s : Shared} {t sl : Addr} {items : Array Value} {vl vu vk : Value} {l m c : Nat} {Q : Value → Shared → Prop} (ht : IsTup s.heap t items) (hs : s.heap.IsSliceOf sl vl vu vk) (pl : IsPart vl (some (l : Int))) (pu : IsPart vu none) (pk : IsPart vk (some (m : Int))) (hl : l < m) (hc : 0 < c)
    (hsize : items.size = c * m) (hm : 1 < m)
    (h : Q (.ref s.heap.objs.size) { s with heap := s.heap.push { cls := .type "tuple", data := .seq ((jsOf l m c).filterMap (items.toList[·]?)).toArray } })
    (hsz : items.size ≤ sizeLine) : wpAny (model prog w) A (getItem (.ref t) (.ref sl)) Q E s := by
  have htake : sizeOk (.seq ((jsOf l m c).filterMap (items.toList[·]?)).toArray) := by
    show ((jsOf l m c).filterMap (items.toList[·]?)).toArray.size ≤ sizeLine
    rw [List.size_toArray]
    have h1 := List.length_filterMap_le (items.toList[·]?) (jsOf l m c)
    have h2 : (jsOf l m c).length = c := by unfold jsOf; simp
    have h3 : c * 1 ≤ c * m := Nat.mul_le_mul_left c (by omega)
    omega
  obtain ⟨os, hos, hcs, hds⟩ := id hs
  have hTs : s.TypeIs (.ref sl) "slice" := ⟨os, hos, hcs⟩
  unfold getItem
  try with_reducible refine wpAny_holding ?_
  first | refine wpAny_bind (wpAny_pure ?_) | skip
  refine wpAny_bind (wpAny_sequenceKey ht.typeIs (by decide) ?_)
  refine wpAny_bind (wpAny_callSpecial?_slot (name := Str.ofString "__getitem__") ht.typeIs PyProof.Rows.slot_tuple_getitem
    (wpAny_call_entry PyProof.Rows.slot_tuple_getitem ht.typeIs entry_tuple_getitem ?_ (args_tuple_getitem _ _)))
  show wpAny _ _ (Builtin.Tuple.tupleItemsOf (.ref t) >>= _) _ _ s
  refine wpAny_bind (tupleItemsOf_ ht ?_)
  refine wpAny_bind (wpAny_typeOf hTs ?_)
  rw [if_pos (by decide)]
  rw [hsize]
  refine wpAny_bind (sliceApplied_step hs pl pu pk hl hc ?_)
  have hno : ¬ (((l : Int) == 0 && (m : Int) == 1 && c == items.size) = true) := by
    intro q
    rw [Bool.and_eq_true, Bool.and_eq_true] at q
    have q1 : (m : Int) = 1 := eq_of_beq q.1.2
    omega
  rw [hsize] at hno
  show wpAny _ _ (if ((l : Int) == 0 && (m : Int) == 1 && c == c * m) = true then _ else _) _ _ s
  rw [if_neg hno, pick_step]
  first
    | exact wpAny_bind (m := Builtin.Tuple.tupleExact _) (wpAny_newObj_type (wpAny_pure ⟨_, rfl, wpAny_pure h⟩) htake)
    | exact wpAny_bind (m := Builtin.Tuple.tupleExact _) (wpAny_newObj_type (wpAny_bind (wpAny_pure (wpAny_pure ⟨_, rfl, wpAny_pure h⟩))) htake)
    | exact wpAny_bind (wpAny_bind (m := Builtin.Tuple.tupleExact _) (wpAny_newObj_type (wpAny_pure (wpAny_pure ⟨_, rfl, wpAny_pure h⟩)) htake))
    | exact wpAny_bind (wpAny_bind (m := Builtin.Tuple.tupleExact _) (wpAny_newObj_type (wpAny_pure ⟨_, rfl, wpAny_pure h⟩) htake))
end L2
namespace L2
open PySem PySem.Spec PyProof.Rows
theorem getItem_tuple_step1 {prog : Program} {w : World} {A : Around} {E : Value → Shared → Prop} {s : Shared} {t sl : Addr} {items : Array Value} {vl vu vk : Value} {c : Nat} {Q : Value → Shared → Prop} (ht : IsTup s.heap t items) (hs : s.heap.IsSliceOf sl vl vu vk) (pl : IsPart vl (some ((0 : Nat) : Int))) (pu : IsPart vu none) (pk : IsPart vk (some ((1 : Nat) : Int))) (hc : 0 < c)
    (hsize : items.size = c) (h : Q (.ref t) s) : wpAny (model prog w) A (getItem (.ref t) (.ref sl)) Q E s := by
  obtain ⟨os, hos, hcs, hds⟩ := id hs
  have hTs : s.TypeIs (.ref sl) "slice" := ⟨os, hos, hcs⟩
  unfold getItem
  try with_reducible refine wpAny_holding ?_
  first | refine wpAny_bind (wpAny_pure ?_) | skip
  refine wpAny_bind (wpAny_sequenceKey ht.typeIs (by decide) ?_)
  refine wpAny_bind (wpAny_callSpecial?_slot (name := Str.ofString "__getitem__") ht.typeIs PyProof.Rows.slot_tuple_getitem
    (wpAny_call_entry PyProof.Rows.slot_tuple_getitem ht.typeIs entry_tuple_getitem ?_ (args_tuple_getitem _ _)))
  show wpAny _ _ (Builtin.Tuple.tupleItemsOf (.ref t) >>= _) _ _ s
  refine wpAny_bind (tupleItemsOf_ ht ?_)
  refine wpAny_bind (wpAny_typeOf hTs ?_)
  rw [if_pos (by decide)]
  rw [show items.size = c * 1 from by omega]
  refine wpAny_bind (sliceApplied_step (l := 0) (m := 1) hs pl pu pk (by decide) hc ?_)
  have hyes : ((((0 : Nat) : Int)) == 0 && (((1 : Nat) : Int)) == 1 && c == c * 1) = true := by simp
  show wpAny _ _ (if ((((0 : Nat) : Int)) == 0 && (((1 : Nat) : Int)) == 1 && c == c * 1) = true then _ else _) _ _ s
  rw [if_pos hyes]
  refine wpAny_bind ?_
  show wpAny _ _ (typeOf (.ref t) >>= fun T => pure (T == .type "tuple")) _ _ s
  refine wpAny_bind (wpAny_typeOf ht.typeIs (wpAny_pure ?_))
  rw [if_pos (by decide)]
  first
    | exact wpAny_bind (wpAny_rule (wpAny_pure ⟨_, rfl, wpAny_pure h⟩))
    | exact wpAny_bind (wpAny_rule (wpAny_bind (wpAny_pure (wpAny_pure ⟨_, rfl, wpAny_pure h⟩))))
/-- t[l::m], t a tuple of c * m items, l below m -/
def rSl3 (K : PySem.W.Frag) : V → Option Int → Option Int → Hp → VK → Prop := fun x lo st H Q => ∃ (a : Addr) (xs : List V) (l m c : Nat), x = .ref a ∧ lo = some (l : Int) ∧ st = some (m : Int) ∧ SqT K H a xs ∧ (l < m ∧ 0 < c ∧ xs.length = c * m) ∧
  (m = 1 → Q (.ref a) H) ∧ (1 < m → ∀ p, H p = none → Q (.ref p) (upd H p (.tup ((jsOf l m c).filterMap (xs[·]?)))))
def tSl3 (r : V → Option Int → Option Int → Hp → VK → Prop) (te : TE) (tl tk : TO) : TE := fun σ H Q => te σ H fun x H1 => tl σ H1 fun lo H2 => tk σ H2 fun st H3 => r x lo st H3 Q
theorem pe_slice3 {X : Cx} {e : Expr} {lo : Option Expr} {ke : Expr} {te : TE} {tl tk : TO} {pos p2 : Pos} (he : PE X e te) (hl : PO X lo tl) (hk : PO X (some ke) tk) : PE X (.Subscript e (.Slice lo none (some ke) p2) pos) (tSl3 (rSl3 X.K) te tl tk) := by
  refine ⟨fun pins s σ H Q I h => ?_⟩
  refine Subscript_ (thn (he.run pins s σ H _ I h) fun v s1 ⟨x, H1, I1, r1, q1⟩ => ?_)
  refine wpAny_Slice (thn (hl.run pins s1 σ H1 _ I1 q1) fun vl s2 ⟨l, H2, I2, pl, q2⟩ => ?_)
  rw [evalPart_none]
  refine wpAny_pure ?_
  refine thn (hk.run pins s2 σ H2 _ I2 q2) fun vk s3 ⟨o2, H3, I3, pk, q3⟩ => ?_
  have I4 : Inv X pins σ H3 { s3 with heap := s3.heap.push { cls := .type "slice", data := .fields #[vl, .none, vk] } } := I3.kept (t' := s3.toks) fun b ob q => Heap.get?_push_of_some _ q
  obtain ⟨a, xs, l', m, c, rfl, rfl, rfl, hx, ⟨h1, h2, h3⟩, k1, k2⟩ := q3
  cases r1
  obtain ⟨its, r, ht, hz⟩ := I4.tuple hx
  have hlen : its.toArray.size = xs.length := by rw [List.size_toArray]; exact r.length.symm
  have hsl : Heap.IsSliceOf (Shared.heap { s3 with heap := s3.heap.push { cls := .type "slice", data := .fields #[vl, .none, vk] } }) s3.heap.objs.size vl .none vk := Heap.IsSliceOf.new ..
  show wpAny (model X.prog X.w) X.A (subscriptTail e (.Slice lo none (some ke) p2) (.ref a) (.ref s3.heap.objs.size)) (EP X pins σ Q) X.xe { s3 with heap := s3.heap.push { cls := .type "slice", data := .fields #[vl, .none, vk] } }
  refine tail_any (ops := [.ref a, .ref s3.heap.objs.size]) ht.typeIs PyProof.Rows.slot_tuple_getitem.lookup ?_ (by with_unfolding_all rfl)
  by_cases hm : m = 1
  · subst hm
    have e0 : l' = 0 := by omega
    subst e0
    exact getItem_tuple_step1 ht hsl pl .none pk h2 (by rw [hlen, h3]; omega) ⟨.ref a, H3, I4, rfl, k1 rfl⟩
  · refine getItem_tuple_step ht hsl pl .none pk h1 h2 (by rw [hlen, h3]) (by omega) ?_ (by rw [hlen]; exact hz)
    refine ⟨.ref _, _, I4.laid (t' := s3.toks) (o := .tup ((jsOf l' m c).filterMap (xs[·]?))) (fun b ob q => Heap.get?_push_of_some _ q) (Nat.le_refl _) ?_, rfl, k2 (by omega) _ (I4.hok.fresh (Nat.le_refl _))⟩
    refine ⟨?_, _, vals_places r (jsOf l' m c), IsTup.new _ _⟩
    have q1 := List.length_filterMap_le (xs[·]?) (jsOf l' m c)
    have q2 : (jsOf l' m c).length = c := by unfold jsOf; simp
    have q3 : c * 1 ≤ c * m := Nat.mul_le_mul_left c (by omega)
    omega
end L2
namespace L2
open PySem PySem.Spec PyProof.Rows
/-- a list that may be locked, and another -/
def rCatD : R2 := fun x y H Q => ∃ l b xs zs, x = .ref l ∧ y = .ref b ∧ Rd H l (.lst xs) ∧ Rd H b (.lst zs) ∧ xs.length + zs.length ≤ sizeLine ∧ ∀ p, H p = none → Q (.ref p) (upd H p (.lst (xs ++ zs)))
theorem op_catD {X : Cx} : OpR X (binaryOp .Add) rCatD := by
  intro pins s σ H x y v u Q I rx ry h
  obtain ⟨l, b, xs, zs, rfl, rfl, hH, hB, hz, q⟩ := h
  cases rx
  cases ry
  obtain ⟨z, its, n, r, e⟩ := hH.ok I.hok
  obtain ⟨z2, its2, n2, r2, e2⟩ := hB.ok I.hok
  have hl := r.length
  have hl2 := r2.length
  refine PySem.P.add_list e e2 ?_ (by rw [List.size_toArray, List.size_toArray]; omega)
  have ea : its.toArray ++ its2.toArray = (its ++ its2).toArray := by simp
  rw [ea]
  exact ⟨.ref _, _, I.lnew (t' := s.toks) (r.append r2) (by rw [List.length_append]; omega), rfl, q _ I.fresh⟩
end L2
namespace SL
open PySem L2
section

set_option hygiene false
local macro_rules | `(tactic| walk_at "m") => `(tactic| first | exact List.Mem.head _ | (refine List.Mem.tail _ ?_; walk_at "m"))
local macro_rules | `(tactic| walk_at "u") => `(tactic| first | exact Upd.head | (apply Upd.tail; walk_at "u"))
local macro_rules | `(tactic| walk_at "tk") => `(tactic| first | exact Tak.head | (apply Tak.tail; walk_at "tk"))
local macro_rules | `(tactic| walk_at "l") => `(tactic| first | assumption | exact lS (St.fh (by assumption)) (by assumption) | exact SqL.of (St.get (by assumption) (by walk_at "m")))
local macro_rules | `(tactic| walk_at "t") => `(tactic| first | assumption | exact tS (St.fh (by assumption)) (by assumption) | exact SqT.of (St.get (by assumption) (by walk_at "m")))
local macro_rules | `(tactic| walk_at "lt") => `(tactic| first | exact .inl (by walk_at "l") | exact .inr (by walk_at "t"))
local macro_rules | `(tactic| walk_at "sz") => `(tactic| first | (show _ ≤ sizeLine; decide) | exact sz (by simp) | exact szl (by simp) | exact sz (by omega) | exact szl (by omega) | exact sz (by simp; omega) | exact szl (by simp; omega))
local macro_rules | `(tactic| walk_at "c") => `(tactic| first | assumption | decide | omega)
local macro_rules | `(tactic| walk_at "g1") => `(tactic| with_reducible first
  | refine w_seq ?_ | refine w_asg ?_ | refine w_c ?_ | refine w_op ?_
  | refine r_I0 ?_ | refine w_test ?_ | refine r_b ?_ | refine w_if ?_ | refine w_cons ?_ | refine w_nil ?_
  | refine w_ret ?_ | refine w_drop ?_ | refine w_cb ?_ | refine w_call ?_ | refine w_next ?_ | refine w_tup ?_ | refine w_lst ?_ | refine w_bm ?_ | refine w_bm0 ?_
  | refine w_and ?_ | refine w_or ?_ | refine w_not ?_ | refine w_andV ?_ | refine w_orV ?_ | refine w_notV ?_ | refine w_tB ?_ | refine w_un ?_ | refine r_U ?_
  | refine w_for ?_ | refine w_iL ?_ | refine w_iT ?_ | refine w_i1 ?_ | refine w_i2 ?_ | refine w_sl ?_ | refine w_part ?_ | refine w_nopart ?_ | refine r_part ?_
  | refine r_eqI ?_ | refine r_neI ?_ | refine r_eqS ?_ | refine r_neS ?_ | refine r_eqB ?_ | refine r_neB ?_ | refine r_ifT ?_ | refine r_ifF ?_ | refine r_ifNt ?_ | refine r_ifNf ?_ | refine r_ifRN ?_ | refine r_ifNRN ?_ | refine r_ifNN ?_ | refine r_ifNNN ?_
  | refine w_ifE ?_ | refine r_int1 ?_ | refine r_int1b ?_ | refine r_isnone ?_ | refine r_notnone ?_ | refine r_max2 ?_ | refine r_min2 ?_ | refine r_ipI ?_ | refine w_tru ?_ | refine w_rs ?_
  | refine w_retN ?_ | refine w_break ?_ | refine w_cont ?_ | refine w_callS ?_ | refine w_asgG ?_ | refine w_gsub ?_ | refine w_fld ?_ | refine w_sfld ?_ | refine w_mk ?_ | refine w_lc ?_ | refine w_iSq ?_ | refine u_isint ?_ | refine w_dnew ?_ | refine w_dnotin ?_ | refine w_din ?_ | refine w_dget ?_ | refine w_dput ?_ | refine w_ckw ?_)
local macro_rules | `(tactic| walk_at "g2") => `(tactic| first
  | ((with_reducible refine' w_var ?hv ?_); (case hv => rfl)) | ((with_reducible refine' w_aug ?hv ?_); (case hv => rfl))
  | ((with_reducible show rLen _ _ _ _); refine r_len (by walk_at "lt") ?_)
  | (with_reducible refine r_I ?cnd ?_; (case cnd => first | decide | omega | assumption | (unfold CPow; decide)))
  | ((with_reducible show RTy _ _ _ _ _); refine r_tyL (by walk_at "l") ?_)
  | (with_reducible refine r_ifDT (by walk_at "c") ?_) | (with_reducible refine r_ifDF (by walk_at "c") ?_)
  | (with_reducible refine r_ifNT (by walk_at "c") ?_) | (with_reducible refine r_ifNF (by walk_at "c") ?_))
local macro_rules | `(tactic| walk_at "go") => `(tactic| repeat (first | walk_at "g1" | walk_at "g2"))

variable {n b c : L2.St → Hp → Prop} {r : VK} {σ : L2.St} {H H' : Hp} {Q : VK} {K : PySem.W.Frag} {E : En} {F F' : Hp} {L L' L1 : Led} {p a : Addr} {xs ys : List V} {ns ms : List Int} {o : HO} {te : TE} {tl tk : TO} {v : V}
theorem w_sl3 {rr : V → Option Int → Option Int → Hp → VK → Prop} (h : te σ H fun x H1 => tl σ H1 fun lo H2 => tk σ H2 fun st H3 => rr x lo st H3 Q) : tSl3 rr te tl tk σ H Q := h
/-- a dict that is a set of integers -/
def kS (ks : List Int) : List (Key × V) := ks.map fun z => (.inl z, .bl true)
theorem kS_val {ks : List Int} {z : Int} : valV (kS ks) (.inl z) = if z ∈ ks then some (.bl true) else none := by
  induction ks with
  | nil => rfl
  | cons y ks ih =>
    by_cases e : y = z
    · subst e
      rw [if_pos List.mem_cons_self]
      exact valV_pos rfl
    · show valV ((.inl y, .bl true) :: kS ks) (.inl z) = _
      rw [valV_neg (fun w => e (Sum.inl.inj w)), ih]
      by_cases m : z ∈ ks
      · rw [if_pos m, if_pos (List.mem_cons_of_mem _ m)]
      · rw [if_neg m, if_neg (fun w => by rcases List.mem_cons.mp w with q | q; exact e q.symm; exact m q)]
def addS (ks : List Int) (z : Int) : List Int := if z ∈ ks then ks else ks ++ [z]
theorem kS_put {ks : List Int} {z : Int} : putK (kS ks) (.inl z) (.bl true) = kS (addS ks z) := by
  unfold addS
  by_cases m : z ∈ ks
  · rw [if_pos m]
    unfold putK
    rw [valV_any, kS_val, if_pos m]
    show (kS ks).map _ = kS ks
    unfold kS
    rw [List.map_map]
    refine List.map_congr_left fun y _ => ?_
    show (if (Sum.inl y : Key) = .inl z then ((Sum.inl y : Key), V.bl true) else (Sum.inl y, V.bl true)) = _
    split <;> rfl
  · rw [if_neg m, putK_new (by rw [kS_val, if_neg m])]
    unfold kS
    rw [List.map_append]; rfl
theorem addS_mem {ks : List Int} {z x : Int} : x ∈ addS ks z ↔ x ∈ ks ∨ x = z := by
  unfold addS
  split
  · exact ⟨.inl, fun h => by rcases h with h | h; exact h; exact h ▸ ‹_›⟩
  · rw [List.mem_append, List.mem_singleton]
theorem addS_nodup {ks : List Int} {z : Int} (h : ks.Nodup) : (addS ks z).Nodup := by
  unfold addS
  split
  · exact h
  · rename_i m
    rw [List.nodup_append]
    exact ⟨h, by simp, fun a ha b hb e => m (by rw [List.mem_singleton.mp hb] at e; exact e ▸ ha)⟩
theorem kS_keys {ks : List Int} : (kS ks).map (fun kv => kV kv.1) = iv ks := by
  unfold kS
  rw [List.map_map]; rfl
theorem kS_len {ks : List Int} : (kS ks).length = ks.length := by unfold kS; simp
theorem r_listdK {ks : List Int} (G : St E F H L) (m : (a, HO.dK (kS ks)) ∈ L) (q : ∀ p H', St E F H' ((p, .lst (iv ks)) :: L) → Q (.ref p) H') : rListD [.ref a] H Q :=
  ⟨a, kS ks, rfl, G.get m, fun p hp => by rw [kS_keys]; exact q p _ (G.new hp)⟩
theorem r_sorted (G : St E F H L) (h : SqL K H a (iv ns)) (hl : ns.length < 64) (q : ∀ ns' p H', ns'.Perm ns → ns'.Pairwise (· ≤ ·) → St E F H' ((p, .lst (iv ns')) :: L) → Q (.ref p) H') : rSorted K [.ref a] H Q :=
  ⟨a, ns, rfl, h, hl, fun ns' p hp hs hn => q ns' p _ hp hs (G.new hn)⟩
theorem asc_of {ns ks : List Int} {n : Int} (hp : ns.Perm ks) (hs : ns.Pairwise (· ≤ ·)) (hn : ks.Nodup) (hb : ∀ x ∈ ks, 0 ≤ x ∧ x < n) : asc n (-1) ns = true := by
  refine asc_iff.mpr ⟨fun x hx => by have := hb x (hp.mem_iff.mp hx); omega, ?_⟩
  have hn' : ns.Nodup := hp.nodup_iff.mpr hn
  refine List.Pairwise.imp ?_ (hs.and hn')
  rintro x y ⟨h1, h2⟩
  have : x ≠ y := h2
  omega
theorem rv_pick {es : List Addr} : ∀ (js : List Nat), js.filterMap ((rv es)[·]?) = rv (js.filterMap (es[·]?))
  | [] => rfl
  | j :: js => by
    have e : (rv es)[j]? = (es[j]?).map V.ref := List.getElem?_map ..
    rw [List.filterMap_cons, List.filterMap_cons, e]
    cases es[j]? with
    | none => exact rv_pick js
    | some z => exact congrArg (V.ref z :: ·) (rv_pick js)
theorem Rows.pick {k : Bool} {es : List Addr} {r : List (List Int)} (h : Rows K H k es r) : ∀ (js : List Nat), Rows K H k (js.filterMap (es[·]?)) (js.filterMap (r[·]?))
  | [] => .nil
  | j :: js => by
    rw [List.filterMap_cons, List.filterMap_cons]
    cases e : es[j]? with
    | none =>
      have : r[j]? = none := by rw [List.getElem?_eq_none_iff] at e ⊢; rw [← h.len]; exact e
      rw [this]; exact h.pick js
    | some z =>
      obtain ⟨ns, h1, h2⟩ := h.at e
      rw [h1]; exact .cons h2 (h.pick js)
/-- lists that are frozen as they are -/
inductive RawL (H : Hp) : List Addr → List (List Int) → Prop
  | nil : RawL H [] []
  | cons {a as ns rs} : H a = some (.lst (iv ns)) → RawL H as rs → RawL H (a :: as) (ns :: rs)
theorem RawL.mono {as : List Addr} {rs : List (List Int)} (e : Same H H') (h : RawL H as rs) : RawL H' as rs := by
  induction h with
  | nil => exact .nil
  | cons h1 _ ih => exact .cons (e _ _ h1) ih
theorem RawL.rows {as : List Addr} {rs : List (List Int)} (h : RawL H as rs) : Rows K H true as rs := by
  induction h with
  | nil => exact .nil
  | cons h1 _ ih => exact .cons (SqL.of h1) ih
theorem RawL.len {as : List Addr} {rs : List (List Int)} (h : RawL H as rs) : as.length = rs.length := by
  induction h with
  | nil => rfl
  | cons _ _ ih => rw [List.length_cons, List.length_cons, ih]
theorem RawL.at {as : List Addr} {rs : List (List Int)} (h : RawL H as rs) : ∀ {i : Nat} {a : Addr}, as[i]? = some a → ∃ ns, rs[i]? = some ns ∧ H a = some (.lst (iv ns)) := by
  induction h with
  | nil => intro i a e; simp at e
  | cons h1 _ ih =>
    intro i a e
    cases i with
    | zero => rw [List.getElem?_cons_zero] at e; cases e; exact ⟨_, rfl, h1⟩
    | succ i => exact ih (by simpa using e)
theorem RawL.snoc {as : List Addr} {rs : List (List Int)} (h : RawL H as rs) (h2 : H a = some (.lst (iv ns))) : RawL H (as ++ [a]) (rs ++ [ns]) := by
  induction h with
  | nil => exact .cons h2 .nil
  | cons h1 _ ih => exact .cons h1 ih
inductive Raw2 (K : PySem.W.Frag) (H : Hp) : List Addr → List (List (List Int)) → Prop
  | nil : Raw2 K H [] []
  | cons {a as bs r rs} : SqL K H a (rv bs) → RawL H bs r → Raw2 K H as rs → Raw2 K H (a :: as) (r :: rs)
theorem Raw2.mono {as : List Addr} {rs : List (List (List Int))} (e : Same H H') (h : Raw2 K H as rs) : Raw2 K H' as rs := by
  induction h with
  | nil => exact .nil
  | cons h1 h2 _ ih => exact .cons (lS e h1) (h2.mono e) ih
theorem Raw2.rows {as : List Addr} {rs : List (List (List Int))} (h : Raw2 K H as rs) : Rows2 K H true as rs := by
  induction h with
  | nil => exact .nil
  | cons h1 h2 _ ih => exact .cons h1 h2.rows ih
theorem Raw2.at {as : List Addr} {rs : List (List (List Int))} (h : Raw2 K H as rs) : ∀ {i : Nat} {a : Addr}, as[i]? = some a → ∃ bs r, rs[i]? = some r ∧ SqL K H a (rv bs) ∧ RawL H bs r := by
  induction h with
  | nil => intro i a e; simp at e
  | cons h1 h2 _ ih =>
    intro i a e
    cases i with
    | zero => rw [List.getElem?_cons_zero] at e; cases e; exact ⟨_, _, rfl, h1, h2⟩
    | succ i => exact ih (by simpa using e)
theorem Raw2.snoc {as : List Addr} {bs : List Addr} {r : List (List Int)} {rs : List (List (List Int))} (h : Raw2 K H as rs) (h1 : SqL K H a (rv bs)) (h2 : RawL H bs r) : Raw2 K H (as ++ [a]) (rs ++ [r]) := by
  induction h with
  | nil => exact .cons h1 h2 .nil
  | cons q1 q2 _ ih => exact .cons q1 q2 ih
/-! ## the law's own search for a good round -/
abbrev bv (bs : List Bool) : List V := bs.map V.bl
theorem bv_len {bs : List Bool} : (bv bs).length = bs.length := List.length_map ..
theorem atI_bv {bs : List Bool} {i : Int} (h0 : 0 ≤ i) (h1 : i < bs.length) : atI (bv bs) i = some (.bl (bs.getD i.toNat false)) := by
  have e : ((i.toNat : Nat) : Int) = i := by omega
  have hlt : i.toNat < bs.length := by omega
  have g : (bv bs)[i.toNat]? = some (.bl (bs.getD i.toNat false)) := by
    rw [List.getElem?_map, List.getElem?_eq_getElem hlt, List.getD_eq_getElem?_getD, List.getElem?_eq_getElem hlt]; rfl
  have q := atI_nat g
  rw [e] at q
  exact q
theorem bv_set {bs : List Bool} {j : Nat} {z : Bool} : (bv bs).set j (.bl z) = bv (bs.set j z) := by simp [List.map_set]
def hit1 (g kept reach : List Bool) (t : Int) : Bool := kept.getD t.toNat false && (g.getD t.toNat false || reach.getD t.toNat false)
def hitM (M : List (List Int)) (g kept reach : List Bool) (k : Nat) : Bool := (M.getD k []).any (hit1 g kept reach)
def stepL (M : List (List Int)) (g kept : List Bool) (rc : List Bool × Bool) (k : Nat) : List Bool × Bool := if kept.getD k false && !(rc.1.getD k false) && hitM M g kept rc.1 k then (rc.1.set k true, true) else rc
def psL (M : List (List Int)) (g kept reach : List Bool) (j : Nat) : List Bool × Bool := ((List.range j).map fun j => M.length - 1 - j).foldl (stepL M g kept) (reach, false)
def againL (M : List (List Int)) (g kept : List Bool) : Nat → List Bool → List Bool
  | 0, reach => reach
  | f + 1, reach => if (psL M g kept reach M.length).2 then againL M g kept f (psL M g kept reach M.length).1 else (psL M g kept reach M.length).1
def turnL (M : List (List Int)) (g : List Bool) : Nat → List Bool → List Bool
  | 0, kept => kept
  | f + 1, kept => if againL M g kept (M.length + 1) (List.replicate M.length false) = kept then kept else turnL M g f (againL M g kept (M.length + 1) (List.replicate M.length false))
def LV (M : List (List Int)) (g : List Bool) (st : List Int) : Bool := st.any fun s => (turnL M g (M.length + 1) (List.replicate M.length true)).getD s.toNat false
theorem any_mem {α : Type} {p : α → Bool} {xs ys : List α} (h : ∀ t, t ∈ xs ↔ t ∈ ys) : xs.any p = ys.any p := by
  rw [Bool.eq_iff_iff, List.any_eq_true, List.any_eq_true]
  exact ⟨fun ⟨x, h1, h2⟩ => ⟨x, (h x).mp h1, h2⟩, fun ⟨x, h1, h2⟩ => ⟨x, (h x).mpr h1, h2⟩⟩
theorem LV_congr {M M' : List (List Int)} (hl : M.length = M'.length) (h : ∀ k t, t ∈ M.getD k [] ↔ t ∈ M'.getD k []) (g : List Bool) (st : List Int) : LV M g st = LV M' g st := by
  have e1 : hitM M = hitM M' := by
    funext g kept reach k
    exact any_mem (h k)
  have e2 : stepL M = stepL M' := by
    funext g kept rc k
    unfold stepL
    rw [e1]
  have e3 : psL M = psL M' := by
    funext g kept reach j
    unfold psL
    rw [e2, hl]
  have e4 : ∀ f g kept reach, againL M g kept f reach = againL M' g kept f reach := fun f => by
    induction f with
    | zero => intros; rfl
    | succ f ih =>
      intro g kept reach
      unfold againL
      rw [e3, hl, ih]
  have e5 : ∀ f g kept, turnL M g f kept = turnL M' g f kept := fun f => by
    induction f with
    | zero => intros; rfl
    | succ f ih =>
      intro g kept
      unfold turnL
      rw [e4, hl, ih]
  unfold LV
  rw [e5, hl]
end
end SL

set_option Elab.async false
set_option linter.all false
set_option maxRecDepth 100000
set_option maxHeartbeats 4000000
namespace LW
open PySem SL
open L2 hiding rLen
structure LasQ (K : PySem.W.Frag) (H : Hp) (w : Addr) (hs ls : List Int) : Prop where
  ex : ∃ h l, SqT K H w [.ref h, .ref l] ∧ (SqL K H h (iv hs) ∨ SqT K H h (iv hs)) ∧ (SqL K H l (iv ls) ∨ SqT K H l (iv ls))
theorem LasQ.of {K : PySem.W.Frag} {H : Hp} {w : Addr} {hs ls : List Int} (h : LasAt K H w hs ls) : LasQ K H w hs ls := by
  obtain ⟨a, b, h1, h2, h3⟩ := h.ex
  exact ⟨⟨a, b, h1, .inr h2, .inr h3⟩⟩

structure Ads where
  a_normal_lasso : Addr
  fd_normal_lasso : FuncData
  a_root_length : Addr
  fd_root_length : FuncData
  a_suffix : Addr
  fd_suffix : FuncData
  a_check_letters : Addr
  fd_check_letters : FuncData
  a_Machine_init : Addr
  fd_Machine_init : FuncData
  a_Machine_call : Addr
  fd_Machine_call : FuncData
  a_are_below : Addr
  fd_are_below : FuncData
  a_emitted_word : Addr
  fd_emitted_word : FuncData
  a_respond : Addr
  fd_respond : FuncData
  a_said_word : Addr
  fd_said_word : FuncData
  a__law_draws : Addr
  fd__law_draws : FuncData
  a__law_take : Addr
  fd__law_take : FuncData
  a__law_at : Addr
  fd__law_at : FuncData
  a__law_lasso : Addr
  fd__law_lasso : FuncData
  a__law_flat : Addr
  fd__law_flat : FuncData
  a__law_machine : Addr
  fd__law_machine : FuncData
  a_law : Addr
  fd_law : FuncData
  C_SynthError : Addr
  C_InvalidLetter : Addr
  C_InvalidTurn : Addr
  C_InvalidMachine : Addr
  C_Machine : Addr
  c_LEADS : Addr
structure Cl (K : PySem.W.Frag) (A : Ads) : Prop where
  cl_Machine : Cls K A.C_Machine
  na_Machine_inputs : NoAttr K A.C_Machine "inputs"
  na_Machine_outputs : NoAttr K A.C_Machine "outputs"
  na_Machine_lead : NoAttr K A.C_Machine "lead"
  na_Machine_opening : NoAttr K A.C_Machine "opening"
  na_Machine_rows : NoAttr K A.C_Machine "rows"
  ty_Machine : ∀ {H : Hp} {a dx : Addr} {fs : List (Str × V)}, H a = some (.ins A.C_Machine dx fs) → TyX K H (.ref a) (.ref A.C_Machine)
  sq_LEADS : ∀ H : Hp, SqT K H A.c_LEADS [.int (-3), .int (-2), .int (-1), .int (0), .int (1), .int (2)]
  co_Machine : CallO2 K A.C_Machine A.a_Machine_call
def sp_normal_lasso (K : PySem.W.Frag) (A : Ads) : Sp := fun vs H Q E => ∃ (F : Hp) (a b : Addr) (hs ls : List Int), vs = [.ref a, .ref b] ∧ (Same F H ∧ SqX K F H a (iv hs) ∧ SqX K F H b (iv ls) ∧ 0 < ls.length ∧ ls.length ≤ 100000 ∧ hs.length ≤ 100000 ∧ ∀ F' H' w h' l', Nf h' l' → SameW hs ls h' l' → (∀ z ∈ h', z ∈ hs) → (∀ z ∈ l', z ∈ ls) → h'.length ≤ hs.length → l'.length ≤ ls.length → LasAt K F' w h' l' → St ⟨F, H⟩ F' H' [] → Q (.ref w) H')
def sp_root_length (K : PySem.W.Frag) (A : Ads) : Sp := fun vs H Q E => ∃ (k : Bool) (a : Addr) (ns : List Int), vs = [.ref a] ∧ (SqB K H a (iv ns) k ∧ 0 < ns.length ∧ ns.length ≤ 100000 ∧ ∀ p H', IsRoot (fx ns) ns.length p → Same H H' → Q (.int (p : Nat)) H')
def sp_suffix (K : PySem.W.Frag) (A : Ads) : Sp := fun vs H Q E => ∃ (F : Hp) (w : Addr) (t : Int) (hs ls : List Int), vs = [.ref w, .int t] ∧ (Same F H ∧ LasAt K F w hs ls ∧ 0 < ls.length ∧ ls.length ≤ 1000 ∧ hs.length ≤ 1000 ∧ (t < 0 → E (.ref A.C_InvalidTurn) none H) ∧ (0 ≤ t → ∀ F' H' u h' l', l'.length ≤ ls.length → h'.length ≤ hs.length → Nf h' l' → (∀ i, wd hs ls (i + t.toNat) = wd h' l' i) → LasAt K F' u h' l' → St ⟨F, H⟩ F' H' [] → Q (.ref u) H'))
def sp_check_letters (K : PySem.W.Frag) (A : Ads) : Sp := fun vs H Q E => ∃ (w : Addr) (m : Int) (hs ls : List Int), vs = [.ref w, .int m] ∧ (LasAt K H w hs ls ∧ (∀ z ∈ hs, 0 ≤ z) ∧ (∀ z ∈ ls, 0 ≤ z) ∧ 0 < ls.length ∧ ((∀ z ∈ hs ++ ls, z < m) → Q .non H) ∧ (¬ (∀ z ∈ hs ++ ls, z < m) → E (.ref A.C_InvalidLetter) none H))
def sp_Machine_init (K : PySem.W.Frag) (A : Ads) : Sp := fun vs H Q E => ∃ (F : Hp) (x dx a b : Addr) (as : List Addr) (m o l : Int) (os : List Int) (rs : List (List (List Int))), vs = [.ref x, .int m, .int o, .int l, .ref a, .ref b] ∧ (Same F H ∧ F x = none ∧ H x = some (.ins A.C_Machine dx []) ∧ SqX K F H a (iv os) ∧ SqX K F H b (rv as) ∧ RowsX K F H as rs ∧ rs.length ≤ 1000 ∧ (∀ r ∈ rs, r.length ≤ 1000) ∧ (∀ r ∈ rs, ∀ x ∈ r, x.length = 2) ∧ (Mok m o l os rs → ∀ F' H' oa ra as', GrB x F H F' H' → H' x = some (.ins A.C_Machine dx (maF m o l oa ra)) → SqT K F' oa (iv os) → SqT K F' ra (rv as') → Rows2 K F' false as' rs → Q .non H') ∧ (¬ Mok m o l os rs → ∀ H', Same H H' → E (.ref A.C_InvalidMachine) none H'))
def sp_Machine_call (K : PySem.W.Frag) (A : Ads) : Sp := fun vs H Q E => ∃ (F : Hp) (x a : Addr) (m o l : Int) (os ns : List Int) (rs : List (List (List Int))), vs = [.ref x, .ref a] ∧ (Same F H ∧ MaAt K A.C_Machine F x m o l os rs ∧ Mok m o l os rs ∧ os.length ≤ 100 ∧ SqL K H a (iv ns) ∧ ns.length ≤ 1000 ∧ ((∀ z ∈ ns, 0 ≤ z ∧ z < m) → ∀ H' b, St ⟨F, H⟩ F H' [(b, .lst (iv (saidL os l rs (fx ns) ns.length)))] → Q (.ref b) H') ∧ (¬ (∀ z ∈ ns, 0 ≤ z ∧ z < m) → E (.ref A.C_InvalidLetter) none H))
def sp_are_below (K : PySem.W.Frag) (A : Ads) : Sp := fun vs H Q E => ∃ (k : Bool) (a : Addr) (ns : List Int) (c : Int), vs = [.ref a, .int c] ∧ (SqB K H a (iv ns) k ∧ 1 ≤ c ∧ Q (.bl (decide (∀ z ∈ ns, 0 ≤ z ∧ z < c))) H)
def sp_emitted_word (K : PySem.W.Frag) (A : Ads) : Sp := fun vs H Q E => ∃ (F : Hp) (x w : Addr) (m o l : Int) (os hs ls : List Int) (rs : List (List (List Int))), vs = [.ref x, .int 0, .ref w] ∧ (Same F H ∧ MaAt K A.C_Machine F x m o l os rs ∧ Mok m o l os rs ∧ LasAt K F w hs ls ∧ (∀ z ∈ hs, 0 ≤ z ∧ z < m) ∧ (∀ z ∈ ls, 0 ≤ z ∧ z < m) ∧ 0 < ls.length ∧ ls.length ≤ 10 ∧ hs.length ≤ 100 ∧ rs.length ≤ 10 ∧ ∀ H' t a b h' l', 0 < l'.length → l'.length ≤ 100 → h'.length ≤ 200 → (∀ i, wd h' l' i = emM rs (wd hs ls) i) → St ⟨F, H⟩ F H' [(t, .tup [.ref a, .ref b]), (b, .lst (iv l')), (a, .lst (iv h'))] → Q (.ref t) H')
def sp_respond (K : PySem.W.Frag) (A : Ads) : Sp := fun vs H Q E => ∃ (F : Hp) (x w : Addr) (m o l : Int) (os hs ls : List Int) (rs : List (List (List Int))), vs = [.ref x, .ref w] ∧ (Same F H ∧ MaAt K A.C_Machine F x m o l os rs ∧ Mok m o l os rs ∧ LasAt K F w hs ls ∧ (∀ z ∈ hs, 0 ≤ z) ∧ (∀ z ∈ ls, 0 ≤ z) ∧ 0 < ls.length ∧ ls.length ≤ 10 ∧ hs.length ≤ 100 ∧ rs.length ≤ 10 ∧ (¬ (∀ z ∈ hs ++ ls, z < m) → E (.ref A.C_InvalidLetter) none H) ∧ ((∀ z ∈ hs ++ ls, z < m) → ∀ F' H' u h' l', l'.length ≤ 100 → h'.length ≤ 300 → Nf h' l' → (∀ i, wd h' l' i = sd os l (emM rs (wd hs ls)) i) → LasAt K F' u h' l' → St ⟨F, H⟩ F' H' [] → Q (.ref u) H'))
def sp_said_word (K : PySem.W.Frag) (A : Ads) : Sp := fun vs H Q E => ∃ (F : Hp) (x a b : Addr) (m o l : Int) (os h1 l1 : List Int) (rs : List (List (List Int))) (f : Nat → Int), vs = [.ref x, .ref a, .ref b] ∧ (Same F H ∧ MaAt K A.C_Machine F x m o l os rs ∧ Mok m o l os rs ∧ F a = some (.lst (iv h1)) ∧ F b = some (.lst (iv l1)) ∧ 0 < l1.length ∧ l1.length ≤ 100 ∧ h1.length ≤ 200 ∧ (∀ i, wd h1 l1 i = f i) ∧ (∀ F' H' u h' l', l'.length ≤ 100 → h'.length ≤ 300 → Nf h' l' → (∀ i, wd h' l' i = sd os l f i) → LasAt K F' u h' l' → St ⟨F, H⟩ F' H' [] → Q (.ref u) H'))
abbrev sp__law_draws (K : PySem.W.Frag) (A : Ads) : Sp := cp_draws K
abbrev sp__law_take (K : PySem.W.Frag) (A : Ads) : Sp := cp_take K
def sp__law_at (K : PySem.W.Frag) (A : Ads) : Sp := fun vs H Q E => ∃ (w : Addr) (t : Int) (hs ls : List Int), vs = [.ref w, .int t] ∧ (LasQ K H w hs ls ∧ 0 < ls.length ∧ 0 ≤ t ∧ Q (.int (wd hs ls t.toNat)) H)
def sp__law_lasso (K : PySem.W.Frag) (A : Ads) : Sp := fun vs H Q E => ∃ (F : Hp) (p : Addr) (ds : List Int) (m mo : Int), vs = [.ref p, .int m, .int mo] ∧ (Same F H ∧ F p = none ∧ H p = some (.lst (iv ds)) ∧ Dok ds ∧ 1 ≤ m ∧ 1 ≤ mo ∧ mo ≤ 10 ∧ ∀ F' H' ds' w hs ls, Dok ds' → LasAt K F' w hs ls → (∀ z ∈ hs, 0 ≤ z ∧ z < m) → (∀ z ∈ ls, 0 ≤ z ∧ z < m) → 0 < ls.length → ls.length ≤ 10 → hs.length ≤ 10 → St ⟨F, del H p⟩ F' H' [(p, .lst (iv ds'))] → Q (.ref w) H')
def sp__law_flat (K : PySem.W.Frag) (A : Ads) : Sp := fun vs H Q E => ∃ (F : Hp) (a : Addr) (as : List Addr) (rs : List (List (List Int))), vs = [.ref a] ∧ (Same F H ∧ SqL K F a (rv as) ∧ RowsLT K F as rs ∧ rs.length ≤ 1000 ∧ ∀ F' H' b bs, SqL K F' b (rv bs) → RowsLT K F' bs rs → St ⟨F, H⟩ F' H' [] → Q (.ref b) H')
def sp__law_machine (K : PySem.W.Frag) (A : Ads) : Sp := fun vs H Q E => ∃ (F : Hp) (p : Addr) (ds : List Int) (m o l mo : Int), vs = [.ref p, .int m, .int o, .int l, .int mo] ∧ (Same F H ∧ F p = none ∧ H p = some (.lst (iv ds)) ∧ Dok ds ∧ 1 ≤ m ∧ m ≤ 20 ∧ 1 ≤ o ∧ -3 ≤ l ∧ l ≤ 2 ∧ 1 ≤ mo ∧ mo ≤ 10 ∧ ∀ F' H' t a b ds' bs os rs, Dok ds' → Mok m o l os rs → (∀ r ∈ rs, ∀ x ∈ r, x.length = 2) → (rs.length : Int) ≤ mo → SqT K F' t [.ref a, .ref b] → SqL K F' a (iv os) → SqL K F' b (rv bs) → RowsLT K F' bs rs → St ⟨F, del H p⟩ F' H' [(p, .lst (iv ds'))] → Q (.ref t) H')
abbrev sp_law (K : PySem.W.Frag) (A : Ads) : Sp := spL K
def t_normal_lasso (K : PySem.W.Frag) (A : Ads) (E : XK) : TS := (tSeq (tAsg (tCB (rTupOf K) (tCons (tSl (rSlQ K) (tVar 1) tNoPart (tPart (tCall (sp_root_length K A) [] E0 (tCons (tVar 1) tNil)))) tNil)) (gName 2))
 (tSeq (tAsg (tCB (rLen K) (tCons (tVar 2) tNil)) (gName 3))
 (tSeq (tAsg (tCB (rLen K) (tCons (tVar 0) tNil)) (gName 4))
 (tSeq (tAsg (tC (.int (0))) (gName 5))
 (tSeq (tWhile (tAnd (tTest (tOp rGtI (tVar 4) (tC (.int (0))))) (tTest (tOp rEq (tOp (rIx K) (tVar 0) (tOp rSubI (tVar 4) (tC (.int (1))))) (tOp (rIxT K) (tVar 2) (tOp rModI (tOp rSubI (tOp rSubI (tVar 3) (tC (.int (1)))) (tVar 5)) (tVar 3)))))) (tSeq (tAug 4 (tC (.int (1))) iSubI)
 (tAug 5 (tC (.int (1))) iAddI)))
 (tSeq (tAsg (tOp rSubI (tVar 3) (tOp rModI (tVar 5) (tVar 3))) (gName 6))
 (tRet (tTup (tCons (tCB (rTupOf K) (tCons (tSl (rSlQ K) (tVar 0) tNoPart (tPart (tVar 4))) tNil)) (tCons (tOp (rCatA K) (tSl (rSlA K) (tVar 2) (tPart (tVar 6)) tNoPart) (tSl (rSlA K) (tVar 2) tNoPart (tPart (tVar 6)))) tNil))))))))))
def t_root_length (K : PySem.W.Frag) (A : Ads) (E : XK) : TS := (tSeq (tAsg (tCB (rLen K) (tCons (tVar 0) tNil)) (gName 1))
 (tSeq (tAsg (tOp rRep (tLst (tCons (tC (.int (0))) tNil)) (tVar 1)) (gName 2))
 (tSeq (tAsg (tC (.int (0))) (gName 3))
 (tSeq (tFor (iRng2 (tCons (tC (.int (1))) (tCons (tVar 1) tNil))) (gName 4) (tSeq (tWhile (tAnd (tTest (tOp rGtI (tVar 3) (tC (.int (0))))) (tTest (tOp rNe (tOp (rIx K) (tVar 0) (tVar 4)) (tOp (rIx K) (tVar 0) (tVar 3))))) (tAsg (tOp (rIxL K) (tVar 2) (tOp rSubI (tVar 3) (tC (.int (1))))) (gName 3)))
 (tSeq (tIfS (tTest (tOp rEq (tOp (rIx K) (tVar 0) (tVar 4)) (tOp (rIx K) (tVar 0) (tVar 3)))) (tAug 3 (tC (.int (1))) iAddI) tNext)
 (tAsg (tVar 3) (gSub (tVar 2) (tVar 4) rSetL)))))
 (tSeq (tAsg (tOp rSubI (tVar 1) (tOp (rIxL K) (tVar 2) (tOp rSubI (tVar 1) (tC (.int (1)))))) (gName 5))
 (tRet (tIf (tTest (tOp rEq (tOp rModI (tVar 1) (tVar 5)) (tC (.int (0))))) (tVar 5) (tVar 1))))))))
def t_suffix (K : PySem.W.Frag) (A : Ads) (E : XK) : TS := (tSeq (tIfS (tTest (tOp rLtI (tVar 1) (tC (.int (0))))) (tRs A.C_InvalidTurn E) tNext)
 (tSeq (tAsg (tVar 0) (gTup K 2 (gCons (gName 2) (gCons (gName 3) gNil))))
 (tSeq (tIfS (tTest (tOp rLeI (tVar 1) (tCB (rLen K) (tCons (tVar 2) tNil)))) (tRet (tCall (sp_normal_lasso K A) [] E0 (tCons (tSl (rSlA K) (tVar 2) (tPart (tVar 1)) tNoPart) (tCons (tVar 3) tNil)))) tNext)
 (tSeq (tAsg (tOp rModI (tOp rSubI (tVar 1) (tCB (rLen K) (tCons (tVar 2) tNil))) (tCB (rLen K) (tCons (tVar 3) tNil))) (gName 4))
 (tRet (tCall (sp_normal_lasso K A) [] E0 (tCons (tTup tNil) (tCons (tOp (rCatA K) (tSl (rSlA K) (tVar 3) (tPart (tVar 4)) tNoPart) (tSl (rSlA K) (tVar 3) tNoPart (tPart (tVar 4)))) tNil))))))))
def t_check_letters (K : PySem.W.Frag) (A : Ads) (E : XK) : TS := (tSeq (tAsg (tVar 0) (gTup K 2 (gCons (gName 2) (gCons (gName 3) gNil))))
 (tIfS (tOr (tTest (tOp rGeI (tCB (rB_max K) (tCons (tVar 3) tNil)) (tVar 1))) (tTest (tOp rGeI (tCKw (rD_max K) (tCons (tVar 2) tNil) (tCons (tC (.int (0))) tNil)) (tVar 1)))) (tRs A.C_InvalidLetter E) tNext))
def t_Machine_init (K : PySem.W.Frag) (A : Ads) (E : XK) : TS := (tSeq (tIfS (tOr (tTest (tOp rLtI (tVar 1) (tC (.int (1))))) (tOr (tTest (tOp rLtI (tVar 2) (tC (.int (1))))) (tTest (tOp (rIn K true) (tVar 3) (tC (.ref A.c_LEADS)))))) (tRs A.C_InvalidMachine E) tNext)
 (tSeq (tIfS (tOr (tTest (tOp rNe (tCB (rLen K) (tCons (tVar 4) tNil)) (tCB rMax2 (tCons (tC (.int (0))) (tCons (tUn rNegI (tVar 3)) tNil))))) (tNot (tB (tCall (sp_are_below K A) [] E0 (tCons (tVar 4) (tCons (tVar 2) tNil)))))) (tRs A.C_InvalidMachine E) tNext)
 (tSeq (tIfS (tTest (tOp rEq (tCB (rLen K) (tCons (tVar 5) tNil)) (tC (.int (0))))) (tRs A.C_InvalidMachine E) tNext)
 (tSeq (tFor (iSeq K (tVar 5)) (gName 6) (tSeq (tIfS (tTest (tOp rNe (tCB (rLen K) (tCons (tVar 6) tNil)) (tVar 1))) (tRs A.C_InvalidMachine E) tNext)
 (tSeq (tIfS (tNot (tB (tCall (sp_are_below K A) [] E0 (tCons (tLc (iSeq K (tVar 6)) (gName 7) tYes (tOp (rIx K) (tVar 7) (tC (.int (0)))) [7]) (tCons (tCB (rLen K) (tCons (tVar 5) tNil)) tNil))))) (tRs A.C_InvalidMachine E) tNext)
 (tIfS (tNot (tB (tCall (sp_are_below K A) [] E0 (tCons (tLc (iSeq K (tVar 6)) (gName 7) tYes (tOp (rIx K) (tVar 7) (tC (.int (1)))) [7]) (tCons (tVar 2) tNil))))) (tRs A.C_InvalidMachine E) tNext))))
 (tSeq (sFld K (tVar 0) (tVar 1) "inputs")
 (tSeq (sFld K (tVar 0) (tVar 2) "outputs")
 (tSeq (sFld K (tVar 0) (tVar 3) "lead")
 (tSeq (sFld K (tVar 0) (tCB (rTupOf K) (tCons (tVar 4) tNil)) "opening")
 (sFld K (tVar 0) (tCB (rTupOf K) (tCons (tLc (iSeq K (tVar 5)) (gName 6) tYes (tCB (rTupOf K) (tCons (tLc (iSeq K (tVar 6)) (gName 7) tYes (tCB (rTupOf K) (tCons (tVar 7) tNil)) [7]) tNil)) [6]) tNil)) "rows")))))))))
def t_Machine_call (K : PySem.W.Frag) (A : Ads) (E : XK) : TS := (tSeq (tIfS (tNot (tB (tCall (sp_are_below K A) [] E0 (tCons (tVar 1) (tCons (tFld K (tVar 0) "inputs") tNil))))) (tRs A.C_InvalidLetter E) tNext)
 (tSeq (tAsg (tCB (rListOf K) (tCons (tFld K (tVar 0) "opening") tNil)) (gName 2))
 (tSeq (tAsg (tC (.int (0))) (gName 3))
 (tSeq (tFor (iEnum K (tCons (tVar 1) tNil)) (gTup K 2 (gCons (gName 4) (gCons (gName 5) gNil))) (tSeq (tAsg (tOp (rIxT K) (tOp (rIxT K) (tFld K (tVar 0) "rows") (tVar 3)) (tVar 5)) (gTup K 2 (gCons (gName 3) (gCons (gName 6) gNil))))
 (tIfS (tTest (tOp rGeI (tVar 4) (tFld K (tVar 0) "lead"))) (tDrop (tBM K "list" rAppend (tVar 2) (tCons (tVar 6) tNil))) tNext)))
 (tRet (tVar 2))))))
def t_are_below (K : PySem.W.Frag) (A : Ads) (E : XK) : TS := (tRet (tAndV (tOp rGeI (tCKw (rD_min K) (tCons (tVar 0) tNil) (tCons (tC (.int (0))) tNil)) (tC (.int (0)))) (tOp rLtI (tCKw (rD_max K) (tCons (tVar 0) tNil) (tCons (tC (.int (0))) tNil)) (tVar 1))))
def t_emitted_word (K : PySem.W.Frag) (A : Ads) (E : XK) : TS := (tSeq (tAsg (tVar 2) (gTup K 2 (gCons (gName 3) (gCons (gName 4) gNil))))
 (tSeq (tAsg (tLst tNil) (gName 5))
 (tSeq (tFor (iTup K (tVar 3)) (gName 6) (tSeq (tAsg (tOp (rIxT K) (tOp (rIxT K) (tFld K (tVar 0) "rows") (tVar 1)) (tVar 6)) (gTup K 2 (gCons (gName 1) (gCons (gName 7) gNil))))
 (tDrop (tBM K "list" rAppend (tVar 5) (tCons (tVar 7) tNil)))))
 (tSeq (tAsg tDNewK (gName 8))
 (tSeq (tWhile (tB (tDNotIn (tVar 1) (tVar 8))) (tSeq (sDPut (tVar 8) (tVar 1) (tCB (rLen K) (tCons (tVar 5) tNil)))
 (tFor (iTup K (tVar 4)) (gName 6) (tSeq (tAsg (tOp (rIxT K) (tOp (rIxT K) (tFld K (tVar 0) "rows") (tVar 1)) (tVar 6)) (gTup K 2 (gCons (gName 1) (gCons (gName 7) gNil))))
 (tDrop (tBM K "list" rAppend (tVar 5) (tCons (tVar 7) tNil)))))))
 (tRet (tTup (tCons (tSl (rSlL K) (tVar 5) tNoPart (tPart (tDGet (tVar 8) (tVar 1)))) (tCons (tSl (rSlL K) (tVar 5) (tPart (tDGet (tVar 8) (tVar 1))) tNoPart) tNil)))))))))
def t_respond (K : PySem.W.Frag) (A : Ads) (E : XK) : TS := (tSeq (tDrop (tCall (sp_check_letters K A) [] E (tCons (tVar 1) (tCons (tFld K (tVar 0) "inputs") tNil))))
 (tSeq (tAsg (tCall (sp_emitted_word K A) [] E0 (tCons (tVar 0) (tCons (tC (.int (0))) (tCons (tVar 1) tNil)))) (gTup K 2 (gCons (gName 2) (gCons (gName 3) gNil))))
 (tRet (tCall (sp_said_word K A) [] E0 (tCons (tVar 0) (tCons (tVar 2) (tCons (tVar 3) tNil)))))))
def t_said_word (K : PySem.W.Frag) (A : Ads) (E : XK) : TS := (tSeq (tIfS (tTest (tOp rGtI (tFld K (tVar 0) "lead") (tC (.int (0))))) (tRet (tCall (sp_suffix K A) [] E0 (tCons (tTup (tCons (tCB (rTupOf K) (tCons (tVar 1) tNil)) (tCons (tCB (rTupOf K) (tCons (tVar 2) tNil)) tNil))) (tCons (tFld K (tVar 0) "lead") tNil)))) tNext)
 (tRet (tCall (sp_normal_lasso K A) [] E0 (tCons (tOp rCatD (tCB (rListOf K) (tCons (tFld K (tVar 0) "opening") tNil)) (tVar 1)) (tCons (tVar 2) tNil)))))
def t__law_draws (K : PySem.W.Frag) (A : Ads) (E : XK) : TS := (tSeq (tAsg (tCB (rListOf K) (tCons (tVar 0) tNil)) (gName 2))
 (tSeq (tIfS (tTest (tOp rEq (tCB (rLen K) (tCons (tVar 2) tNil)) (tC (.int (0))))) (tAsg (tLst (tCons (tC (.int (7))) tNil)) (gName 2)) tNext)
 (tSeq (tAsg (tLst tNil) (gName 3))
 (tSeq (tAsg (tC (.int (12345))) (gName 4))
 (tSeq (tFor (iRng1 (tCons (tVar 1) tNil)) (gName 5) (tSeq (tAsg (tOp rModI (tVar 5) (tCB (rLen K) (tCons (tVar 2) tNil))) (gName 6))
 (tSeq (tAsg (tOp (rIxL K) (tVar 2) (tVar 6)) (gName 7))
 (tSeq (tAsg (tOp rModI (tCB rInt1 (tCons (tOp rAddI (tOp rAddI (tOp rAddI (tOp rMulI (tVar 4) (tC (.int (48271)))) (tOp rMulI (tOp rModI (tCB rInt1 (tCons (tVar 7) tNil)) (tC (.int (1000003)))) (tC (.int (69621))))) (tOp rMulI (tVar 5) (tC (.int (7919))))) (tC (.int (11)))) tNil)) (tC (.int (2147483647)))) (gName 4))
 (tSeq (tAsg (tOp rModI (tCB rInt1 (tCons (tOp rAddI (tOp rAddI (tOp rMulI (tVar 4) (tVar 4)) (tOp rMulI (tC (.int (31))) (tVar 4))) (tVar 5)) tNil)) (tC (.int (1000003)))) (gName 8))
 (tIfS (tTest (tOp rGeI (tVar 7) (tOp rPowI (tC (.int (10))) (tC (.int (18)))))) (tSeq (tDrop (tBM K "list" rAppend (tVar 3) (tCons (tOp rModI (tCB rInt1 (tCons (tVar 7) tNil)) (tC (.int (1000)))) tNil)))
 (tAsg (tOp rDivI (tVar 7) (tC (.int (1000)))) (gSub (tVar 2) (tVar 6) rSetL))) (tDrop (tBM K "list" rAppend (tVar 3) (tCons (tOp rModI (tCB rInt1 (tCons (tVar 8) tNil)) (tC (.int (1000)))) tNil)))))))))
 (tSeq (tDrop (tBM0 K "list" rReverse (tVar 3)))
 (tRet (tVar 3))))))))
def t__law_take (K : PySem.W.Frag) (A : Ads) (E : XK) : TS := (tSeq (tIfS (tTest (tOp rEq (tCB (rLen K) (tCons (tVar 0) tNil)) (tC (.int (0))))) (tRet (tC (.int (0)))) tNext)
 (tRet (tOp rModI (tCB rInt1 (tCons (tBM0 K "list" rPop (tVar 0)) tNil)) (tVar 1))))
def t__law_at (K : PySem.W.Frag) (A : Ads) (E : XK) : TS := (tSeq (tIfS (tTest (tOp rLtI (tVar 1) (tCB (rLen K) (tCons (tOp (rIxT K) (tVar 0) (tC (.int (0)))) tNil)))) (tRet (tOp (rIx K) (tOp (rIxT K) (tVar 0) (tC (.int (0)))) (tVar 1))) tNext)
 (tRet (tOp (rIx K) (tOp (rIxT K) (tVar 0) (tC (.int (1)))) (tOp rModI (tCB rInt1 (tCons (tOp rSubI (tVar 1) (tCB (rLen K) (tCons (tOp (rIxT K) (tVar 0) (tC (.int (0)))) tNil))) tNil)) (tCB (rLen K) (tCons (tOp (rIxT K) (tVar 0) (tC (.int (1)))) tNil))))))
def t__law_lasso (K : PySem.W.Frag) (A : Ads) (E : XK) : TS := (tSeq (tAsg (tLc (iRng1 (tCons (tCall (sp__law_take K A) [] E0 (tCons (tVar 0) (tCons (tOp rAddI (tVar 2) (tC (.int (1)))) tNil))) tNil)) (gName 3) tYes (tCall (sp__law_take K A) [] E0 (tCons (tVar 0) (tCons (tVar 1) tNil))) [3]) (gName 4))
 (tSeq (tAsg (tLc (iRng1 (tCons (tOp rAddI (tC (.int (1))) (tCall (sp__law_take K A) [] E0 (tCons (tVar 0) (tCons (tVar 2) tNil)))) tNil)) (gName 3) tYes (tCall (sp__law_take K A) [] E0 (tCons (tVar 0) (tCons (tVar 1) tNil))) [3]) (gName 5))
 (tRet (tTup (tCons (tCB (rTupOf K) (tCons (tVar 4) tNil)) (tCons (tCB (rTupOf K) (tCons (tVar 5) tNil)) tNil))))))
def t__law_flat (K : PySem.W.Frag) (A : Ads) (E : XK) : TS := (tRet (tLc (iList K (tVar 0)) (gName 1) tYes (tCB (rListOf K) (tCons (tVar 1) tNil)) [1]))
def t__law_machine (K : PySem.W.Frag) (A : Ads) (E : XK) : TS := (tSeq (tAsg (tOp rAddI (tC (.int (1))) (tCall (sp__law_take K A) [] E0 (tCons (tVar 0) (tCons (tVar 4) tNil)))) (gName 5))
 (tSeq (tAsg (tLc (iRng1 (tCons (tCB rMax2 (tCons (tC (.int (0))) (tCons (tUn rNegI (tVar 3)) tNil))) tNil)) (gName 6) tYes (tCall (sp__law_take K A) [] E0 (tCons (tVar 0) (tCons (tVar 2) tNil))) [6]) (gName 7))
 (tSeq (tAsg (tLst tNil) (gName 8))
 (tSeq (tFor (iRng1 (tCons (tVar 5) tNil)) (gName 9) (tSeq (tAsg (tLst tNil) (gName 10))
 (tSeq (tFor (iRng1 (tCons (tVar 1) tNil)) (gName 11) (tSeq (tAsg (tCall (sp__law_take K A) [] E0 (tCons (tVar 0) (tCons (tVar 5) tNil))) (gName 12))
 (tDrop (tBM K "list" rAppend (tVar 10) (tCons (tTup (tCons (tVar 12) (tCons (tCall (sp__law_take K A) [] E0 (tCons (tVar 0) (tCons (tVar 2) tNil))) tNil))) tNil)))))
 (tDrop (tBM K "list" rAppend (tVar 8) (tCons (tVar 10) tNil))))))
 (tRet (tTup (tCons (tVar 7) (tCons (tVar 8) tNil))))))))
def t_law_13 (K : PySem.W.Frag) (A : Ads) (E : XK) : TS := (tSeq (tAsg (tCallO2 A.C_Machine (sp_Machine_call K A) E0 (tVar 7) (tCons (tVar 9) tNil)) (gName 15))
 (tSeq (tFor (iRng1 (tCons (tCB (rLen K) (tCons (tVar 15) tNil)) tNil)) (gName 14) (tIfS (tTest (tOp rNe (tOp (rIxL K) (tVar 15) (tVar 14)) (tCall (sp__law_at K A) [] E0 (tCons (tVar 12) (tCons (tVar 14) tNil))))) (tRet (tC (.bl false))) tNext))
 (tRet (tOp rEq (tCB (rLen K) (tCons (tVar 15) tNil)) (tCB rMax2 (tCons (tC (.int (0))) (tCons (tOp rSubI (tCB (rLen K) (tCons (tVar 9) tNil)) (tVar 4)) tNil)))))))
def t_law_11 (K : PySem.W.Frag) (A : Ads) (E : XK) : TS := (tSeq (tFor (iRng1 (tCons (tCB rMax2 (tCons (tC (.int (0))) (tCons (tOp rSubI (tCB (rLen K) (tCons (tVar 9) tNil)) (tVar 4)) tNil))) tNil)) (gName 14) (tIfS (tTest (tOp rNe (tCall (sp__law_at K A) [] E0 (tCons (tVar 12) (tCons (tVar 14) tNil))) (tCall (sp__law_at K A) [] E0 (tCons (tVar 13) (tCons (tVar 14) tNil))))) (tRet (tC (.bl false))) tNext))
 (tSeq (tFor (iRng1 (tCons (tCB (rLen K) (tCons (tVar 5) tNil)) tNil)) (gName 14) (tIfS (tOr (tTest (tOp rNe (tCall (sp__law_at K A) [] E0 (tCons (tVar 12) (tCons (tVar 14) tNil))) (tOp (rIxL K) (tVar 5) (tVar 14)))) (tTest (tOp rNe (tCall (sp__law_at K A) [] E0 (tCons (tVar 13) (tCons (tVar 14) tNil))) (tOp (rIxL K) (tVar 5) (tVar 14))))) (tRet (tC (.bl false))) tNext))
 (t_law_13 K A E)))
def t_law_9 (K : PySem.W.Frag) (A : Ads) (E : XK) : TS := (tSeq (tAsg (tCall (sp_respond K A) [] E0 (tCons (tVar 7) (tCons (tTup (tCons (tOp (rCatA K) (tCB (rTupOf K) (tCons (tVar 9) tNil)) (tOp (rIxT K) (tVar 10) (tC (.int (0))))) (tCons (tOp (rIxT K) (tVar 10) (tC (.int (1)))) tNil))) tNil))) (gName 12))
 (tSeq (tAsg (tCall (sp_respond K A) [] E0 (tCons (tVar 7) (tCons (tTup (tCons (tOp (rCatA K) (tCB (rTupOf K) (tCons (tVar 9) tNil)) (tOp (rIxT K) (tVar 11) (tC (.int (0))))) (tCons (tOp (rIxT K) (tVar 11) (tC (.int (1)))) tNil))) tNil))) (gName 13))
 (t_law_11 K A E)))
def t_law_6 (K : PySem.W.Frag) (A : Ads) (E : XK) : TS := (tSeq (tAsg (tLc (iRng1 (tCons (tCall (sp__law_take K A) [] E0 (tCons (tVar 1) (tCons (tC (.int (7))) tNil))) tNil)) (gName 8) tYes (tCall (sp__law_take K A) [] E0 (tCons (tVar 1) (tCons (tVar 2) tNil))) [8]) (gName 9))
 (tSeq (tAsg (tCall (sp__law_lasso K A) [] E0 (tCons (tVar 1) (tCons (tVar 2) (tCons (tC (.int (3))) tNil)))) (gName 10))
 (tSeq (tAsg (tCall (sp__law_lasso K A) [] E0 (tCons (tVar 1) (tCons (tVar 2) (tCons (tC (.int (3))) tNil)))) (gName 11))
 (t_law_9 K A E))))
def t_law_5 (K : PySem.W.Frag) (A : Ads) (E : XK) : TS := (tSeq (tAsg (tMake A.C_Machine (sp_Machine_init K A) [] E0 (tCons (tVar 2) (tCons (tVar 3) (tCons (tVar 4) (tCons (tCB (rListOf K) (tCons (tVar 5) tNil)) (tCons (tCall (sp__law_flat K A) [] E0 (tCons (tVar 6) tNil)) tNil)))))) (gName 7))
 (t_law_6 K A E))
def t_law (K : PySem.W.Frag) (A : Ads) (E : XK) : TS := (tSeq (tAsg (tCall (sp__law_draws K A) [] E0 (tCons (tVar 0) (tCons (tC (.int (150))) tNil))) (gName 1))
 (tSeq (tAsg (tOp rAddI (tC (.int (2))) (tCall (sp__law_take K A) [] E0 (tCons (tVar 1) (tCons (tC (.int (2))) tNil)))) (gName 2))
 (tSeq (tAsg (tOp rAddI (tC (.int (1))) (tCall (sp__law_take K A) [] E0 (tCons (tVar 1) (tCons (tC (.int (3))) tNil)))) (gName 3))
 (tSeq (tAsg (tOp rSubI (tCall (sp__law_take K A) [] E0 (tCons (tVar 1) (tCons (tC (.int (6))) tNil))) (tC (.int (3)))) (gName 4))
 (tSeq (tAsg (tCall (sp__law_machine K A) [] E0 (tCons (tVar 1) (tCons (tVar 2) (tCons (tVar 3) (tCons (tVar 4) (tCons (tC (.int (4))) tNil)))))) (gTup K 2 (gCons (gName 5) (gCons (gName 6) gNil))))
 (t_law_5 K A E))))))

section

set_option hygiene false
local macro_rules | `(tactic| walk_at "m") => `(tactic| first | exact List.Mem.head _ | (refine List.Mem.tail _ ?_; walk_at "m"))
local macro_rules | `(tactic| walk_at "u") => `(tactic| first | exact Upd.head | (apply Upd.tail; walk_at "u"))
local macro_rules | `(tactic| walk_at "tk") => `(tactic| first | exact Tak.head | (apply Tak.tail; walk_at "tk"))
local macro_rules | `(tactic| walk_at "l") => `(tactic| first | assumption | exact lS (St.fh (by assumption)) (by assumption) | exact SqL.of (St.get (by assumption) (by walk_at "m")))
local macro_rules | `(tactic| walk_at "t") => `(tactic| first | assumption | exact tS (St.fh (by assumption)) (by assumption) | exact SqT.of (St.get (by assumption) (by walk_at "m")))
local macro_rules | `(tactic| walk_at "lt") => `(tactic| first | exact .inl (by walk_at "l") | exact .inr (by walk_at "t"))
local macro_rules | `(tactic| walk_at "sz") => `(tactic| first | (show _ ≤ sizeLine; decide) | exact sz (by simp) | exact szl (by simp) | exact sz (by omega) | exact szl (by omega) | exact sz (by simp; omega) | exact szl (by simp; omega))
local macro_rules | `(tactic| walk_at "c") => `(tactic| first | assumption | decide | omega)
local macro_rules | `(tactic| walk_at "g1") => `(tactic| with_reducible first
  | refine w_seq ?_ | refine w_asg ?_ | refine w_c ?_ | refine w_op ?_
  | refine r_I0 ?_ | refine w_test ?_ | refine r_b ?_ | refine w_if ?_ | refine w_cons ?_ | refine w_nil ?_
  | refine w_ret ?_ | refine w_drop ?_ | refine w_cb ?_ | refine w_call ?_ | refine w_next ?_ | refine w_tup ?_ | refine w_lst ?_ | refine w_bm ?_ | refine w_bm0 ?_
  | refine w_and ?_ | refine w_or ?_ | refine w_not ?_ | refine w_andV ?_ | refine w_orV ?_ | refine w_notV ?_ | refine w_tB ?_ | refine w_un ?_ | refine r_U ?_
  | refine w_for ?_ | refine w_iL ?_ | refine w_iT ?_ | refine w_i1 ?_ | refine w_i2 ?_ | refine w_sl ?_ | refine w_part ?_ | refine w_nopart ?_ | refine r_part ?_
  | refine r_eqI ?_ | refine r_neI ?_ | refine r_eqS ?_ | refine r_neS ?_ | refine r_eqB ?_ | refine r_neB ?_ | refine r_ifT ?_ | refine r_ifF ?_ | refine r_ifNt ?_ | refine r_ifNf ?_ | refine r_ifRN ?_ | refine r_ifNRN ?_ | refine r_ifNN ?_ | refine r_ifNNN ?_
  | refine w_ifE ?_ | refine r_int1 ?_ | refine r_int1b ?_ | refine r_isnone ?_ | refine r_notnone ?_ | refine r_max2 ?_ | refine r_min2 ?_ | refine r_ipI ?_ | refine w_tru ?_ | refine w_rs ?_
  | refine w_retN ?_ | refine w_break ?_ | refine w_cont ?_ | refine w_callS ?_ | refine w_asgG ?_ | refine w_gsub ?_ | refine w_fld ?_ | refine w_sfld ?_ | refine w_mk ?_ | refine w_lc ?_ | refine w_iSq ?_ | refine u_isint ?_ | refine w_dnew ?_ | refine w_dnotin ?_ | refine w_din ?_ | refine w_dget ?_ | refine w_dput ?_ | refine w_ckw ?_)
local macro_rules | `(tactic| walk_at "g2") => `(tactic| first
  | ((with_reducible refine' w_var ?hv ?_); (case hv => rfl)) | ((with_reducible refine' w_aug ?hv ?_); (case hv => rfl))
  | ((with_reducible show rLen _ _ _ _); refine r_len (by walk_at "lt") ?_)
  | (with_reducible refine r_I ?cnd ?_; (case cnd => first | decide | omega | assumption | (unfold CPow; decide)))
  | ((with_reducible show RTy _ _ _ _ _); refine r_tyL (by walk_at "l") ?_)
  | (with_reducible refine r_ifDT (by walk_at "c") ?_) | (with_reducible refine r_ifDF (by walk_at "c") ?_)
  | (with_reducible refine r_ifNT (by walk_at "c") ?_) | (with_reducible refine r_ifNF (by walk_at "c") ?_))
local macro_rules | `(tactic| walk_at "go") => `(tactic| repeat (first | walk_at "g1" | walk_at "g2"))

variable {vs : List V} {H : Hp} {Q : VK} {E : XK} {K : PySem.W.Frag} {A : Ads}
theorem p__law_draws (T : Cl K A) (h : sp__law_draws K A vs H Q E) : t__law_draws K A E (D0 Q) (start ["script", "count", "cells", "found", "mixed", "k", "j", "cell", "again"] vs) H := cv_draws (E := E) h
theorem p__law_take (T : Cl K A) (h : sp__law_take K A vs H Q E) : t__law_take K A E (D0 Q) (start ["draws", "limit"] vs) H := cv_take (E := E) h
set_option hygiene false
local macro_rules | `(tactic| walk_at "kmp") => `(tactic| (
  walk_at "go"
  refine r_ixQ (xs := iv ns) (qor (qS G3.bh ha)) (atI_iv (by omega) (by omega)) ?_
  walk_at "go"
  refine r_ixQ (xs := iv ns) (qor (qS G3.bh ha)) (atI_iv (by omega) (by omega)) ?_
  walk_at "go"
  rw [e1, e2]
  refine r_ifD (fun e => ?_) (fun e => ?_)
  · walk_at "go"
    refine r_setL (xs := iv bs) G3 (ixN_of (by omega) (by rw [iv_len]; omega)) (by walk_at "u") fun H5 G5 => ?_
    rw [e1, show V.int ((b : Int) + 1) = V.int ((b + 1 : Nat) : Int) from rfl, iv_set] at G5
    exact ⟨b + 1, _, _, rfl, G5, by simp [hbl], cand_yes hC e, fun j hj => set_bd (cand_yes hC e) hbl (by omega) hbs j hj⟩
  · have hb0 : b = 0 := by
      rcases hx with z | z
      · exact z
      · exact absurd z e
    subst hb0
    walk_at "go"
    refine r_setL (xs := iv bs) G3 (ixN_of (by omega) (by rw [iv_len]; omega)) (by walk_at "u") fun H5 G5 => ?_
    rw [e1, iv_set] at G5
    exact ⟨0, _, _, rfl, G5, by simp [hbl], cand_no hC e, fun j hj => set_bd (cand_no hC e) hbl (by omega) hbs j hj⟩))
theorem set_bd {x : Nat → Int} {bs : List Int} {i b n : Nat} (h : LBd x (i + 1 + 1) b) (hl : bs.length = n) (hi : i + 1 < n) (hbs : ∀ j, j < i + 1 → ∃ b' : Nat, bs[j]? = some (b' : Int) ∧ LBd x (j + 1) b') (j : Nat) (hj : j < i + 1 + 1) : ∃ b' : Nat, (bs.set (i + 1) (b : Int))[j]? = some (b' : Int) ∧ LBd x (j + 1) b' := by
  rcases Nat.lt_succ_iff_lt_or_eq.mp hj with q | q
  · rw [List.getElem?_set_ne (by omega)]; exact hbs j q
  · subst q
    exact ⟨b, List.getElem?_set_self (by omega), h⟩
theorem p_root_length (T : Cl K A) (h : sp_root_length K A vs H Q E) : t_root_length K A E (D0 Q) (start ["loop", "size", "borders", "border", "k", "period"] vs) H := by
  obtain ⟨k, a, ns, rfl, ha, n0, n1, q⟩ := h
  have G := St.init (Same.refl H)
  unfold t_root_length
  show tSeq _ _ (D0 Q) [some (.ref a), none, none, none, none, none] H
  unfold D0
  walk_at "go"
  refine r_len (qor ha) ?_
  rw [iv_len]
  walk_at "go"
  refine r_lst G (by walk_at "sz") fun z H1 G1 => ?_
  walk_at "go"
  refine r_rep G1 (by walk_at "m") (by omega) (by omega) (sz (by simp; omega)) fun bo H2 G2 => ?_
  rw [flat_one, show ((ns.length : Int)).toNat = ns.length from by omega, show List.replicate ns.length (V.int 0) = iv (List.replicate ns.length 0) from by simp] at G2
  walk_at "go"
  refine r_i2 (by omega) ?_
  refine r_forR (fun i σ H' => ∃ (b : Nat) (bs : List Int) (v4 : Option V), σ = [some (.ref a), some (.int ns.length), some (.ref bo), some (.int b), v4, none] ∧ St ⟨H, H⟩ H H' ((bo, .lst (iv bs)) :: [(z, .lst [.int 0])]) ∧ bs.length = ns.length ∧ LBd (fx ns) (i + 1) b ∧ ∀ j, j < i + 1 → ∃ b' : Nat, bs[j]? = some (b' : Int) ∧ LBd (fx ns) (j + 1) b')
    ⟨0, _, none, rfl, G2, by simp, ⟨bd_zero (by omega), fun c hc => by have := hc.1; omega⟩, fun j hj => ⟨0, by rw [List.getElem?_replicate, if_pos (by omega)]; rfl, bd_zero (by omega), fun c hc => by have := hc.1; omega⟩⟩ ?_ ?_
  · rintro i σ H' hi ⟨b0, bs, v4, rfl, G3, hbl, hL, hbs⟩
    have e1 : (1 + (i : Int)).toNat = i + 1 := by omega
    walk_at "go"
    refine r_while (fun mm σ H'' => ∃ b : Nat, b = mm ∧ σ = [some (.ref a), some (.int ns.length), some (.ref bo), some (.int b), some (.int (1 + (i : Int))), none] ∧ H'' = H' ∧ Cand (fx ns) (i + 1) b) b0 ⟨b0, rfl, rfl, rfl, cand_of hL⟩ ?_
    rintro mm σ H'' ⟨b, rfl, rfl, rfl, hC⟩
    have hbi := hC.bd.1
    have e2 : ((b : Int)).toNat = b := by omega
    walk_at "go"
    refine r_ifD (fun h => ?_) (fun h => ?_)
    · walk_at "go"
      refine r_ixQ (xs := iv ns) (qor (qS G3.bh ha)) (atI_iv (by omega) (by omega)) ?_
      walk_at "go"
      refine r_ixQ (xs := iv ns) (qor (qS G3.bh ha)) (atI_iv (by omega) (by omega)) ?_
      walk_at "go"
      rw [e1, e2]
      refine r_wN (fun ne => ?_) (fun e0 => ?_)
      · walk_at "go"
        obtain ⟨b', hb1, hb2⟩ := hbs (b - 1) (by omega)
        rw [show b - 1 + 1 = b from by omega] at hb2
        have hat : atI (iv bs) ((b : Int) - 1) = some (.int b') := by
          rw [show (b : Int) - 1 = ((b - 1 : Nat) : Int) from by omega]
          exact atI_nat (by rw [List.getElem?_map, hb1]; rfl)
        refine r_ixL (xs := iv bs) (SqL.of (G3.get (by walk_at "m"))) hat ?_
        walk_at "go"
        exact ⟨b', hb2.bd.1, b', rfl, rfl, rfl, cand_step hC ne hb2⟩
      · have hx : b = 0 ∨ fx ns (i + 1) = fx ns b := .inr e0
        walk_at "kmp"
    · walk_at "go"
      refine r_wB ?_
      have hx : b = 0 ∨ fx ns (i + 1) = fx ns b := .inl (by omega)
      walk_at "kmp"
  rintro σ H' ⟨b, bs, v4, rfl, G3, hbl, hL, hbs⟩
  obtain ⟨b', hb1, hb2⟩ := hbs (ns.length - 1) (by omega)
  rw [show ns.length - 1 + 1 = ns.length from by omega] at hb2
  have hb3 := hb2.bd.1
  have hat : atI (iv bs) ((ns.length : Int) - 1) = some (.int b') := by
    rw [show (ns.length : Int) - 1 = ((ns.length - 1 : Nat) : Int) from by omega]
    exact atI_nat (by rw [List.getElem?_map, hb1]; rfl)
  walk_at "go"
  refine r_ixL (xs := iv bs) (SqL.of (G3.get (by walk_at "m"))) hat ?_
  walk_at "go"
  have hR := root_of n0 (lper_of hb2)
  rw [show (ns.length : Int) - (b' : Int) = ((ns.length - b' : Nat) : Int) from by omega, ← Int.natCast_emod]
  refine r_ifD (fun h => ?_) (fun h => ?_)
  · walk_at "go"
    rw [if_pos (by omega)] at hR
    exact q _ H' hR G3.bh
  · walk_at "go"
    rw [if_neg (by omega)] at hR
    exact q _ H' hR G3.bh
local macro_rules | `(tactic| walk_at "nfx") => `(tactic| (
  walk_at "go"
  obtain ⟨cut, hcut⟩ : ∃ c : Nat, (c : Int) = (ls.take p).length - (moved : Int) % (ls.take p).length := by
    have m0 : (moved : Int) % ((ls.take p).length : Int) < ((ls.take p).length : Int) := Int.emod_lt_of_pos _ (by omega)
    exact ⟨((ls.take p).length - (moved : Int) % (ls.take p).length).toNat, by omega⟩
  rw [← hcut]
  obtain ⟨f1, f2⟩ := nf_of (hs := hs) (cut := cut) hRl hRR hkm hmv hx hcut
  refine r_slX G3 ha3 fun F4 H4 t1 s4 e4 ht1 G4 => ?_
  rw [cut_to, ← List.map_take] at ht1
  walk_at "go"
  refine r_tupX G4 (ht1.mono (Same.refl _) G4.fh) fun F5 H5 t2 s5 e5 ht2 G5 => ?_
  walk_at "go"
  refine r_slAX (xs := iv (ls.take p)) G5 (tS (s4.trans s5) hrt) fun F6 H6 t3 s6 e6 ht3 G6 => ?_
  rw [cut_from, ← List.map_drop] at ht3
  walk_at "go"
  refine r_slAX (xs := iv (ls.take p)) G6 (tS ((s4.trans s5).trans s6) hrt) fun F7 H7 t4 s7 e7 ht4 G7 => ?_
  rw [cut_to, ← List.map_take] at ht4
  refine r_catAX G7 (tS s7 ht3) ht4 (sz (by have := rotL_len (ls := ls.take p) (cut := cut); unfold rotL at this; rw [List.length_append] at this; rw [iv_len, iv_len]; omega)) fun F8 H8 t5 s8 e8 ht5 G8 => ?_
  rw [← List.map_append] at ht5
  walk_at "go"
  refine r_tup G8 (by walk_at "sz") fun w H9 G9 => ?_
  obtain ⟨F10, s10, hw, G10⟩ := G9.frz Tak.head
  refine k F10 H9 w _ _ f1 (fun i => (hsame i).trans (f2 i)) (fun z hz => List.mem_of_mem_take hz) (fun z hz => ?_) (by rw [List.length_take]; omega) (by rw [rotL_len, List.length_take]; omega) ⟨⟨t2, t5, SqT.of hw, tS ((s6.trans (s7.trans s8)).trans s10) ht2, tS s10 ht5⟩⟩ G10
  rcases List.mem_append.mp hz with c | c
  · exact List.mem_of_mem_take (List.mem_of_mem_drop c)
  · exact List.mem_of_mem_take (List.mem_of_mem_take c)))
theorem isroot_take {ls : List Int} {p : Nat} (h : IsRoot (fx ls) ls.length p) (h0 : 0 < ls.length) : IsRoot (fx (ls.take p)) (ls.take p).length (ls.take p).length := by
  have hp : p ≤ ls.length := Nat.le_of_dvd h0 h.dv
  have hl : (ls.take p).length = p := by rw [List.length_take]; omega
  have hx : ∀ i, i < p → fx (ls.take p) i = fx ls i := fun i hi => by
    show (ls.take p).getD i 0 = ls.getD i 0
    rw [List.getD_eq_getElem?_getD, List.getD_eq_getElem?_getD, List.getElem?_take, if_pos hi]
  rw [hl]
  refine ⟨h.p1, Nat.dvd_refl _, per_all (Nat.le_refl _), fun q hq hd hper => h.mn q hq (Nat.dvd_trans hd h.dv) fun i hi => ?_⟩
  have e1 := per_mod h.per h.p1 _ i (Nat.le_refl _) (by omega)
  have e2 := per_mod h.per h.p1 _ (i + q) (Nat.le_refl _) hi
  have p1 := h.p1
  have hz := rI_per hq p1 hd hper (i : Int)
  rw [show (i : Int) + q = ((i + q : Nat) : Int) from by omega, ← rI_natmod p1, ← rI_natmod p1] at hz
  rw [e1, e2, ← hx _ (Nat.mod_lt _ p1), ← hx _ (Nat.mod_lt _ p1)]
  exact hz
theorem p_normal_lasso (T : Cl K A) (h : sp_normal_lasso K A vs H Q E) : t_normal_lasso K A E (D0 Q) (start ["head", "loop", "root", "size", "kept", "moved", "cut"] vs) H := by
  obtain ⟨F, a, b, hs, ls, rfl, sF, ha, hb, l0, l1, l2, k⟩ := h
  have G := St.init sF
  unfold t_normal_lasso
  show tSeq _ _ (D0 Q) [some (.ref a), some (.ref b), none, none, none, none, none] H
  unfold D0
  walk_at "go"
  obtain ⟨kb, hkb⟩ := hb.bb sF
  refine ⟨kb, b, ls, rfl, hkb, l0, l1, fun p H1 hR e => ?_⟩
  have G1 := G.grow e
  have hp : p ≤ ls.length := Nat.le_of_dvd l0 hR.dv
  have hp1 := hR.p1
  walk_at "go"
  refine r_slX G1 (hb.mono (Same.refl _) e) fun F2 H2 t s2 e2 ht G2 => ?_
  rw [cut_to, ← List.map_take] at ht
  walk_at "go"
  refine r_tupX G2 (ht.mono (Same.refl _) G2.fh) fun F3 H3 rt s3 e3 hrt G3 => ?_
  have ha3 := ha.mono (s2.trans s3) (e.trans (e2.trans e3))
  have hRR := isroot_take hR l0
  have hsame := wd_root (hs := hs) hR
  have hl : (ls.take p).length = p := by rw [List.length_take]; omega
  have hRl : 0 < (ls.take p).length := by omega
  walk_at "go"
  rw [iv_len]
  refine r_len (ha3.or G3.fh) ?_
  rw [iv_len]
  walk_at "go"
  refine r_while (fun mm σ H' => ∃ kept moved : Nat, kept = mm ∧ σ = [some (.ref a), some (.ref b), some (.ref rt), some (.int (ls.take p).length), some (.int kept), some (.int moved), none] ∧ H' = H3 ∧ kept + moved = hs.length ∧ ∀ t, t < moved → fx hs (hs.length - 1 - t) = rI (fx (ls.take p)) (ls.take p).length (-1 - (t : Int))) hs.length ⟨hs.length, 0, rfl, rfl, rfl, rfl, fun t ht => absurd ht (Nat.not_lt_zero _)⟩ ?_
  rintro mm σ H' ⟨kept, moved, rfl, rfl, rfl, hkm, hmv⟩
  have hval : ∀ z : Int, ((ls.take p).getD (z % ((ls.take p).length : Int)).toNat 0) = rI (fx (ls.take p)) (ls.take p).length z := fun z => rfl
  walk_at "go"
  refine r_ifD (fun h => ?_) (fun h => ?_)
  · walk_at "go"
    refine r_ixQ (xs := iv hs) (ha3.or G3.fh) (atI_iv (by omega) (by omega)) ?_
    walk_at "go"
    refine r_ixT (xs := iv (ls.take p)) (tS G3.fh hrt) (atI_iv (Int.emod_nonneg _ (by omega)) (Int.emod_lt_of_pos _ (by omega))) ?_
    walk_at "go"
    rw [hval, show ((kept : Int) - 1).toNat = kept - 1 from by omega, show ((ls.take p).length : Int) - 1 - (moved : Int) = (-1 - (moved : Int)) + ((ls.take p).length : Nat) from by omega, rI_add]
    refine r_wD (fun e0 => ?_) (fun ne => ?_)
    · walk_at "go"
      refine ⟨kept - 1, by omega, kept - 1, moved + 1, rfl, ?_, rfl, by omega, fun t ht => ?_⟩
      · rw [show (kept : Int) - 1 = ((kept - 1 : Nat) : Int) from by omega]
        rfl
      · rcases Nat.lt_succ_iff_lt_or_eq.mp ht with z | z
        · exact hmv t z
        · subst z
          rw [show hs.length - 1 - t = kept - 1 from by omega]
          exact e0
    · have hx : 0 < kept → fx hs (kept - 1) ≠ rI (fx (ls.take p)) (ls.take p).length (-1 - (moved : Int)) := fun _ => ne
      walk_at "nfx"
  · walk_at "go"
    refine r_wB ?_
    have hx : 0 < kept → fx hs (kept - 1) ≠ rI (fx (ls.take p)) (ls.take p).length (-1 - (moved : Int)) := fun z => by omega
    walk_at "nfx"
theorem p_suffix (T : Cl K A) (h : sp_suffix K A vs H Q E) : t_suffix K A E (D0 Q) (start ["lasso", "turns", "head", "loop", "cut"] vs) H := by
  obtain ⟨F, w, t, hs, ls, rfl, sF, hw, ln, l1, l2, k1, k2⟩ := h
  obtain ⟨hd, ld, w1, w2, w3⟩ := hw.ex
  have G := St.init sF
  have ln' : 0 < (iv ls).length := by rw [iv_len]; exact ln
  unfold t_suffix
  show tSeq _ _ (D0 Q) [some (.ref w), some (.int t), none, none, none] H
  unfold D0
  walk_at "go"
  refine r_ifD (fun h => ?_) (fun h => ?_)
  · walk_at "go"
    exact k1 h
  walk_at "go"
  refine ⟨w, _, rfl, tS sF w1, rfl, ?_⟩
  refine ⟨_, _, rfl, _, _, rfl, rfl, ?_⟩
  show tSeq _ _ _ [some (.ref w), some (.int t), some (.ref hd), some (.ref ld), none] H
  have w2' := tS sF w2
  have w3' := tS sF w3
  have k := k2 (by omega)
  obtain ⟨n, rfl⟩ : ∃ n : Nat, t = n := ⟨t.toNat, by omega⟩
  rw [Int.toNat_natCast] at k
  walk_at "go"
  rw [iv_len]
  refine r_ifD (fun hlt => ?_) (fun hlt => ?_)
  · walk_at "go"
    refine r_slAX G w2 fun F2 H2 a s2 e2 ht G2 => ?_
    rw [cut_from, ← List.map_drop] at ht
    walk_at "go"
    refine ⟨F2, a, ld, hs.drop n, ls, rfl, G2.fh, .inr ht, .inr (tS s2 w3), ln, by omega, by rw [List.length_drop]; omega, fun F' H' u h' l' n1 n2 _ _ n5 n6 n7 n8 => ?_⟩
    rw [List.length_drop] at n5
    exact k F' H' u h' l' n6 (by omega) n1 (fun i => by rw [← wd_drop (by omega)]; exact n2 i) n7 (G2.call n8.gr)
  · walk_at "go"
    rw [iv_len, iv_len]
    have e : ((n : Int) - (hs.length : Int)) % (ls.length : Int) = (((n - hs.length) % ls.length : Nat) : Int) := by
      rw [Int.natCast_emod]
      congr 1
      omega
    rw [e]
    have cl := Nat.mod_lt (n - hs.length) ln
    walk_at "go"
    refine r_tup G (by walk_at "sz") fun e0 H1 G1 => ?_
    obtain ⟨F1, s1, f1, G1⟩ := G1.frz Tak.head
    walk_at "go"
    refine r_slAX G1 (tS s1 w3) fun F2 H2 a s2 e2 ht G2 => ?_
    rw [cut_from, ← List.map_drop] at ht
    walk_at "go"
    refine r_slAX G2 (tS (s1.trans s2) w3) fun F3 H3 b s3 e3 hb G3 => ?_
    rw [cut_to, ← List.map_take] at hb
    refine r_catAX G3 (tS s3 ht) hb (sz (by rw [iv_len, iv_len, List.length_drop, List.length_take]; omega)) fun F4 H4 c s4 e4 hc G4 => ?_
    rw [← List.map_append] at hc
    walk_at "go"
    refine ⟨F4, e0, c, [], rotL ls ((n - hs.length) % ls.length), rfl, G4.fh, .inr (tS ((s2.trans s3).trans s4) (SqT.of f1)), .inr hc, by rw [rotL_len]; exact ln, by rw [rotL_len]; omega, by simp, fun F' H' u h' l' n1 n2 _ _ n5 n6 n7 n8 => ?_⟩
    rw [rotL_len] at n6
    exact k F' H' u h' l' n6 (Nat.le_trans n5 (Nat.zero_le _)) n1 (fun i => by rw [← wd_rot ln (by omega)]; exact n2 i) n7 (G4.call n8.gr)
theorem p_check_letters (T : Cl K A) (h : sp_check_letters K A vs H Q E) : t_check_letters K A E (D0 Q) (start ["lasso", "letters", "head", "loop"] vs) H := by
  obtain ⟨w, m, hs, ls, rfl, hw, hs0, ls0, ln, k1, k2⟩ := h
  obtain ⟨hd, ld, w1, w2, w3⟩ := hw.ex
  unfold t_check_letters
  show tSeq _ _ (D0 Q) [some (.ref w), some (.int m), none, none] H
  unfold D0
  walk_at "go"
  refine ⟨w, _, rfl, w1, rfl, ?_⟩
  refine ⟨_, _, rfl, _, _, rfl, rfl, ?_⟩
  show tIfS _ _ _ _ [some (.ref w), some (.int m), some (.ref hd), some (.ref ld)] H
  walk_at "go"
  refine r_maxB (k := false) (ns := ls) w3 ln fun M hM hb => ?_
  walk_at "go"
  refine r_ifD (fun h => ?_) (fun h => ?_)
  · walk_at "go"
    exact k2 fun z => by have := z M (List.mem_append_right _ hM); omega
  walk_at "go"
  refine r_maxD (k := false) (ns := hs) w2 fun M2 q1 q2 => ?_
  walk_at "go"
  refine r_ifD (fun h2 => ?_) (fun h2 => ?_)
  · walk_at "go"
    refine k2 fun z => ?_
    by_cases c : hs = []
    · have := q1 c; have := ls0 M hM; omega
    · have := z M2 (List.mem_append_left _ (q2 c).1); omega
  walk_at "go"
  refine k1 fun z hz => ?_
  rcases List.mem_append.mp hz with q | q
  · have := (q2 (fun e => by rw [e] at q; cases q)).2 z q; omega
  · have := hb z q; omega
theorem p_are_below (T : Cl K A) (h : sp_are_below K A vs H Q E) : t_are_below K A E (D0 Q) (start ["numbers", "count"] vs) H := by
  obtain ⟨k, a, ns, c, rfl, ha, c1, q⟩ := h
  unfold t_are_below
  show tRet _ (D0 Q) [some (.ref a), some (.int c)] H
  unfold D0
  walk_at "go"
  refine r_minD (ns := ns) ha fun M q1 q2 => ?_
  walk_at "go"
  refine r_ifD (fun h => ?_) (fun h => ?_)
  · walk_at "go"
    refine r_maxD (ns := ns) ha fun M2 p1 p2 => ?_
    walk_at "go"
    have e : (∀ z ∈ ns, 0 ≤ z ∧ z < c) ↔ M2 < c := by
      by_cases z : ns = []
      · rw [p1 z, z]
        exact ⟨fun _ => by omega, fun _ _ h => nomatch h⟩
      · obtain ⟨a1, a2⟩ := q2 z
        obtain ⟨b1, b2⟩ := p2 z
        exact ⟨fun w => (w M2 b1).2, fun w y hy => ⟨by have := a2 y hy; omega, by have := b2 y hy; omega⟩⟩
    rw [decide_eq_decide.mpr e] at q
    exact q
  · rw [decide_eq_false] at q
    · exact q
    · intro w
      by_cases z : ns = []
      · have := q1 z; omega
      · have := (w M (q2 z).1).1; omega
theorem p_Machine_init (T : Cl K A) (h : sp_Machine_init K A vs H Q E) : t_Machine_init K A E (D0 Q) (start ["self", "inputs", "outputs", "lead", "opening", "rows", "row", "pair"] vs) H := by
  obtain ⟨F, x, dx, a, b, as, m, o, l, os, rs, rfl, sF, fx, hx, ha0, hb0, hr0, lr, ll, l2, k1, k2⟩ := h
  have G := St.init1 sF hx fx
  have ha := ha0.del hx
  have hb := hb0.del hx
  have hr := hr0.del hx
  have al := hr.len
  unfold t_Machine_init
  show tSeq _ _ (D0 Q) [some (.ref x), some (.int m), some (.int o), some (.int l), some (.ref a), some (.ref b), none, none] H
  unfold D0
  have bad : ∀ {F1 H1 : Hp} {L1 : Led}, St ⟨F, del H x⟩ F1 H1 L1 → (x, HO.ins A.C_Machine dx []) ∈ L1 → ¬ Mok m o l os rs → E (.ref A.C_InvalidMachine) none H1 := fun G1 m1 np => k2 np _ (G1.same1 m1 hx)
  walk_at "go"
  refine r_ifD (fun h1 => ?_) (fun h1 => ?_)
  · walk_at "go"
    exact bad G (by walk_at "m") fun p => by have := p.m1; omega
  walk_at "go"
  refine r_ifD (fun h2 => ?_) (fun h2 => ?_)
  · walk_at "go"
    exact bad G (by walk_at "m") fun p => by have := p.o1; omega
  walk_at "go"
  refine r_notinI (.inr (T.sq_LEADS _)) rfl ?_
  rw [inV_leads]
  walk_at "go"
  refine r_ifN (fun h3 => ?_) (fun h3 => ?_)
  · walk_at "go"
    exact bad G (by walk_at "m") fun p => h3 ⟨p.l0, p.l1⟩
  walk_at "go"
  refine r_len (ha0.or sF) ?_
  rw [iv_len]
  walk_at "go"
  refine r_ifN (fun h4 => ?_) (fun h4 => ?_)
  · walk_at "go"
    exact bad G (by walk_at "m") fun p => h4 p.ol
  walk_at "go"
  obtain ⟨ka, hka⟩ := ha0.bb sF
  refine ⟨ka, a, os, o, rfl, hka, by omega, ?_⟩
  walk_at "go"
  refine r_ifN (fun h5 => ?_) (fun h5 => ?_)
  · walk_at "go"
    exact bad G (by walk_at "m") fun p => h5 p.ob
  walk_at "go"
  refine r_len (hb0.or sF) ?_
  rw [rv_len, al]
  walk_at "go"
  refine r_ifD (fun h6 => ?_) (fun h6 => ?_)
  · walk_at "go"
    exact bad G (by walk_at "m") fun p => by have := p.ne; omega
  walk_at "go"
  obtain ⟨kc, hkc⟩ := hb.bs
  refine r_isq (hkc _ G.bh G.fh) ?_
  refine r_forB (xs := rv as) (fun i σ H' => (∃ v w, σ = [some (.ref x), some (.int m), some (.int o), some (.int l), some (.ref a), some (.ref b), v, w]) ∧ St ⟨F, del H x⟩ F H' [(x, .ins A.C_Machine dx [])] ∧ ∀ r ∈ rs.take i, (r.length : Int) = m ∧ ∀ y ∈ r, (0 ≤ y.getD 0 0 ∧ y.getD 0 0 < rs.length) ∧ 0 ≤ y.getD 1 0 ∧ y.getD 1 0 < o)
    ⟨⟨_, _, rfl⟩, G, fun _ h => by simp at h⟩ (fun _ _ _ _ h => hkc _ h.2.1.bh h.2.1.fh) ?_ ?_
  · rintro i y σ H' hi ⟨⟨v, w, rfl⟩, G1, hok⟩
    obtain ⟨ra, hi1, rfl⟩ := rv_get hi
    obtain ⟨bs, r0, hr1, hs, hlf⟩ := hr.at hi1
    have hm : r0 ∈ rs := List.mem_of_getElem? hr1
    have hl0 := ll r0 hm
    have hl2 := l2 r0 hm
    walk_at "go"
    refine r_len ((hs.mono G1.ff G1.bh).or G1.fh) ?_
    rw [rv_len, hlf.len]
    walk_at "go"
    refine r_ifN (fun h7 => ?_) (fun h7 => ?_)
    · walk_at "go"
      exact bad G1 (by walk_at "m") fun p => h7 (p.rr r0 hm).1
    walk_at "go"
    obtain ⟨kr, hkr⟩ := hs.bs
    refine r_isq (hkr _ G1.bh G1.fh) ?_
    refine r_lcB (xs := rv bs) G1 (fun D j H'' => St ⟨F, del H x⟩ F H'' ((D, .lst (iv ((r0.take j).map fun y => y.getD 0 0))) :: [(x, .ins A.C_Machine dx [])])) (fun D H'' G' => G') (fun D j H'' _ h => hkr _ h.bh h.fh) ?_ ?_
    · rintro D j y H'' hj G2
      obtain ⟨e1, he1, rfl⟩ := rv_get hj
      obtain ⟨ns, hn1, hsx⟩ := hlf.at he1
      have n2 := hl2 ns (List.mem_of_getElem? hn1)
      walk_at "go"
      refine r_ixQ (xs := iv ns) ((hsx.mono G2.ff G2.bh).or G2.fh) (atI_iv (by decide) (by omega)) ?_
      refine r_app G2 Upd.head (szl (by simp only [List.length_map, List.length_take]; omega)) fun H3 G3 => ?_
      rw [iv_snoc] at G3
      rw [take_snoc hn1, List.map_append]
      exact G3
    rintro D H'' G2
    rw [rv_len, hlf.len, List.take_length] at G2
    walk_at "go"
    refine r_len ((hb.mono G2.ff G2.bh).or G2.fh) ?_
    rw [rv_len, al]
    walk_at "go"
    refine ⟨true, D, _, rs.length, rfl, SqL.of (G2.get List.mem_cons_self), by omega, ?_⟩
    walk_at "go"
    have G3 := G2.drop Tak.head
    refine r_ifN (fun h8 => ?_) (fun h8 => ?_)
    · walk_at "go"
      refine bad G3 (by walk_at "m") fun p => h8 fun z hz => ?_
      obtain ⟨y, hy, rfl⟩ := List.mem_map.mp hz
      exact ((p.rr r0 hm).2 y hy).1
    walk_at "go"
    refine r_isq (hkr _ G3.bh G3.fh) ?_
    refine r_lcB (xs := rv bs) G3 (fun D j H'' => St ⟨F, del H x⟩ F H'' ((D, .lst (iv ((r0.take j).map fun y => y.getD 1 0))) :: [(x, .ins A.C_Machine dx [])])) (fun D H'' G' => G') (fun D j H'' _ h => hkr _ h.bh h.fh) ?_ ?_
    · rintro D j y H'' hj G4
      obtain ⟨e1, he1, rfl⟩ := rv_get hj
      obtain ⟨ns, hn1, hsx⟩ := hlf.at he1
      have n2 := hl2 ns (List.mem_of_getElem? hn1)
      walk_at "go"
      refine r_ixQ (xs := iv ns) ((hsx.mono G4.ff G4.bh).or G4.fh) (atI_iv (by decide) (by omega)) ?_
      refine r_app G4 Upd.head (szl (by simp only [List.length_map, List.length_take]; omega)) fun H5 G5 => ?_
      rw [iv_snoc] at G5
      rw [take_snoc hn1, List.map_append]
      exact G5
    rintro D2 H''' G4
    rw [rv_len, hlf.len, List.take_length] at G4
    walk_at "go"
    refine ⟨true, D2, _, o, rfl, SqL.of (G4.get List.mem_cons_self), by omega, ?_⟩
    walk_at "go"
    have G5 := G4.drop Tak.head
    refine r_ifN (fun h9 => ?_) (fun h9 => ?_)
    · walk_at "go"
      refine bad G5 (by walk_at "m") fun p => h9 fun z hz => ?_
      obtain ⟨y, hy, rfl⟩ := List.mem_map.mp hz
      exact ((p.rr r0 hm).2 y hy).2
    walk_at "go"
    refine ⟨⟨_, _, rfl⟩, G5, fun r hr' => ?_⟩
    rw [take_snoc hr1] at hr'
    rcases List.mem_append.mp hr' with q | q
    · exact hok r q
    · rw [List.mem_singleton.mp q]
      exact ⟨h7, fun y hy => ⟨h8 _ (List.mem_map.mpr ⟨y, hy, rfl⟩), h9 _ (List.mem_map.mpr ⟨y, hy, rfl⟩)⟩⟩
  rintro σ H1 ⟨⟨v, w, rfl⟩, G1, hok⟩
  rw [rv_len, al, List.take_length] at hok
  have OK : Mok m o l os rs := ⟨by omega, by omega, h3.1, h3.2, h4, h5, by omega, hok⟩
  walk_at "go"
  refine r_sfld G1 T.cl_Machine T.na_Machine_inputs (fs' := [("inputs", .int m)]) (by walk_at "u") rfl (by show 0 < 1000; decide) fun H2 G2 => ?_
  walk_at "go"
  refine r_sfld G2 T.cl_Machine T.na_Machine_outputs (fs' := [("inputs", .int m), ("outputs", .int o)]) (by walk_at "u") rfl (by show 1 < 1000; decide) fun H2 G2 => ?_
  walk_at "go"
  refine r_sfld G2 T.cl_Machine T.na_Machine_lead (fs' := [("inputs", .int m), ("outputs", .int o), ("lead", .int l)]) (by walk_at "u") rfl (by show 2 < 1000; decide) fun H2 G2 => ?_
  walk_at "go"
  refine r_tupX G2 (ha.mono G2.ff G2.bh) fun F3 H3 oa s3 _ hoa G3 => ?_
  walk_at "go"
  refine r_sfld G3 T.cl_Machine T.na_Machine_opening (fs' := [("inputs", .int m), ("outputs", .int o), ("lead", .int l), ("opening", .ref oa)]) (by walk_at "u") rfl (by show 3 < 1000; decide) fun H6 G6 => ?_
  walk_at "go"
  walk_at "go"
  refine r_isq (hkc _ G6.bh (G6.ff.trans G6.fh)) ?_
  refine r_lcB (xs := rv as) G6 (fun D i H' => ∃ F' as', Same F3 F' ∧ St ⟨F, del H x⟩ F' H' ((D, .lst (rv as')) :: [(x, .ins A.C_Machine dx [("inputs", .int m), ("outputs", .int o), ("lead", .int l), ("opening", .ref oa)])]) ∧ Rows2 K F' false as' (rs.take i) ∧ as'.length ≤ i) (fun D H' G' => ⟨F3, [], Same.refl _, G', .nil, Nat.le_refl _⟩)
    (fun D i H' _ h => by obtain ⟨F', as', _, G', _, _⟩ := h; exact hkc _ G'.bh (G'.ff.trans G'.fh)) ?_ ?_
  · rintro D i y H' hi ⟨F', as', sF', G7, hR, hla⟩
    obtain ⟨ra, hi1, rfl⟩ := rv_get hi
    obtain ⟨bs, r0, hr1, hs, hlf⟩ := hr.at hi1
    have hi2 : i < rs.length := (List.getElem?_eq_some_iff.mp hr1).1
    have hl0 := ll r0 (List.mem_of_getElem? hr1)
    walk_at "go"
    obtain ⟨kr, hkr⟩ := hs.bs
    refine r_isq (hkr _ G7.bh (G7.ff.trans G7.fh)) ?_
    refine r_lcB (xs := rv bs) G7 (fun D2 j H2 => ∃ F2 ts, Same F' F2 ∧ St ⟨F, del H x⟩ F2 H2 ((D2, .lst (rv ts)) :: (D, .lst (rv as')) :: [(x, .ins A.C_Machine dx [("inputs", .int m), ("outputs", .int o), ("lead", .int l), ("opening", .ref oa)])]) ∧ Rows K F2 false ts (r0.take j) ∧ ts.length ≤ j) (fun D2 H2 G' => ⟨F', [], Same.refl _, G', .nil, Nat.le_refl _⟩)
      (fun D2 j H2 _ h => by obtain ⟨F2, ts, _, G', _, _⟩ := h; exact hkr _ G'.bh (G'.ff.trans G'.fh)) ?_ ?_
    · rintro D2 j y H2 hj ⟨F2, ts, s2, G8, hR2, hlt⟩
      obtain ⟨e1, he1, rfl⟩ := rv_get hj
      obtain ⟨ns, hn1, hsx⟩ := hlf.at he1
      have hj2 : j < r0.length := (List.getElem?_eq_some_iff.mp hn1).1
      walk_at "go"
      refine r_tupX G8 (hsx.mono G8.ff G8.bh) fun F9 H9 t s9 _ ht G9 => ?_
      refine r_app G9 Upd.head (szl (by rw [rv_len]; omega)) fun H10 G10 => ?_
      refine ⟨F9, ts ++ [t], s2.trans s9, ?_, ?_, by simp; omega⟩
      · rw [show rv (ts ++ [t]) = rv ts ++ [V.ref t] from by simp]; exact G10
      · rw [take_snoc hn1]; exact (hR2.mono s9).snoc (show SqB K F9 t (iv ns) false from ht)
    rintro D2 H2 ⟨F2, ts, s2, G8, hR2, hlt⟩
    rw [rv_len, hlf.len, List.take_length] at hR2
    walk_at "go"
    refine r_tupofL G8 (by walk_at "l") fun rt H9 G9 => ?_
    obtain ⟨F10, s10, hrt, G10⟩ := G9.frz Tak.head
    have G11 := G10.drop Tak.head
    refine r_app G11 Upd.head (szl (by rw [rv_len]; omega)) fun H12 G12 => ?_
    refine ⟨F10, as' ++ [rt], (sF'.trans s2).trans s10, ?_, ?_, by simp; omega⟩
    · rw [show rv (as' ++ [rt]) = rv as' ++ [V.ref rt] from by simp]; exact G12
    · rw [take_snoc hr1]; exact (hR.mono (s2.trans s10)).snoc (show SqT K F10 rt (rv ts) from SqT.of hrt) (hR2.mono s10)
  rintro D H6' ⟨F', as', sF', G7, hR, hla⟩
  rw [rv_len, al, List.take_length] at hR
  walk_at "go"
  refine r_tupofL G7 (by walk_at "l") fun ra H8 G8 => ?_
  walk_at "go"
  refine r_sfld G8 T.cl_Machine T.na_Machine_rows (fs' := maF m o l oa ra) (by walk_at "u") rfl (by show 4 < 1000; decide) fun H9 G9 => ?_
  obtain ⟨F2, s2, hra, G10⟩ := G9.frz Tak.head
  exact k1 OK F2 H9 oa ra as' (G10.grB (by walk_at "m")) (G10.get (by walk_at "m")) (tS (sF'.trans s2) hoa) (SqT.of hra) (hR.mono s2)
/-- what stands at a state and a letter -/
theorem cell_at {m o l : Int} {os : List Int} {rs : List (List (List Int))} {as : List Addr} {F : Hp} (OK : Mok m o l os rs) (p2 : ∀ r ∈ rs, ∀ x ∈ r, x.length = 2) (hR : Rows2 K F false as rs) {s z : Int} (hs : 0 ≤ s ∧ s < rs.length) (hz : 0 ≤ z ∧ z < m) :
    ∃ e bs u, atI (rv as) s = some (.ref e) ∧ SqT K F e (rv bs) ∧ atI (rv bs) z = some (.ref u) ∧ SqT K F u [.int (nxt rs s z), .int (outM rs s z)] := by
  obtain ⟨r, hr, hx, hl, _, _⟩ := stp_okM OK p2 hs hz
  have al := hR.len
  obtain ⟨e, he⟩ : ∃ e, as[s.toNat]? = some e := ⟨_, List.getElem?_eq_getElem (by omega)⟩
  obtain ⟨bs, r', hr', h1, h2⟩ := hR.at he
  rw [hr] at hr'
  cases hr'
  have bl := h2.len
  obtain ⟨u, hu⟩ : ∃ u, bs[z.toNat]? = some u := ⟨_, List.getElem?_eq_getElem (by omega)⟩
  obtain ⟨ns, hn, h3⟩ := h2.at hu
  rw [hx] at hn
  cases hn
  exact ⟨e, bs, u, atI_rv hs.1 he, h1, atI_rv hz.1 hu, h3⟩
theorem p_Machine_call (T : Cl K A) (h : sp_Machine_call K A vs H Q E) : t_Machine_call K A E (D0 Q) (start ["self", "heard", "said", "state", "turn", "letter", "emitted"] vs) H := by
  obtain ⟨F, x, a, m, o, l, os, ns, rs, rfl, sF, hM, OK, lo, ha, ln, k1, k2⟩ := h
  have p2 := hM.p2
  obtain ⟨dx, oa, ra, as, h1, h2, h3, h4⟩ := hM.ex
  have G := St.init sF
  unfold t_Machine_call
  show tSeq _ _ (D0 Q) [some (.ref x), some (.ref a), none, none, none, none, none] H
  unfold D0
  walk_at "go"
  refine r_fld (sF _ _ h1) T.cl_Machine T.na_Machine_inputs lm_inputs ?_
  walk_at "go"
  refine ⟨true, a, ns, m, rfl, ha, OK.m1, ?_⟩
  walk_at "go"
  refine r_ifN (fun hn => ?_) (fun hall => ?_)
  · walk_at "go"
    exact k2 hn
  walk_at "go"
  refine r_fld (sF _ _ h1) T.cl_Machine T.na_Machine_opening lm_opening ?_
  walk_at "go"
  refine r_listof G (.inr (tS sF h2)) fun b H1 G1 => ?_
  walk_at "go"
  have fz : ∀ i, i < ns.length → 0 ≤ fx ns i ∧ fx ns i < m := fun i hi => by
    have : fx ns i ∈ ns := by
      show ns.getD i 0 ∈ ns
      rw [List.getD_eq_getElem?_getD, List.getElem?_eq_getElem hi]; exact List.getElem_mem _
    exact hall _ this
  refine w_iE ?_
  walk_at "go"
  refine ⟨a, iv ns, rfl, lS G1.bh ha, ?_⟩
  refine r_forE (xs := iv ns) (fun i σ H' => (∃ v4 v5 v6, σ = [some (.ref x), some (.ref a), some (.ref b), some (.int (smM rs (fx ns) i)), v4, v5, v6]) ∧ St ⟨F, H⟩ F H' [(b, .lst (iv (saidL os l rs (fx ns) i)))]) ⟨⟨_, _, _, rfl⟩, ?_⟩ (fun _ _ _ _ h => lS h.2.bh ha) ?_ ?_
  · have : saidL os l rs (fx ns) 0 = os := by unfold saidL; simp
    rw [this]; exact G1
  · rintro i y σ H' H'' hi ⟨⟨v4, v5, v6, rfl⟩, G2⟩ e2
    obtain ⟨z, hz, rfl⟩ := iv_get hi
    have hi2 : i < ns.length := (List.getElem?_eq_some_iff.mp hz).1
    have ez : z = fx ns i := by
      show z = ns.getD i 0
      rw [List.getD_eq_getElem?_getD, hz]; rfl
    have G3 := G2.grow e2
    have sb := st_ok OK p2 fz i (by omega)
    obtain ⟨e, bs, u, c1, c2, c3, c4⟩ := cell_at OK p2 h4 sb (fz i hi2)
    rw [← ez] at c3 c4
    walk_at "go"
    refine r_fld (G3.fh _ _ h1) T.cl_Machine T.na_Machine_rows lm_rows ?_
    walk_at "go"
    refine r_ixT (tS G3.fh h3) c1 ?_
    walk_at "go"
    refine r_ixT (tS G3.fh c2) c3 ?_
    refine ⟨u, _, rfl, tS G3.fh c4, rfl, ?_⟩
    refine ⟨_, _, rfl, _, _, rfl, rfl, ?_⟩
    show tIfS _ _ _ _ [some (.ref x), some (.ref a), some (.ref b), some (.int (nxt rs (smM rs (fx ns) i) z)), some (.int i), some (.int z), some (.int (outM rs (smM rs (fx ns) i) z))] H''
    walk_at "go"
    refine r_fld (G3.fh _ _ h1) T.cl_Machine T.na_Machine_lead lm_lead ?_
    walk_at "go"
    have es : nxt rs (smM rs (fx ns) i) z = smM rs (fx ns) (i + 1) := by rw [ez]; rfl
    have eo : outM rs (smM rs (fx ns) i) z = emM rs (fx ns) i := by rw [ez]; rfl
    rw [es, eo]
    refine r_ifD (fun h => ?_) (fun h => ?_)
    · walk_at "go"
      refine r_append G3 Upd.head (szl (by rw [iv_len]; unfold saidL; simp; omega)) fun H4 G4 => ?_
      rw [iv_snoc] at G4
      walk_at "go"
      refine ⟨⟨_, _, _, rfl⟩, ?_⟩
      rw [saidL_succ, if_pos (by omega)]; exact G4
    · walk_at "go"
      refine ⟨⟨_, _, _, rfl⟩, ?_⟩
      rw [saidL_succ, if_neg (by omega)]; exact G3
  · rintro σ H' ⟨⟨v4, v5, v6, rfl⟩, G2⟩
    rw [iv_len] at G2
    walk_at "go"
    exact k1 hall H' b G2
theorem p_emitted_word (T : Cl K A) (h : sp_emitted_word K A vs H Q E) : t_emitted_word K A E (D0 Q) (start ["machine", "state", "lasso", "head", "loop", "letters", "letter", "emitted", "begun"] vs) H := by
  obtain ⟨F, x, w, m, o, l, os, hs, ls, rs, rfl, sF, hM, OK, hw, hh, hl, ln, b1, b2, b3, k⟩ := h
  have p2 := hM.p2
  obtain ⟨dx, oa, ra, as, h1, h2, h3, h4⟩ := hM.ex
  obtain ⟨hd, ld, w1, w2, w3⟩ := hw.ex
  have G := St.init sF
  have fz : ∀ i, 0 ≤ wd hs ls i ∧ wd hs ls i < m := fun i => by
    rcases List.mem_append.mp (wd_mem (hs := hs) ln i) with c | c
    · exact hh _ c
    · exact hl _ c
  have sb : ∀ i, 0 ≤ smM rs (wd hs ls) i ∧ smM rs (wd hs ls) i < rs.length := fun i => st_ok OK p2 (N := i) (fun j _ => fz j) i (Nat.le_refl _)
  have step : ∀ {H' : Hp} {D : Addr} {n i : Nat} {L : Led} {v7 v8 : Option V} {P : L2.St → Hp → Prop} {y : V}, i = n → y = .int (wd hs ls i) → n ≤ 1000 → St ⟨F, H⟩ F H' ((D, .lst (iv ((List.range n).map (emM rs (wd hs ls))))) :: L) →
      (∀ H'' v6 v7, St ⟨F, H⟩ F H'' ((D, .lst (iv ((List.range (n + 1)).map (emM rs (wd hs ls))))) :: L) → P [some (.ref x), some (.int (smM rs (wd hs ls) (n + 1))), some (.ref w), some (.ref hd), some (.ref ld), some (.ref D), v6, v7, v8] H'') →
      tSeq (tAsg (tOp (rIxT K) (tOp (rIxT K) (tFld K (tVar 0) "rows") (tVar 1)) (tVar 6)) (gTup K 2 (gCons (gName 1) (gCons (gName 7) gNil)))) (tDrop (tBM K "list" rAppend (tVar 5) (tCons (tVar 7) tNil))) ⟨P, Q, F2, P⟩ [some (.ref x), some (.int (smM rs (wd hs ls) n)), some (.ref w), some (.ref hd), some (.ref ld), some (.ref D), some y, v7, v8] H' := by
    rintro H' D n i L v7 v8 P y rfl rfl n1 G3 q
    obtain ⟨e, bs, u, c1, c2, c3, c4⟩ := cell_at OK p2 h4 (sb i) (fz i)
    walk_at "go"
    refine r_fld (G3.fh _ _ h1) T.cl_Machine T.na_Machine_rows lm_rows ?_
    walk_at "go"
    refine r_ixT (tS G3.fh h3) c1 ?_
    walk_at "go"
    refine r_ixT (tS G3.fh c2) c3 ?_
    refine ⟨u, _, rfl, tS G3.fh c4, rfl, ?_⟩
    refine ⟨_, _, rfl, _, _, rfl, rfl, ?_⟩
    show tDrop _ _ [some (.ref x), some (.int (smM rs (wd hs ls) (i + 1))), some (.ref w), some (.ref hd), some (.ref ld), some (.ref D), some (.int (wd hs ls i)), some (.int (emM rs (wd hs ls) i)), v8] H'
    walk_at "go"
    refine r_append G3 Upd.head (szl (by rw [iv_len]; simp; omega)) fun H4 G4 => ?_
    rw [iv_snoc, show (List.range i).map (emM rs (wd hs ls)) ++ [emM rs (wd hs ls) i] = (List.range (i + 1)).map (emM rs (wd hs ls)) from by rw [List.range_succ, List.map_append]; rfl] at G4
    exact q H4 _ _ G4
  unfold t_emitted_word
  show tSeq _ _ (D0 Q) [some (.ref x), some (.int 0), some (.ref w), none, none, none, none, none, none] H
  unfold D0
  walk_at "go"
  refine ⟨w, _, rfl, tS sF w1, rfl, ?_⟩
  refine ⟨_, _, rfl, _, _, rfl, rfl, ?_⟩
  show tSeq _ _ _ [some (.ref x), some (.int 0), some (.ref w), some (.ref hd), some (.ref ld), none, none, none, none] H
  walk_at "go"
  refine r_lst G (by walk_at "sz") fun D H1 G1 => ?_
  walk_at "go"
  refine r_it (tS G1.fh w2) ?_
  refine r_forT (xs := iv hs) (fun i σ H' => (∃ v6 v7, σ = [some (.ref x), some (.int (smM rs (wd hs ls) i)), some (.ref w), some (.ref hd), some (.ref ld), some (.ref D), v6, v7, none]) ∧ St ⟨F, H⟩ F H' [(D, .lst (iv ((List.range i).map (emM rs (wd hs ls)))))]) ⟨⟨_, _, rfl⟩, G1⟩ (fun _ _ _ _ h => tS h.2.fh w2) ?_ ?_
  · rintro i y σ H' hi ⟨⟨v6, v7, rfl⟩, G2⟩
    obtain ⟨z, hz, rfl⟩ := iv_get hi
    have hi2 : i < hs.length := (List.getElem?_eq_some_iff.mp hz).1
    refine step (i := i) (n := i) rfl ?_ (by omega) G2 fun H'' v6 v7 G3 => ⟨⟨_, _, rfl⟩, G3⟩
    rw [wd_head hi2]
    show V.int z = .int (hs.getD i 0)
    rw [List.getD_eq_getElem?_getD, hz]; rfl
  rintro σ H2 ⟨⟨v6, v7, rfl⟩, G2⟩
  rw [iv_len] at G2 ⊢
  have qb : ∀ k, 0 ≤ smM rs (wd hs ls) (hs.length + k * ls.length) ∧ smM rs (wd hs ls) (hs.length + k * ls.length) < rs.length := fun k => sb _
  walk_at "go"
  refine r_dnew G2 fun B H3 G3 => ?_
  walk_at "go"
  refine r_while (fun mm σ H'' => ∃ t v6 v7, mm = rs.length - t ∧ Inj (fun k => smM rs (wd hs ls) (hs.length + k * ls.length)) t ∧ σ = [some (.ref x), some (.int (smM rs (wd hs ls) (hs.length + t * ls.length))), some (.ref w), some (.ref hd), some (.ref ld), some (.ref D), v6, v7, some (.ref B)] ∧
    St ⟨F, H⟩ F H'' [(D, .lst (iv ((List.range (hs.length + t * ls.length)).map (emM rs (wd hs ls))))), (B, .dK (kvG (fun k => smM rs (wd hs ls) (hs.length + k * ls.length)) (fun k => ((hs.length + k * ls.length : Nat) : Int)) t))]) _ ⟨0, v6, v7, rfl, fun a b h => absurd h (Nat.not_lt_zero _), ?_, ?_⟩ ?_
  · rw [Nat.zero_mul, Nat.add_zero]; rfl
  · rw [Nat.zero_mul, Nat.add_zero]
    exact G3.perm (List.Perm.swap _ _ _)
  rintro mm σ H4 ⟨t, v6, v7, rfl, hi, rfl, G4⟩
  have ht0 := inj_few hi qb
  have tl : t * ls.length ≤ 10 * 10 := Nat.mul_le_mul (by omega) b1
  walk_at "go"
  refine r_dnot (G4.get (by walk_at "m")) ?_
  walk_at "g1"
  rcases kvG_val (q := fun k => smM rs (wd hs ls) (hs.length + k * ls.length)) (g := fun k => ((hs.length + k * ls.length : Nat) : Int)) (t := t) (z := smM rs (wd hs ls) (hs.length + t * ls.length)) with ⟨k', hk1, hk2, hk3⟩ | ⟨hn, hne⟩
  · rw [hk3]
    refine r_wb (fun z => by simp at z) (fun _ => ?_)
    walk_at "go"
    refine r_dget (G4.get (by walk_at "m")) hk3 ?_
    walk_at "go"
    refine r_slL G4 (SqL.of (G4.get (.head _))) fun e1 H5 G5 => ?_
    rw [cut_to, ← List.map_take] at G5
    walk_at "go"
    refine r_dget (G5.get (by walk_at "m")) hk3 ?_
    walk_at "go"
    refine r_slL G5 (SqL.of (G5.get (.tail _ (.head _)))) fun e2 H6 G6 => ?_
    rw [cut_from, ← List.map_drop] at G6
    walk_at "go"
    refine r_tup G6 (by walk_at "sz") fun tt H7 G7 => ?_
    obtain ⟨d, rfl⟩ : ∃ d, t = k' + d := ⟨t - k', by omega⟩
    have d1 : 0 < d := by omega
    have dp : 0 < d * ls.length := Nat.mul_pos d1 ln
    have es : hs.length + (k' + d) * ls.length = hs.length + k' * ls.length + d * ls.length := by rw [Nat.add_mul]; omega
    have dl : d * ls.length ≤ 10 * 10 := Nat.mul_le_mul (by omega) b1
    have kl : k' * ls.length ≤ 10 * 10 := Nat.mul_le_mul (by omega) b1
    have dv : ls.length ∣ d * ls.length := Nat.dvd_mul_left _ _
    have hk2' : smM rs (wd hs ls) (hs.length + k' * ls.length + d * ls.length) = smM rs (wd hs ls) (hs.length + k' * ls.length) := by rw [← es]; exact hk2.symm
    rw [es] at G7
    have q := wd_cut (f := emM rs (wd hs ls)) (s := hs.length + k' * ls.length) dp (fun i hi => em_per (b := hs.length + k' * ls.length) (fun j hj => wd_dvd dv j (by omega)) hk2' i hi)
    refine k H7 tt e1 e2 _ _ ?_ ?_ ?_ q (((G7.drop (a := D) (.tail (.tail (.tail .head)))).drop (a := B) (.tail (.tail (.tail .head)))))
    · rw [List.length_drop, List.length_map, List.length_range]; omega
    · rw [List.length_drop, List.length_map, List.length_range]; omega
    · rw [List.length_take, List.length_map, List.length_range]; omega
  · rw [hn]
    refine r_wb (fun _ => ?_) (fun z => by simp at z)
    have hi2 : Inj (fun k => smM rs (wd hs ls) (hs.length + k * ls.length)) (t + 1) := fun a b ha hb e => by
      rcases Nat.lt_succ_iff_lt_or_eq.mp ha with h1 | h1 <;> rcases Nat.lt_succ_iff_lt_or_eq.mp hb with h2 | h2
      · exact hi a b h1 h2 e
      · subst h2; exact absurd e (hne a h1)
      · subst h1; exact absurd e.symm (hne b h2)
      · omega
    have ht := inj_few hi2 qb
    walk_at "go"
    rw [iv_len, List.length_map, List.length_range]
    refine r_dput G4 (.tail .head) (szl (by rw [kvG_len]; omega)) fun H5 G5 => ?_
    rw [putK_new hn, ← kvG_succ (q := fun k => smM rs (wd hs ls) (hs.length + k * ls.length)) (g := fun k => ((hs.length + k * ls.length : Nat) : Int))] at G5
    walk_at "go"
    refine r_it (tS G5.fh w3) ?_
    refine r_forT (xs := iv ls) (fun i σ H' => (∃ v6 v7, σ = [some (.ref x), some (.int (smM rs (wd hs ls) (hs.length + t * ls.length + i))), some (.ref w), some (.ref hd), some (.ref ld), some (.ref D), v6, v7, some (.ref B)]) ∧ St ⟨F, H⟩ F H' [(D, .lst (iv ((List.range (hs.length + t * ls.length + i)).map (emM rs (wd hs ls))))), (B, .dK (kvG (fun k => smM rs (wd hs ls) (hs.length + k * ls.length)) (fun k => ((hs.length + k * ls.length : Nat) : Int)) (t + 1)))]) ⟨⟨_, _, rfl⟩, G5⟩ (fun _ _ _ _ h => tS h.2.fh w3) ?_ ?_
    · rintro i y σ H' hi ⟨⟨v6, v7, rfl⟩, G6⟩
      obtain ⟨z, hz, rfl⟩ := iv_get hi
      have hi2 : i < ls.length := (List.getElem?_eq_some_iff.mp hz).1
      refine step (n := hs.length + t * ls.length + i) (i := hs.length + t * ls.length + i) rfl ?_ (by omega) G6 fun H'' v6 v7 G7 => ⟨⟨_, _, rfl⟩, G7⟩
      have dv : ls.length ∣ t * ls.length := Nat.dvd_mul_left _ _
      rw [show hs.length + t * ls.length + i = (hs.length + i) + t * ls.length from by omega, wd_dvd dv _ (by omega), wd_loop hi2]
      show V.int z = .int (ls.getD i 0)
      rw [List.getD_eq_getElem?_getD, hz]; rfl
    · rintro σ H' ⟨⟨v6, v7, rfl⟩, G6⟩
      rw [iv_len] at G6 ⊢
      refine ⟨rs.length - (t + 1), by omega, t + 1, v6, v7, rfl, hi2, ?_, ?_⟩
      · rw [Nat.succ_mul, Nat.add_assoc]
      · rw [Nat.succ_mul, ← Nat.add_assoc]; exact G6
theorem p_said_word (T : Cl K A) (h : sp_said_word K A vs H Q E) : t_said_word K A E (D0 Q) (start ["machine", "head", "loop"] vs) H := by
  obtain ⟨F, x, a, b, m, o, l, os, h', l', rs, f, rfl, sF, hM, OK, ha, hb, n1, n2, n3, n4, k2⟩ := h
  obtain ⟨dx, oa, ra, as, h1, h2, h3, h4⟩ := hM.ex
  have ol := OK.ol
  have ol3 := OK.l0
  have G1 := St.init sF
  unfold t_said_word
  show tSeq _ _ (D0 Q) [some (.ref x), some (.ref a), some (.ref b)] H
  unfold D0
  walk_at "go"
  refine r_fld (G1.fh _ _ h1) T.cl_Machine T.na_Machine_lead lm_lead ?_
  walk_at "go"
  refine r_ifD (fun h => ?_) (fun h => ?_)
  · walk_at "go"
    refine r_tupofL G1 (SqL.of (G1.fh _ _ ha)) fun t1 H2 G2 => ?_
    walk_at "go"
    refine r_tupofL G2 (SqL.of (G2.fh _ _ hb)) fun t2 H3 G3 => ?_
    walk_at "go"
    refine r_tup G3 (by walk_at "sz") fun u H4 G4 => ?_
    obtain ⟨F1, s1, f1, G5⟩ := G4.frz Tak.head
    obtain ⟨F2, s2, f2, G6⟩ := G5.frz Tak.head
    obtain ⟨F3, s3, f3, G7⟩ := G6.frz Tak.head
    walk_at "go"
    refine r_fld (G7.fh _ _ (s3 _ _ (s2 _ _ (s1 _ _ h1)))) T.cl_Machine T.na_Machine_lead lm_lead ?_
    walk_at "go"
    refine ⟨F3, u, l, h', l', rfl, G7.fh, ⟨⟨t1, t2, SqT.of (s3 _ _ (s2 _ _ f1)), SqT.of f3, SqT.of (s3 _ _ f2)⟩⟩, n1, by omega, by omega, fun z => by omega, fun _ F' H' v h2 l2 e1 e2 nf sw hv g => ?_⟩
    refine k2 F' H' v h2 l2 (by omega) (by omega) nf (fun i => ?_) hv (G7.call g.gr).clr
    rw [← sw i, n4]
    unfold sd
    rw [if_neg (by omega)]
    congr 1
    omega
  · walk_at "go"
    refine r_fld (G1.fh _ _ h1) T.cl_Machine T.na_Machine_opening lm_opening ?_
    walk_at "go"
    refine r_listof G1 (.inr (tS G1.fh h2)) fun c H2 G2 => ?_
    walk_at "go"
    refine ⟨_, _, _, _, rfl, rfl, .inl (G2.get (.head _)), .inl (G2.fh _ _ ha), sz (by rw [iv_len, iv_len]; split at ol <;> omega), fun d hd => ?_⟩
    rw [show iv os ++ iv h' = iv (os ++ h') from List.map_append.symm]
    have G3 := G2.new (o := .lst (iv (os ++ h'))) hd
    walk_at "go"
    refine ⟨F, d, b, os ++ h', l', rfl, G3.fh, .inl (SqL.of (G3.get (.head _))), .inl (SqL.of (G3.fh _ _ hb)), n1, by omega, by rw [List.length_append]; split at ol <;> omega, fun F' H' u h2 l2 nf sw _ _ e1 e2 hu g => ?_⟩
    rw [List.length_append] at e1
    refine k2 F' H' u h2 l2 (by omega) (by split at ol <;> omega) nf (fun i => ?_) hu (G3.call g.gr).clr
    rw [← sw i]
    unfold sd
    have ol2 : (os.length : Int) = -l := by split at ol <;> omega
    by_cases c : i < os.length
    · rw [if_pos (by omega), wd_app _ c]
    · rw [if_neg (by omega)]
      obtain ⟨j, rfl⟩ : ∃ j, i = j + os.length := ⟨i - os.length, by omega⟩
      rw [wd_front, n4]
      congr 1
      omega
theorem p_respond (T : Cl K A) (h : sp_respond K A vs H Q E) : t_respond K A E (D0 Q) (start ["machine", "lasso", "head", "loop"] vs) H := by
  obtain ⟨F, x, w, m, o, l, os, hs, ls, rs, rfl, sF, hM, OK, hw, hs0, ls0, ln, b1, b2, b3, k1, k2⟩ := h
  obtain ⟨dx, oa, ra, as, h1, h2, h3, h4⟩ := hM.ex
  have ol := OK.ol
  have ol3 := OK.l0
  unfold t_respond
  show tSeq _ _ (D0 Q) [some (.ref x), some (.ref w), none, none] H
  unfold D0
  walk_at "go"
  refine r_fld (sF _ _ h1) T.cl_Machine T.na_Machine_inputs lm_inputs ?_
  walk_at "go"
  refine ⟨w, m, hs, ls, rfl, hw.mono sF, hs0, ls0, ln, fun hall => ?_, k1⟩
  walk_at "go"
  refine ⟨F, x, w, m, o, l, os, hs, ls, rs, rfl, sF, hM, OK, hw, fun z hz => ⟨hs0 z hz, hall z (List.mem_append_left _ hz)⟩, fun z hz => ⟨ls0 z hz, hall z (List.mem_append_right _ hz)⟩, ln, b1, b2, b3, fun H1 t a b h' l' n1 n2 n3 n4 G1 => ?_⟩
  refine ⟨t, _, rfl, SqT.of (G1.get (.head _)), rfl, ?_⟩
  refine ⟨_, _, rfl, _, _, rfl, rfl, ?_⟩
  show tRet _ _ [some (.ref x), some (.ref w), some (.ref a), some (.ref b)] H1
  walk_at "go"
  obtain ⟨F1, s1, f1, G2⟩ := G1.frz (a := a) (.tail (.tail .head))
  obtain ⟨F2, s2, f2, G3⟩ := G2.frz (a := b) (.tail .head)
  refine ⟨F2, x, a, b, m, o, l, os, h', l', rs, emM rs (wd hs ls), rfl, G3.fh, hM.mono (s1.trans s2), OK, s2 _ _ f1, f2, n1, n2, n3, n4, fun F' H' u h2 l2 e1 e2 nf sw hu g => ?_⟩
  exact k2 hall F' H' u h2 l2 e1 e2 nf sw hu (G3.call g.gr).clr
theorem p__law_flat (T : Cl K A) (h : sp__law_flat K A vs H Q E) : t__law_flat K A E (D0 Q) (start ["rows", "row"] vs) H := by
  obtain ⟨F, a, as, rs, rfl, sF, ha, hr, lr, k⟩ := h
  have G := St.init sF
  have al := hr.len
  unfold t__law_flat
  show tRet _ (D0 Q) [some (.ref a), none] H
  unfold D0
  walk_at "go"
  walk_at "go"
  refine r_il (lS sF ha) ?_
  refine r_lcB (k := true) (xs := rv as) G (fun D i H' => ∃ F' bs, Same F F' ∧ bs.length = i ∧ RowsLT K F' bs (rs.take i) ∧ St ⟨F, H⟩ F' H' [(D, .lst (rv bs))]) (fun D H' G' => ⟨F, [], Same.refl _, rfl, .nil, G'⟩) (fun D i H' _ h => by obtain ⟨F', bs, s1, _, _, G'⟩ := h; exact lS (s1.trans G'.fh) ha) ?_ ?_
  · rintro D i y H' hi ⟨F', bs, s1, hbl, hB, G1⟩
    obtain ⟨ra, hi1, rfl⟩ := rv_get hi
    obtain ⟨cs, r0, hr1, hs, hR⟩ := hr.at hi1
    have hi2 : i < rs.length := (List.getElem?_eq_some_iff.mp hr1).1
    walk_at "go"
    refine r_listof G1 (.inl (lS G1.fh (lS s1 hs))) fun t H2 G2 => ?_
    obtain ⟨F3, s3, f3, G3⟩ := G2.frz Tak.head
    refine r_app G3 Upd.head (szl (by rw [rv_len]; omega)) fun H4 G4 => ?_
    refine ⟨F3, bs ++ [t], s1.trans s3, by simp [hbl], ?_, ?_⟩
    · rw [take_snoc hr1]
      exact (hB.mono s3).snoc (SqL.of f3) (hR.mono (s1.trans s3))
    · rw [show rv (bs ++ [t]) = rv bs ++ [V.ref t] from by simp]; exact G4
  · rintro D H' ⟨F', bs, s1, hbl, hB, G1⟩
    rw [rv_len, al, List.take_length] at hB
    obtain ⟨F2, s2, f2, G2⟩ := G1.frz Tak.head
    exact k F2 H' D bs (SqL.of f2) (hB.mono s2) G2
theorem p__law_machine (T : Cl K A) (h : sp__law_machine K A vs H Q E) : t__law_machine K A E (D0 Q) (start ["draws", "inputs", "outputs", "lead", "most", "count", "k", "opening", "rows", "state", "row", "letter", "target"] vs) H := by
  obtain ⟨F, p, ds, m, o, l, mo, rfl, sF, fp, hp, hd, m1, m20, o1, l0, l1, q1, q10, k⟩ := h
  have G := St.init1 sF hp fp
  unfold t__law_machine
  show tSeq _ _ (D0 Q) [some (.ref p), some (.int m), some (.int o), some (.int l), some (.int mo), none, none, none, none, none, none, none, none] H
  unfold D0
  walk_at "go"
  refine u_take G (fun _ => Upd.head) hd (by omega) fun i1 d1 H1 i10 i11 hd1 G1 => ?_
  walk_at "go"
  obtain ⟨cn, hcn⟩ : ∃ c : Nat, (if -l > 0 then -l else 0) = (c : Int) := ⟨(if -l > 0 then -l else 0).toNat, by split <;> omega⟩
  have cn3 : cn ≤ 3 := by split at hcn <;> omega
  rw [hcn]
  refine r_i1 (by omega) ?_
  refine r_lcR G1 (fun D i H' => ∃ ds' ns, Dok ds' ∧ ns.length = i ∧ (∀ z ∈ ns, (0 : Int) ≤ z ∧ z < o) ∧ St ⟨F, del H p⟩ F H' [(D, .lst (iv ns)), (p, .lst (iv ds'))]) (fun D H' G' => ⟨d1, [], hd1, rfl, (fun _ h => nomatch h), G'⟩) ?_ ?_
  · rintro D i H' hi ⟨ds', ns, hd', hnl, hns, G2⟩
    walk_at "go"
    refine u_take G2 (fun _ => .tail .head) hd' (by omega) fun z d2 H2 z0 z1 hd2 G3 => ?_
    refine r_app G3 Upd.head (szl (by rw [iv_len]; omega)) fun H5 G5 => ?_
    rw [iv_snoc] at G5
    refine ⟨d2, ns ++ [z], hd2, by simp [hnl], fun q hq => ?_, G5⟩
    rcases List.mem_append.mp hq with y | y
    · exact hns q y
    · rw [List.mem_singleton.mp y]; exact ⟨z0, z1⟩
  rintro D H2 ⟨d2, os, hd2, hol, hos, G2⟩
  obtain ⟨F1, s1, fD, G2⟩ := G2.frz Tak.head
  walk_at "go"
  refine r_lst G2 (by walk_at "sz") fun C H3 G3 => ?_
  walk_at "go"
  refine r_i1 (by omega) ?_
  refine r_forR (fun i σ H' => ∃ F' ds' bs rs v9 v10 v11 v12, σ = [some (.ref p), some (.int m), some (.int o), some (.int l), some (.int mo), some (.int (1 + i1)), none, some (.ref D), some (.ref C), v9, v10, v11, v12] ∧ Same F1 F' ∧ Dok ds' ∧ bs.length = i ∧ RowsLT K F' bs rs ∧ (∀ r ∈ rs, (r.length : Int) = m ∧ ∀ x ∈ r, x.length = 2 ∧ (0 ≤ x.getD 0 0 ∧ x.getD 0 0 < 1 + i1) ∧ 0 ≤ x.getD 1 0 ∧ x.getD 1 0 < o) ∧
      St ⟨F, del H p⟩ F' H' [(C, .lst (rv bs)), (p, .lst (iv ds'))]) ⟨F1, d2, [], [], none, none, none, none, rfl, Same.refl _, hd2, rfl, .nil, (fun _ h => nomatch h), G3⟩ ?_ ?_
  · rintro i σ H' hi ⟨F', ds', bs, rs, v9, v10, v11, v12, rfl, sF', hd', hbl, hR, hrs, G4⟩
    walk_at "go"
    refine r_lst G4 (by walk_at "sz") fun B H5 G5 => ?_
    walk_at "go"
    refine r_i1 (by omega) ?_
    refine r_forR (fun j σ H'' => ∃ F'' ds'' ts r w11 w12, σ = [some (.ref p), some (.int m), some (.int o), some (.int l), some (.int mo), some (.int (1 + i1)), none, some (.ref D), some (.ref C), some (.int (0 + (i : Int))), some (.ref B), w11, w12] ∧ Same F' F'' ∧ Dok ds'' ∧ ts.length = j ∧ Rows K F'' false ts r ∧ (∀ x ∈ r, x.length = 2 ∧ (0 ≤ x.getD 0 0 ∧ x.getD 0 0 < 1 + i1) ∧ 0 ≤ x.getD 1 0 ∧ x.getD 1 0 < o) ∧
        St ⟨F, del H p⟩ F'' H'' [(B, .lst (rv ts)), (C, .lst (rv bs)), (p, .lst (iv ds''))]) ⟨F', ds', [], [], _, _, rfl, Same.refl _, hd', rfl, .nil, (fun _ h => nomatch h), G5⟩ ?_ ?_
    · rintro j σ H'' hj ⟨F'', ds'', ts, r, w11, w12, rfl, s2, hd2', htl, hR2, hr2, G6⟩
      walk_at "go"
      refine u_take G6 (fun _ => .tail (.tail .head)) hd2' (by omega) fun z d3 H6 z0 z1 hd3 G7 => ?_
      walk_at "go"
      refine u_take G7 (fun _ => .tail (.tail .head)) hd3 (by omega) fun y d4 H7 y0 y1 hd4 G8 => ?_
      walk_at "go"
      refine r_tup G8 (by walk_at "sz") fun e H8 G9 => ?_
      obtain ⟨F9, s9, f9, G10⟩ := G9.frz Tak.head
      walk_at "go"
      refine r_append G10 Upd.head (szl (by rw [rv_len]; omega)) fun H9 G11 => ?_
      walk_at "go"
      refine ⟨F9, d4, ts ++ [e], r ++ [[z, y]], _, _, rfl, s2.trans s9, hd4, by simp [htl], (hR2.mono s9).snoc (show SqT K F9 e (iv [z, y]) from SqT.of f9), fun x hx => ?_, ?_⟩
      · rcases List.mem_append.mp hx with q | q
        · exact hr2 x q
        · rw [List.mem_singleton.mp q]
          exact ⟨rfl, ⟨z0, z1⟩, y0, y1⟩
      · rw [show rv (ts ++ [e]) = rv ts ++ [V.ref e] from by simp]; exact G11
    · rintro σ H'' ⟨F'', ds'', ts, r, w11, w12, rfl, s2, hd2', htl, hR2, hr2, G6⟩
      walk_at "go"
      refine r_append G6 (.tail .head) (szl (by rw [rv_len]; omega)) fun H7 G7 => ?_
      obtain ⟨F8, s8, f8, G8⟩ := G7.frz Tak.head
      walk_at "go"
      have rl := hR2.len
      refine ⟨F8, ds'', bs ++ [B], rs ++ [r], _, _, _, _, rfl, sF'.trans (s2.trans s8), hd2', by simp [hbl], (hR.mono (s2.trans s8)).snoc (SqL.of f8) (hR2.mono s8), fun x hx => ?_, ?_⟩
      · rcases List.mem_append.mp hx with q | q
        · exact hrs x q
        · rw [List.mem_singleton.mp q]
          exact ⟨by omega, hr2⟩
      · rw [show rv (bs ++ [B]) = rv bs ++ [V.ref B] from by simp]; exact G8
  · rintro σ H' ⟨F', ds', bs, rs, v9, v10, v11, v12, rfl, sF', hd', hbl, hR, hrs, G4⟩
    have rl := hR.len
    have e1 : (rs.length : Int) = 1 + i1 := by omega
    walk_at "go"
    refine r_tup G4 (by walk_at "sz") fun t H5 G5 => ?_
    obtain ⟨F6, s6, f6, G6⟩ := G5.frz Tak.head
    obtain ⟨F7, s7, f7, G7⟩ := G6.frz Tak.head
    refine k F7 H5 t D C ds' bs os rs hd' ⟨m1, o1, l0, l1, by rw [hol, hcn]; omega, hos, by omega, fun r hr => ?_⟩ (fun r hr x hx => ((hrs r hr).2 x hx).1) (by omega) (SqT.of (s7 _ _ f6)) (SqL.of (s7 _ _ (s6 _ _ (sF' _ _ fD)))) (SqL.of f7) (hR.mono (s6.trans s7)) G7
    rw [e1]
    exact ⟨(hrs r hr).1, fun x hx => ((hrs r hr).2 x hx).2⟩
theorem p__law_at (T : Cl K A) (h : sp__law_at K A vs H Q E) : t__law_at K A E (D0 Q) (start ["lasso", "turn"] vs) H := by
  obtain ⟨w, t, hs, ls, rfl, hw, ln, t0, q⟩ := h
  obtain ⟨h, l, w1, w2, w3⟩ := hw.ex
  unfold t__law_at
  show tSeq _ _ (D0 Q) [some (.ref w), some (.int t)] H
  unfold D0
  unfold wd at q
  walk_at "go"
  refine r_ixT w1 (atI_nat (j := 0) rfl) ?_
  walk_at "go"
  refine r_len w2 ?_
  rw [iv_len]
  walk_at "go"
  refine r_ifD (fun hlt => ?_) (fun hlt => ?_)
  · walk_at "go"
    refine r_ixT w1 (atI_nat (j := 0) rfl) ?_
    walk_at "go"
    refine r_ixQ (xs := iv hs) w2 (atI_iv t0 hlt) ?_
    rw [if_pos (by omega)] at q
    exact q
  · walk_at "go"
    refine r_ixT w1 (atI_nat (j := 1) rfl) ?_
    walk_at "go"
    refine r_ixT w1 (atI_nat (j := 0) rfl) ?_
    walk_at "go"
    refine r_len w2 ?_
    rw [iv_len]
    walk_at "go"
    refine r_ixT w1 (atI_nat (j := 1) rfl) ?_
    walk_at "go"
    refine r_len w3 ?_
    rw [iv_len]
    walk_at "go"
    have e : (t - (hs.length : Int)) % (ls.length : Int) = (((t.toNat - hs.length) % ls.length : Nat) : Int) := by
      rw [Int.natCast_emod]
      congr 1
      omega
    rw [e]
    refine r_ixQ (xs := iv ls) w3 (atI_iv (by omega) (by have := Nat.mod_lt (t.toNat - hs.length) ln; omega)) ?_
    rw [if_neg (by omega)] at q
    exact q
theorem p__law_lasso (T : Cl K A) (h : sp__law_lasso K A vs H Q E) : t__law_lasso K A E (D0 Q) (start ["draws", "letters", "longest", "k", "head", "loop"] vs) H := by
  obtain ⟨F, p, ds, m, mo, rfl, sF, fp, hp, hd, m1, o1, o10, k⟩ := h
  have G := St.init1 sF hp fp
  unfold t__law_lasso
  show tSeq _ _ (D0 Q) [some (.ref p), some (.int m), some (.int mo), none, none, none] H
  unfold D0
  walk_at "go"
  refine u_take G (fun _ => Upd.head) hd (by omega) fun i1 d1 H1 i10 i11 hd1 G1 => ?_
  walk_at "go"
  refine r_i1 (by omega) ?_
  refine r_lcR G1 (fun D i H' => ∃ ds' ns, Dok ds' ∧ ns.length = i ∧ (∀ z ∈ ns, (0 : Int) ≤ z ∧ z < m) ∧ St ⟨F, del H p⟩ F H' [(D, .lst (iv ns)), (p, .lst (iv ds'))]) (fun D H' G' => ⟨d1, [], hd1, rfl, (fun _ h => nomatch h), G'⟩) ?_ ?_
  · rintro D i H' hi ⟨ds', ns, hd', hnl, hns, G2⟩
    walk_at "go"
    refine u_take G2 (fun _ => .tail .head) hd' (by omega) fun z d2 H2 z0 z1 hd2 G3 => ?_
    refine r_app G3 Upd.head (szl (by rw [iv_len]; omega)) fun H5 G5 => ?_
    rw [iv_snoc] at G5
    refine ⟨d2, ns ++ [z], hd2, by simp [hnl], fun q hq => ?_, G5⟩
    rcases List.mem_append.mp hq with y | y
    · exact hns q y
    · rw [List.mem_singleton.mp y]; exact ⟨z0, z1⟩
  rintro D H2 ⟨d2, hs, hd2, hhl, hhs, G2⟩
  walk_at "go"
  refine u_take G2 (fun _ => .tail .head) hd2 (by omega) fun i2 d3 H3 i20 i21 hd3 G3 => ?_
  walk_at "go"
  refine r_i1 (by omega) ?_
  refine r_lcR G3 (fun D2 i H' => ∃ ds' ns, Dok ds' ∧ ns.length = i ∧ (∀ z ∈ ns, (0 : Int) ≤ z ∧ z < m) ∧ St ⟨F, del H p⟩ F H' [(D2, .lst (iv ns)), (D, .lst (iv hs)), (p, .lst (iv ds'))]) (fun D2 H' G' => ⟨d3, [], hd3, rfl, (fun _ h => nomatch h), G'⟩) ?_ ?_
  · rintro D2 i H' hi ⟨ds', ns, hd', hnl, hns, G2⟩
    walk_at "go"
    refine u_take G2 (fun _ => .tail (.tail .head)) hd' (by omega) fun z d2 H2 z0 z1 hd2 G3 => ?_
    refine r_app G3 Upd.head (szl (by rw [iv_len]; omega)) fun H5 G5 => ?_
    rw [iv_snoc] at G5
    refine ⟨d2, ns ++ [z], hd2, by simp [hnl], fun q hq => ?_, G5⟩
    rcases List.mem_append.mp hq with y | y
    · exact hns q y
    · rw [List.mem_singleton.mp y]; exact ⟨z0, z1⟩
  rintro D2 H4 ⟨d4, ls, hd4, hll, hls, G4⟩
  walk_at "go"
  refine r_tupofL G4 (by walk_at "l") fun t1 H5 G5 => ?_
  walk_at "go"
  refine r_tupofL G5 (by walk_at "l") fun t2 H6 G6 => ?_
  walk_at "go"
  refine r_tup G6 (by walk_at "sz") fun w H7 G7 => ?_
  obtain ⟨F1, s1, f1, G8⟩ := G7.frz Tak.head
  obtain ⟨F2, s2, f2, G9⟩ := G8.frz Tak.head
  obtain ⟨F3, s3, f3, G10⟩ := G9.frz Tak.head
  exact k F3 H7 d4 w hs ls hd4 ⟨⟨t1, t2, SqT.of (s3 _ _ (s2 _ _ f1)), SqT.of f3, SqT.of (s3 _ _ f2)⟩⟩ hhs hls (by omega) (by omega) (by omega) ((G10.drop Tak.head).drop Tak.head)
theorem u_lasso {F : Hp} {X : XK} {En : En} {L : Led} {L' : List Int → Led} {p : Addr} {ds : List Int} {m mo : Int} (G : St En F H L) (u : ∀ ds', Upd L p (.lst (iv ds)) (.lst (iv ds')) (L' ds')) (hd : Dok ds) (m1 : 1 ≤ m) (o1 : 1 ≤ mo) (o10 : mo ≤ 10)
    (q : ∀ F' H' ds' w hs ls, Same F F' → Dok ds' → LasAt K F' w hs ls → (∀ z ∈ hs, 0 ≤ z ∧ z < m) → (∀ z ∈ ls, 0 ≤ z ∧ z < m) → 0 < ls.length → ls.length ≤ 10 → hs.length ≤ 10 → St En F' H' (L' ds') → Q (.ref w) H') : sp__law_lasso K A [.ref p, .int m, .int mo] H Q X := by
  refine ⟨F, p, ds, m, mo, rfl, G.fh, (G.own _ (u ds).mem).2.1, G.get (u ds).mem, hd, m1, o1, o10, fun F' H' ds' w hs ls hd' hw h1 h2 h3 h4 h5 g => ?_⟩
  exact q F' H' ds' w hs ls g.ff hd' hw h1 h2 h3 h4 h5 (G.joinB (u ds') g)
theorem law_end (T : Cl K A) {H0 F H1 : Hp} {x a D u1 u2 : Addr} {m o l : Int} {os cs h1 l1 h2 l2 : List Int} {rs : List (List (List Int))} {f1 f2 : Nat → Int} {v0 v1 v2 v3 v6 v8 v10 v11 : Option V} {L : Led} (G : St ⟨H0, H0⟩ F H1 L)
    (mD : (D, HO.lst (iv cs)) ∈ L) (hM : MaAt K A.C_Machine F x m o l os rs) (OK : Mok m o l os rs) (ha : SqL K F a (iv os)) (cb : ∀ z ∈ cs, 0 ≤ z ∧ z < m) (cl : cs.length ≤ 10)
    (p1 : 0 < l1.length) (p2 : 0 < l2.length) (c1 : ∀ i, i < cs.length → f1 i = fx cs i) (c2 : ∀ i, i < cs.length → f2 i = fx cs i)
    (hu1 : LasAt K F u1 h1 l1) (hu2 : LasAt K F u2 h2 l2) (w1 : ∀ i, wd h1 l1 i = sd os l (emM rs f1) i) (w2 : ∀ i, wd h2 l2 i = sd os l (emM rs f2) i) (k : ∀ H', Q (.bl true) H') :
    t_law_11 K A E (D0 Q) [v0, v1, v2, v3, some (.int l), some (.ref a), v6, some (.ref x), v8, some (.ref D), v10, v11, some (.ref u1), some (.ref u2), none, none] H1 := by
  have lD : SqL K H1 D (iv cs) := SqL.of (G.get mD)
  have la : SqL K H1 a (iv os) := lS G.fh ha
  have ol := OK.ol
  have ol0 := OK.l0
  have ol1 := OK.l1
  have os3 : os.length ≤ 3 := by split at ol <;> omega
  have hu1' := hu1.mono G.fh
  have hu2' := hu2.mono G.fh
  have emc : ∀ {f : Nat → Int}, (∀ i, i < cs.length → f i = fx cs i) → ∀ i, i < cs.length → emM rs f i = emM rs (fx cs) i := fun {f} h i hi => by
    unfold emM
    rw [em_ext (N := cs.length) h i (by omega), h i hi]
  have agree : ∀ i : Nat, (i : Int) + l < cs.length → sd os l (emM rs f1) i = sd os l (emM rs f2) i := fun i hi => by
    unfold sd
    split
    · rfl
    · rw [emc c1 _ (by omega), emc c2 _ (by omega)]
  have atOp : ∀ {f : Nat → Int} (i : Nat), i < os.length → sd os l (emM rs f) i = os.getD i 0 := fun {f} i hi => by
    unfold sd
    rw [if_pos (by split at ol <;> omega)]
  unfold t_law_11 D0
  walk_at "go"
  rw [iv_len]
  generalize hL : (if (cs.length : Int) - l > 0 then (cs.length : Int) - l else 0) = lim
  have lb : 0 ≤ lim ∧ lim ≤ 20 := by rw [← hL]; split <;> omega
  refine r_i1 (by omega) ?_
  refine r_forR (fun i σ H' => H1 = H' ∧ ∃ v, σ = [v0, v1, v2, v3, some (.int l), some (.ref a), v6, some (.ref x), v8, some (.ref D), v10, v11, some (.ref u1), some (.ref u2), v, none]) ⟨rfl, _, rfl⟩ ?_ ?_
  · rintro i σ H' hi ⟨rfl, v, rfl⟩
    walk_at "go"
    refine ⟨u1, _, h1, l1, rfl, .of hu1', p1, by omega, ?_⟩
    walk_at "go"
    refine ⟨u2, _, h2, l2, rfl, .of hu2', p2, by omega, ?_⟩
    rw [show (0 + (i : Int)).toNat = i from by omega]
    walk_at "go"
    refine r_ifNF ?_ ?_
    · rw [w1, w2, agree i (by split at hL <;> omega)]
    walk_at "go"
    exact ⟨rfl, _, rfl⟩
  rintro σ H' ⟨rfl, v, rfl⟩
  walk_at "go"
  rw [iv_len]
  refine r_i1 (by omega) ?_
  refine r_forR (fun i σ H' => H1 = H' ∧ ∃ v, σ = [v0, v1, v2, v3, some (.int l), some (.ref a), v6, some (.ref x), v8, some (.ref D), v10, v11, some (.ref u1), some (.ref u2), v, none]) ⟨rfl, _, rfl⟩ ?_ ?_
  · rintro i σ H' hi ⟨rfl, v, rfl⟩
    have hi' : i < os.length := by omega
    walk_at "go"
    refine ⟨u1, _, h1, l1, rfl, .of hu1', p1, by omega, ?_⟩
    rw [show (0 + (i : Int)).toNat = i from by omega, w1, atOp i hi']
    walk_at "go"
    refine r_ixL la (atI_iv (by omega) (by omega)) ?_
    rw [show (0 + (i : Int)).toNat = i from by omega]
    walk_at "go"
    refine ⟨u2, _, h2, l2, rfl, .of hu2', p2, by omega, ?_⟩
    rw [show (0 + (i : Int)).toNat = i from by omega, w2, atOp i hi']
    walk_at "go"
    refine r_ixL la (atI_iv (by omega) (by omega)) ?_
    rw [show (0 + (i : Int)).toNat = i from by omega]
    walk_at "go"
    exact ⟨rfl, _, rfl⟩
  rintro σ H' ⟨rfl, v', rfl⟩
  walk_at "go"
  unfold t_law_13
  walk_at "go"
  obtain ⟨dx, oa, ra, as, g1, g2, g3, g4⟩ := hM.ex
  refine w_callO2 ?_
  walk_at "go"
  refine ⟨x, rfl, ?_⟩
  walk_at "go"
  refine ⟨⟨_, _, G.fh _ _ g1⟩, F, x, D, m, o, l, os, cs, rs, rfl, G.fh, hM, OK, by omega, lD, by omega, fun _ H2 B G2 => ?_, fun hn => absurd cb hn⟩
  have lB : SqL K H2 B (iv (saidL os l rs (fx cs) cs.length)) := SqL.of (G2.get (.head _))
  have sl : (saidL os l rs (fx cs) cs.length).length = os.length + (cs.length - l.toNat) := by unfold saidL; simp
  have se : ∀ i, i < (saidL os l rs (fx cs) cs.length).length → (saidL os l rs (fx cs) cs.length).getD i 0 = wd h1 l1 i := fun i hi => by
    rw [sl] at hi
    rw [w1]
    unfold saidL sd
    rw [List.getD_eq_getElem?_getD]
    by_cases c : i < os.length
    · rw [List.getElem?_append_left c, if_pos (by split at ol <;> omega)]
      show os[i]?.getD 0 = os.getD i 0
      rw [List.getD_eq_getElem?_getD]
    · rw [List.getElem?_append_right (by omega), if_neg (by split at ol <;> omega), List.getElem?_drop, List.getElem?_map, List.getElem?_range (by omega)]
      have e : ((i : Int) + l).toNat = l.toNat + (i - os.length) := by split at ol <;> omega
      rw [e, emc c1 _ (by omega)]; rfl
  have lD2 : SqL K H2 D (iv cs) := lS G2.bh lD
  generalize saidL os l rs (fx cs) cs.length = sa at *
  walk_at "go"
  rw [iv_len]
  refine r_i1 (by omega) ?_
  refine r_forR (fun i σ H' => H2 = H' ∧ ∃ v, σ = [v0, v1, v2, v3, some (.int l), some (.ref a), v6, some (.ref x), v8, some (.ref D), v10, v11, some (.ref u1), some (.ref u2), v, some (.ref B)]) ⟨rfl, _, rfl⟩ ?_ ?_
  · rintro i σ H' hi ⟨rfl, v, rfl⟩
    walk_at "go"
    refine r_ixL lB (atI_iv (by omega) (by omega)) ?_
    walk_at "go"
    refine ⟨u1, _, h1, l1, rfl, .of (hu1.mono G2.fh), p1, by omega, ?_⟩
    rw [show (0 + (i : Int)).toNat = i from by omega]
    walk_at "go"
    refine r_ifNF (se i (by omega)) ?_
    walk_at "go"
    exact ⟨rfl, _, rfl⟩
  rintro σ H' ⟨rfl, v, rfl⟩
  walk_at "go"
  rw [iv_len, iv_len]
  have e : ((sa.length : Int) = if (cs.length : Int) - l > 0 then (cs.length : Int) - l else 0) := by rw [sl]; split at ol <;> split <;> omega
  rw [decide_eq_true e]
  exact k _
theorem law_nine (T : Cl K A) {H0 F H1 : Hp} {x a D y1 y2 : Addr} {m o l : Int} {os cs hs1 ls1 hs2 ls2 : List Int} {rs : List (List (List Int))} {v0 v1 v2 v3 v6 v8 : Option V} {L : Led} (G : St ⟨H0, H0⟩ F H1 L)
    (mD : (D, HO.lst (iv cs)) ∈ L) (hM : MaAt K A.C_Machine F x m o l os rs) (OK : Mok m o l os rs) (rl : rs.length ≤ 10) (ha : SqL K F a (iv os)) (cb : ∀ z ∈ cs, 0 ≤ z ∧ z < m) (cl : cs.length ≤ 10)
    (hy1 : LasAt K F y1 hs1 ls1) (a1 : ∀ z ∈ hs1, 0 ≤ z ∧ z < m) (a2 : ∀ z ∈ ls1, 0 ≤ z ∧ z < m) (a3 : 0 < ls1.length) (a4 : ls1.length ≤ 10) (a5 : hs1.length ≤ 10)
    (hy2 : LasAt K F y2 hs2 ls2) (b1 : ∀ z ∈ hs2, 0 ≤ z ∧ z < m) (b2 : ∀ z ∈ ls2, 0 ≤ z ∧ z < m) (b3 : 0 < ls2.length) (b4 : ls2.length ≤ 10) (b5 : hs2.length ≤ 10) (k : ∀ H', Q (.bl true) H') :
    t_law_9 K A E (D0 Q) [v0, v1, v2, v3, some (.int l), some (.ref a), v6, some (.ref x), v8, some (.ref D), some (.ref y1), some (.ref y2), none, none, none, none] H1 := by
  obtain ⟨hd1, ld1, w1, w2, w3⟩ := hy1.ex
  obtain ⟨hd2, ld2, x1, x2, x3⟩ := hy2.ex
  have bnd : ∀ {hs ls : List Int}, (∀ z ∈ hs, 0 ≤ z ∧ z < m) → (∀ z ∈ ls, 0 ≤ z ∧ z < m) → (∀ z ∈ cs ++ hs, 0 ≤ z) ∧ (∀ z ∈ ls, 0 ≤ z) ∧ ∀ z ∈ (cs ++ hs) ++ ls, z < m := fun {hs ls} p q => by
    refine ⟨fun z hz => ?_, fun z hz => (q z hz).1, fun z hz => ?_⟩
    · rcases List.mem_append.mp hz with c | c
      · exact (cb z c).1
      · exact (p z c).1
    · rcases List.mem_append.mp hz with c | c
      · rcases List.mem_append.mp c with c | c
        · exact (cb z c).2
        · exact (p z c).2
      · exact (q z c).2
  obtain ⟨d1, d2, d3⟩ := bnd a1 a2
  obtain ⟨e1, e2, e3⟩ := bnd b1 b2
  unfold t_law_9 D0
  walk_at "go"
  refine r_tupofL G (SqL.of (G.get mD)) fun t1 H2 G2 => ?_
  obtain ⟨F2, s2, f2, G2⟩ := G2.frz Tak.head
  walk_at "go"
  refine r_ixT (tS G2.fh (tS s2 w1)) (atI_nat (j := 0) rfl) ?_
  refine r_catAX G2 (SqT.of f2) (tS s2 w2) (sz (by rw [iv_len, iv_len]; omega)) fun F3 H3 c s3 _ hc G3 => ?_
  rw [← List.map_append] at hc
  walk_at "go"
  refine r_ixT (tS G3.fh (tS (s2.trans s3) w1)) (atI_nat (j := 1) rfl) ?_
  walk_at "go"
  refine r_tup G3 (by walk_at "sz") fun u H4 G4 => ?_
  obtain ⟨F4, s4, f4, G4⟩ := G4.frz Tak.head
  have sA := (s2.trans s3).trans s4
  walk_at "go"
  refine ⟨F4, x, u, m, o, l, os, cs ++ hs1, ls1, rs, rfl, G4.fh, hM.mono sA, OK, ⟨⟨c, ld1, SqT.of f4, tS s4 hc, tS sA w3⟩⟩, d1, d2, a3, a4, by rw [List.length_append]; omega, rl, fun z => absurd d3 z, fun _ F5 H5 u1 h1 l1 _ _ n1 q1 hu1 g5 => ?_⟩
  have G5 := G4.call g5.gr
  have sB := sA.trans g5.ff
  walk_at "go"
  refine r_tupofL G5 (SqL.of (G5.get mD)) fun t2 H6 G6 => ?_
  obtain ⟨F6, s6, f6, G6⟩ := G6.frz Tak.head
  walk_at "go"
  refine r_ixT (tS G6.fh (tS (sB.trans s6) x1)) (atI_nat (j := 0) rfl) ?_
  refine r_catAX G6 (SqT.of f6) (tS (sB.trans s6) x2) (sz (by rw [iv_len, iv_len]; omega)) fun F7 H7 c2 s7 _ hc2 G7 => ?_
  rw [← List.map_append] at hc2
  walk_at "go"
  refine r_ixT (tS G7.fh (tS ((sB.trans s6).trans s7) x1)) (atI_nat (j := 1) rfl) ?_
  walk_at "go"
  refine r_tup G7 (by walk_at "sz") fun u2 H8 G8 => ?_
  obtain ⟨F8, s8, f8, G8⟩ := G8.frz Tak.head
  have sC := ((sB.trans s6).trans s7).trans s8
  walk_at "go"
  refine ⟨F8, x, u2, m, o, l, os, cs ++ hs2, ls2, rs, rfl, G8.fh, hM.mono sC, OK, ⟨⟨c2, ld2, SqT.of f8, tS s8 hc2, tS sC x3⟩⟩, e1, e2, b3, b4, by rw [List.length_append]; omega, rl, fun z => absurd e3 z, fun _ F9 H9 u3 h2 l2 _ _ n2 q2 hu2 g9 => ?_⟩
  have G9 := G8.call g9.gr
  walk_at "go"
  exact law_end T G9 mD (hM.mono (sC.trans g9.ff)) OK (lS (sC.trans g9.ff) ha) cb cl n1.ne n2.ne (fun i hi => wd_app i hi) (fun i hi => wd_app i hi) (hu1.mono (((s6.trans s7).trans s8).trans g9.ff)) hu2 q1 q2 k
theorem p_law (T : Cl K A) (h : sp_law K A vs H Q E) : t_law K A E (D0 Q) (start ["script", "draws", "inputs", "outputs", "lead", "opening", "rows", "machine", "k", "common", "one", "two", "first", "second", "turn", "said"] vs) H := by
  obtain ⟨s, ns, rfl, hs, hns, k⟩ := h
  have G := St.init (Same.refl H)
  unfold t_law
  show tSeq _ _ (D0 Q) [some (.ref s), none, none, none, none, none, none, none, none, none, none, none, none, none, none, none] H
  unfold D0
  walk_at "go"
  refine u_draws G hs hns (by decide) (by decide) fun p d1 H1 hd1 G1 => ?_
  walk_at "go"
  refine u_take G1 (fun _ => Upd.head) hd1 (by decide) fun i1 d2 H2 i10 i11 hd2 G2 => ?_
  walk_at "go"
  refine u_take G2 (fun _ => Upd.head) hd2 (by decide) fun i2 d3 H3 i20 i21 hd3 G3 => ?_
  walk_at "go"
  refine u_take G3 (fun _ => Upd.head) hd3 (by decide) fun i3 d4 H4 i30 i31 hd4 G4 => ?_
  walk_at "go"
  refine ⟨H, p, d4, 2 + i1, 1 + i2, i3 - 3, 4, rfl, G4.fh, (G4.own _ (by walk_at "m")).2.1, G4.get (by walk_at "m"), hd4, by omega, by omega, by omega, by omega, by omega, by omega, by omega, fun F5 H5 t a b d5 bs os rs hd5 OK p2 rl ht ha hb hR w5 => ?_⟩
  have G5 : St ⟨H, H⟩ F5 H5 [(p, .lst (iv d5))] := G4.joinB Upd.head w5
  refine ⟨t, _, rfl, tS G5.fh ht, rfl, ?_⟩
  refine ⟨_, _, rfl, _, _, rfl, rfl, ?_⟩
  have os3 : os.length ≤ 3 := by have q1 := OK.ol; have q2 := OK.l0; split at q1 <;> omega
  have rl0 : ∀ r ∈ rs, r.length ≤ 1000 := fun r hr => by have := (OK.rr r hr).1; omega
  show t_law_5 K A E _ [some (.ref s), some (.ref p), some (.int (2 + i1)), some (.int (1 + i2)), some (.int (i3 - 3)), some (.ref a), some (.ref b), none, none, none, none, none, none, none, none, none] H5
  unfold t_law_5
  walk_at "go"
  refine r_listof G5 (.inl (lS G5.fh ha)) fun a2 H6 G6 => ?_
  walk_at "go"
  refine ⟨F5, b, bs, rs, rfl, G6.fh, hb, hR, by omega, fun F7 H7 b2 bs2 hb2 hR2 w7 => ?_⟩
  have G7 := G6.call w7.gr
  walk_at "go"
  refine r_mk G7 fun y dy H8 G8 => ?_
  refine ⟨F7, y, dy, a2, b2, bs2, _, _, _, os, rs, rfl, G8.fh, (G8.own _ (by walk_at "m")).2.1, G8.get (by walk_at "m"), .inl (SqL.of (G8.get (.tail _ (.tail _ (.head _))))), .inl (lS G8.fh hb2), hR2.toX G8.fh, by omega, rl0, p2, fun _ F9 H9 oa ra as' gb hy h2 h3 h4 => ⟨rfl, ?_⟩, fun np => absurd OK np⟩
  have G9 := G8.callB Upd.head gb hy
  obtain ⟨F10, s10, hy10, G10⟩ := G9.frz Tak.head
  have G11 := (G10.drop Tak.head).drop Tak.head
  have hM : MaAt K A.C_Machine F10 y _ _ _ os rs := ⟨⟨dy, oa, ra, as', hy10, tS s10 h2, tS s10 h3, h4.mono s10⟩, p2⟩
  have sA := (w7.ff.trans gb.ff).trans s10
  have ha2 := lS sA ha
  walk_at "go"
  unfold t_law_6
  walk_at "go"
  refine u_take G11 (fun _ => Upd.head) hd5 (by decide) fun i4 d6 H12 i40 i41 hd6 G12 => ?_
  walk_at "go"
  refine r_i1 (by omega) ?_
  refine r_lcR G12 (fun D i H' => ∃ ds' ns, Dok ds' ∧ ns.length = i ∧ (∀ z ∈ ns, (0 : Int) ≤ z ∧ z < 2 + i1) ∧ St ⟨H, H⟩ F10 H' [(D, .lst (iv ns)), (p, .lst (iv ds'))]) (fun D H' G' => ⟨d6, [], hd6, rfl, (fun _ h => nomatch h), G'⟩) ?_ ?_
  · rintro D i H' hi ⟨ds', ns, hd', hnl, hns, G2⟩
    walk_at "go"
    refine u_take G2 (fun _ => .tail .head) hd' (by omega) fun z d2 H2 z0 z1 hd2 G3 => ?_
    refine r_app G3 Upd.head (szl (by rw [iv_len]; omega)) fun H5 G5 => ?_
    rw [iv_snoc] at G5
    refine ⟨d2, ns ++ [z], hd2, by simp [hnl], fun q hq => ?_, G5⟩
    rcases List.mem_append.mp hq with y | y
    · exact hns q y
    · rw [List.mem_singleton.mp y]; exact ⟨z0, z1⟩
  rintro D H13 ⟨d7, cs, hd7, hcl, hcs, G13⟩
  walk_at "go"
  refine u_lasso G13 (fun _ => .tail .head) hd7 (by omega) (by decide) (by decide) fun F14 H14 d8 y1 hs1 ls1 s14 hd8 hy1 a1 a2' a3 a4 a5 G14 => ?_
  walk_at "go"
  refine u_lasso G14 (fun _ => .tail .head) hd8 (by omega) (by decide) (by decide) fun F15 H15 d9 y2 hs2 ls2 s15 hd9 hy2 b1 b2' b3 b4 b5 G15 => ?_
  walk_at "go"
  exact law_nine T G15 (.head _) (hM.mono (s14.trans s15)) OK (by omega) (lS (s14.trans s15) ha2) hcs (by omega) (hy1.mono s15) a1 a2' a3 a4 a5 hy2 b1 b2' b3 b4 b5 k
end

def top (i : Nat) : Stmt := PySem.Challenge.pw_promiseplay_k45_lead_and_causes.main.body.getD i (.Pass ⟨0, 0, 0, 0⟩)
abbrev s_normal_lasso : Stmt := (top 6)
abbrev s_root_length : Stmt := (top 7)
abbrev s_suffix : Stmt := (top 8)
abbrev s_check_letters : Stmt := (top 9)
abbrev s_Machine_init : Stmt := (inClass (top 12) 0)
abbrev s_Machine_call : Stmt := (inClass (top 12) 1)
abbrev s_are_below : Stmt := (top 13)
abbrev s_emitted_word : Stmt := (top 14)
abbrev s_respond : Stmt := (top 15)
abbrev s_said_word : Stmt := (top 16)
abbrev s__law_draws : Stmt := (top 18)
abbrev s__law_take : Stmt := (top 19)
abbrev s__law_at : Stmt := (top 20)
abbrev s__law_lasso : Stmt := (top 21)
abbrev s__law_flat : Stmt := (top 22)
abbrev s__law_machine : Stmt := (top 23)
abbrev s_law : Stmt := (top 24)
theorem sc_normal_lasso : FnScope ["head", "loop", "root", "size", "kept", "moved", "cut"] ["head", "loop"] (defScope s_normal_lasso) := ⟨rfl, rfl, rfl, by decide +kernel, rfl, by decide +kernel, by decide +kernel⟩
theorem sc_root_length : FnScope ["loop", "size", "borders", "border", "k", "period"] ["loop"] (defScope s_root_length) := ⟨rfl, rfl, rfl, by decide +kernel, rfl, by decide +kernel, by decide +kernel⟩
theorem sc_suffix : FnScope ["lasso", "turns", "head", "loop", "cut"] ["lasso", "turns"] (defScope s_suffix) := ⟨rfl, rfl, rfl, by decide +kernel, rfl, by decide +kernel, by decide +kernel⟩
theorem sc_check_letters : FnScope ["lasso", "letters", "head", "loop"] ["lasso", "letters"] (defScope s_check_letters) := ⟨rfl, rfl, rfl, by decide +kernel, rfl, by decide +kernel, by decide +kernel⟩
theorem sc_Machine_init : FnScope ["self", "inputs", "outputs", "lead", "opening", "rows", "row", "pair"] ["self", "inputs", "outputs", "lead", "opening", "rows"] (defScope s_Machine_init) := ⟨rfl, rfl, rfl, by decide +kernel, rfl, by decide +kernel, by decide +kernel⟩
theorem sc_Machine_call : FnScope ["self", "heard", "said", "state", "turn", "letter", "emitted"] ["self", "heard"] (defScope s_Machine_call) := ⟨rfl, rfl, rfl, by decide +kernel, rfl, by decide +kernel, by decide +kernel⟩
theorem sc_are_below : FnScope ["numbers", "count"] ["numbers", "count"] (defScope s_are_below) := ⟨rfl, rfl, rfl, by decide +kernel, rfl, by decide +kernel, by decide +kernel⟩
theorem sc_emitted_word : FnScope ["machine", "state", "lasso", "head", "loop", "letters", "letter", "emitted", "begun"] ["machine", "state", "lasso"] (defScope s_emitted_word) := ⟨rfl, rfl, rfl, by decide +kernel, rfl, by decide +kernel, by decide +kernel⟩
theorem sc_respond : FnScope ["machine", "lasso", "head", "loop"] ["machine", "lasso"] (defScope s_respond) := ⟨rfl, rfl, rfl, by decide +kernel, rfl, by decide +kernel, by decide +kernel⟩
theorem sc_said_word : FnScope ["machine", "head", "loop"] ["machine", "head", "loop"] (defScope s_said_word) := ⟨rfl, rfl, rfl, by decide +kernel, rfl, by decide +kernel, by decide +kernel⟩
theorem sc__law_draws : FnScope ["script", "count", "cells", "found", "mixed", "k", "j", "cell", "again"] ["script", "count"] (defScope s__law_draws) := ⟨rfl, rfl, rfl, by decide +kernel, rfl, by decide +kernel, by decide +kernel⟩
theorem sc__law_take : FnScope ["draws", "limit"] ["draws", "limit"] (defScope s__law_take) := ⟨rfl, rfl, rfl, by decide +kernel, rfl, by decide +kernel, by decide +kernel⟩
theorem sc__law_at : FnScope ["lasso", "turn"] ["lasso", "turn"] (defScope s__law_at) := ⟨rfl, rfl, rfl, by decide +kernel, rfl, by decide +kernel, by decide +kernel⟩
theorem sc__law_lasso : FnScope ["draws", "letters", "longest", "k", "head", "loop"] ["draws", "letters", "longest"] (defScope s__law_lasso) := ⟨rfl, rfl, rfl, by decide +kernel, rfl, by decide +kernel, by decide +kernel⟩
theorem sc__law_flat : FnScope ["rows", "row"] ["rows"] (defScope s__law_flat) := ⟨rfl, rfl, rfl, by decide +kernel, rfl, by decide +kernel, by decide +kernel⟩
theorem sc__law_machine : FnScope ["draws", "inputs", "outputs", "lead", "most", "count", "k", "opening", "rows", "state", "row", "letter", "target"] ["draws", "inputs", "outputs", "lead", "most"] (defScope s__law_machine) := ⟨rfl, rfl, rfl, by decide +kernel, rfl, by decide +kernel, by decide +kernel⟩
theorem sc_law : FnScope ["script", "draws", "inputs", "outputs", "lead", "opening", "rows", "machine", "k", "common", "one", "two", "first", "second", "turn", "said"] ["script"] (defScope s_law) := ⟨rfl, rfl, rfl, by decide +kernel, rfl, by decide +kernel, by decide +kernel⟩
structure Txt (K : PySem.W.Frag) (mg : Str → Option Value) (A : Ads) : Prop where
  cl : Cl K A
  F_normal_lasso : Fun K "normal_lasso" "normal_lasso" s_normal_lasso A.a_normal_lasso A.fd_normal_lasso
  b_normal_lasso : Binds K A.fd_normal_lasso ["head", "loop"] []
  g_normal_lasso : mg "normal_lasso" = some (.ref A.a_normal_lasso)
  k_normal_lasso : PySem.W.keepIn K (.ref A.a_normal_lasso) = true
  F_root_length : Fun K "root_length" "root_length" s_root_length A.a_root_length A.fd_root_length
  b_root_length : Binds K A.fd_root_length ["loop"] []
  g_root_length : mg "root_length" = some (.ref A.a_root_length)
  k_root_length : PySem.W.keepIn K (.ref A.a_root_length) = true
  F_suffix : Fun K "suffix" "suffix" s_suffix A.a_suffix A.fd_suffix
  b_suffix : Binds K A.fd_suffix ["lasso", "turns"] []
  g_suffix : mg "suffix" = some (.ref A.a_suffix)
  k_suffix : PySem.W.keepIn K (.ref A.a_suffix) = true
  F_check_letters : Fun K "check_letters" "check_letters" s_check_letters A.a_check_letters A.fd_check_letters
  b_check_letters : Binds K A.fd_check_letters ["lasso", "letters"] []
  g_check_letters : mg "check_letters" = some (.ref A.a_check_letters)
  k_check_letters : PySem.W.keepIn K (.ref A.a_check_letters) = true
  F_Machine_init : Fun K "__init__" "Machine.__init__" s_Machine_init A.a_Machine_init A.fd_Machine_init
  b_Machine_init : Binds K A.fd_Machine_init ["self", "inputs", "outputs", "lead", "opening", "rows"] []
  mt_Machine_init : Meth K A.C_Machine "__init__" A.a_Machine_init
  F_Machine_call : Fun K "__call__" "Machine.__call__" s_Machine_call A.a_Machine_call A.fd_Machine_call
  b_Machine_call : Binds K A.fd_Machine_call ["self", "heard"] []
  mt_Machine_call : Meth K A.C_Machine "__call__" A.a_Machine_call
  F_are_below : Fun K "are_below" "are_below" s_are_below A.a_are_below A.fd_are_below
  b_are_below : Binds K A.fd_are_below ["numbers", "count"] []
  g_are_below : mg "are_below" = some (.ref A.a_are_below)
  k_are_below : PySem.W.keepIn K (.ref A.a_are_below) = true
  F_emitted_word : Fun K "emitted_word" "emitted_word" s_emitted_word A.a_emitted_word A.fd_emitted_word
  b_emitted_word : Binds K A.fd_emitted_word ["machine", "state", "lasso"] []
  g_emitted_word : mg "emitted_word" = some (.ref A.a_emitted_word)
  k_emitted_word : PySem.W.keepIn K (.ref A.a_emitted_word) = true
  F_respond : Fun K "respond" "respond" s_respond A.a_respond A.fd_respond
  b_respond : Binds K A.fd_respond ["machine", "lasso"] []
  g_respond : mg "respond" = some (.ref A.a_respond)
  k_respond : PySem.W.keepIn K (.ref A.a_respond) = true
  F_said_word : Fun K "said_word" "said_word" s_said_word A.a_said_word A.fd_said_word
  b_said_word : Binds K A.fd_said_word ["machine", "head", "loop"] []
  g_said_word : mg "said_word" = some (.ref A.a_said_word)
  k_said_word : PySem.W.keepIn K (.ref A.a_said_word) = true
  F__law_draws : Fun K "_law_draws" "_law_draws" s__law_draws A.a__law_draws A.fd__law_draws
  b__law_draws : Binds K A.fd__law_draws ["script", "count"] []
  g__law_draws : mg "_law_draws" = some (.ref A.a__law_draws)
  k__law_draws : PySem.W.keepIn K (.ref A.a__law_draws) = true
  F__law_take : Fun K "_law_take" "_law_take" s__law_take A.a__law_take A.fd__law_take
  b__law_take : Binds K A.fd__law_take ["draws", "limit"] []
  g__law_take : mg "_law_take" = some (.ref A.a__law_take)
  k__law_take : PySem.W.keepIn K (.ref A.a__law_take) = true
  F__law_at : Fun K "_law_at" "_law_at" s__law_at A.a__law_at A.fd__law_at
  b__law_at : Binds K A.fd__law_at ["lasso", "turn"] []
  g__law_at : mg "_law_at" = some (.ref A.a__law_at)
  k__law_at : PySem.W.keepIn K (.ref A.a__law_at) = true
  F__law_lasso : Fun K "_law_lasso" "_law_lasso" s__law_lasso A.a__law_lasso A.fd__law_lasso
  b__law_lasso : Binds K A.fd__law_lasso ["draws", "letters", "longest"] []
  g__law_lasso : mg "_law_lasso" = some (.ref A.a__law_lasso)
  k__law_lasso : PySem.W.keepIn K (.ref A.a__law_lasso) = true
  F__law_flat : Fun K "_law_flat" "_law_flat" s__law_flat A.a__law_flat A.fd__law_flat
  b__law_flat : Binds K A.fd__law_flat ["rows"] []
  g__law_flat : mg "_law_flat" = some (.ref A.a__law_flat)
  k__law_flat : PySem.W.keepIn K (.ref A.a__law_flat) = true
  F__law_machine : Fun K "_law_machine" "_law_machine" s__law_machine A.a__law_machine A.fd__law_machine
  b__law_machine : Binds K A.fd__law_machine ["draws", "inputs", "outputs", "lead", "most"] []
  g__law_machine : mg "_law_machine" = some (.ref A.a__law_machine)
  k__law_machine : PySem.W.keepIn K (.ref A.a__law_machine) = true
  F_law : Fun K "law" "law" s_law A.a_law A.fd_law
  b_law : Binds K A.fd_law ["script"] []
  g_law : mg "law" = some (.ref A.a_law)
  k_law : PySem.W.keepIn K (.ref A.a_law) = true
  g_Machine : mg "Machine" = some (.ref A.C_Machine)
  cl_Machine : Cls K A.C_Machine
  M_Machine : Mk K A.C_Machine A.a_Machine_init
  g_InvalidLetter : mg "InvalidLetter" = some (.ref A.C_InvalidLetter)
  g_InvalidMachine : mg "InvalidMachine" = some (.ref A.C_InvalidMachine)
  g_InvalidTurn : mg "InvalidTurn" = some (.ref A.C_InvalidTurn)
  k_InvalidLetter : PySem.W.keepIn K (.ref A.C_InvalidLetter) = true
  x_InvalidLetter : PySem.W.excIn K A.C_InvalidLetter [.type "ValueError", .type "Exception", .type "BaseException", .type "object"] "ValueError.__new__" = true
  s_InvalidLetter : PySem.W.subIn K (.ref A.C_InvalidLetter) (.type "BaseException") = some true
  t_InvalidLetter : PySem.W.typeIn K (.ref A.C_InvalidLetter) = some (.type "type")
  k_InvalidMachine : PySem.W.keepIn K (.ref A.C_InvalidMachine) = true
  x_InvalidMachine : PySem.W.excIn K A.C_InvalidMachine [.type "ValueError", .type "Exception", .type "BaseException", .type "object"] "ValueError.__new__" = true
  s_InvalidMachine : PySem.W.subIn K (.ref A.C_InvalidMachine) (.type "BaseException") = some true
  t_InvalidMachine : PySem.W.typeIn K (.ref A.C_InvalidMachine) = some (.type "type")
  k_InvalidTurn : PySem.W.keepIn K (.ref A.C_InvalidTurn) = true
  x_InvalidTurn : PySem.W.excIn K A.C_InvalidTurn [.type "ValueError", .type "Exception", .type "BaseException", .type "object"] "ValueError.__new__" = true
  s_InvalidTurn : PySem.W.subIn K (.ref A.C_InvalidTurn) (.type "BaseException") = some true
  t_InvalidTurn : PySem.W.typeIn K (.ref A.C_InvalidTurn) = some (.type "type")
  z_enumerate : mg "enumerate" = none
  z_int : mg "int" = none
  z_len : mg "len" = none
  z_list : mg "list" = none
  z_max : mg "max" = none
  z_min : mg "min" = none
  z_range : mg "range" = none
  z_tuple : mg "tuple" = none
  g_LEADS : mg "LEADS" = some (.ref A.c_LEADS)
section
variable {P : Program} {w : World} {K : PySem.W.Frag} {mg : Str → Option Value} {base : Heap} {A : Ads}
theorem ok_root_length (T : Txt K mg A) : FnOk P w K mg base CX0 1 A.a_root_length A.fd_root_length ["loop"] (sp_root_length K A) :=
  T.F_root_length.ok sc_root_length (fun vs H Q E h => by obtain ⟨_, _, _, rfl, _⟩ := h; rfl) (fun cdv Ar outer s H vs Q E hr h => ⟨t_root_length K A E, by exact (pss_cons (ps_set (i := 1) sc_root_length.nd rfl (Or.inl rfl) (pe_callB call_len_seq (by rfl) T.z_len (by decide +kernel) (pa_cons (pv 0) pa_nil)))
 (pss_cons (ps_set (i := 2) sc_root_length.nd rfl (Or.inl rfl) (pe_op op_rep (pe_lst (pa_cons pe_int pa_nil)) (pv 1)))
 (pss_cons (ps_set (i := 3) sc_root_length.nd rfl (Or.inl rfl) pe_int)
 (pss_cons (ps_for PassesOwn.never rfl (pi_range2 rfl T.z_range (pa_cons pe_int (pa_cons (pv 1) pa_nil))) (pg_name (i := 4) sc_root_length.nd rfl (Or.inl rfl)) (pss_cons (ps_while PassesOwn.never (PW.pt (pw_and (pt_cmpR op_gt (pv 3) pe_int (nomark _)) (pw_and1 (pt_cmpR op_ne (pe_ix ix_seq (pv 0) (pv 4) (fun _ _ => rfl)) (pe_ix ix_seq (pv 0) (pv 3) (fun _ _ => rfl)) (nomark _))))) (pss_one (ps_set (i := 3) sc_root_length.nd rfl (Or.inl rfl) (pe_ix ix_list (pv 2) (pe_op op_sub (pv 3) pe_int) (fun _ _ => rfl)))))
 (pss_cons (ps_if (pt_cmpR op_eq (pe_ix ix_seq (pv 0) (pv 4) (fun _ _ => rfl)) (pe_ix ix_seq (pv 0) (pv 3) (fun _ _ => rfl)) (nomark _)) (pss_one (ps_aug (i := 3) sc_root_length.nd rfl (Or.inl rfl) pe_int ip_add)) pss_nil)
 (pss_one (ps_asg (pv 3) (pg_sub (pv 2) (pv 4) set_list))))))
 (pss_cons (ps_set (i := 5) sc_root_length.nd rfl (Or.inl rfl) (pe_op op_sub (pv 1) (pe_ix ix_list (pv 2) (pe_op op_sub (pv 1) pe_int) (fun _ _ => rfl))))
 (pss_one (ps_ret (pe_ifExp (pt_cmpR op_eq (pe_op op_mod (pv 1) (pv 5)) pe_int (nomark _)) (pv 5) (pv 1))))))))), p_root_length T.cl h⟩)
theorem ok_check_letters (T : Txt K mg A) : FnOk P w K mg base (L2.CX P w) 1 A.a_check_letters A.fd_check_letters ["lasso", "letters"] (sp_check_letters K A) :=
  T.F_check_letters.okX sc_check_letters (fun vs H Q E h => by obtain ⟨_, _, _, _, rfl, _⟩ := h; rfl) (fun cdv Ar outer s H vs Q E hr h => ⟨t_check_letters K A E, by exact (pss_cons (ps_asg (pv 0) (pg_tup (by rfl) (pgs_cons (pg_name (i := 2) sc_check_letters.nd rfl (Or.inl rfl)) (pgs_cons (pg_name (i := 3) sc_check_letters.nd rfl (Or.inl rfl)) pgs_nil))))
 (pss_one (ps_if (PW.pt (pw_or (pt_cmpR op_ge (pe_callB (cB_max rfl) (by rfl) T.z_max (by decide +kernel) (pa_cons (pv 3) pa_nil)) (pv 1) (nomark _)) (pw_or1 (pt_cmpR op_ge (pe_callBK (cD_max rfl) (by rfl) T.z_max (by decide +kernel) (pa_cons (pv 2) pa_nil) (pk_cons pe_int pk_nil)) (pv 1) (nomark _))))) (pss_one (ps_raise rfl (takes_of rfl rfl rfl rfl) (pmk_own PySem.F.excBase_ValueError T.x_InvalidLetter T.g_InvalidLetter T.k_InvalidLetter (raises_own T.s_InvalidLetter T.t_InvalidLetter) (by exact rfl)))) pss_nil))), p_check_letters T.cl h⟩)
theorem ok_are_below (T : Txt K mg A) : FnOk P w K mg base CX0 1 A.a_are_below A.fd_are_below ["numbers", "count"] (sp_are_below K A) :=
  T.F_are_below.ok sc_are_below (fun vs H Q E h => by obtain ⟨_, _, _, _, rfl, _⟩ := h; rfl) (fun cdv Ar outer s H vs Q E hr h => ⟨t_are_below K A E, by exact (pss_one (ps_ret (pe_and (pe_cmpR op_ge (pe_callBK (cD_min rfl) (by rfl) T.z_min (by decide +kernel) (pa_cons (pv 0) pa_nil) (pk_cons pe_int pk_nil)) pe_int (nomark _)) (pe_one (pe_cmpR op_lt (pe_callBK (cD_max rfl) (by rfl) T.z_max (by decide +kernel) (pa_cons (pv 0) pa_nil) (pk_cons pe_int pk_nil)) (pv 1) (nomark _)))))), p_are_below T.cl h⟩)
theorem ok_emitted_word (T : Txt K mg A) : FnOk P w K mg base CX0 1 A.a_emitted_word A.fd_emitted_word ["machine", "state", "lasso"] (sp_emitted_word K A) :=
  T.F_emitted_word.ok sc_emitted_word (fun vs H Q E h => by obtain ⟨_, _, _, _, _, _, _, _, _, _, rfl, _⟩ := h; rfl) (fun cdv Ar outer s H vs Q E hr h => ⟨t_emitted_word K A E, by exact (pss_cons (ps_asg (pv 2) (pg_tup (by rfl) (pgs_cons (pg_name (i := 3) sc_emitted_word.nd rfl (Or.inl rfl)) (pgs_cons (pg_name (i := 4) sc_emitted_word.nd rfl (Or.inl rfl)) pgs_nil))))
 (pss_cons (ps_set (i := 5) sc_emitted_word.nd rfl (Or.inl rfl) (pe_lst pa_nil))
 (pss_cons (ps_for PassesOwn.never rfl (pi_tup (pv 3)) (pg_name (i := 6) sc_emitted_word.nd rfl (Or.inl rfl)) (pss_cons (ps_asg (pe_ix ix_tup (pe_ix ix_tup (pe_fld (pv 0) rfl) (pv 1) (fun _ _ => rfl)) (pv 6) (fun _ _ => rfl)) (pg_tup (by rfl) (pgs_cons (pg_name (i := 1) sc_emitted_word.nd rfl (Or.inl rfl)) (pgs_cons (pg_name (i := 7) sc_emitted_word.nd rfl (Or.inl rfl)) pgs_nil))))
 (pss_one (ps_expr (pe_bm PySem.F.plainAttrs_list PySem.F.slot_list_append PySem.F.type_list_append mt_append (pv 5) (pa_cons (pv 7) pa_nil))))))
 (pss_cons (ps_set (i := 8) sc_emitted_word.nd rfl (Or.inl rfl) pe_dnewK)
 (pss_cons (ps_while PassesOwn.never (pt_cmp (pc_dnotin (hu_of hr) (pv 1) (pv 8))) (pss_cons (ps_dput (hu_of hr) (pv 8) (pv 1) (pe_callB call_len_seq (by rfl) T.z_len (by decide +kernel) (pa_cons (pv 5) pa_nil)) rfl)
 (pss_one (ps_for PassesOwn.never rfl (pi_tup (pv 4)) (pg_name (i := 6) sc_emitted_word.nd rfl (Or.inl rfl)) (pss_cons (ps_asg (pe_ix ix_tup (pe_ix ix_tup (pe_fld (pv 0) rfl) (pv 1) (fun _ _ => rfl)) (pv 6) (fun _ _ => rfl)) (pg_tup (by rfl) (pgs_cons (pg_name (i := 1) sc_emitted_word.nd rfl (Or.inl rfl)) (pgs_cons (pg_name (i := 7) sc_emitted_word.nd rfl (Or.inl rfl)) pgs_nil))))
 (pss_one (ps_expr (pe_bm PySem.F.plainAttrs_list PySem.F.slot_list_append PySem.F.type_list_append mt_append (pv 5) (pa_cons (pv 7) pa_nil)))))))))
 (pss_one (ps_ret (pe_tup (pa_cons (pe_slice sl_list (pv 5) po_none (po_some (pe_dget (hu_of hr) (pv 8) (pv 1) (fun _ _ => rfl)))) (pa_cons (pe_slice sl_list (pv 5) (po_some (pe_dget (hu_of hr) (pv 8) (pv 1) (fun _ _ => rfl))) po_none) pa_nil)))))))))), p_emitted_word T.cl h⟩)
theorem ok__law_draws (T : Txt K mg A) : FnOk P w K mg base CX0 1 A.a__law_draws A.fd__law_draws ["script", "count"] (sp__law_draws K A) :=
  T.F__law_draws.ok sc__law_draws (fun vs H Q E h => by obtain ⟨_, _, _, rfl, _⟩ := h; rfl) (fun cdv Ar outer s H vs Q E hr h => ⟨t__law_draws K A E, by exact (pss_cons (ps_set (i := 2) sc__law_draws.nd rfl (Or.inl rfl) (pe_callTy call_list_of (by rfl) T.z_list (by decide +kernel) (pa_cons (pv 0) pa_nil)))
 (pss_cons (ps_if (pt_cmpR op_eq (pe_callB call_len_seq (by rfl) T.z_len (by decide +kernel) (pa_cons (pv 2) pa_nil)) pe_int (nomark _)) (pss_one (ps_set (i := 2) sc__law_draws.nd rfl (Or.inl rfl) (pe_lst (pa_cons pe_int pa_nil)))) pss_nil)
 (pss_cons (ps_set (i := 3) sc__law_draws.nd rfl (Or.inl rfl) (pe_lst pa_nil))
 (pss_cons (ps_set (i := 4) sc__law_draws.nd rfl (Or.inl rfl) pe_int)
 (pss_cons (ps_for PassesOwn.never rfl (pi_range1 rfl T.z_range (pa_cons (pv 1) pa_nil)) (pg_name (i := 5) sc__law_draws.nd rfl (Or.inl rfl)) (pss_cons (ps_set (i := 6) sc__law_draws.nd rfl (Or.inl rfl) (pe_op op_mod (pv 5) (pe_callB call_len_seq (by rfl) T.z_len (by decide +kernel) (pa_cons (pv 2) pa_nil))))
 (pss_cons (ps_set (i := 7) sc__law_draws.nd rfl (Or.inl rfl) (pe_ix ix_list (pv 2) (pv 6) (fun _ _ => rfl)))
 (pss_cons (ps_set (i := 4) sc__law_draws.nd rfl (Or.inl rfl) (pe_op op_mod (pe_callTy call_int1 (by rfl) T.z_int (by decide +kernel) (pa_cons (pe_op op_add (pe_op op_add (pe_op op_add (pe_op op_mulW (pv 4) pe_int) (pe_op op_mulW (pe_op op_mod (pe_callTy call_int1 (by rfl) T.z_int (by decide +kernel) (pa_cons (pv 7) pa_nil)) pe_int) pe_int)) (pe_op op_mulW (pv 5) pe_int)) pe_int) pa_nil)) pe_int))
 (pss_cons (ps_set (i := 8) sc__law_draws.nd rfl (Or.inl rfl) (pe_op op_mod (pe_callTy call_int1 (by rfl) T.z_int (by decide +kernel) (pa_cons (pe_op op_add (pe_op op_add (pe_op op_mulW (pv 4) (pv 4)) (pe_op op_mulW pe_int (pv 4))) (pv 5)) pa_nil)) pe_int))
 (pss_one (ps_if (pt_cmpR op_ge (pv 7) (pe_op op_pow pe_int pe_int) (nomark _)) (pss_cons (ps_expr (pe_bm PySem.F.plainAttrs_list PySem.F.slot_list_append PySem.F.type_list_append mt_append (pv 3) (pa_cons (pe_op op_mod (pe_callTy call_int1 (by rfl) T.z_int (by decide +kernel) (pa_cons (pv 7) pa_nil)) pe_int) pa_nil)))
 (pss_one (ps_asg (pe_op op_fdivW (pv 7) pe_int) (pg_sub (pv 2) (pv 6) set_list)))) (pss_one (ps_expr (pe_bm PySem.F.plainAttrs_list PySem.F.slot_list_append PySem.F.type_list_append mt_append (pv 3) (pa_cons (pe_op op_mod (pe_callTy call_int1 (by rfl) T.z_int (by decide +kernel) (pa_cons (pv 8) pa_nil)) pe_int) pa_nil)))))))))))
 (pss_cons (ps_expr (pe_bm0 PySem.F.plainAttrs_list PySem.F.slot_list_reverse PySem.F.type_list_reverse mt_reverse (pv 3)))
 (pss_one (ps_ret (pv 3))))))))), p__law_draws T.cl h⟩)
theorem ok__law_take (T : Txt K mg A) : FnOk P w K mg base CX0 1 A.a__law_take A.fd__law_take ["draws", "limit"] (sp__law_take K A) :=
  T.F__law_take.ok sc__law_take (fun vs H Q E h => by obtain ⟨_, _, _, rfl, _⟩ := h; rfl) (fun cdv Ar outer s H vs Q E hr h => ⟨t__law_take K A E, by exact (pss_cons (ps_if (pt_cmpR op_eq (pe_callB call_len_seq (by rfl) T.z_len (by decide +kernel) (pa_cons (pv 0) pa_nil)) pe_int (nomark _)) (pss_one (ps_ret pe_int)) pss_nil)
 (pss_one (ps_ret (pe_op op_mod (pe_callTy call_int1 (by rfl) T.z_int (by decide +kernel) (pa_cons (pe_bm0 PySem.F.plainAttrs_list PySem.F.slot_list_pop PySem.F.type_list_pop mt_pop (pv 0)) pa_nil)) (pv 1))))), p__law_take T.cl h⟩)
theorem ok__law_at (T : Txt K mg A) : FnOk P w K mg base CX0 1 A.a__law_at A.fd__law_at ["lasso", "turn"] (sp__law_at K A) :=
  T.F__law_at.ok sc__law_at (fun vs H Q E h => by obtain ⟨_, _, _, _, rfl, _⟩ := h; rfl) (fun cdv Ar outer s H vs Q E hr h => ⟨t__law_at K A E, by exact (pss_cons (ps_if (pt_cmpR op_lt (pv 1) (pe_callB call_len_seq (by rfl) T.z_len (by decide +kernel) (pa_cons (pe_ix ix_tup (pv 0) pe_int (fun _ _ => rfl)) pa_nil)) (nomark _)) (pss_one (ps_ret (pe_ix ix_seq (pe_ix ix_tup (pv 0) pe_int (fun _ _ => rfl)) (pv 1) (fun _ _ => rfl)))) pss_nil)
 (pss_one (ps_ret (pe_ix ix_seq (pe_ix ix_tup (pv 0) pe_int (fun _ _ => rfl)) (pe_op op_mod (pe_callTy call_int1 (by rfl) T.z_int (by decide +kernel) (pa_cons (pe_op op_sub (pv 1) (pe_callB call_len_seq (by rfl) T.z_len (by decide +kernel) (pa_cons (pe_ix ix_tup (pv 0) pe_int (fun _ _ => rfl)) pa_nil))) pa_nil)) (pe_callB call_len_seq (by rfl) T.z_len (by decide +kernel) (pa_cons (pe_ix ix_tup (pv 0) pe_int (fun _ _ => rfl)) pa_nil))) (fun _ _ => rfl))))), p__law_at T.cl h⟩)
theorem ok__law_flat (T : Txt K mg A) : FnOk P w K mg base CX0 1 A.a__law_flat A.fd__law_flat ["rows"] (sp__law_flat K A) :=
  T.F__law_flat.ok sc__law_flat (fun vs H Q E h => by obtain ⟨_, _, _, _, rfl, _⟩ := h; rfl) (fun cdv Ar outer s H vs Q E hr h => ⟨t__law_flat K A E, by exact (pss_one (ps_ret (pe_lc (own := [("row", 1)]) rfl sc__law_flat.nd (pi_list (pv 0)) (blkOk_by (N := ["rows", "row"]) (sc := defScope s__law_flat) (own := [("row", 1)]) (by decide +kernel)) (fun _ _ _ _ _ => (pg_name (i := 1) sc__law_flat.nd rfl (Or.inl rfl))) (fun _ _ _ _ _ => pts_nil) (fun _ _ _ _ _ => (pe_callTy call_list_of (by rfl) T.z_list (by decide +kernel) (pa_cons (pv 1) pa_nil)))))), p__law_flat T.cl h⟩)
theorem ok_normal_lasso (T : Txt K mg A) : FnOk P w K mg base CX0 2 A.a_normal_lasso A.fd_normal_lasso ["head", "loop"] (sp_normal_lasso K A) :=
  T.F_normal_lasso.ok sc_normal_lasso (fun vs H Q E h => by obtain ⟨_, _, _, _, _, rfl, _⟩ := h; rfl) (fun cdv Ar outer s H vs Q E hr h => ⟨t_normal_lasso K A E, by exact (pss_cons (ps_set (i := 2) sc_normal_lasso.nd rfl (Or.inl rfl) (pe_callTy call_tuple_of (by rfl) T.z_tuple (by decide +kernel) (pa_cons (pe_slice sl_seq (pv 1) po_none (po_some (pe_call (ok_root_length T) (hr.mono (by decide)) rfl T.g_root_length T.k_root_length T.b_root_length .nil pass0 (pa_cons (pv 1) pa_nil)))) pa_nil)))
 (pss_cons (ps_set (i := 3) sc_normal_lasso.nd rfl (Or.inl rfl) (pe_callB call_len_seq (by rfl) T.z_len (by decide +kernel) (pa_cons (pv 2) pa_nil)))
 (pss_cons (ps_set (i := 4) sc_normal_lasso.nd rfl (Or.inl rfl) (pe_callB call_len_seq (by rfl) T.z_len (by decide +kernel) (pa_cons (pv 0) pa_nil)))
 (pss_cons (ps_set (i := 5) sc_normal_lasso.nd rfl (Or.inl rfl) pe_int)
 (pss_cons (ps_while PassesOwn.never (PW.pt (pw_and (pt_cmpR op_gt (pv 4) pe_int (nomark _)) (pw_and1 (pt_cmpR op_eq (pe_ix ix_seq (pv 0) (pe_op op_sub (pv 4) pe_int) (fun _ _ => rfl)) (pe_ix ix_tup (pv 2) (pe_op op_mod (pe_op op_sub (pe_op op_sub (pv 3) pe_int) (pv 5)) (pv 3)) (fun _ _ => rfl)) (nomark _))))) (pss_cons (ps_aug (i := 4) sc_normal_lasso.nd rfl (Or.inl rfl) pe_int ip_sub)
 (pss_one (ps_aug (i := 5) sc_normal_lasso.nd rfl (Or.inl rfl) pe_int ip_add))))
 (pss_cons (ps_set (i := 6) sc_normal_lasso.nd rfl (Or.inl rfl) (pe_op op_sub (pv 3) (pe_op op_mod (pv 5) (pv 3))))
 (pss_one (ps_ret (pe_tup (pa_cons (pe_callTy call_tuple_of (by rfl) T.z_tuple (by decide +kernel) (pa_cons (pe_slice sl_seq (pv 0) po_none (po_some (pv 4))) pa_nil)) (pa_cons (pe_op op_catA (pe_slice sl_tupA (pv 2) (po_some (pv 6)) po_none) (pe_slice sl_tupA (pv 2) po_none (po_some (pv 6)))) pa_nil))))))))))), p_normal_lasso T.cl h⟩)
theorem ok_Machine_init (T : Txt K mg A) : FnOk P w K mg base (L2.CX P w) 2 A.a_Machine_init A.fd_Machine_init ["self", "inputs", "outputs", "lead", "opening", "rows"] (sp_Machine_init K A) :=
  T.F_Machine_init.okX sc_Machine_init (fun vs H Q E h => by obtain ⟨_, _, _, _, _, _, _, _, _, _, _, rfl, _⟩ := h; rfl) (fun cdv Ar outer s H vs Q E hr h => ⟨t_Machine_init K A E, by exact (pss_cons (ps_if (PW.pt (pw_or (pt_cmpR op_lt (pv 1) pe_int (nomark _)) (pw_or (pt_cmpR op_lt (pv 2) pe_int (nomark _)) (pw_or1 (pt_cmpR op_notIn_seq (pv 3) (pe_glob rfl T.g_LEADS rfl) (by rfl)))))) (pss_one (ps_raise rfl (takes_of rfl rfl rfl rfl) (pmk_own PySem.F.excBase_ValueError T.x_InvalidMachine T.g_InvalidMachine T.k_InvalidMachine (raises_own T.s_InvalidMachine T.t_InvalidMachine) (by exact rfl)))) pss_nil)
 (pss_cons (ps_if (PW.pt (pw_or (pt_cmpR op_ne (pe_callB call_len_seq (by rfl) T.z_len (by decide +kernel) (pa_cons (pv 4) pa_nil)) (pe_callB (call_max2 rfl) (by rfl) T.z_max (by decide +kernel) (pa_cons pe_int (pa_cons (pe_un un_neg (pv 3)) pa_nil))) (nomark _)) (pw_or1 (pt_not (pt_val (pe_call (ok_are_below T) (hr.mono (by decide)) rfl T.g_are_below T.k_are_below T.b_are_below .nil pass0 (pa_cons (pv 4) (pa_cons (pv 2) pa_nil)))))))) (pss_one (ps_raise rfl (takes_of rfl rfl rfl rfl) (pmk_own PySem.F.excBase_ValueError T.x_InvalidMachine T.g_InvalidMachine T.k_InvalidMachine (raises_own T.s_InvalidMachine T.t_InvalidMachine) (by exact rfl)))) pss_nil)
 (pss_cons (ps_if (pt_cmpR op_eq (pe_callB call_len_seq (by rfl) T.z_len (by decide +kernel) (pa_cons (pv 5) pa_nil)) pe_int (nomark _)) (pss_one (ps_raise rfl (takes_of rfl rfl rfl rfl) (pmk_own PySem.F.excBase_ValueError T.x_InvalidMachine T.g_InvalidMachine T.k_InvalidMachine (raises_own T.s_InvalidMachine T.t_InvalidMachine) (by exact rfl)))) pss_nil)
 (pss_cons (ps_for (passes_of rfl) rfl (pi_seq (pv 5)) (pg_name (i := 6) sc_Machine_init.nd rfl (Or.inl rfl)) (pss_cons (ps_if (pt_cmpR op_ne (pe_callB call_len_seq (by rfl) T.z_len (by decide +kernel) (pa_cons (pv 6) pa_nil)) (pv 1) (nomark _)) (pss_one (ps_raise rfl (takes_of rfl rfl rfl rfl) (pmk_own PySem.F.excBase_ValueError T.x_InvalidMachine T.g_InvalidMachine T.k_InvalidMachine (raises_own T.s_InvalidMachine T.t_InvalidMachine) (by exact rfl)))) pss_nil)
 (pss_cons (ps_if (pt_not (pt_val (pe_call (ok_are_below T) (hr.mono (by decide)) rfl T.g_are_below T.k_are_below T.b_are_below .nil pass0 (pa_cons (pe_lc (own := [("pair", 7)]) rfl sc_Machine_init.nd (pi_seq (pv 6)) (blkOk_by (N := ["self", "inputs", "outputs", "lead", "opening", "rows", "row", "pair"]) (sc := defScope s_Machine_init) (own := [("pair", 7)]) (by decide +kernel)) (fun _ _ _ _ _ => (pg_name (i := 7) sc_Machine_init.nd rfl (Or.inl rfl))) (fun _ _ _ _ _ => pts_nil) (fun _ _ _ _ _ => (pe_ix ix_seq (pv 7) pe_int (fun _ _ => rfl)))) (pa_cons (pe_callB call_len_seq (by rfl) T.z_len (by decide +kernel) (pa_cons (pv 5) pa_nil)) pa_nil))))) (pss_one (ps_raise rfl (takes_of rfl rfl rfl rfl) (pmk_own PySem.F.excBase_ValueError T.x_InvalidMachine T.g_InvalidMachine T.k_InvalidMachine (raises_own T.s_InvalidMachine T.t_InvalidMachine) (by exact rfl)))) pss_nil)
 (pss_one (ps_if (pt_not (pt_val (pe_call (ok_are_below T) (hr.mono (by decide)) rfl T.g_are_below T.k_are_below T.b_are_below .nil pass0 (pa_cons (pe_lc (own := [("pair", 7)]) rfl sc_Machine_init.nd (pi_seq (pv 6)) (blkOk_by (N := ["self", "inputs", "outputs", "lead", "opening", "rows", "row", "pair"]) (sc := defScope s_Machine_init) (own := [("pair", 7)]) (by decide +kernel)) (fun _ _ _ _ _ => (pg_name (i := 7) sc_Machine_init.nd rfl (Or.inl rfl))) (fun _ _ _ _ _ => pts_nil) (fun _ _ _ _ _ => (pe_ix ix_seq (pv 7) pe_int (fun _ _ => rfl)))) (pa_cons (pv 2) pa_nil))))) (pss_one (ps_raise rfl (takes_of rfl rfl rfl rfl) (pmk_own PySem.F.excBase_ValueError T.x_InvalidMachine T.g_InvalidMachine T.k_InvalidMachine (raises_own T.s_InvalidMachine T.t_InvalidMachine) (by exact rfl)))) pss_nil)))))
 (pss_cons (ps_fld (pv 0) (pv 1) rfl)
 (pss_cons (ps_fld (pv 0) (pv 2) rfl)
 (pss_cons (ps_fld (pv 0) (pv 3) rfl)
 (pss_cons (ps_fld (pv 0) (pe_callTy call_tuple_of (by rfl) T.z_tuple (by decide +kernel) (pa_cons (pv 4) pa_nil)) rfl)
 (pss_one (ps_fld (pv 0) (pe_callTy call_tuple_of (by rfl) T.z_tuple (by decide +kernel) (pa_cons (pe_lc (own := [("row", 6)]) rfl sc_Machine_init.nd (pi_seq (pv 5)) (blkOk_by (N := ["self", "inputs", "outputs", "lead", "opening", "rows", "row", "pair"]) (sc := defScope s_Machine_init) (own := [("row", 6)]) (by decide +kernel)) (fun _ _ _ _ _ => (pg_name (i := 6) sc_Machine_init.nd rfl (Or.inl rfl))) (fun _ _ _ _ _ => pts_nil) (fun _ _ _ _ _ => (pe_callTy call_tuple_of (by rfl) T.z_tuple (by decide +kernel) (pa_cons (pe_lc (own := [("pair", 7)]) rfl sc_Machine_init.nd (pi_seq (pv 6)) (blk_in (N := ["self", "inputs", "outputs", "lead", "opening", "rows", "row", "pair"]) (sc0 := defScope s_Machine_init) (own := [("pair", 7)]) rfl (by decide +kernel)) (fun _ _ _ _ _ => (pg_name (i := 7) sc_Machine_init.nd rfl (Or.inl rfl))) (fun _ _ _ _ _ => pts_nil) (fun _ _ _ _ _ => (pe_callTy call_tuple_of (by rfl) T.z_tuple (by decide +kernel) (pa_cons (pv 7) pa_nil)))) pa_nil)))) pa_nil)) rfl)))))))))), p_Machine_init T.cl h⟩)
theorem ok_Machine_call (T : Txt K mg A) : FnOk P w K mg base (L2.CX P w) 2 A.a_Machine_call A.fd_Machine_call ["self", "heard"] (sp_Machine_call K A) :=
  T.F_Machine_call.okX sc_Machine_call (fun vs H Q E h => by obtain ⟨_, _, _, _, _, _, _, _, _, rfl, _⟩ := h; rfl) (fun cdv Ar outer s H vs Q E hr h => ⟨t_Machine_call K A E, by exact (pss_cons (ps_if (pt_not (pt_val (pe_call (ok_are_below T) (hr.mono (by decide)) rfl T.g_are_below T.k_are_below T.b_are_below .nil pass0 (pa_cons (pv 1) (pa_cons (pe_fld (pv 0) rfl) pa_nil))))) (pss_one (ps_raise rfl (takes_of rfl rfl rfl rfl) (pmk_own PySem.F.excBase_ValueError T.x_InvalidLetter T.g_InvalidLetter T.k_InvalidLetter (raises_own T.s_InvalidLetter T.t_InvalidLetter) (by exact rfl)))) pss_nil)
 (pss_cons (ps_set (i := 2) sc_Machine_call.nd rfl (Or.inl rfl) (pe_callTy call_list_of (by rfl) T.z_list (by decide +kernel) (pa_cons (pe_fld (pv 0) rfl) pa_nil)))
 (pss_cons (ps_set (i := 3) sc_Machine_call.nd rfl (Or.inl rfl) pe_int)
 (pss_cons (ps_for (passes_of rfl) rfl (pi_enum (by rfl) T.z_enumerate (pa_cons (pv 1) pa_nil)) (pg_tup (by rfl) (pgs_cons (pg_name (i := 4) sc_Machine_call.nd rfl (Or.inl rfl)) (pgs_cons (pg_name (i := 5) sc_Machine_call.nd rfl (Or.inl rfl)) pgs_nil))) (pss_cons (ps_asg (pe_ix ix_tup (pe_ix ix_tup (pe_fld (pv 0) rfl) (pv 3) (fun _ _ => rfl)) (pv 5) (fun _ _ => rfl)) (pg_tup (by rfl) (pgs_cons (pg_name (i := 3) sc_Machine_call.nd rfl (Or.inl rfl)) (pgs_cons (pg_name (i := 6) sc_Machine_call.nd rfl (Or.inl rfl)) pgs_nil))))
 (pss_one (ps_if (pt_cmpR op_ge (pv 4) (pe_fld (pv 0) rfl) (nomark _)) (pss_one (ps_expr (pe_bm PySem.F.plainAttrs_list PySem.F.slot_list_append PySem.F.type_list_append mt_append (pv 2) (pa_cons (pv 6) pa_nil)))) pss_nil))))
 (pss_one (ps_ret (pv 2))))))), p_Machine_call T.cl h⟩)
theorem ok__law_lasso (T : Txt K mg A) : FnOk P w K mg base CX0 2 A.a__law_lasso A.fd__law_lasso ["draws", "letters", "longest"] (sp__law_lasso K A) :=
  T.F__law_lasso.ok sc__law_lasso (fun vs H Q E h => by obtain ⟨_, _, _, _, _, rfl, _⟩ := h; rfl) (fun cdv Ar outer s H vs Q E hr h => ⟨t__law_lasso K A E, by exact (pss_cons (ps_setLc (i := 4) (own := [("k", 3)]) rfl sc__law_lasso.nd rfl rfl (sw_true rfl rfl rfl (by decide +kernel)) (pi_range1 rfl T.z_range (pa_cons (pe_call (ok__law_take T) (hr.mono (by decide)) rfl T.g__law_take T.k__law_take T.b__law_take .nil pass0 (pa_cons (pv 0) (pa_cons (pe_op op_add (pv 2) pe_int) pa_nil))) pa_nil)) (blkOk_by (N := ["draws", "letters", "longest", "k", "head", "loop"]) (sc := defScope s__law_lasso) (own := [("k", 3)]) (by decide +kernel)) (fun _ _ _ _ _ => (pg_name (i := 3) sc__law_lasso.nd rfl (Or.inl rfl))) (fun _ _ _ _ _ => pts_nil) (fun _ _ _ _ _ => (pe_call (ok__law_take T) (hr.mono (by decide)) rfl T.g__law_take T.k__law_take T.b__law_take .nil pass0 (pa_cons (pv 0) (pa_cons (pv 1) pa_nil)))))
 (pss_cons (ps_setLc (i := 5) (own := [("k", 3)]) rfl sc__law_lasso.nd rfl rfl (sw_true rfl rfl rfl (by decide +kernel)) (pi_range1 rfl T.z_range (pa_cons (pe_op op_add pe_int (pe_call (ok__law_take T) (hr.mono (by decide)) rfl T.g__law_take T.k__law_take T.b__law_take .nil pass0 (pa_cons (pv 0) (pa_cons (pv 2) pa_nil)))) pa_nil)) (blkOk_by (N := ["draws", "letters", "longest", "k", "head", "loop"]) (sc := defScope s__law_lasso) (own := [("k", 3)]) (by decide +kernel)) (fun _ _ _ _ _ => (pg_name (i := 3) sc__law_lasso.nd rfl (Or.inl rfl))) (fun _ _ _ _ _ => pts_nil) (fun _ _ _ _ _ => (pe_call (ok__law_take T) (hr.mono (by decide)) rfl T.g__law_take T.k__law_take T.b__law_take .nil pass0 (pa_cons (pv 0) (pa_cons (pv 1) pa_nil)))))
 (pss_one (ps_ret (pe_tup (pa_cons (pe_callTy call_tuple_of (by rfl) T.z_tuple (by decide +kernel) (pa_cons (pv 4) pa_nil)) (pa_cons (pe_callTy call_tuple_of (by rfl) T.z_tuple (by decide +kernel) (pa_cons (pv 5) pa_nil)) pa_nil))))))), p__law_lasso T.cl h⟩)
theorem ok__law_machine (T : Txt K mg A) : FnOk P w K mg base CX0 2 A.a__law_machine A.fd__law_machine ["draws", "inputs", "outputs", "lead", "most"] (sp__law_machine K A) :=
  T.F__law_machine.ok sc__law_machine (fun vs H Q E h => by obtain ⟨_, _, _, _, _, _, _, rfl, _⟩ := h; rfl) (fun cdv Ar outer s H vs Q E hr h => ⟨t__law_machine K A E, by exact (pss_cons (ps_set (i := 5) sc__law_machine.nd rfl (Or.inl rfl) (pe_op op_add pe_int (pe_call (ok__law_take T) (hr.mono (by decide)) rfl T.g__law_take T.k__law_take T.b__law_take .nil pass0 (pa_cons (pv 0) (pa_cons (pv 4) pa_nil)))))
 (pss_cons (ps_setLc (i := 7) (own := [("k", 6)]) rfl sc__law_machine.nd rfl rfl (sw_true rfl rfl rfl (by decide +kernel)) (pi_range1 rfl T.z_range (pa_cons (pe_callB (call_max2 rfl) (by rfl) T.z_max (by decide +kernel) (pa_cons pe_int (pa_cons (pe_un un_neg (pv 3)) pa_nil))) pa_nil)) (blkOk_by (N := ["draws", "inputs", "outputs", "lead", "most", "count", "k", "opening", "rows", "state", "row", "letter", "target"]) (sc := defScope s__law_machine) (own := [("k", 6)]) (by decide +kernel)) (fun _ _ _ _ _ => (pg_name (i := 6) sc__law_machine.nd rfl (Or.inl rfl))) (fun _ _ _ _ _ => pts_nil) (fun _ _ _ _ _ => (pe_call (ok__law_take T) (hr.mono (by decide)) rfl T.g__law_take T.k__law_take T.b__law_take .nil pass0 (pa_cons (pv 0) (pa_cons (pv 2) pa_nil)))))
 (pss_cons (ps_set (i := 8) sc__law_machine.nd rfl (Or.inl rfl) (pe_lst pa_nil))
 (pss_cons (ps_for PassesOwn.never rfl (pi_range1 rfl T.z_range (pa_cons (pv 5) pa_nil)) (pg_name (i := 9) sc__law_machine.nd rfl (Or.inl rfl)) (pss_cons (ps_set (i := 10) sc__law_machine.nd rfl (Or.inl rfl) (pe_lst pa_nil))
 (pss_cons (ps_for PassesOwn.never rfl (pi_range1 rfl T.z_range (pa_cons (pv 1) pa_nil)) (pg_name (i := 11) sc__law_machine.nd rfl (Or.inl rfl)) (pss_cons (ps_set (i := 12) sc__law_machine.nd rfl (Or.inl rfl) (pe_call (ok__law_take T) (hr.mono (by decide)) rfl T.g__law_take T.k__law_take T.b__law_take .nil pass0 (pa_cons (pv 0) (pa_cons (pv 5) pa_nil))))
 (pss_one (ps_expr (pe_bm PySem.F.plainAttrs_list PySem.F.slot_list_append PySem.F.type_list_append mt_append (pv 10) (pa_cons (pe_tup (pa_cons (pv 12) (pa_cons (pe_call (ok__law_take T) (hr.mono (by decide)) rfl T.g__law_take T.k__law_take T.b__law_take .nil pass0 (pa_cons (pv 0) (pa_cons (pv 2) pa_nil))) pa_nil))) pa_nil))))))
 (pss_one (ps_expr (pe_bm PySem.F.plainAttrs_list PySem.F.slot_list_append PySem.F.type_list_append mt_append (pv 8) (pa_cons (pv 10) pa_nil)))))))
 (pss_one (ps_ret (pe_tup (pa_cons (pv 7) (pa_cons (pv 8) pa_nil))))))))), p__law_machine T.cl h⟩)
theorem ok_suffix (T : Txt K mg A) : FnOk P w K mg base (L2.CX P w) 3 A.a_suffix A.fd_suffix ["lasso", "turns"] (sp_suffix K A) :=
  T.F_suffix.okX sc_suffix (fun vs H Q E h => by obtain ⟨_, _, _, _, _, rfl, _⟩ := h; rfl) (fun cdv Ar outer s H vs Q E hr h => ⟨t_suffix K A E, by exact (pss_cons (ps_if (pt_cmpR op_lt (pv 1) pe_int (nomark _)) (pss_one (ps_raise rfl (takes_of rfl rfl rfl rfl) (pmk_own PySem.F.excBase_ValueError T.x_InvalidTurn T.g_InvalidTurn T.k_InvalidTurn (raises_own T.s_InvalidTurn T.t_InvalidTurn) (by exact rfl)))) pss_nil)
 (pss_cons (ps_asg (pv 0) (pg_tup (by rfl) (pgs_cons (pg_name (i := 2) sc_suffix.nd rfl (Or.inl rfl)) (pgs_cons (pg_name (i := 3) sc_suffix.nd rfl (Or.inl rfl)) pgs_nil))))
 (pss_cons (ps_if (pt_cmpR op_le (pv 1) (pe_callB call_len_seq (by rfl) T.z_len (by decide +kernel) (pa_cons (pv 2) pa_nil)) (nomark _)) (pss_one (ps_ret (pe_call (ok_normal_lasso T) (hr.mono (by decide)) rfl T.g_normal_lasso T.k_normal_lasso T.b_normal_lasso .nil pass0 (pa_cons (pe_slice sl_tupA (pv 2) (po_some (pv 1)) po_none) (pa_cons (pv 3) pa_nil))))) pss_nil)
 (pss_cons (ps_set (i := 4) sc_suffix.nd rfl (Or.inl rfl) (pe_op op_mod (pe_op op_sub (pv 1) (pe_callB call_len_seq (by rfl) T.z_len (by decide +kernel) (pa_cons (pv 2) pa_nil))) (pe_callB call_len_seq (by rfl) T.z_len (by decide +kernel) (pa_cons (pv 3) pa_nil))))
 (pss_one (ps_ret (pe_call (ok_normal_lasso T) (hr.mono (by decide)) rfl T.g_normal_lasso T.k_normal_lasso T.b_normal_lasso .nil pass0 (pa_cons (pe_tup pa_nil) (pa_cons (pe_op op_catA (pe_slice sl_tupA (pv 3) (po_some (pv 4)) po_none) (pe_slice sl_tupA (pv 3) po_none (po_some (pv 4)))) pa_nil))))))))), p_suffix T.cl h⟩)
theorem ok_said_word (T : Txt K mg A) : FnOk P w K mg base CX0 4 A.a_said_word A.fd_said_word ["machine", "head", "loop"] (sp_said_word K A) :=
  T.F_said_word.ok sc_said_word (fun vs H Q E h => by obtain ⟨_, _, _, _, _, _, _, _, _, _, _, _, rfl, _⟩ := h; rfl) (fun cdv Ar outer s H vs Q E hr h => ⟨t_said_word K A E, by exact (pss_cons (ps_if (pt_cmpR op_gt (pe_fld (pv 0) rfl) pe_int (nomark _)) (pss_one (ps_ret (pe_call (ok_suffix T) (hr.mono (by decide)) rfl T.g_suffix T.k_suffix T.b_suffix .nil passL (pa_cons (pe_tup (pa_cons (pe_callTy call_tuple_of (by rfl) T.z_tuple (by decide +kernel) (pa_cons (pv 1) pa_nil)) (pa_cons (pe_callTy call_tuple_of (by rfl) T.z_tuple (by decide +kernel) (pa_cons (pv 2) pa_nil)) pa_nil))) (pa_cons (pe_fld (pv 0) rfl) pa_nil))))) pss_nil)
 (pss_one (ps_ret (pe_call (ok_normal_lasso T) (hr.mono (by decide)) rfl T.g_normal_lasso T.k_normal_lasso T.b_normal_lasso .nil pass0 (pa_cons (pe_op op_catD (pe_callTy call_list_of (by rfl) T.z_list (by decide +kernel) (pa_cons (pe_fld (pv 0) rfl) pa_nil)) (pv 1)) (pa_cons (pv 2) pa_nil)))))), p_said_word T.cl h⟩)
theorem ok_respond (T : Txt K mg A) : FnOk P w K mg base (L2.CX P w) 5 A.a_respond A.fd_respond ["machine", "lasso"] (sp_respond K A) :=
  T.F_respond.okX sc_respond (fun vs H Q E h => by obtain ⟨_, _, _, _, _, _, _, _, _, _, rfl, _⟩ := h; rfl) (fun cdv Ar outer s H vs Q E hr h => ⟨t_respond K A E, by exact (pss_cons (ps_expr (pe_call (ok_check_letters T) (hr.mono (by decide)) rfl T.g_check_letters T.k_check_letters T.b_check_letters .nil (passes_call (takes_of rfl rfl rfl rfl) (fun _ _ _ _ h => h)) (pa_cons (pv 1) (pa_cons (pe_fld (pv 0) rfl) pa_nil))))
 (pss_cons (ps_asg (pe_call (ok_emitted_word T) (hr.mono (by decide)) rfl T.g_emitted_word T.k_emitted_word T.b_emitted_word .nil pass0 (pa_cons (pv 0) (pa_cons pe_int (pa_cons (pv 1) pa_nil)))) (pg_tup (by rfl) (pgs_cons (pg_name (i := 2) sc_respond.nd rfl (Or.inl rfl)) (pgs_cons (pg_name (i := 3) sc_respond.nd rfl (Or.inl rfl)) pgs_nil))))
 (pss_one (ps_ret (pe_call (ok_said_word T) (hr.mono (by decide)) rfl T.g_said_word T.k_said_word T.b_said_word .nil pass0 (pa_cons (pv 0) (pa_cons (pv 2) (pa_cons (pv 3) pa_nil)))))))), p_respond T.cl h⟩)
theorem ok_law (T : Txt K mg A) : FnOk P w K mg base CX0 6 A.a_law A.fd_law ["script"] (sp_law K A) :=
  T.F_law.ok sc_law (fun vs H Q E h => by obtain ⟨_, _, rfl, _⟩ := h; rfl) (fun cdv Ar outer s H vs Q E hr h => ⟨t_law K A E, by exact (pss_cons (ps_set (i := 1) sc_law.nd rfl (Or.inr rfl) (pe_call (ok__law_draws T) (hr.mono (by decide)) rfl T.g__law_draws T.k__law_draws T.b__law_draws .nil pass0 (pa_cons (pv 0) (pa_cons pe_int pa_nil))))
 (pss_cons (ps_set (i := 2) sc_law.nd rfl (Or.inr rfl) (pe_op op_add pe_int (pe_call (ok__law_take T) (hr.mono (by decide)) rfl T.g__law_take T.k__law_take T.b__law_take .nil pass0 (pa_cons (pv 1) (pa_cons pe_int pa_nil)))))
 (pss_cons (ps_set (i := 3) sc_law.nd rfl (Or.inl rfl) (pe_op op_add pe_int (pe_call (ok__law_take T) (hr.mono (by decide)) rfl T.g__law_take T.k__law_take T.b__law_take .nil pass0 (pa_cons (pv 1) (pa_cons pe_int pa_nil)))))
 (pss_cons (ps_set (i := 4) sc_law.nd rfl (Or.inl rfl) (pe_op op_sub (pe_call (ok__law_take T) (hr.mono (by decide)) rfl T.g__law_take T.k__law_take T.b__law_take .nil pass0 (pa_cons (pv 1) (pa_cons pe_int pa_nil))) pe_int))
 (pss_cons (ps_asg (pe_call (ok__law_machine T) (hr.mono (by decide)) rfl T.g__law_machine T.k__law_machine T.b__law_machine .nil pass0 (pa_cons (pv 1) (pa_cons (pv 2) (pa_cons (pv 3) (pa_cons (pv 4) (pa_cons pe_int pa_nil)))))) (pg_tup (by rfl) (pgs_cons (pg_name (i := 5) sc_law.nd rfl (Or.inl rfl)) (pgs_cons (pg_name (i := 6) sc_law.nd rfl (Or.inl rfl)) pgs_nil))))
 (pss_cons (ps_set (i := 7) sc_law.nd rfl (Or.inl rfl) (pe_make T.M_Machine (ok_Machine_init T) (hr.mono (by decide)) rfl T.g_Machine T.b_Machine_init .nil passL (pa_cons (pv 2) (pa_cons (pv 3) (pa_cons (pv 4) (pa_cons (pe_callTy call_list_of (by rfl) T.z_list (by decide +kernel) (pa_cons (pv 5) pa_nil)) (pa_cons (pe_call (ok__law_flat T) (hr.mono (by decide)) rfl T.g__law_flat T.k__law_flat T.b__law_flat .nil pass0 (pa_cons (pv 6) pa_nil)) pa_nil)))))))
 (pss_cons (ps_setLc (i := 9) (own := [("k", 8)]) rfl sc_law.nd rfl rfl (sw_true rfl rfl rfl (by decide +kernel)) (pi_range1 rfl T.z_range (pa_cons (pe_call (ok__law_take T) (hr.mono (by decide)) rfl T.g__law_take T.k__law_take T.b__law_take .nil pass0 (pa_cons (pv 1) (pa_cons pe_int pa_nil))) pa_nil)) (blkOk_by (N := ["script", "draws", "inputs", "outputs", "lead", "opening", "rows", "machine", "k", "common", "one", "two", "first", "second", "turn", "said"]) (sc := defScope s_law) (own := [("k", 8)]) (by decide +kernel)) (fun _ _ _ _ _ => (pg_name (i := 8) sc_law.nd rfl (Or.inl rfl))) (fun _ _ _ _ _ => pts_nil) (fun _ _ _ _ _ => (pe_call (ok__law_take T) (hr.mono (by decide)) rfl T.g__law_take T.k__law_take T.b__law_take .nil pass0 (pa_cons (pv 1) (pa_cons (pv 2) pa_nil)))))
 (pss_cons (ps_set (i := 10) sc_law.nd rfl (Or.inl rfl) (pe_call (ok__law_lasso T) (hr.mono (by decide)) rfl T.g__law_lasso T.k__law_lasso T.b__law_lasso .nil pass0 (pa_cons (pv 1) (pa_cons (pv 2) (pa_cons pe_int pa_nil)))))
 (pss_cons (ps_set (i := 11) sc_law.nd rfl (Or.inl rfl) (pe_call (ok__law_lasso T) (hr.mono (by decide)) rfl T.g__law_lasso T.k__law_lasso T.b__law_lasso .nil pass0 (pa_cons (pv 1) (pa_cons (pv 2) (pa_cons pe_int pa_nil)))))
 (pss_cons (ps_set (i := 12) sc_law.nd rfl (Or.inl rfl) (pe_call (ok_respond T) (hr.mono (by decide)) rfl T.g_respond T.k_respond T.b_respond .nil passL (pa_cons (pv 7) (pa_cons (pe_tup (pa_cons (pe_op op_catA (pe_callTy call_tuple_of (by rfl) T.z_tuple (by decide +kernel) (pa_cons (pv 9) pa_nil)) (pe_ix ix_tup (pv 10) pe_int (fun _ _ => rfl))) (pa_cons (pe_ix ix_tup (pv 10) pe_int (fun _ _ => rfl)) pa_nil))) pa_nil))))
 (pss_cons (ps_set (i := 13) sc_law.nd rfl (Or.inl rfl) (pe_call (ok_respond T) (hr.mono (by decide)) rfl T.g_respond T.k_respond T.b_respond .nil passL (pa_cons (pv 7) (pa_cons (pe_tup (pa_cons (pe_op op_catA (pe_callTy call_tuple_of (by rfl) T.z_tuple (by decide +kernel) (pa_cons (pv 9) pa_nil)) (pe_ix ix_tup (pv 11) pe_int (fun _ _ => rfl))) (pa_cons (pe_ix ix_tup (pv 11) pe_int (fun _ _ => rfl)) pa_nil))) pa_nil))))
 (pss_cons (ps_for PassesOwn.never rfl (pi_range1 rfl T.z_range (pa_cons (pe_callB (call_max2 rfl) (by rfl) T.z_max (by decide +kernel) (pa_cons pe_int (pa_cons (pe_op op_sub (pe_callB call_len_seq (by rfl) T.z_len (by decide +kernel) (pa_cons (pv 9) pa_nil)) (pv 4)) pa_nil))) pa_nil)) (pg_name (i := 14) sc_law.nd rfl (Or.inl rfl)) (pss_one (ps_if (pt_cmpR op_ne (pe_call (ok__law_at T) (hr.mono (by decide)) rfl T.g__law_at T.k__law_at T.b__law_at .nil pass0 (pa_cons (pv 12) (pa_cons (pv 14) pa_nil))) (pe_call (ok__law_at T) (hr.mono (by decide)) rfl T.g__law_at T.k__law_at T.b__law_at .nil pass0 (pa_cons (pv 13) (pa_cons (pv 14) pa_nil))) (nomark _)) (pss_one (ps_ret pe_bl)) pss_nil)))
 (pss_cons (ps_for PassesOwn.never rfl (pi_range1 rfl T.z_range (pa_cons (pe_callB call_len_seq (by rfl) T.z_len (by decide +kernel) (pa_cons (pv 5) pa_nil)) pa_nil)) (pg_name (i := 14) sc_law.nd rfl (Or.inl rfl)) (pss_one (ps_if (PW.pt (pw_or (pt_cmpR op_ne (pe_call (ok__law_at T) (hr.mono (by decide)) rfl T.g__law_at T.k__law_at T.b__law_at .nil pass0 (pa_cons (pv 12) (pa_cons (pv 14) pa_nil))) (pe_ix ix_list (pv 5) (pv 14) (fun _ _ => rfl)) (nomark _)) (pw_or1 (pt_cmpR op_ne (pe_call (ok__law_at T) (hr.mono (by decide)) rfl T.g__law_at T.k__law_at T.b__law_at .nil pass0 (pa_cons (pv 13) (pa_cons (pv 14) pa_nil))) (pe_ix ix_list (pv 5) (pv 14) (fun _ _ => rfl)) (nomark _))))) (pss_one (ps_ret pe_bl)) pss_nil)))
 (pss_cons (ps_set (i := 15) sc_law.nd rfl (Or.inl rfl) (pe_callO2 (pv 7) T.cl.co_Machine ((ok_Machine_call T).rawN T.b_Machine_call) (hr.mono (by decide)) passL (pa_cons (pv 9) pa_nil)))
 (pss_cons (ps_for PassesOwn.never rfl (pi_range1 rfl T.z_range (pa_cons (pe_callB call_len_seq (by rfl) T.z_len (by decide +kernel) (pa_cons (pv 15) pa_nil)) pa_nil)) (pg_name (i := 14) sc_law.nd rfl (Or.inl rfl)) (pss_one (ps_if (pt_cmpR op_ne (pe_ix ix_list (pv 15) (pv 14) (fun _ _ => rfl)) (pe_call (ok__law_at T) (hr.mono (by decide)) rfl T.g__law_at T.k__law_at T.b__law_at .nil pass0 (pa_cons (pv 12) (pa_cons (pv 14) pa_nil))) (nomark _)) (pss_one (ps_ret pe_bl)) pss_nil)))
 (pss_one (ps_ret (pe_cmpR op_eq (pe_callB call_len_seq (by rfl) T.z_len (by decide +kernel) (pa_cons (pv 15) pa_nil)) (pe_callB (call_max2 rfl) (by rfl) T.z_max (by decide +kernel) (pa_cons pe_int (pa_cons (pe_op op_sub (pe_callB call_len_seq (by rfl) T.z_len (by decide +kernel) (pa_cons (pv 9) pa_nil)) (pv 4)) pa_nil))) (nomark _))))))))))))))))))), p_law T.cl h⟩)
end
theorem all_mk {l : PySem.W.OpenLaw} {w : World} {K : PySem.W.Frag} {h : Heap} {mg : Str → Option Value} {fa : Addr} (X : K.In h) (G : h.Ns mainGlobals mg) (hfa : mg "law" = some (.ref fa))
    {f_normal_lasso : Addr} {od_normal_lasso an_normal_lasso : Option Addr} {sl_normal_lasso : Array (Option Value)} {oc_normal_lasso kV_normal_lasso dc_normal_lasso pm_normal_lasso cd_normal_lasso ct_normal_lasso : Value}
    {f_root_length : Addr} {od_root_length an_root_length : Option Addr} {sl_root_length : Array (Option Value)} {oc_root_length kV_root_length dc_root_length pm_root_length cd_root_length ct_root_length : Value}
    {f_suffix : Addr} {od_suffix an_suffix : Option Addr} {sl_suffix : Array (Option Value)} {oc_suffix kV_suffix dc_suffix pm_suffix cd_suffix ct_suffix : Value}
    {f_check_letters : Addr} {od_check_letters an_check_letters : Option Addr} {sl_check_letters : Array (Option Value)} {oc_check_letters kV_check_letters dc_check_letters pm_check_letters cd_check_letters ct_check_letters : Value}
    {f_Machine_init : Addr} {od_Machine_init an_Machine_init : Option Addr} {sl_Machine_init : Array (Option Value)} {oc_Machine_init kV_Machine_init dc_Machine_init pm_Machine_init cd_Machine_init ct_Machine_init : Value}
    {f_Machine_call : Addr} {od_Machine_call an_Machine_call : Option Addr} {sl_Machine_call : Array (Option Value)} {oc_Machine_call kV_Machine_call dc_Machine_call pm_Machine_call cd_Machine_call ct_Machine_call : Value}
    {f_are_below : Addr} {od_are_below an_are_below : Option Addr} {sl_are_below : Array (Option Value)} {oc_are_below kV_are_below dc_are_below pm_are_below cd_are_below ct_are_below : Value}
    {f_emitted_word : Addr} {od_emitted_word an_emitted_word : Option Addr} {sl_emitted_word : Array (Option Value)} {oc_emitted_word kV_emitted_word dc_emitted_word pm_emitted_word cd_emitted_word ct_emitted_word : Value}
    {f_respond : Addr} {od_respond an_respond : Option Addr} {sl_respond : Array (Option Value)} {oc_respond kV_respond dc_respond pm_respond cd_respond ct_respond : Value}
    {f_said_word : Addr} {od_said_word an_said_word : Option Addr} {sl_said_word : Array (Option Value)} {oc_said_word kV_said_word dc_said_word pm_said_word cd_said_word ct_said_word : Value}
    {f__law_draws : Addr} {od__law_draws an__law_draws : Option Addr} {sl__law_draws : Array (Option Value)} {oc__law_draws kV__law_draws dc__law_draws pm__law_draws cd__law_draws ct__law_draws : Value}
    {f__law_take : Addr} {od__law_take an__law_take : Option Addr} {sl__law_take : Array (Option Value)} {oc__law_take kV__law_take dc__law_take pm__law_take cd__law_take ct__law_take : Value}
    {f__law_at : Addr} {od__law_at an__law_at : Option Addr} {sl__law_at : Array (Option Value)} {oc__law_at kV__law_at dc__law_at pm__law_at cd__law_at ct__law_at : Value}
    {f__law_lasso : Addr} {od__law_lasso an__law_lasso : Option Addr} {sl__law_lasso : Array (Option Value)} {oc__law_lasso kV__law_lasso dc__law_lasso pm__law_lasso cd__law_lasso ct__law_lasso : Value}
    {f__law_flat : Addr} {od__law_flat an__law_flat : Option Addr} {sl__law_flat : Array (Option Value)} {oc__law_flat kV__law_flat dc__law_flat pm__law_flat cd__law_flat ct__law_flat : Value}
    {f__law_machine : Addr} {od__law_machine an__law_machine : Option Addr} {sl__law_machine : Array (Option Value)} {oc__law_machine kV__law_machine dc__law_machine pm__law_machine cd__law_machine ct__law_machine : Value}
    {f_law : Addr} {od_law an_law : Option Addr} {sl_law : Array (Option Value)} {oc_law kV_law dc_law pm_law cd_law ct_law : Value}
    {C_SynthError : Addr}
    {C_InvalidLetter : Addr}
    {C_InvalidTurn : Addr}
    {C_InvalidMachine : Addr}
    {C_Machine : Addr}
    {c_LEADS : Addr} {od_LEADS : Option Addr} {its_LEADS : Array Value} {nx_LEADS : Nat} {sl_LEADS : Array (Option Value)}
    (ha_normal_lasso : PySem.W.nsIn K mainGlobals "normal_lasso" = some (some (.ref f_normal_lasso)))
    (hl_normal_lasso : K.lookup f_normal_lasso = some ⟨oc_normal_lasso, od_normal_lasso, .func (PySem.W.fnOf "normal_lasso" "normal_lasso" (defArgs s_normal_lasso) (defBody s_normal_lasso) (defScope s_normal_lasso) .none kV_normal_lasso dc_normal_lasso pm_normal_lasso an_normal_lasso cd_normal_lasso ct_normal_lasso), sl_normal_lasso⟩)
    (hc_normal_lasso : PySem.W.codeIn K cd_normal_lasso "normal_lasso" = true)
    (hk_normal_lasso : PySem.W.keepIn K (.ref f_normal_lasso) = true)
    (ha_root_length : PySem.W.nsIn K mainGlobals "root_length" = some (some (.ref f_root_length)))
    (hl_root_length : K.lookup f_root_length = some ⟨oc_root_length, od_root_length, .func (PySem.W.fnOf "root_length" "root_length" (defArgs s_root_length) (defBody s_root_length) (defScope s_root_length) .none kV_root_length dc_root_length pm_root_length an_root_length cd_root_length ct_root_length), sl_root_length⟩)
    (hc_root_length : PySem.W.codeIn K cd_root_length "root_length" = true)
    (hk_root_length : PySem.W.keepIn K (.ref f_root_length) = true)
    (ha_suffix : PySem.W.nsIn K mainGlobals "suffix" = some (some (.ref f_suffix)))
    (hl_suffix : K.lookup f_suffix = some ⟨oc_suffix, od_suffix, .func (PySem.W.fnOf "suffix" "suffix" (defArgs s_suffix) (defBody s_suffix) (defScope s_suffix) .none kV_suffix dc_suffix pm_suffix an_suffix cd_suffix ct_suffix), sl_suffix⟩)
    (hc_suffix : PySem.W.codeIn K cd_suffix "suffix" = true)
    (hk_suffix : PySem.W.keepIn K (.ref f_suffix) = true)
    (ha_check_letters : PySem.W.nsIn K mainGlobals "check_letters" = some (some (.ref f_check_letters)))
    (hl_check_letters : K.lookup f_check_letters = some ⟨oc_check_letters, od_check_letters, .func (PySem.W.fnOf "check_letters" "check_letters" (defArgs s_check_letters) (defBody s_check_letters) (defScope s_check_letters) .none kV_check_letters dc_check_letters pm_check_letters an_check_letters cd_check_letters ct_check_letters), sl_check_letters⟩)
    (hc_check_letters : PySem.W.codeIn K cd_check_letters "check_letters" = true)
    (hk_check_letters : PySem.W.keepIn K (.ref f_check_letters) = true)
    (ha_Machine_init : PySem.W.findIn K (.ref C_Machine) "__init__" = some (some (.ref f_Machine_init)))
    (hi_Machine_init : PySem.W.isFn K (.ref f_Machine_init) = true)
    (hl_Machine_init : K.lookup f_Machine_init = some ⟨oc_Machine_init, od_Machine_init, .func (PySem.W.fnOf "__init__" "Machine.__init__" (defArgs s_Machine_init) (defBody s_Machine_init) (defScope s_Machine_init) .none kV_Machine_init dc_Machine_init pm_Machine_init an_Machine_init cd_Machine_init ct_Machine_init), sl_Machine_init⟩)
    (hc_Machine_init : PySem.W.codeIn K cd_Machine_init "Machine.__init__" = true)
    (hk_Machine_init : PySem.W.keepIn K (.ref f_Machine_init) = true)
    (ha_Machine_call : PySem.W.findIn K (.ref C_Machine) "__call__" = some (some (.ref f_Machine_call)))
    (hi_Machine_call : PySem.W.isFn K (.ref f_Machine_call) = true)
    (hl_Machine_call : K.lookup f_Machine_call = some ⟨oc_Machine_call, od_Machine_call, .func (PySem.W.fnOf "__call__" "Machine.__call__" (defArgs s_Machine_call) (defBody s_Machine_call) (defScope s_Machine_call) .none kV_Machine_call dc_Machine_call pm_Machine_call an_Machine_call cd_Machine_call ct_Machine_call), sl_Machine_call⟩)
    (hc_Machine_call : PySem.W.codeIn K cd_Machine_call "Machine.__call__" = true)
    (hk_Machine_call : PySem.W.keepIn K (.ref f_Machine_call) = true)
    (ha_are_below : PySem.W.nsIn K mainGlobals "are_below" = some (some (.ref f_are_below)))
    (hl_are_below : K.lookup f_are_below = some ⟨oc_are_below, od_are_below, .func (PySem.W.fnOf "are_below" "are_below" (defArgs s_are_below) (defBody s_are_below) (defScope s_are_below) .none kV_are_below dc_are_below pm_are_below an_are_below cd_are_below ct_are_below), sl_are_below⟩)
    (hc_are_below : PySem.W.codeIn K cd_are_below "are_below" = true)
    (hk_are_below : PySem.W.keepIn K (.ref f_are_below) = true)
    (ha_emitted_word : PySem.W.nsIn K mainGlobals "emitted_word" = some (some (.ref f_emitted_word)))
    (hl_emitted_word : K.lookup f_emitted_word = some ⟨oc_emitted_word, od_emitted_word, .func (PySem.W.fnOf "emitted_word" "emitted_word" (defArgs s_emitted_word) (defBody s_emitted_word) (defScope s_emitted_word) .none kV_emitted_word dc_emitted_word pm_emitted_word an_emitted_word cd_emitted_word ct_emitted_word), sl_emitted_word⟩)
    (hc_emitted_word : PySem.W.codeIn K cd_emitted_word "emitted_word" = true)
    (hk_emitted_word : PySem.W.keepIn K (.ref f_emitted_word) = true)
    (ha_respond : PySem.W.nsIn K mainGlobals "respond" = some (some (.ref f_respond)))
    (hl_respond : K.lookup f_respond = some ⟨oc_respond, od_respond, .func (PySem.W.fnOf "respond" "respond" (defArgs s_respond) (defBody s_respond) (defScope s_respond) .none kV_respond dc_respond pm_respond an_respond cd_respond ct_respond), sl_respond⟩)
    (hc_respond : PySem.W.codeIn K cd_respond "respond" = true)
    (hk_respond : PySem.W.keepIn K (.ref f_respond) = true)
    (ha_said_word : PySem.W.nsIn K mainGlobals "said_word" = some (some (.ref f_said_word)))
    (hl_said_word : K.lookup f_said_word = some ⟨oc_said_word, od_said_word, .func (PySem.W.fnOf "said_word" "said_word" (defArgs s_said_word) (defBody s_said_word) (defScope s_said_word) .none kV_said_word dc_said_word pm_said_word an_said_word cd_said_word ct_said_word), sl_said_word⟩)
    (hc_said_word : PySem.W.codeIn K cd_said_word "said_word" = true)
    (hk_said_word : PySem.W.keepIn K (.ref f_said_word) = true)
    (ha__law_draws : PySem.W.nsIn K mainGlobals "_law_draws" = some (some (.ref f__law_draws)))
    (hl__law_draws : K.lookup f__law_draws = some ⟨oc__law_draws, od__law_draws, .func (PySem.W.fnOf "_law_draws" "_law_draws" (defArgs s__law_draws) (defBody s__law_draws) (defScope s__law_draws) .none kV__law_draws dc__law_draws pm__law_draws an__law_draws cd__law_draws ct__law_draws), sl__law_draws⟩)
    (hc__law_draws : PySem.W.codeIn K cd__law_draws "_law_draws" = true)
    (hk__law_draws : PySem.W.keepIn K (.ref f__law_draws) = true)
    (ha__law_take : PySem.W.nsIn K mainGlobals "_law_take" = some (some (.ref f__law_take)))
    (hl__law_take : K.lookup f__law_take = some ⟨oc__law_take, od__law_take, .func (PySem.W.fnOf "_law_take" "_law_take" (defArgs s__law_take) (defBody s__law_take) (defScope s__law_take) .none kV__law_take dc__law_take pm__law_take an__law_take cd__law_take ct__law_take), sl__law_take⟩)
    (hc__law_take : PySem.W.codeIn K cd__law_take "_law_take" = true)
    (hk__law_take : PySem.W.keepIn K (.ref f__law_take) = true)
    (ha__law_at : PySem.W.nsIn K mainGlobals "_law_at" = some (some (.ref f__law_at)))
    (hl__law_at : K.lookup f__law_at = some ⟨oc__law_at, od__law_at, .func (PySem.W.fnOf "_law_at" "_law_at" (defArgs s__law_at) (defBody s__law_at) (defScope s__law_at) .none kV__law_at dc__law_at pm__law_at an__law_at cd__law_at ct__law_at), sl__law_at⟩)
    (hc__law_at : PySem.W.codeIn K cd__law_at "_law_at" = true)
    (hk__law_at : PySem.W.keepIn K (.ref f__law_at) = true)
    (ha__law_lasso : PySem.W.nsIn K mainGlobals "_law_lasso" = some (some (.ref f__law_lasso)))
    (hl__law_lasso : K.lookup f__law_lasso = some ⟨oc__law_lasso, od__law_lasso, .func (PySem.W.fnOf "_law_lasso" "_law_lasso" (defArgs s__law_lasso) (defBody s__law_lasso) (defScope s__law_lasso) .none kV__law_lasso dc__law_lasso pm__law_lasso an__law_lasso cd__law_lasso ct__law_lasso), sl__law_lasso⟩)
    (hc__law_lasso : PySem.W.codeIn K cd__law_lasso "_law_lasso" = true)
    (hk__law_lasso : PySem.W.keepIn K (.ref f__law_lasso) = true)
    (ha__law_flat : PySem.W.nsIn K mainGlobals "_law_flat" = some (some (.ref f__law_flat)))
    (hl__law_flat : K.lookup f__law_flat = some ⟨oc__law_flat, od__law_flat, .func (PySem.W.fnOf "_law_flat" "_law_flat" (defArgs s__law_flat) (defBody s__law_flat) (defScope s__law_flat) .none kV__law_flat dc__law_flat pm__law_flat an__law_flat cd__law_flat ct__law_flat), sl__law_flat⟩)
    (hc__law_flat : PySem.W.codeIn K cd__law_flat "_law_flat" = true)
    (hk__law_flat : PySem.W.keepIn K (.ref f__law_flat) = true)
    (ha__law_machine : PySem.W.nsIn K mainGlobals "_law_machine" = some (some (.ref f__law_machine)))
    (hl__law_machine : K.lookup f__law_machine = some ⟨oc__law_machine, od__law_machine, .func (PySem.W.fnOf "_law_machine" "_law_machine" (defArgs s__law_machine) (defBody s__law_machine) (defScope s__law_machine) .none kV__law_machine dc__law_machine pm__law_machine an__law_machine cd__law_machine ct__law_machine), sl__law_machine⟩)
    (hc__law_machine : PySem.W.codeIn K cd__law_machine "_law_machine" = true)
    (hk__law_machine : PySem.W.keepIn K (.ref f__law_machine) = true)
    (ha_law : PySem.W.nsIn K mainGlobals "law" = some (some (.ref f_law)))
    (hl_law : K.lookup f_law = some ⟨oc_law, od_law, .func (PySem.W.fnOf "law" "law" (defArgs s_law) (defBody s_law) (defScope s_law) .none kV_law dc_law pm_law an_law cd_law ct_law), sl_law⟩)
    (hc_law : PySem.W.codeIn K cd_law "law" = true)
    (hk_law : PySem.W.keepIn K (.ref f_law) = true)
    (hn_SynthError : PySem.W.nsIn K mainGlobals "SynthError" = some (some (.ref C_SynthError)))
    (hn_InvalidLetter : PySem.W.nsIn K mainGlobals "InvalidLetter" = some (some (.ref C_InvalidLetter)))
    (hn_InvalidTurn : PySem.W.nsIn K mainGlobals "InvalidTurn" = some (some (.ref C_InvalidTurn)))
    (hn_InvalidMachine : PySem.W.nsIn K mainGlobals "InvalidMachine" = some (some (.ref C_InvalidMachine)))
    (hn_Machine : PySem.W.nsIn K mainGlobals "Machine" = some (some (.ref C_Machine)))
    (hpg_Machine : PySem.W.plainGet K C_Machine Str.empty = true)
    (hhd_Machine : PySem.W.hasDictIn K C_Machine = true)
    (hpo_Machine : PySem.W.plainOver K C_Machine = true)
    (hsa_Machine : PySem.W.findIn K (.ref C_Machine) "__setattr__" = some (some (.builtin "object.__setattr__")))
    (hmk_Machine : PySem.W.makesIn K C_Machine = true)
    (hkc_Machine : PySem.W.keepIn K (.ref C_Machine) = true)
    (hna_Machine_inputs : PySem.W.findIn K (.ref C_Machine) "inputs" = some none)
    (hna_Machine_outputs : PySem.W.findIn K (.ref C_Machine) "outputs" = some none)
    (hna_Machine_lead : PySem.W.findIn K (.ref C_Machine) "lead" = some none)
    (hna_Machine_opening : PySem.W.findIn K (.ref C_Machine) "opening" = some none)
    (hna_Machine_rows : PySem.W.findIn K (.ref C_Machine) "rows" = some none)
    (ht1_Machine : PySem.W.findIn K (.ref C_Machine) "__class__" = some (some (.builtin "object.__class__")))
    (ht4_Machine : PySem.W.mroIn K C_Machine (.type "object") = some true)
    (ht2 : PySem.W.specialIn K (.builtin "object.__class__") "__get__" = some (some (.builtin "getset_descriptor.__get__")))
    (ht3 : PySem.W.takesIn K (.builtin "object.__class__") = some true)
    (hk_InvalidLetter : PySem.W.keepIn K (.ref C_InvalidLetter) = true)
    (hx_InvalidLetter : PySem.W.excIn K C_InvalidLetter [.type "ValueError", .type "Exception", .type "BaseException", .type "object"] "ValueError.__new__" = true)
    (hk_InvalidMachine : PySem.W.keepIn K (.ref C_InvalidMachine) = true)
    (hx_InvalidMachine : PySem.W.excIn K C_InvalidMachine [.type "ValueError", .type "Exception", .type "BaseException", .type "object"] "ValueError.__new__" = true)
    (hk_InvalidTurn : PySem.W.keepIn K (.ref C_InvalidTurn) = true)
    (hx_InvalidTurn : PySem.W.excIn K C_InvalidTurn [.type "ValueError", .type "Exception", .type "BaseException", .type "object"] "ValueError.__new__" = true)
    (hs_InvalidLetter : PySem.W.subIn K (.ref C_InvalidLetter) (.type "BaseException") = some true)
    (ht_InvalidLetter : PySem.W.typeIn K (.ref C_InvalidLetter) = some (.type "type"))
    (hs_InvalidMachine : PySem.W.subIn K (.ref C_InvalidMachine) (.type "BaseException") = some true)
    (ht_InvalidMachine : PySem.W.typeIn K (.ref C_InvalidMachine) = some (.type "type"))
    (hs_InvalidTurn : PySem.W.subIn K (.ref C_InvalidTurn) (.type "BaseException") = some true)
    (ht_InvalidTurn : PySem.W.typeIn K (.ref C_InvalidTurn) = some (.type "type"))
    (hz_enumerate : PySem.W.nsIn K mainGlobals "enumerate" = some none)
    (hz_int : PySem.W.nsIn K mainGlobals "int" = some none)
    (hz_len : PySem.W.nsIn K mainGlobals "len" = some none)
    (hz_list : PySem.W.nsIn K mainGlobals "list" = some none)
    (hz_max : PySem.W.nsIn K mainGlobals "max" = some none)
    (hz_min : PySem.W.nsIn K mainGlobals "min" = some none)
    (hz_range : PySem.W.nsIn K mainGlobals "range" = some none)
    (hz_tuple : PySem.W.nsIn K mainGlobals "tuple" = some none)
    (hg_LEADS : PySem.W.nsIn K mainGlobals "LEADS" = some (some (.ref c_LEADS)))
    (hlc_LEADS : K.lookup c_LEADS = some ⟨.type "tuple", od_LEADS, .seq its_LEADS nx_LEADS, sl_LEADS⟩)
    (hvv_LEADS : its_LEADS.size ≤ sizeLine ∧ Vals [.int (-3), .int (-2), .int (-1), .int (0), .int (1), .int (2)] its_LEADS.toList)
    (hfi_Machine : PySem.W.fnIn K f_Machine_call = true)
    : ∃ fd : FuncData, (∀ (s : Shared) (v : Value), BindsTo s fd ⟨[v], []⟩ [("script", v)]) ∧ ∀ base : Heap, K.In base → base.Ns mainGlobals mg → FnOk l.prog w K mg base CX0 6 fa fd ["script"] (spL K) := by
  have e : fa = f_law := by
    have e := hfa.symm.trans (PySem.W.mg_of X G ha_law)
    cases e
    rfl
  rw [e]
  have C : Cl K { a_normal_lasso := f_normal_lasso, fd_normal_lasso := PySem.W.fnOf "normal_lasso" "normal_lasso" (defArgs s_normal_lasso) (defBody s_normal_lasso) (defScope s_normal_lasso) .none kV_normal_lasso dc_normal_lasso pm_normal_lasso an_normal_lasso cd_normal_lasso ct_normal_lasso, a_root_length := f_root_length, fd_root_length := PySem.W.fnOf "root_length" "root_length" (defArgs s_root_length) (defBody s_root_length) (defScope s_root_length) .none kV_root_length dc_root_length pm_root_length an_root_length cd_root_length ct_root_length, a_suffix := f_suffix, fd_suffix := PySem.W.fnOf "suffix" "suffix" (defArgs s_suffix) (defBody s_suffix) (defScope s_suffix) .none kV_suffix dc_suffix pm_suffix an_suffix cd_suffix ct_suffix, a_check_letters := f_check_letters, fd_check_letters := PySem.W.fnOf "check_letters" "check_letters" (defArgs s_check_letters) (defBody s_check_letters) (defScope s_check_letters) .none kV_check_letters dc_check_letters pm_check_letters an_check_letters cd_check_letters ct_check_letters, a_Machine_init := f_Machine_init, fd_Machine_init := PySem.W.fnOf "__init__" "Machine.__init__" (defArgs s_Machine_init) (defBody s_Machine_init) (defScope s_Machine_init) .none kV_Machine_init dc_Machine_init pm_Machine_init an_Machine_init cd_Machine_init ct_Machine_init, a_Machine_call := f_Machine_call, fd_Machine_call := PySem.W.fnOf "__call__" "Machine.__call__" (defArgs s_Machine_call) (defBody s_Machine_call) (defScope s_Machine_call) .none kV_Machine_call dc_Machine_call pm_Machine_call an_Machine_call cd_Machine_call ct_Machine_call, a_are_below := f_are_below, fd_are_below := PySem.W.fnOf "are_below" "are_below" (defArgs s_are_below) (defBody s_are_below) (defScope s_are_below) .none kV_are_below dc_are_below pm_are_below an_are_below cd_are_below ct_are_below, a_emitted_word := f_emitted_word, fd_emitted_word := PySem.W.fnOf "emitted_word" "emitted_word" (defArgs s_emitted_word) (defBody s_emitted_word) (defScope s_emitted_word) .none kV_emitted_word dc_emitted_word pm_emitted_word an_emitted_word cd_emitted_word ct_emitted_word, a_respond := f_respond, fd_respond := PySem.W.fnOf "respond" "respond" (defArgs s_respond) (defBody s_respond) (defScope s_respond) .none kV_respond dc_respond pm_respond an_respond cd_respond ct_respond, a_said_word := f_said_word, fd_said_word := PySem.W.fnOf "said_word" "said_word" (defArgs s_said_word) (defBody s_said_word) (defScope s_said_word) .none kV_said_word dc_said_word pm_said_word an_said_word cd_said_word ct_said_word, a__law_draws := f__law_draws, fd__law_draws := PySem.W.fnOf "_law_draws" "_law_draws" (defArgs s__law_draws) (defBody s__law_draws) (defScope s__law_draws) .none kV__law_draws dc__law_draws pm__law_draws an__law_draws cd__law_draws ct__law_draws, a__law_take := f__law_take, fd__law_take := PySem.W.fnOf "_law_take" "_law_take" (defArgs s__law_take) (defBody s__law_take) (defScope s__law_take) .none kV__law_take dc__law_take pm__law_take an__law_take cd__law_take ct__law_take, a__law_at := f__law_at, fd__law_at := PySem.W.fnOf "_law_at" "_law_at" (defArgs s__law_at) (defBody s__law_at) (defScope s__law_at) .none kV__law_at dc__law_at pm__law_at an__law_at cd__law_at ct__law_at, a__law_lasso := f__law_lasso, fd__law_lasso := PySem.W.fnOf "_law_lasso" "_law_lasso" (defArgs s__law_lasso) (defBody s__law_lasso) (defScope s__law_lasso) .none kV__law_lasso dc__law_lasso pm__law_lasso an__law_lasso cd__law_lasso ct__law_lasso, a__law_flat := f__law_flat, fd__law_flat := PySem.W.fnOf "_law_flat" "_law_flat" (defArgs s__law_flat) (defBody s__law_flat) (defScope s__law_flat) .none kV__law_flat dc__law_flat pm__law_flat an__law_flat cd__law_flat ct__law_flat, a__law_machine := f__law_machine, fd__law_machine := PySem.W.fnOf "_law_machine" "_law_machine" (defArgs s__law_machine) (defBody s__law_machine) (defScope s__law_machine) .none kV__law_machine dc__law_machine pm__law_machine an__law_machine cd__law_machine ct__law_machine, a_law := f_law, fd_law := PySem.W.fnOf "law" "law" (defArgs s_law) (defBody s_law) (defScope s_law) .none kV_law dc_law pm_law an_law cd_law ct_law, C_SynthError := C_SynthError, C_InvalidLetter := C_InvalidLetter, C_InvalidTurn := C_InvalidTurn, C_InvalidMachine := C_InvalidMachine, C_Machine := C_Machine, c_LEADS := c_LEADS : Ads } := {
    cl_Machine := ⟨hpg_Machine, hhd_Machine, hpo_Machine, hsa_Machine⟩,
    na_Machine_inputs := hna_Machine_inputs,
    na_Machine_outputs := hna_Machine_outputs,
    na_Machine_lead := hna_Machine_lead,
    na_Machine_opening := hna_Machine_opening,
    na_Machine_rows := hna_Machine_rows,
    ty_Machine := fun e => .base (.ins e ⟨hpg_Machine, hhd_Machine, hpo_Machine, hsa_Machine⟩ ht1_Machine ht2 ht3 ht4_Machine),
    sq_LEADS := fun H => .inr ⟨_, _, _, hlc_LEADS, rfl, rfl, hvv_LEADS.1, hvv_LEADS.2⟩,
    co_Machine := ⟨ha_Machine_call, hi_Machine_call, hfi_Machine⟩ }
  have F_normal_lasso := fun_mk (st := s_normal_lasso) hl_normal_lasso hc_normal_lasso hk_normal_lasso
  have F_root_length := fun_mk (st := s_root_length) hl_root_length hc_root_length hk_root_length
  have F_suffix := fun_mk (st := s_suffix) hl_suffix hc_suffix hk_suffix
  have F_check_letters := fun_mk (st := s_check_letters) hl_check_letters hc_check_letters hk_check_letters
  have F_Machine_init := fun_mk (st := s_Machine_init) hl_Machine_init hc_Machine_init hk_Machine_init
  have F_Machine_call := fun_mk (st := s_Machine_call) hl_Machine_call hc_Machine_call hk_Machine_call
  have F_are_below := fun_mk (st := s_are_below) hl_are_below hc_are_below hk_are_below
  have F_emitted_word := fun_mk (st := s_emitted_word) hl_emitted_word hc_emitted_word hk_emitted_word
  have F_respond := fun_mk (st := s_respond) hl_respond hc_respond hk_respond
  have F_said_word := fun_mk (st := s_said_word) hl_said_word hc_said_word hk_said_word
  have F__law_draws := fun_mk (st := s__law_draws) hl__law_draws hc__law_draws hk__law_draws
  have F__law_take := fun_mk (st := s__law_take) hl__law_take hc__law_take hk__law_take
  have F__law_at := fun_mk (st := s__law_at) hl__law_at hc__law_at hk__law_at
  have F__law_lasso := fun_mk (st := s__law_lasso) hl__law_lasso hc__law_lasso hk__law_lasso
  have F__law_flat := fun_mk (st := s__law_flat) hl__law_flat hc__law_flat hk__law_flat
  have F__law_machine := fun_mk (st := s__law_machine) hl__law_machine hc__law_machine hk__law_machine
  have F_law := fun_mk (st := s_law) hl_law hc_law hk_law
  have T : Txt K mg _ := {
    cl := C,
    F_normal_lasso := F_normal_lasso,
    b_normal_lasso := F_normal_lasso.binds (ps := ["head", "loop"]) fun _ _ _ _ _ _ us hl => match us, hl with | [_, _], _ => rfl,
    g_normal_lasso := PySem.W.mg_of X G ha_normal_lasso,
    k_normal_lasso := hk_normal_lasso,
    F_root_length := F_root_length,
    b_root_length := F_root_length.binds (ps := ["loop"]) fun _ _ _ _ _ _ us hl => match us, hl with | [_], _ => rfl,
    g_root_length := PySem.W.mg_of X G ha_root_length,
    k_root_length := hk_root_length,
    F_suffix := F_suffix,
    b_suffix := F_suffix.binds (ps := ["lasso", "turns"]) fun _ _ _ _ _ _ us hl => match us, hl with | [_, _], _ => rfl,
    g_suffix := PySem.W.mg_of X G ha_suffix,
    k_suffix := hk_suffix,
    F_check_letters := F_check_letters,
    b_check_letters := F_check_letters.binds (ps := ["lasso", "letters"]) fun _ _ _ _ _ _ us hl => match us, hl with | [_, _], _ => rfl,
    g_check_letters := PySem.W.mg_of X G ha_check_letters,
    k_check_letters := hk_check_letters,
    F_Machine_init := F_Machine_init,
    b_Machine_init := F_Machine_init.binds (ps := ["self", "inputs", "outputs", "lead", "opening", "rows"]) fun _ _ _ _ _ _ us hl => match us, hl with | [_, _, _, _, _, _], _ => rfl,
    mt_Machine_init := ⟨ha_Machine_init, hi_Machine_init, hk_Machine_init⟩,
    F_Machine_call := F_Machine_call,
    b_Machine_call := F_Machine_call.binds (ps := ["self", "heard"]) fun _ _ _ _ _ _ us hl => match us, hl with | [_, _], _ => rfl,
    mt_Machine_call := ⟨ha_Machine_call, hi_Machine_call, hk_Machine_call⟩,
    F_are_below := F_are_below,
    b_are_below := F_are_below.binds (ps := ["numbers", "count"]) fun _ _ _ _ _ _ us hl => match us, hl with | [_, _], _ => rfl,
    g_are_below := PySem.W.mg_of X G ha_are_below,
    k_are_below := hk_are_below,
    F_emitted_word := F_emitted_word,
    b_emitted_word := F_emitted_word.binds (ps := ["machine", "state", "lasso"]) fun _ _ _ _ _ _ us hl => match us, hl with | [_, _, _], _ => rfl,
    g_emitted_word := PySem.W.mg_of X G ha_emitted_word,
    k_emitted_word := hk_emitted_word,
    F_respond := F_respond,
    b_respond := F_respond.binds (ps := ["machine", "lasso"]) fun _ _ _ _ _ _ us hl => match us, hl with | [_, _], _ => rfl,
    g_respond := PySem.W.mg_of X G ha_respond,
    k_respond := hk_respond,
    F_said_word := F_said_word,
    b_said_word := F_said_word.binds (ps := ["machine", "head", "loop"]) fun _ _ _ _ _ _ us hl => match us, hl with | [_, _, _], _ => rfl,
    g_said_word := PySem.W.mg_of X G ha_said_word,
    k_said_word := hk_said_word,
    F__law_draws := F__law_draws,
    b__law_draws := F__law_draws.binds (ps := ["script", "count"]) fun _ _ _ _ _ _ us hl => match us, hl with | [_, _], _ => rfl,
    g__law_draws := PySem.W.mg_of X G ha__law_draws,
    k__law_draws := hk__law_draws,
    F__law_take := F__law_take,
    b__law_take := F__law_take.binds (ps := ["draws", "limit"]) fun _ _ _ _ _ _ us hl => match us, hl with | [_, _], _ => rfl,
    g__law_take := PySem.W.mg_of X G ha__law_take,
    k__law_take := hk__law_take,
    F__law_at := F__law_at,
    b__law_at := F__law_at.binds (ps := ["lasso", "turn"]) fun _ _ _ _ _ _ us hl => match us, hl with | [_, _], _ => rfl,
    g__law_at := PySem.W.mg_of X G ha__law_at,
    k__law_at := hk__law_at,
    F__law_lasso := F__law_lasso,
    b__law_lasso := F__law_lasso.binds (ps := ["draws", "letters", "longest"]) fun _ _ _ _ _ _ us hl => match us, hl with | [_, _, _], _ => rfl,
    g__law_lasso := PySem.W.mg_of X G ha__law_lasso,
    k__law_lasso := hk__law_lasso,
    F__law_flat := F__law_flat,
    b__law_flat := F__law_flat.binds (ps := ["rows"]) fun _ _ _ _ _ _ us hl => match us, hl with | [_], _ => rfl,
    g__law_flat := PySem.W.mg_of X G ha__law_flat,
    k__law_flat := hk__law_flat,
    F__law_machine := F__law_machine,
    b__law_machine := F__law_machine.binds (ps := ["draws", "inputs", "outputs", "lead", "most"]) fun _ _ _ _ _ _ us hl => match us, hl with | [_, _, _, _, _], _ => rfl,
    g__law_machine := PySem.W.mg_of X G ha__law_machine,
    k__law_machine := hk__law_machine,
    F_law := F_law,
    b_law := F_law.binds (ps := ["script"]) fun _ _ _ _ _ _ us hl => match us, hl with | [_], _ => rfl,
    g_law := PySem.W.mg_of X G ha_law,
    k_law := hk_law,
    g_Machine := PySem.W.mg_of X G hn_Machine,
    cl_Machine := C.cl_Machine,
    M_Machine := ⟨hmk_Machine, ha_Machine_init, hi_Machine_init, hkc_Machine⟩,
    g_InvalidLetter := PySem.W.mg_of X G hn_InvalidLetter,
    g_InvalidMachine := PySem.W.mg_of X G hn_InvalidMachine,
    g_InvalidTurn := PySem.W.mg_of X G hn_InvalidTurn,
    k_InvalidLetter := hk_InvalidLetter, x_InvalidLetter := hx_InvalidLetter, s_InvalidLetter := hs_InvalidLetter, t_InvalidLetter := ht_InvalidLetter,
    k_InvalidMachine := hk_InvalidMachine, x_InvalidMachine := hx_InvalidMachine, s_InvalidMachine := hs_InvalidMachine, t_InvalidMachine := ht_InvalidMachine,
    k_InvalidTurn := hk_InvalidTurn, x_InvalidTurn := hx_InvalidTurn, s_InvalidTurn := hs_InvalidTurn, t_InvalidTurn := ht_InvalidTurn,
    z_enumerate := PySem.W.mg_none_of X G hz_enumerate,
    z_int := PySem.W.mg_none_of X G hz_int,
    z_len := PySem.W.mg_none_of X G hz_len,
    z_list := PySem.W.mg_none_of X G hz_list,
    z_max := PySem.W.mg_none_of X G hz_max,
    z_min := PySem.W.mg_none_of X G hz_min,
    z_range := PySem.W.mg_none_of X G hz_range,
    z_tuple := PySem.W.mg_none_of X G hz_tuple,
    g_LEADS := PySem.W.mg_of X G hg_LEADS }
  exact ⟨PySem.W.fnOf "law" "law" (defArgs s_law) (defBody s_law) (defScope s_law) .none kV_law dc_law pm_law an_law cd_law ct_law, fun s v => .of_eq rfl, fun base _ _ => ok_law T⟩
theorem walk {l : PySem.W.OpenLaw} {q : Program} {loose : List Str} {XP : (Str → Option Value) → Heap → Prop} {YP : World → Heap → Prop} {d : DefRec} {K : Params → PySem.W.Frag} (hn : l.most = some 63) (hdf : d.params.defaults = [])
    (hY : ∀ (w : World) (h : Heap), YP w h → (K w.params).In h)
    (F : ∀ (w : World) (mg : Str → Option Value) (fa : Addr) (h : Heap), (K w.params).In h → h.Ns mainGlobals mg → mg d.name = some (.ref fa) →
      ∃ fd : FuncData, (∀ (s : Shared) (u : Value), BindsTo s fd ⟨[u], []⟩ [("script", u)]) ∧ ∀ base : Heap, (K w.params).In base → base.Ns mainGlobals mg → FnOk l.prog w (K w.params) mg base CX0 6 fa fd ["script"] (spL (K w.params))) :
    PySem.W.WalkO q loose XP YP l.row.toRowW d [] (fun f vs => PySem.call f vs) :=
  L2.walk_of (n := 63) (k := 6) (x := "script") (CX := fun _ => CX0) (sp := fun w => spL (K w.params)) hn (by decide) hdf ⟨rfl, by decide, by decide⟩ hY F (fun _ _ a ns hl _ hS => ⟨a, ns, rfl, hS, hl, fun _ => rfl⟩) fun _ _ _ _ _ z => z
end LW
open PySem PySem.W PyProof.Rows in
set_option maxRecDepth 100000 in
set_option maxHeartbeats 0 in
theorem PySem.Challenge.cw_promiseplay_k45_lead_and_causes_holds : PySem.Challenge.rw_promiseplay_k45_lead_and_causes.Holds := by
  w_on; o_law; k_head; (case hw => w_witness2)
  k_fill
  refine LW.walk (l := PySem.Challenge.rw_promiseplay_k45_lead_and_causes) rfl rfl (fun w h Y => PySem.W.kIn_of Y) ?F
  case F =>
    intro w mg fa h KX G hmg
    refine' LW.all_mk KX G hmg ?ha_normal_lasso ?hl_normal_lasso ?hc_normal_lasso ?hk_normal_lasso ?ha_root_length ?hl_root_length ?hc_root_length ?hk_root_length ?ha_suffix ?hl_suffix ?hc_suffix ?hk_suffix ?ha_check_letters ?hl_check_letters ?hc_check_letters ?hk_check_letters ?ha_Machine_init ?hi_Machine_init ?hl_Machine_init ?hc_Machine_init ?hk_Machine_init ?ha_Machine_call ?hi_Machine_call ?hl_Machine_call ?hc_Machine_call ?hk_Machine_call ?ha_are_below ?hl_are_below ?hc_are_below ?hk_are_below ?ha_emitted_word ?hl_emitted_word ?hc_emitted_word ?hk_emitted_word ?ha_respond ?hl_respond ?hc_respond ?hk_respond ?ha_said_word ?hl_said_word ?hc_said_word ?hk_said_word ?ha__law_draws ?hl__law_draws ?hc__law_draws ?hk__law_draws ?ha__law_take ?hl__law_take ?hc__law_take ?hk__law_take ?ha__law_at ?hl__law_at ?hc__law_at ?hk__law_at ?ha__law_lasso ?hl__law_lasso ?hc__law_lasso ?hk__law_lasso ?ha__law_flat ?hl__law_flat ?hc__law_flat ?hk__law_flat ?ha__law_machine ?hl__law_machine ?hc__law_machine ?hk__law_machine ?ha_law ?hl_law ?hc_law ?hk_law ?hn_SynthError ?hn_InvalidLetter ?hn_InvalidTurn ?hn_InvalidMachine ?hn_Machine ?hpg_Machine ?hhd_Machine ?hpo_Machine ?hsa_Machine ?hmk_Machine ?hkc_Machine ?hna_Machine_inputs ?hna_Machine_outputs ?hna_Machine_lead ?hna_Machine_opening ?hna_Machine_rows ?ht1_Machine ?ht4_Machine ?ht2 ?ht3 ?hk_InvalidLetter ?hx_InvalidLetter ?hk_InvalidMachine ?hx_InvalidMachine ?hk_InvalidTurn ?hx_InvalidTurn ?hs_InvalidLetter ?ht_InvalidLetter ?hs_InvalidMachine ?ht_InvalidMachine ?hs_InvalidTurn ?ht_InvalidTurn ?hz_enumerate ?hz_int ?hz_len ?hz_list ?hz_max ?hz_min ?hz_range ?hz_tuple ?hg_LEADS ?hlc_LEADS ?hvv_LEADS ?hfi_Machine
    (case hn_SynthError => k_is)
    (case hn_InvalidLetter => k_is)
    (case hn_InvalidTurn => k_is)
    (case hn_InvalidMachine => k_is)
    (case hn_Machine => k_is)
    (case ha_normal_lasso => k_is)
    (case ha_root_length => k_is)
    (case ha_suffix => k_is)
    (case ha_check_letters => k_is)
    (case ha_Machine_init => k_is)
    (case ha_Machine_call => k_is)
    (case ha_are_below => k_is)
    (case ha_emitted_word => k_is)
    (case ha_respond => k_is)
    (case ha_said_word => k_is)
    (case ha__law_draws => k_is)
    (case ha__law_take => k_is)
    (case ha__law_at => k_is)
    (case ha__law_lasso => k_is)
    (case ha__law_flat => k_is)
    (case ha__law_machine => k_is)
    (case ha_law => k_is)
    (case hl_normal_lasso => k_is)
    (case hl_root_length => k_is)
    (case hl_suffix => k_is)
    (case hl_check_letters => k_is)
    (case hl_Machine_init => k_is)
    (case hl_Machine_call => k_is)
    (case hl_are_below => k_is)
    (case hl_emitted_word => k_is)
    (case hl_respond => k_is)
    (case hl_said_word => k_is)
    (case hl__law_draws => k_is)
    (case hl__law_take => k_is)
    (case hl__law_at => k_is)
    (case hl__law_lasso => k_is)
    (case hl__law_flat => k_is)
    (case hl__law_machine => k_is)
    (case hl_law => k_is)
    (case hc_normal_lasso => k_is)
    (case hk_normal_lasso => k_is)
    (case hc_root_length => k_is)
    (case hk_root_length => k_is)
    (case hc_suffix => k_is)
    (case hk_suffix => k_is)
    (case hc_check_letters => k_is)
    (case hk_check_letters => k_is)
    (case hi_Machine_init => k_is)
    (case hc_Machine_init => k_is)
    (case hk_Machine_init => k_is)
    (case hi_Machine_call => k_is)
    (case hc_Machine_call => k_is)
    (case hk_Machine_call => k_is)
    (case hc_are_below => k_is)
    (case hk_are_below => k_is)
    (case hc_emitted_word => k_is)
    (case hk_emitted_word => k_is)
    (case hc_respond => k_is)
    (case hk_respond => k_is)
    (case hc_said_word => k_is)
    (case hk_said_word => k_is)
    (case hc__law_draws => k_is)
    (case hk__law_draws => k_is)
    (case hc__law_take => k_is)
    (case hk__law_take => k_is)
    (case hc__law_at => k_is)
    (case hk__law_at => k_is)
    (case hc__law_lasso => k_is)
    (case hk__law_lasso => k_is)
    (case hc__law_flat => k_is)
    (case hk__law_flat => k_is)
    (case hc__law_machine => k_is)
    (case hk__law_machine => k_is)
    (case hc_law => k_is)
    (case hk_law => k_is)
    (case hpg_Machine => k_is)
    (case hhd_Machine => k_is)
    (case hpo_Machine => k_is)
    (case hsa_Machine => k_is)
    (case hmk_Machine => k_is)
    (case hkc_Machine => k_is)
    (case hna_Machine_inputs => k_is)
    (case hna_Machine_outputs => k_is)
    (case hna_Machine_lead => k_is)
    (case hna_Machine_opening => k_is)
    (case hna_Machine_rows => k_is)
    (case ht1_Machine => k_is)
    (case ht4_Machine => k_is)
    (case ht2 => k_is)
    (case ht3 => k_is)
    (case hk_InvalidLetter => k_is)
    (case hx_InvalidLetter => k_exc)
    (case hk_InvalidMachine => k_is)
    (case hx_InvalidMachine => k_exc)
    (case hk_InvalidTurn => k_is)
    (case hx_InvalidTurn => k_exc)
    (case hs_InvalidLetter => k_is)
    (case ht_InvalidLetter => k_is)
    (case hs_InvalidMachine => k_is)
    (case ht_InvalidMachine => k_is)
    (case hs_InvalidTurn => k_is)
    (case ht_InvalidTurn => k_is)
    (case hz_enumerate => k_is)
    (case hz_int => k_is)
    (case hz_len => k_is)
    (case hz_list => k_is)
    (case hz_max => k_is)
    (case hz_min => k_is)
    (case hz_range => k_is)
    (case hz_tuple => k_is)
    (case hg_LEADS => k_is)
    (case hlc_LEADS => k_is)
    (case hvv_LEADS => exact ⟨by decide, by repeat (first | exact .nil | refine .cons ⟨_, rfl⟩ ?_)⟩)
    (case hfi_Machine => k_is)
