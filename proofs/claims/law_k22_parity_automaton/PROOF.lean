import PyProof.Rows.All
import Wide.All
import OpenK.AllK
import Wide.FinOn
import HandS.ForMost
import HandS.ForExc
import HandS.Wide
import HandS.IsInst
import HandS.TupAny
import HandS.WideBits
import HandS.TryMany
import HandS.ExcIs
import KE.KMinKey
import HandS.SortKw
import PySem.Challenge.RW_promiseplay_k22_parity_automaton
set_option Elab.async false
set_option linter.all false
set_option maxRecDepth 100000
set_option maxHeartbeats 4000000
namespace SL
open PySem L2

/-! ## heaps: frozen part, owned objects -/
abbrev Led := List (Addr × HO)
def SameB (p : Addr) (H H' : Hp) : Prop := ∀ b o, b ≠ p → H b = some o → H' b = some o
def del (H : Hp) (p : Addr) : Hp := fun b => if b = p then none else H b
theorem del_self {H : Hp} {p : Addr} : del H p p = none := by unfold del; rw [if_pos rfl]
theorem del_ne {H : Hp} {p b : Addr} (h : b ≠ p) : del H p b = H b := by unfold del; rw [if_neg h]
theorem del_some {H : Hp} {p b : Addr} {o : HO} (h : del H p b = some o) : b ≠ p ∧ H b = some o := by
  by_cases e : b = p
  · rw [e, del_self] at h; cases h
  · rw [del_ne e] at h; exact ⟨e, h⟩
theorem same_new {H : Hp} {p : Addr} {o : HO} (h : H p = none) : Same H (upd H p o) := fun b u e => by
  rw [upd_ne (ne_of_none e h)]; exact e
structure En where
  F : Hp
  H : Hp
structure St (E : En) (F H : Hp) (L : Led) : Prop where
  bh : Same E.H H
  fh : Same F H
  ff : Same E.F F
  pr : ∀ a, F a ≠ none → E.F a ≠ none ∨ E.H a = none
  own : ∀ x ∈ L, H x.1 = some x.2 ∧ F x.1 = none ∧ E.H x.1 = none
  nd : (L.map (·.1)).Nodup
/-- what a call leaves that changes nothing -/
structure Gr (F H F' H' : Hp) : Prop where
  ff : Same F F'
  fh : Same F' H'
  hh : Same H H'
  pr : ∀ a, F' a ≠ none → F a ≠ none ∨ H a = none
/-- .. that changes p alone -/
structure GrB (p : Addr) (F H F' H' : Hp) : Prop where
  ff : Same F F'
  fh : Same F' H'
  hh : SameB p H H'
  pr : ∀ a, F' a ≠ none → F a ≠ none ∨ H a = none
inductive Upd : Led → Addr → HO → HO → Led → Prop
  | head {a o o' L} : Upd ((a, o) :: L) a o o' ((a, o') :: L)
  | tail {a o o' L L' x} : Upd L a o o' L' → Upd (x :: L) a o o' (x :: L')
inductive Tak : Led → Addr → HO → Led → Prop
  | head {a o L} : Tak ((a, o) :: L) a o L
  | tail {a o L L' x} : Tak L a o L' → Tak (x :: L) a o (x :: L')
theorem Upd.mem {L L' : Led} {a : Addr} {o o' : HO} (u : Upd L a o o' L') : (a, o) ∈ L := by
  induction u with
  | head => exact List.mem_cons_self
  | tail _ ih => exact List.mem_cons_of_mem _ ih
theorem Upd.fst {L L' : Led} {a : Addr} {o o' : HO} (u : Upd L a o o' L') : L'.map (·.1) = L.map (·.1) := by
  induction u with
  | head => rfl
  | tail _ ih => rw [List.map_cons, List.map_cons, ih]
theorem Upd.of {L L' : Led} {a : Addr} {o o' : HO} (u : Upd L a o o' L') : ∀ x ∈ L', x = (a, o') ∨ x ∈ L := by
  induction u with
  | head =>
    intro x hx
    rcases List.mem_cons.mp hx with e | e
    · exact .inl e
    · exact .inr (List.mem_cons_of_mem _ e)
  | tail _ ih =>
    intro x hx
    rcases List.mem_cons.mp hx with e | e
    · exact .inr (e ▸ List.mem_cons_self)
    · rcases ih x e with q | q
      · exact .inl q
      · exact .inr (List.mem_cons_of_mem _ q)
theorem Upd.new {L L' : Led} {a : Addr} {o o' : HO} (u : Upd L a o o' L') : (a, o') ∈ L' := by
  induction u with
  | head => exact List.mem_cons_self
  | tail _ ih => exact List.mem_cons_of_mem _ ih
theorem nd_one : ∀ {L : Led} {a : Addr} {o : HO} {x : Addr × HO}, (L.map (·.1)).Nodup → x ∈ L → (a, o) ∈ L → x.1 = a → x = (a, o)
  | [], _, _, _, _, h, _, _ => nomatch h
  | y :: r, a, o, x, n, h1, h2, c => by
    rw [List.map_cons, List.nodup_cons] at n
    rcases List.mem_cons.mp h1 with q | q <;> rcases List.mem_cons.mp h2 with z | z
    · rw [q, z]
    · exact absurd (List.mem_map.mpr ⟨_, z, (by rw [← q]; exact c.symm)⟩) n.1
    · exact absurd (List.mem_map.mpr ⟨_, q, (by rw [← z]; exact c)⟩) n.1
    · exact nd_one n.2 q z c
theorem Tak.mem {L L' : Led} {a : Addr} {o : HO} (u : Tak L a o L') : (a, o) ∈ L := by
  induction u with
  | head => exact List.mem_cons_self
  | tail _ ih => exact List.mem_cons_of_mem _ ih
theorem Tak.sub {L L' : Led} {a : Addr} {o : HO} (u : Tak L a o L') : ∀ x ∈ L', x ∈ L := by
  induction u with
  | head => exact fun x h => List.mem_cons_of_mem _ h
  | tail _ ih =>
    intro x hx
    rcases List.mem_cons.mp hx with e | e
    · exact e ▸ List.mem_cons_self
    · exact List.mem_cons_of_mem _ (ih x e)
theorem Tak.nd {L L' : Led} {a : Addr} {o : HO} (u : Tak L a o L') (n : (L.map (·.1)).Nodup) : (L'.map (·.1)).Nodup ∧ ∀ x ∈ L', x.1 ≠ a := by
  induction u with
  | head =>
    rw [List.map_cons, List.nodup_cons] at n
    exact ⟨n.2, fun x hx e => n.1 (List.mem_map.mpr ⟨x, hx, e⟩)⟩
  | @tail a o L L' x u ih =>
    rw [List.map_cons, List.nodup_cons] at n
    obtain ⟨h1, h2⟩ := ih n.2
    refine ⟨?_, fun y hy => ?_⟩
    · rw [List.map_cons, List.nodup_cons]
      refine ⟨fun hm => n.1 ?_, h1⟩
      obtain ⟨z, hz, e⟩ := List.mem_map.mp hm
      exact List.mem_map.mpr ⟨z, u.sub z hz, e⟩
    · rcases List.mem_cons.mp hy with e | e
      · intro q
        apply n.1
        rw [← e, q]
        exact List.mem_map.mpr ⟨(a, o), u.mem, rfl⟩
      · exact h2 y e
section
variable {E : En} {F H F' H' : Hp} {L L' : Led} {a p : Addr} {o o' : HO} {K : PySem.W.Frag}
theorem St.init (h : Same F H) : St ⟨F, H⟩ F H [] :=
  ⟨Same.refl _, h, Same.refl _, fun _ h => .inl h, (fun _ h => nomatch h), List.nodup_nil⟩
theorem St.init1 (h : Same F H) (hp : H p = some o) (hf : F p = none) : St ⟨F, del H p⟩ F H [(p, o)] := by
  refine ⟨fun b u e => (del_some e).2, h, Same.refl _, fun _ h => .inl h, fun x hx => ?_, ?_⟩
  · rcases List.mem_cons.mp hx with e | e
    · subst e; exact ⟨hp, hf, del_self⟩
    · exact nomatch e
  · exact List.nodup_cons.mpr ⟨fun h => (nomatch h), List.nodup_nil⟩
theorem free_of (e : Same H H') (h : H' p = none) : H p = none := Same.free e h
theorem St.get (G : St E F H L) (m : (a, o) ∈ L) : H a = some o := (G.own _ m).1
theorem St.ne (G : St E F H L) (m : (a, o) ∈ L) (hp : H p = none) : a ≠ p := ne_of_none (G.get m) hp
/-- the heap grew, p is new -/
theorem St.add (G : St E F H L) (e : Same H H') (hn : H p = none) (hp : H' p = some o) : St E F H' ((p, o) :: L) := by
  refine ⟨G.bh.trans e, G.fh.trans e, G.ff, G.pr, fun x hx => ?_, ?_⟩
  · rcases List.mem_cons.mp hx with q | q
    · subst q
      exact ⟨hp, free_of G.fh hn, free_of G.bh hn⟩
    · obtain ⟨h1, h2, h3⟩ := G.own x q
      exact ⟨e _ _ h1, h2, h3⟩
  · rw [List.map_cons, List.nodup_cons]
    refine ⟨fun hm => ?_, G.nd⟩
    obtain ⟨z, hz, q⟩ := List.mem_map.mp hm
    have h1 := (G.own z hz).1
    rw [q, hn] at h1
    cases h1
theorem St.new (G : St E F H L) (hn : H p = none) : St E F (upd H p o) ((p, o) :: L) := G.add (same_new hn) hn upd_same
theorem St.grow (G : St E F H L) (e : Same H H') : St E F H' L :=
  ⟨G.bh.trans e, G.fh.trans e, G.ff, G.pr, fun x hx => ⟨e _ _ (G.own x hx).1, (G.own x hx).2⟩, G.nd⟩
theorem St.putB (G : St E F H L) (u : Upd L a o o' L') (e : SameB a H H') (ha : H' a = some o') : St E F H' L' := by
  obtain ⟨_, hf, hb⟩ := G.own _ u.mem
  have nF : ∀ b u, F b = some u → b ≠ a := fun b u h => ne_of_none h hf
  have nB : ∀ b u, E.H b = some u → b ≠ a := fun b u h => ne_of_none h hb
  refine ⟨fun b u h => e b u (nB b u h) (G.bh b u h), fun b u h => e b u (nF b u h) (G.fh b u h), G.ff, G.pr, fun x hx => ?_, ?_⟩
  · rcases u.of x hx with q | q
    · subst q; exact ⟨ha, hf, hb⟩
    · obtain ⟨h1, h2, h3⟩ := G.own x q
      refine ⟨?_, h2, h3⟩
      by_cases c : x.1 = a
      · have n' : (L'.map (·.1)).Nodup := by rw [u.fst]; exact G.nd
        rw [nd_one n' hx u.new c]; exact ha
      · exact e _ _ c h1
  · rw [u.fst]; exact G.nd
theorem St.put (G : St E F H L) (u : Upd L a o o' L') : St E F (upd H a o') L' :=
  G.putB u (fun b w h e => by rw [upd_ne h]; exact e) upd_same
/-- a call that changes nothing has come back -/
theorem St.call (G : St E F H L) (g : Gr F H F' H') : St E F' H' L := by
  refine ⟨G.bh.trans g.hh, g.fh, G.ff.trans g.ff, fun a h => ?_, fun x hx => ?_, G.nd⟩
  · rcases g.pr a h with q | q
    · exact G.pr a q
    · exact .inr (free_of G.bh q)
  · obtain ⟨h1, h2, h3⟩ := G.own x hx
    refine ⟨g.hh _ _ h1, ?_, h3⟩
    cases c : F' x.1 with
    | none => rfl
    | some w =>
      rcases g.pr x.1 (by rw [c]; exact fun z => nomatch z) with q | q
      · exact absurd h2 q
      · rw [q] at h1; cases h1
theorem St.callB (G : St E F H L) (u : Upd L p o o' L') (g : GrB p F H F' H') (hp : H' p = some o') : St E F' H' L' := by
  have G1 : St E F H' L' := G.putB u g.hh hp
  refine ⟨G1.bh, g.fh, G.ff.trans g.ff, fun a h => ?_, fun x hx => ?_, G1.nd⟩
  · rcases g.pr a h with q | q
    · exact G.pr a q
    · exact .inr (free_of G.bh q)
  · obtain ⟨h1, h2, h3⟩ := G1.own x hx
    refine ⟨h1, ?_, h3⟩
    cases c : F' x.1 with
    | none => rfl
    | some w =>
      rcases g.pr x.1 (by rw [c]; exact fun z => nomatch z) with q | q
      · exact absurd h2 q
      · exfalso
        rcases u.of x hx with z | z
        · subst z
          have := (G.own _ u.mem).1
          rw [q] at this; cases this
        · have := (G.own _ z).1
          rw [q] at this; cases this
/-- the end of a def that changes nothing -/
theorem St.gr (G : St ⟨F, H⟩ F' H' L) : Gr F H F' H' := ⟨G.ff, G.fh, G.bh, G.pr⟩
theorem St.grB (G : St ⟨F, del H p⟩ F' H' L) (m : (p, o) ∈ L) : GrB p F H F' H' := by
  refine ⟨G.ff, G.fh, fun b u h e => G.bh b u (by rw [show (En.mk F (del H p)).H = del H p from rfl, del_ne h]; exact e), fun a h => ?_⟩
  rcases G.pr a h with q | q
  · exact .inl q
  · by_cases c : a = p
    · subst c
      exact absurd (G.own _ m).2.1 h
    · exact .inr (by rw [show (En.mk F (del H p)).H = del H p from rfl, del_ne c] at q; exact q)
theorem Gr.refl (h : Same F H) : Gr F H F H := ⟨Same.refl _, h, Same.refl _, fun _ h => .inl h⟩
/-- an owned object is frozen -/
theorem St.frz (G : St E F H L) (t : Tak L a o L') : ∃ F', Same F F' ∧ F' a = some o ∧ St E F' H L' := by
  obtain ⟨h1, h2, h3⟩ := G.own _ t.mem
  obtain ⟨n1, n2⟩ := t.nd G.nd
  refine ⟨upd F a o, same_new h2, upd_same, ⟨G.bh, fun b u e => ?_, G.ff.trans (same_new h2), fun b hb => ?_, fun x hx => ?_, n1⟩⟩
  · by_cases c : b = a
    · rw [c, upd_same] at e; cases e; rw [c]; exact h1
    · rw [upd_ne c] at e; exact G.fh b u e
  · by_cases c : b = a
    · rw [c]; exact .inr h3
    · rw [upd_ne c] at hb; exact G.pr b hb
  · obtain ⟨q1, q2, q3⟩ := G.own x (t.sub x hx)
    exact ⟨q1, by rw [upd_ne (n2 x hx)]; exact q2, q3⟩
theorem St.drop (G : St E F H L) (t : Tak L a o L') : St E F H L' :=
  ⟨G.bh, G.fh, G.ff, G.pr, fun x hx => G.own x (t.sub x hx), (t.nd G.nd).1⟩

/-! ## what stands at an address, under growth -/
theorem rdS (e : Same H H') (h : Rd H a o) : Rd H' a o := by
  rcases h with h | ⟨z, h⟩
  · exact .inl (e _ _ h)
  · exact .inr ⟨z, e _ _ h⟩
theorem lS {xs : List V} (e : Same H H') (h : SqL K H a xs) : SqL K H' a xs := by
  rcases h with h | h
  · exact .inl (rdS e h)
  · exact .inr h
theorem tS {xs : List V} (e : Same H H') (h : SqT K H a xs) : SqT K H' a xs := by
  rcases h with h | h
  · exact .inl (rdS e h)
  · exact .inr h
mutual
theorem dpS (e : Same H H') : ∀ (d : PyData) (v : V), Dp K H v d → Dp K H' v d
  | .none, _, h => by cases h; exact .non
  | .bool b, _, h => by cases h; exact .bl b
  | .int i, _, h => by cases h; exact .int i
  | .str x, _, h => by cases h; exact .str x
  | .list ds, _, h => by cases h with | lst hs ha => exact .lst (lS e hs) (dpaS e ds _ ha)
  | .tuple ds, _, h => by cases h with | tup hs ha => exact .tup (tS e hs) (dpaS e ds _ ha)
  | .dict _, _, h => nomatch h
theorem dpaS (e : Same H H') : ∀ (ds : List PyData) (vs : List V), DpAll K H vs ds → DpAll K H' vs ds
  | [], _, h => by cases h; exact .nil
  | d :: ds, _, h => by cases h with | cons h1 h2 => exact .cons (dpS e d _ h1) (dpaS e ds _ h2)
end
theorem Dpx.mono {v : V} {d : PyData} (e : Same H H') (h : Dp K H v d) : Dp K H' v d := dpS e d v h
end
theorem sz {n : Nat} (h : n ≤ 1000000) : n ≤ sizeLine := Nat.le_trans h (by decide)
theorem szl {n : Nat} (h : n ≤ 1000000) : n < sizeLine := Nat.lt_of_le_of_lt h (by decide)
end SL

set_option Elab.async false
set_option linter.all false
set_option maxRecDepth 100000
set_option maxHeartbeats 4000000
namespace SL
open PySem L2
def RIf (k : Bool) (A B : Prop) : Prop := if k = true then A else B
def RB (x : V) (H : Hp) (Q : Bool → Hp → Prop) : Prop := ∃ k, x = .bl k ∧ Q k H
def RTup (Q : VK) (xs : List V) (H : Hp) : Prop := xs.length ≤ sizeLine ∧ ∀ p, H p = none → Q (.ref p) (upd H p (.tup xs))
def RLst (Q : VK) (xs : List V) (H : Hp) : Prop := xs.length ≤ sizeLine ∧ ∀ p, H p = none → Q (.ref p) (upd H p (.lst xs))
def RTy (K : PySem.W.Frag) (T : String) (x : V) (H : Hp) (A : Prop) : Prop := tyV K T x H ∧ A
def RPart (x : V) (H : Hp) (Q : Option Int → Hp → Prop) : Prop := ∃ i, x = .int i ∧ Q (some i) H
def RIL (K : PySem.W.Frag) (x : V) (H : Hp) (R : It → Hp → Prop) : Prop := ∃ a, x = .ref a ∧ (∃ xs, SqL K H a xs) ∧ R (Itl K a) H
def RIT (K : PySem.W.Frag) (x : V) (H : Hp) (R : It → Hp → Prop) : Prop := ∃ a, x = .ref a ∧ (∃ xs, SqT K H a xs) ∧ R (Itt K a) H
def RI1 (vs : List V) (H : Hp) (R : It → Hp → Prop) : Prop := ∃ j : Int, vs = [.int j] ∧ -(2 ^ 62) ≤ j ∧ j < 2 ^ 62 ∧ R (Itr 0 j.toNat) H
def RI2 (vs : List V) (H : Hp) (R : It → Hp → Prop) : Prop := ∃ i j : Int, vs = [.int i, .int j] ∧ (-(2 ^ 62) ≤ i ∧ i < 2 ^ 62 ∧ -(2 ^ 62) ≤ j ∧ j < 2 ^ 62) ∧ R (Itr i (j - i).toNat) H
def RFor (J : It) (g : TG) (tb : TS) (D : Ends) (σ : L2.St) (H1 : Hp) : Prop := ∃ W : Nat → Nat → L2.St → Hp → Prop, (∃ m, W 0 m σ H1) ∧ ∀ i m σ H, W i m σ H →
  (J.stop i H ∧ D.nx σ H) ∨ (J.go i H ∧ ∃ N : L2.St → Hp → Prop, (∀ σ' H', N σ' H' → ∃ m', m' < m ∧ W (i + 1) m' σ' H') ∧ ∀ x H', J.yld i H x H' → g x σ H' fun σ2 H2 => tb { D with nx := N, ct := N, bk := D.nx } σ2 H2)
-- calls by values
def rLen (K : PySem.W.Frag) : List V → Hp → VK → Prop := fun xs H Q => ∃ p ys, xs = [V.ref p] ∧ (SqL K H p ys ∨ SqT K H p ys) ∧ Q (V.int ys.length) H
section
variable {n b c : L2.St → Hp → Prop} {r : VK} {σ : L2.St} {H : Hp} {Q : VK} {QB : Bool → Hp → Prop} {t u : TS} {te ta tb : TE} {tc td : TT} {x y v : V} {K : PySem.W.Frag}
theorem w_seq (h : t ⟨u ⟨n, r, b, c⟩, r, b, c⟩ σ H) : tSeq t u ⟨n, r, b, c⟩ σ H := h
theorem w_asg {i : Nat} (h : te σ H fun v H1 => n (σ.set i (some v)) H1) : tAsg te (gName i) ⟨n, r, b, c⟩ σ H := h
theorem w_ret (h : te σ H r) : tRet te ⟨n, r, b, c⟩ σ H := h
theorem w_retN (h : r .non H) : tRetN ⟨n, r, b, c⟩ σ H := h
theorem w_drop (h : te σ H fun _ H1 => n σ H1) : tDrop te ⟨n, r, b, c⟩ σ H := h
theorem w_next (h : n σ H) : tNext ⟨n, r, b, c⟩ σ H := h
theorem w_break (h : b σ H) : tBreak ⟨n, r, b, c⟩ σ H := h
theorem w_cont (h : c σ H) : tCont ⟨n, r, b, c⟩ σ H := h
theorem w_if (h : tc σ H fun k H1 => RIf k (t ⟨n, r, b, c⟩ σ H1) (u ⟨n, r, b, c⟩ σ H1)) : tIfS tc t u ⟨n, r, b, c⟩ σ H := h
theorem w_var {i : Nat} (h : σ[i]? = some (some v)) (q : Q v H) : tVar i σ H Q := ⟨v, h, q⟩
theorem w_c (q : Q v H) : tC v σ H Q := q
theorem w_op {R : R2} (h : ta σ H fun x H1 => tb σ H1 fun y H2 => R x y H2 Q) : tOp R ta tb σ H Q := h
theorem w_un {R : V → Hp → VK → Prop} (h : ta σ H fun x H1 => R x H1 Q) : tUn R ta σ H Q := h
theorem w_test (h : te σ H fun x H1 => RB x H1 QB) : tTest te σ H QB := h
theorem w_tB (h : te σ H fun x H1 => RB x H1 QB) : tB te σ H QB := h
theorem w_and (h : tc σ H fun k H1 => RIf k (td σ H1 QB) (QB false H1)) : tAnd tc td σ H QB := h
theorem w_or (h : tc σ H fun k H1 => RIf k (QB true H1) (td σ H1 QB)) : tOr tc td σ H QB := h
theorem w_not (h : tc σ H fun k H1 => QB (!k) H1) : tNot tc σ H QB := h
theorem w_andV (h : ta σ H fun x H1 => RB x H1 fun k H1 => RIf k (tb σ H1 Q) (Q (.bl false) H1)) : tAndV ta tb σ H Q := h
theorem w_orV (h : ta σ H fun x H1 => RB x H1 fun k H1 => RIf k (Q (.bl true) H1) (tb σ H1 Q)) : tOrV ta tb σ H Q := h
theorem w_notV (h : ta σ H fun x H1 => RB x H1 fun k H1 => Q (.bl (!k)) H1) : tNotV ta σ H Q := h
theorem w_ifE (h : tc σ H fun k H1 => RIf k (ta σ H1 Q) (tb σ H1 Q)) : tIf tc ta tb σ H Q := h
theorem w_nil {QA : List V → Hp → Prop} (q : QA [] H) : tNil σ H QA := q
theorem w_cons {QA : List V → Hp → Prop} {tr : TA} (h : ta σ H fun x H1 => tr σ H1 fun xs H2 => QA (x :: xs) H2) : tCons ta tr σ H QA := h
theorem w_tup {tr : TA} (h : tr σ H fun xs H1 => RTup Q xs H1) : tTup tr σ H Q := h
theorem w_lst {tr : TA} (h : tr σ H fun xs H1 => RLst Q xs H1) : tLst tr σ H Q := h
theorem w_cb {R : List V → Hp → VK → Prop} {tr : TA} (h : tr σ H fun vs H1 => R vs H1 Q) : tCB R tr σ H Q := h
theorem w_call {sp : Sp} {E : XK} {tr : TA} (h : tr σ H fun vs H1 => sp vs H1 Q E) : tCall sp [] E tr σ H Q := by
  show tr σ H fun vs H1 => sp (vs ++ []) H1 Q E
  simpa only [List.append_nil] using h
theorem w_calld {sp : Sp} {dvs : List V} {E : XK} {tr : TA} (h : tr σ H fun vs H1 => sp (vs ++ dvs) H1 Q E) : tCall sp dvs E tr σ H Q := h
theorem w_callS {sp : Sp} {E : L2.St → XK} {tr : TA} (h : tr σ H fun vs H1 => sp vs H1 Q (E σ)) : tCallS sp E tr σ H Q := h
theorem w_bm {T : String} {R : V → List V → Hp → VK → Prop} {tr : TA} (h : te σ H fun x H1 => RTy K T x H1 (tr σ H1 fun xs H2 => R x xs H2 Q)) : tBM K T R te tr σ H Q := h
theorem w_bm0 {T : String} {R : V → List V → Hp → VK → Prop} (h : te σ H fun x H1 => RTy K T x H1 (R x [] H1 Q)) : tBM0 K T R te σ H Q := h
theorem w_sl {R : V → Option Int → Option Int → Hp → VK → Prop} {tl th : TO} (h : te σ H fun x H1 => tl σ H1 fun l H2 => th σ H2 fun u H3 => R x l u H3 Q) : tSl R te tl th σ H Q := h
theorem w_part {QO : Option Int → Hp → Prop} (h : te σ H fun x H1 => RPart x H1 QO) : tPart te σ H QO := h
theorem w_nopart {QO : Option Int → Hp → Prop} (h : QO none H) : tNoPart σ H QO := h
theorem w_for {wi : TI} {g : TG} (h : wi σ H fun J H1 => RFor J g t ⟨n, r, b, c⟩ σ H1) : tFor wi g t ⟨n, r, b, c⟩ σ H := h
theorem w_iL {R : It → Hp → Prop} (h : te σ H fun x H1 => RIL K x H1 R) : iList K te σ H R := h
theorem w_iT {R : It → Hp → Prop} (h : te σ H fun x H1 => RIT K x H1 R) : iTup K te σ H R := h
theorem w_i1 {R : It → Hp → Prop} {tr : TA} (h : tr σ H fun x H1 => RI1 x H1 R) : iRng1 tr σ H R := h
theorem w_i2 {R : It → Hp → Prop} {tr : TA} (h : tr σ H fun x H1 => RI2 x H1 R) : iRng2 tr σ H R := h
theorem w_aug {i : Nat} {ti : TIp} (h : σ[i]? = some (some x)) (q : te σ H fun y H1 => ti x y H1 fun z H2 => n (σ.set i (some z)) H2) : tAug i te ti ⟨n, r, b, c⟩ σ H := ⟨x, h, q⟩
theorem w_par {i j : Nat} {tr : TA} (h : tr σ H fun vs H1 => ∃ v w, vs = [v, w] ∧ n ((σ.set i (some v)).set j (some w)) H1) : tPar i j tr ⟨n, r, b, c⟩ σ H := h
-- values
theorem r_ifT {A B : Prop} (h : A) : RIf true A B := by unfold RIf; rw [if_pos rfl]; exact h
theorem r_ifF {A B : Prop} (h : B) : RIf false A B := by unfold RIf; rw [if_neg Bool.false_ne_true]; exact h
theorem r_ifNt {A B : Prop} (h : B) : RIf (!true) A B := r_ifF h
theorem r_ifNf {A B : Prop} (h : A) : RIf (!false) A B := r_ifT h
theorem r_ifRN {a : Addr} {A B : Prop} (h : B) : RIf (decide (V.ref a = V.non)) A B := by rw [decide_eq_false (fun z => nomatch z)]; exact r_ifF h
theorem r_ifNRN {a : Addr} {A B : Prop} (h : A) : RIf (!decide (V.ref a = V.non)) A B := by rw [decide_eq_false (fun z => nomatch z)]; exact r_ifT h
theorem r_ifNN {A B : Prop} (h : A) : RIf (decide (V.non = V.non)) A B := by rw [decide_eq_true rfl]; exact r_ifT h
theorem r_ifNNN {A B : Prop} (h : B) : RIf (!decide (V.non = V.non)) A B := by rw [decide_eq_true rfl]; exact r_ifF h
theorem r_if {k : Bool} {A B : Prop} (h1 : k = true → A) (h2 : k = false → B) : RIf k A B := by
  cases k with
  | true => exact r_ifT (h1 rfl)
  | false => exact r_ifF (h2 rfl)
theorem r_ifD {p : Prop} [Decidable p] {A B : Prop} (h1 : p → A) (h2 : ¬ p → B) : RIf (decide p) A B := r_if (fun h => h1 (of_decide_eq_true h)) fun h => h2 (of_decide_eq_false h)
theorem r_ifN {p : Prop} [Decidable p] {A B : Prop} (h1 : ¬ p → A) (h2 : p → B) : RIf (!decide p) A B := by
  by_cases h : p
  · rw [decide_eq_true h]; exact r_ifF (h2 h)
  · rw [decide_eq_false h]; exact r_ifT (h1 h)
theorem r_ifDT {p : Prop} [Decidable p] {A B : Prop} (h : p) (q : A) : RIf (decide p) A B := by rw [decide_eq_true h]; exact r_ifT q
theorem r_ifDF {p : Prop} [Decidable p] {A B : Prop} (h : ¬ p) (q : B) : RIf (decide p) A B := by rw [decide_eq_false h]; exact r_ifF q
theorem r_ifNT {p : Prop} [Decidable p] {A B : Prop} (h : ¬ p) (q : A) : RIf (!decide p) A B := by rw [decide_eq_false h]; exact r_ifT q
theorem r_ifNF {p : Prop} [Decidable p] {A B : Prop} (h : p) (q : B) : RIf (!decide p) A B := by rw [decide_eq_true h]; exact r_ifF q
theorem r_b {k : Bool} (q : QB k H) : RB (.bl k) H QB := ⟨k, rfl, q⟩
theorem r_I0 {g : Int → Int → V} {i j : Int} (q : Q (g i j) H) : rI0 g (.int i) (.int j) H Q := ⟨i, j, rfl, rfl, q⟩
theorem r_I {C : Int → Int → Prop} {g : Int → Int → V} {i j : Int} (h : C i j) (q : Q (g i j) H) : rI C g (.int i) (.int j) H Q := ⟨i, j, rfl, rfl, h, q⟩
theorem r_U {g : Int → V} {i : Int} (q : Q (g i) H) : rU g (.int i) H Q := ⟨i, rfl, q⟩
theorem decV {i j : Int} : decide (V.int i = V.int j) = decide (i = j) := by
  by_cases h : i = j
  · subst h; rw [decide_eq_true rfl, decide_eq_true rfl]
  · rw [decide_eq_false h, decide_eq_false (fun q => h (V.int.inj q))]
theorem decS {i j : Str} : decide (V.str i = V.str j) = decide (i = j) := by
  by_cases h : i = j
  · subst h; rw [decide_eq_true rfl, decide_eq_true rfl]
  · rw [decide_eq_false h, decide_eq_false (fun q => h (V.str.inj q))]
theorem decB {i j : Bool} : decide (V.bl i = V.bl j) = decide (i = j) := by
  cases i <;> cases j <;> rfl
theorem r_eqI {i j : Int} (q : Q (.bl (decide (i = j))) H) : rEq (.int i) (.int j) H Q := ⟨rfl, by rw [decV]; exact q⟩
theorem r_neI {i j : Int} (q : Q (.bl (!decide (i = j))) H) : rNe (.int i) (.int j) H Q := ⟨rfl, by rw [decV]; exact q⟩
theorem r_eqS {i j : Str} (q : Q (.bl (decide (i = j))) H) : rEq (.str i) (.str j) H Q := ⟨rfl, by rw [decS]; exact q⟩
theorem r_neS {i j : Str} (q : Q (.bl (!decide (i = j))) H) : rNe (.str i) (.str j) H Q := ⟨rfl, by rw [decS]; exact q⟩
theorem r_eqB {i j : Bool} (q : Q (.bl (decide (i = j))) H) : rEq (.bl i) (.bl j) H Q := ⟨rfl, by rw [decB]; exact q⟩
theorem r_neB {i j : Bool} (q : Q (.bl (!decide (i = j))) H) : rNe (.bl i) (.bl j) H Q := ⟨rfl, by rw [decB]; exact q⟩
theorem r_len {p : Addr} {xs : List V} (h : SqL K H p xs ∨ SqT K H p xs) (q : Q (.int xs.length) H) : rLen K [.ref p] H Q := ⟨p, xs, rfl, h, q⟩
theorem r_ixL {p : Addr} {xs : List V} {i : Int} (h : SqL K H p xs) (ha : atI xs i = some v) (q : Q v H) : rIxL K (.ref p) (.int i) H Q := ⟨p, xs, i, v, rfl, rfl, h, ha, q⟩
theorem r_ixT {p : Addr} {xs : List V} {i : Int} (h : SqT K H p xs) (ha : atI xs i = some v) (q : Q v H) : rIxT K (.ref p) (.int i) H Q := ⟨p, xs, i, v, rfl, rfl, h, ha, q⟩
theorem r_tyL {p : Addr} {xs : List V} {A : Prop} (h : SqL K H p xs) (q : A) : RTy K "list" (.ref p) H A := ⟨Or.inl ⟨rfl, _, h⟩, q⟩
theorem r_part {i : Int} {QO : Option Int → Hp → Prop} (q : QO (some i) H) : RPart (.int i) H QO := ⟨i, rfl, q⟩
variable {E : En} {F H' : Hp} {L L' : Led} {p : Addr} {xs : List V}
theorem r_tup (G : St E F H L) (hs : xs.length ≤ sizeLine) (q : ∀ p H', St E F H' ((p, .tup xs) :: L) → Q (.ref p) H') : RTup Q xs H := ⟨hs, fun p hp => q p _ (G.new hp)⟩
theorem r_lst (G : St E F H L) (hs : xs.length ≤ sizeLine) (q : ∀ p H', St E F H' ((p, .lst xs) :: L) → Q (.ref p) H') : RLst Q xs H := ⟨hs, fun p hp => q p _ (G.new hp)⟩
theorem r_tupS (G : St E F H L) (hs : xs.length ≤ sizeLine) (q : ∀ p H', Same H H' → St E F H' ((p, .tup xs) :: L) → Q (.ref p) H') : RTup Q xs H := ⟨hs, fun p hp => q p _ (same_new hp) (G.new hp)⟩
theorem r_lstS (G : St E F H L) (hs : xs.length ≤ sizeLine) (q : ∀ p H', Same H H' → St E F H' ((p, .lst xs) :: L) → Q (.ref p) H') : RLst Q xs H := ⟨hs, fun p hp => q p _ (same_new hp) (G.new hp)⟩
theorem r_append (G : St E F H L) (u : Upd L p (.lst xs) (.lst (xs ++ [v])) L') (hs : xs.length < sizeLine) (q : ∀ H', St E F H' L' → Q .non H') : rAppend (.ref p) [v] H Q :=
  ⟨p, xs, v, rfl, rfl, G.get u.mem, hs, q _ (G.put u)⟩
theorem r_pop (G : St E F H L) (u : Upd L p (.lst (xs ++ [v])) (.lst xs) L') (q : ∀ H', St E F H' L' → Q v H') : rPop (.ref p) [] H Q :=
  ⟨p, xs ++ [v], v, rfl, rfl, G.get u.mem, by simp, by rw [List.dropLast_concat]; exact q _ (G.put u)⟩
theorem r_reverse (G : St E F H L) (u : Upd L p (.lst xs) (.lst xs.reverse) L') (q : ∀ H', St E F H' L' → Q .non H') : rReverse (.ref p) [] H Q :=
  ⟨p, xs, rfl, rfl, G.get u.mem, q _ (G.put u)⟩
theorem r_setL {k : Int} {j : Nat} {QH : Hp → Prop} (G : St E F H L) (hj : ixN xs.length k = some j) (u : Upd L p (.lst xs) (.lst (xs.set j v)) L') (q : ∀ H', St E F H' L' → QH H') : rSetL (.ref p) (.int k) v H QH :=
  ⟨p, xs, k, j, rfl, rfl, G.get u.mem, hj, q _ (G.put u)⟩
theorem r_slL {lo hi : Option Int} (G : St E F H L) (h : SqL K H p xs) (q : ∀ p' H', St E F H' ((p', .lst (cutV xs lo hi)) :: L) → Q (.ref p') H') : rSlL K (.ref p) lo hi H Q :=
  ⟨p, xs, rfl, h, fun p' hp => q p' _ (G.new hp)⟩
theorem r_cat {p2 : Addr} {ys : List V} (G : St E F H L) (m1 : (p, HO.lst xs) ∈ L) (m2 : (p2, HO.lst ys) ∈ L) (hs : xs.length + ys.length ≤ sizeLine) (q : ∀ p' H', St E F H' ((p', .lst (xs ++ ys)) :: L) → Q (.ref p') H') : rCat (.ref p) (.ref p2) H Q :=
  ⟨p, p2, xs, ys, rfl, rfl, G.get m1, G.get m2, hs, fun p' hp => q p' _ (G.new hp)⟩
-- walks
theorem r_il {a : Addr} {R : It → Hp → Prop} (h : SqL K H a xs) (q : R (Itl K a) H) : RIL K (.ref a) H R := ⟨a, rfl, ⟨xs, h⟩, q⟩
theorem r_it {a : Addr} {R : It → Hp → Prop} (h : SqT K H a xs) (q : R (Itt K a) H) : RIT K (.ref a) H R := ⟨a, rfl, ⟨xs, h⟩, q⟩
theorem r_i1 {j : Int} {R : It → Hp → Prop} (h : -(2 ^ 62) ≤ j ∧ j < 2 ^ 62) (q : R (Itr 0 j.toNat) H) : RI1 [.int j] H R := ⟨j, rfl, h.1, h.2, q⟩
theorem r_i2 {i j : Int} {R : It → Hp → Prop} (h : -(2 ^ 62) ≤ i ∧ i < 2 ^ 62 ∧ -(2 ^ 62) ≤ j ∧ j < 2 ^ 62) (q : R (Itr i (j - i).toNat) H) : RI2 [.int i, .int j] H R := ⟨i, j, rfl, h, q⟩
theorem r_forL {a : Addr} {i0 : Nat} (Pv : Nat → L2.St → Hp → Prop) (h0 : Pv 0 σ H) (hl : ∀ i σ H, i ≤ xs.length → Pv i σ H → SqL K H a xs)
    (hs : ∀ i x σ H, xs[i]? = some x → Pv i σ H → t ⟨Pv (i + 1), r, n, Pv (i + 1)⟩ (σ.set i0 (some x)) H) (hd : ∀ σ H, Pv xs.length σ H → n σ H) : RFor (Itl K a) (gName i0) t ⟨n, r, b, c⟩ σ H :=
  for_list (D := ⟨n, r, b, c⟩) Pv h0 hl hs hd
theorem r_forT {a : Addr} {i0 : Nat} (Pv : Nat → L2.St → Hp → Prop) (h0 : Pv 0 σ H) (hl : ∀ i σ H, i ≤ xs.length → Pv i σ H → SqT K H a xs)
    (hs : ∀ i x σ H, xs[i]? = some x → Pv i σ H → t ⟨Pv (i + 1), r, n, Pv (i + 1)⟩ (σ.set i0 (some x)) H) (hd : ∀ σ H, Pv xs.length σ H → n σ H) : RFor (Itt K a) (gName i0) t ⟨n, r, b, c⟩ σ H :=
  for_tup (D := ⟨n, r, b, c⟩) Pv h0 hl hs hd
theorem r_forR {lo : Int} {m i0 : Nat} (Pv : Nat → L2.St → Hp → Prop) (h0 : Pv 0 σ H)
    (hs : ∀ i σ H, i < m → Pv i σ H → t ⟨Pv (i + 1), r, n, Pv (i + 1)⟩ (σ.set i0 (some (.int (lo + i)))) H) (hd : ∀ σ H, Pv m σ H → n σ H) : RFor (Itr lo m) (gName i0) t ⟨n, r, b, c⟩ σ H :=
  for_range (D := ⟨n, r, b, c⟩) Pv h0 hs hd
end
/-! ## the steps by themselves -/
section
set_option hygiene false
local macro_rules | `(tactic| walk_at "g1") => `(tactic| first
  | with_reducible refine w_seq ?_ | with_reducible refine w_asg ?_ | with_reducible refine w_var rfl ?_ | with_reducible refine w_c ?_ | with_reducible refine w_op ?_
  | with_reducible refine r_I0 ?_ | with_reducible refine w_test ?_ | with_reducible refine r_b ?_ | with_reducible refine w_if ?_ | with_reducible refine w_cons ?_ | with_reducible refine w_nil ?_
  | with_reducible refine w_ret ?_)
end
end SL

set_option Elab.async false
set_option linter.all false
set_option maxRecDepth 100000
set_option maxHeartbeats 4000000
namespace SL
open PySem L2
abbrev rAddI : R2 := rI0 fun i j => .int (i + j)
abbrev rSubI : R2 := rI0 fun i j => .int (i - j)
abbrev rMulI : R2 := rI CMulW fun i j => .int (i * j)
abbrev rDivI : R2 := rI CDivW fun i j => .int (i / j)
abbrev rModI : R2 := rI (fun _ j => 0 < j) fun i j => .int (i % j)
abbrev rPowI : R2 := rI CPow fun i j => .int (i ^ j.toNat)
abbrev rShlI : R2 := rI CShl fun i j => .int (i * 2 ^ j.toNat)
abbrev rShrI : R2 := rI (fun _ j => 0 ≤ j) fun i j => .int (i / 2 ^ j.toNat)
abbrev rAndI : R2 := rI0 fun i j => .int (Builtin.bitAnd i j)
abbrev rOrI : R2 := rI0 fun i j => .int (Builtin.bitOr i j)
abbrev rXorI : R2 := rI0 fun i j => .int (Builtin.bitXor i j)
abbrev rNegI : V → Hp → VK → Prop := rU fun i => .int (-i)
abbrev rLtI : R2 := rI0 fun i j => .bl (decide (i < j))
abbrev rLeI : R2 := rI0 fun i j => .bl (decide (i ≤ j))
abbrev rGtI : R2 := rI0 fun i j => .bl (decide (j < i))
abbrev rGeI : R2 := rI0 fun i j => .bl (decide (j ≤ i))
def rIsNone : R2 := fun x y H Q => y = .non ∧ Q (.bl (decide (x = .non))) H
def rNotNone : R2 := fun x y H Q => y = .non ∧ Q (.bl (!decide (x = .non))) H
def rInt1 : List V → Hp → VK → Prop := fun xs H Q => (∃ i, xs = [.int i] ∧ Q (.int i) H) ∨ ∃ k, xs = [.bl k] ∧ Q (.int (if k then 1 else 0)) H
def rListOf (K : PySem.W.Frag) : List V → Hp → VK → Prop := fun xs H Q => ∃ p ys, xs = [.ref p] ∧ (SqL K H p ys ∨ SqT K H p ys) ∧ ∀ l, H l = none → Q (.ref l) (upd H l (.lst ys))
def rTupOf (K : PySem.W.Frag) : List V → Hp → VK → Prop := fun xs H Q => ∃ p ys, xs = [.ref p] ∧ ((SqL K H p ys ∧ ∀ l, H l = none → Q (.ref l) (upd H l (.tup ys))) ∨ (SqT K H p ys ∧ Q (.ref p) H))
def rMax2 : List V → Hp → VK → Prop := fun xs H Q => ∃ i j, xs = [.int i, .int j] ∧ Q (.int (if j > i then j else i)) H
def rMin2 : List V → Hp → VK → Prop := fun xs H Q => ∃ i j, xs = [.int i, .int j] ∧ Q (.int (if j < i then j else i)) H
def rLenStr : List V → Hp → VK → Prop := fun xs H Q => ∃ z, xs = [.str z] ∧ z.length ≤ sizeLine ∧ Q (.int z.length) H
def rAddS : R2 := fun x y H Q => ∃ i j, x = .str i ∧ y = .str j ∧ i.length + j.length ≤ sizeLine ∧ Q (.str (i ++ j)) H
abbrev iAddI : TIp := ipI fun i j => i + j
abbrev iSubI : TIp := ipI fun i j => i - j
def tTru (K : PySem.W.Frag) (ta : TE) : TT := fun σ H Q => ta σ H fun x H' => ∃ k, TruV K x H' k ∧ Q k H'
def tRs (C : Addr) (E : XK) : TS := fun _ _ H => E (.ref C) none H
/-- what holds of an error wherever it was raised in the suite -/
def wAll (W : WX) : XK := fun cls d H => ∀ σ, W cls d σ H
theorem passes_all {X : Cx} {W : WX} (tk : Takes X W) : Passes (L2.CX X.prog X.w) X (wAll W) := passes_call tk fun _ _ σ _ h => h σ
section
variable {n b c : L2.St → Hp → Prop} {r : VK} {σ : L2.St} {H H' : Hp} {Q : VK} {x y v : V} {K : PySem.W.Frag} {E : En} {F : Hp} {L L' : Led} {p : Addr} {xs : List V}
theorem r_mul {i j : Int} {m k : Nat} (hi : i.natAbs < 2 ^ m) (hj : j.natAbs < 2 ^ k) (q : Q (.int (i * j)) H) (hm : 0 < m := by decide) (hk : 0 < k := by decide) (hs : m + k ≤ 1000000 := by decide) : rI CMulW (fun i j => .int (i * j)) (.int i) (.int j) H Q :=
  r_I (wide_mul hi hj hm hk hs) q
theorem r_div {i j : Int} (hj : 0 < j) (hb : j.natAbs < 2 ^ 200) (q : Q (.int (i / j)) H) : rI CDivW (fun i j => .int (i / j)) (.int i) (.int j) H Q :=
  r_I (wide_div hj hb (by decide) (by decide)) q
theorem r_isnone (q : Q (.bl (decide (x = .non))) H) : rIsNone x .non H Q := ⟨rfl, q⟩
theorem r_notnone (q : Q (.bl (!decide (x = .non))) H) : rNotNone x .non H Q := ⟨rfl, q⟩
theorem r_int1 {i : Int} (q : Q (.int i) H) : rInt1 [.int i] H Q := .inl ⟨i, rfl, q⟩
theorem r_int1b {k : Bool} (q : Q (.int (if k then 1 else 0)) H) : rInt1 [.bl k] H Q := .inr ⟨k, rfl, q⟩
theorem r_listof (G : St E F H L) (h : SqL K H p xs ∨ SqT K H p xs) (q : ∀ p' H', St E F H' ((p', .lst xs) :: L) → Q (.ref p') H') : rListOf K [.ref p] H Q :=
  ⟨p, xs, rfl, h, fun p' hp => q p' _ (G.new hp)⟩
theorem r_tupofL (G : St E F H L) (h : SqL K H p xs) (q : ∀ p' H', St E F H' ((p', .tup xs) :: L) → Q (.ref p') H') : rTupOf K [.ref p] H Q :=
  ⟨p, xs, rfl, .inl ⟨h, fun p' hp => q p' _ (G.new hp)⟩⟩
theorem r_tupofT (h : SqT K H p xs) (q : Q (.ref p) H) : rTupOf K [.ref p] H Q := ⟨p, xs, rfl, .inr ⟨h, q⟩⟩
theorem r_max2 {i j : Int} (q : Q (.int (if j > i then j else i)) H) : rMax2 [.int i, .int j] H Q := ⟨i, j, rfl, q⟩
theorem r_min2 {i j : Int} (q : Q (.int (if j < i then j else i)) H) : rMin2 [.int i, .int j] H Q := ⟨i, j, rfl, q⟩
theorem r_ipI {f : Int → Int → Int} {i j : Int} (q : Q (.int (f i j)) H) : ipI f (.int i) (.int j) H Q := ⟨i, j, rfl, rfl, q⟩
theorem w_tru {ta : TE} {QB : Bool → Hp → Prop} (h : ta σ H fun x H' => ∃ k, TruV K x H' k ∧ QB k H') : tTru K ta σ H QB := h
theorem w_rs {C : Addr} {X : XK} (h : X (.ref C) none H) : tRs C X ⟨n, r, b, c⟩ σ H := h
theorem w_gsub {te ti : TE} {t : TSet} {v : V} {QN : L2.St → Hp → Prop} (h : te σ H fun o H1 => ti σ H1 fun i H2 => t o i v H2 fun H3 => QN σ H3) : gSub te ti t v σ H QN := h
theorem w_asgG {te : TE} {g : TG} (h : te σ H fun v H1 => g v σ H1 n) : tAsg te g ⟨n, r, b, c⟩ σ H := h
end
/-! ## lists of ints, the draws -/
abbrev iv (ns : List Int) : List V := ns.map V.int
theorem iv_len {ns : List Int} : (iv ns).length = ns.length := List.length_map ..
theorem iv_get {ns : List Int} {i : Nat} {x : V} (h : (iv ns)[i]? = some x) : ∃ z, ns[i]? = some z ∧ x = .int z := by
  rw [List.getElem?_map] at h
  cases e : ns[i]? with
  | none => rw [e] at h; cases h
  | some z => rw [e] at h; exact ⟨z, rfl, (Option.some.inj h).symm⟩
theorem atI_iv {ns : List Int} {i : Int} (h0 : 0 ≤ i) (h1 : i < ns.length) : atI (iv ns) i = some (.int (ns.getD i.toNat 0)) := by
  have e : ((i.toNat : Nat) : Int) = i := by omega
  have hlt : i.toNat < ns.length := by omega
  have g : (iv ns)[i.toNat]? = some (.int (ns.getD i.toNat 0)) := by
    rw [List.getElem?_map, List.getElem?_eq_getElem hlt, List.getD_eq_getElem?_getD, List.getElem?_eq_getElem hlt]; rfl
  have q := atI_nat g
  rw [e] at q
  exact q
theorem ixN_of {n : Nat} {i : Int} (h0 : 0 ≤ i) (h1 : i < n) : ixN n i = some i.toNat := by
  unfold ixN; rw [if_pos h0, if_pos h1]
structure Dok (ds : List Int) : Prop where
  len : ds.length ≤ 1000
  rng : ∀ d ∈ ds, 0 ≤ d ∧ d < 1000
end SL

set_option Elab.async false
set_option linter.all false
set_option maxRecDepth 100000
set_option maxHeartbeats 4000000
namespace SL
open PySem L2
section

set_option hygiene false
local macro_rules | `(tactic| walk_at "m") => `(tactic| first | exact List.Mem.head _ | (refine List.Mem.tail _ ?_; walk_at "m"))
local macro_rules | `(tactic| walk_at "u") => `(tactic| first | exact Upd.head | (apply Upd.tail; walk_at "u"))
local macro_rules | `(tactic| walk_at "tk") => `(tactic| first | exact Tak.head | (apply Tak.tail; walk_at "tk"))
local macro_rules | `(tactic| walk_at "l") => `(tactic| first | assumption | exact lS (St.fh (by assumption)) (by assumption) | exact SqL.of (St.get (by assumption) (by walk_at "m")))
local macro_rules | `(tactic| walk_at "t") => `(tactic| first | assumption | exact tS (St.fh (by assumption)) (by assumption) | exact SqT.of (St.get (by assumption) (by walk_at "m")))
local macro_rules | `(tactic| walk_at "lt") => `(tactic| first | exact .inl (by walk_at "l") | exact .inr (by walk_at "t"))
local macro_rules | `(tactic| walk_at "sz") => `(tactic| first | (show _ ≤ sizeLine; decide) | exact sz (by simp) | exact szl (by simp) | exact sz (by omega) | exact szl (by omega) | exact sz (by simp; omega) | exact szl (by simp; omega))
local macro_rules | `(tactic| walk_at "c") => `(tactic| first | assumption | decide | omega)
local macro_rules | `(tactic| walk_at "g1") => `(tactic| with_reducible first
  | refine w_seq ?_ | refine w_asg ?_ | refine w_c ?_ | refine w_op ?_
  | refine r_I0 ?_ | refine w_test ?_ | refine r_b ?_ | refine w_if ?_ | refine w_cons ?_ | refine w_nil ?_
  | refine w_ret ?_ | refine w_drop ?_ | refine w_cb ?_ | refine w_call ?_ | refine w_next ?_ | refine w_tup ?_ | refine w_lst ?_ | refine w_bm ?_ | refine w_bm0 ?_
  | refine w_and ?_ | refine w_or ?_ | refine w_not ?_ | refine w_andV ?_ | refine w_orV ?_ | refine w_notV ?_ | refine w_tB ?_ | refine w_un ?_ | refine r_U ?_
  | refine w_for ?_ | refine w_iL ?_ | refine w_iT ?_ | refine w_i1 ?_ | refine w_i2 ?_ | refine w_sl ?_ | refine w_part ?_ | refine w_nopart ?_ | refine r_part ?_
  | refine r_eqI ?_ | refine r_neI ?_ | refine r_eqS ?_ | refine r_neS ?_ | refine r_eqB ?_ | refine r_neB ?_ | refine r_ifT ?_ | refine r_ifF ?_ | refine r_ifNt ?_ | refine r_ifNf ?_ | refine r_ifRN ?_ | refine r_ifNRN ?_ | refine r_ifNN ?_ | refine r_ifNNN ?_
  | refine w_ifE ?_ | refine r_int1 ?_ | refine r_int1b ?_ | refine r_isnone ?_ | refine r_notnone ?_ | refine r_max2 ?_ | refine r_min2 ?_ | refine r_ipI ?_ | refine w_tru ?_ | refine w_rs ?_
  | refine w_retN ?_ | refine w_break ?_ | refine w_cont ?_ | refine w_callS ?_ | refine w_asgG ?_ | refine w_gsub ?_)
local macro_rules | `(tactic| walk_at "g2") => `(tactic| first
  | ((with_reducible refine' w_var ?hv ?_); (case hv => rfl)) | ((with_reducible refine' w_aug ?hv ?_); (case hv => rfl))
  | ((with_reducible show rLen _ _ _ _); refine r_len (by walk_at "lt") ?_)
  | (with_reducible refine r_I ?cnd ?_; (case cnd => first | decide | omega | assumption | (unfold CPow; decide)))
  | ((with_reducible show RTy _ _ _ _ _); refine r_tyL (by walk_at "l") ?_)
  | (with_reducible refine r_ifDT (by walk_at "c") ?_) | (with_reducible refine r_ifDF (by walk_at "c") ?_)
  | (with_reducible refine r_ifNT (by walk_at "c") ?_) | (with_reducible refine r_ifNF (by walk_at "c") ?_))
local macro_rules | `(tactic| walk_at "go") => `(tactic| repeat (first | walk_at "g1" | walk_at "g2"))

abbrev F2 : L2.St → Hp → Prop := fun _ _ => False
abbrev D0 (Q : VK) : Ends := ⟨fun _ H' => Q .non H', Q, F2, F2⟩
/-! ### take -/
def cp_take (K : PySem.W.Frag) : Sp := fun vs H Q E => ∃ (p : Addr) (ds : List Int) (l : Int), vs = [.ref p, .int l] ∧
  (H p = some (.lst (iv ds)) ∧ Dok ds ∧ 0 < l ∧ ∀ i H' ds', 0 ≤ i → i < l → Dok ds' → SameB p H H' → H' p = some (.lst (iv ds')) → Q (.int i) H')
def ct_take (K : PySem.W.Frag) : TS := (tSeq (tIfS (tTest (tOp rEq (tCB (rLen K) (tCons (tVar 0) tNil)) (tC (.int (0))))) (tRet (tC (.int (0)))) tNext)
 (tRet (tOp rModI (tCB rInt1 (tCons (tBM0 K "list" rPop (tVar 0)) tNil)) (tVar 1))))
theorem cv_take {K : PySem.W.Frag} {vs : List V} {H : Hp} {Q : VK} {E : XK} (h : cp_take K vs H Q E) : ct_take K (D0 Q) (start ["draws", "limit"] vs) H := by
  obtain ⟨p, ds, l, rfl, hp, hd, hl, k⟩ := h
  have G := St.init1 (F := fun _ => none) (fun _ _ e => nomatch e) hp rfl
  unfold ct_take
  show tSeq _ _ (D0 Q) [some (.ref p), some (.int l)] H
  unfold D0
  walk_at "go"
  rw [iv_len]
  refine r_ifD (fun h => ?_) (fun h => ?_)
  · walk_at "go"
    exact k 0 H ds (by omega) hl hd (fun _ _ _ e => e) hp
  · have hne : ds ≠ [] := fun e => h (by rw [e]; rfl)
    obtain ⟨d1, z, rfl⟩ : ∃ d1 z, ds = d1 ++ [z] := ⟨ds.dropLast, ds.getLast hne, (List.dropLast_concat_getLast hne).symm⟩
    rw [show iv (d1 ++ [z]) = iv d1 ++ [.int z] from by simp] at G
    walk_at "go"
    refine r_pop G (by walk_at "u") fun H' G' => ?_
    walk_at "go"
    have hd' : Dok d1 := ⟨by have := hd.len; simp at this; omega, fun d m => hd.rng d (List.mem_append_left _ m)⟩
    exact k _ H' d1 (Int.emod_nonneg _ (by omega)) (Int.emod_lt_of_pos _ hl) hd' (G'.grB (by walk_at "m")).hh (G'.get (by walk_at "m"))
theorem u_take {K : PySem.W.Frag} {H F : Hp} {Q : VK} {X : XK} {E : En} {L : Led} {L' : List Int → Led} {p : Addr} {ds : List Int} {l : Int} (G : St E F H L) (u : ∀ ds', Upd L p (.lst (iv ds)) (.lst (iv ds')) (L' ds')) (hd : Dok ds) (hl : 0 < l)
    (q : ∀ i ds' H', 0 ≤ i → i < l → Dok ds' → St E F H' (L' ds') → Q (.int i) H') : cp_take K [.ref p, .int l] H Q X :=
  ⟨p, ds, l, rfl, G.get (u ds).mem, hd, hl, fun i H' ds' h0 h1 hd' hs hp => q i ds' H' h0 h1 hd' (G.putB (u ds') hs hp)⟩
/-! ### draws -/
def cp_draws (K : PySem.W.Frag) : Sp := fun vs H Q E => ∃ (a : Addr) (ns : List Int) (c : Int), vs = [.ref a, .int c] ∧
  (SqL K H a (iv ns) ∧ ns.length ≤ 63 ∧ 0 ≤ c ∧ c ≤ 1000 ∧ ∀ p H' ds, H p = none → Same H H' → H' p = some (.lst (iv ds)) → Dok ds → Q (.ref p) H')
def ct_draws (K : PySem.W.Frag) : TS := (tSeq (tAsg (tCB (rListOf K) (tCons (tVar 0) tNil)) (gName 2))
 (tSeq (tIfS (tTest (tOp rEq (tCB (rLen K) (tCons (tVar 2) tNil)) (tC (.int (0))))) (tAsg (tLst (tCons (tC (.int (7))) tNil)) (gName 2)) tNext)
 (tSeq (tAsg (tLst tNil) (gName 3))
 (tSeq (tAsg (tC (.int (12345))) (gName 4))
 (tSeq (tFor (iRng1 (tCons (tVar 1) tNil)) (gName 5) (tSeq (tAsg (tOp rModI (tVar 5) (tCB (rLen K) (tCons (tVar 2) tNil))) (gName 6))
 (tSeq (tAsg (tOp (rIxL K) (tVar 2) (tVar 6)) (gName 7))
 (tSeq (tAsg (tOp rModI (tCB rInt1 (tCons (tOp rAddI (tOp rAddI (tOp rAddI (tOp rMulI (tVar 4) (tC (.int (48271)))) (tOp rMulI (tOp rModI (tCB rInt1 (tCons (tVar 7) tNil)) (tC (.int (1000003)))) (tC (.int (69621))))) (tOp rMulI (tVar 5) (tC (.int (7919))))) (tC (.int (11)))) tNil)) (tC (.int (2147483647)))) (gName 4))
 (tSeq (tAsg (tOp rModI (tCB rInt1 (tCons (tOp rAddI (tOp rAddI (tOp rMulI (tVar 4) (tVar 4)) (tOp rMulI (tC (.int (31))) (tVar 4))) (tVar 5)) tNil)) (tC (.int (1000003)))) (gName 8))
 (tIfS (tTest (tOp rGeI (tVar 7) (tOp rPowI (tC (.int (10))) (tC (.int (18)))))) (tSeq (tDrop (tBM K "list" rAppend (tVar 3) (tCons (tOp rModI (tCB rInt1 (tCons (tVar 7) tNil)) (tC (.int (1000)))) tNil)))
 (tAsg (tOp rDivI (tVar 7) (tC (.int (1000)))) (gSub (tVar 2) (tVar 6) rSetL))) (tDrop (tBM K "list" rAppend (tVar 3) (tCons (tOp rModI (tCB rInt1 (tCons (tVar 8) tNil)) (tC (.int (1000)))) tNil)))))))))
 (tSeq (tDrop (tBM0 K "list" rReverse (tVar 3)))
 (tRet (tVar 3))))))))
theorem nab {i : Int} (h0 : 0 ≤ i) (h1 : i < 4294967296) : i.natAbs < 2 ^ 32 := by
  have : (2 : Nat) ^ 32 = 4294967296 := by decide
  omega
theorem iv_snoc {ns : List Int} {z : Int} : iv ns ++ [.int z] = iv (ns ++ [z]) := by simp
theorem iv_set {ns : List Int} {j : Nat} {z : Int} : (iv ns).set j (.int z) = iv (ns.set j z) := by simp [List.map_set]
theorem cv_draws {K : PySem.W.Frag} {vs : List V} {H : Hp} {Q : VK} {E : XK} (h : cp_draws K vs H Q E) : ct_draws K (D0 Q) (start ["script", "count", "cells", "found", "mixed", "k", "j", "cell", "again"] vs) H := by
  obtain ⟨a, ns, c, rfl, ha, hn, hc0, hc1, k⟩ := h
  have G := St.init (Same.refl H)
  unfold ct_draws
  show tSeq _ _ (D0 Q) [some (.ref a), some (.int c), none, none, none, none, none, none, none] H
  unfold D0
  walk_at "go"
  refine r_listof G (.inl ha) fun p1 H1 G1 => ?_
  walk_at "go"
  -- from here on: some list of ints at p1 that is not empty
  suffices S : ∀ (p1 : Addr) (cs : List Int) (H1 : Hp) (L : Led), St ⟨H, H⟩ H H1 ((p1, .lst (iv cs)) :: L) → 0 < cs.length → cs.length ≤ 63 →
      tSeq (tAsg (tLst tNil) (gName 3)) (tSeq (tAsg (tC (.int 12345)) (gName 4)) _) ⟨fun _ H' => Q .non H', Q, F2, F2⟩ [some (.ref a), some (.int c), some (.ref p1), none, none, none, none, none, none] H1 from by
    rw [iv_len]
    refine r_ifD (fun h => ?_) (fun h => ?_)
    · walk_at "go"
      refine r_lst G1 (by walk_at "sz") fun p2 H2 G2 => ?_
      exact S p2 [7] H2 _ G2 (by decide) (by decide)
    · walk_at "g1"
      exact S p1 ns H1 [] G1 (by omega) hn
  intro p1 cs H1 L G1 hc hc63
  walk_at "go"
  refine r_lst G1 (by walk_at "sz") fun p2 H2 G2 => ?_
  walk_at "go"
  refine r_i1 (by omega) ?_
  refine r_forR (fun i σ H' => ∃ (cs' ds : List Int) (m : Int) (v5 v6 v7 v8 : Option V), σ = [some (.ref a), some (.int c), some (.ref p1), some (.ref p2), some (.int m), v5, v6, v7, v8] ∧
      St ⟨H, H⟩ H H' ((p2, .lst (iv ds)) :: (p1, .lst (iv cs')) :: L) ∧ cs'.length = cs.length ∧ ds.length = i ∧ (∀ d ∈ ds, 0 ≤ d ∧ d < 1000) ∧ 0 ≤ m ∧ m < 2147483647)
    ⟨cs, [], 12345, none, none, none, none, rfl, G2, rfl, rfl, (fun _ h => nomatch h), by omega, by omega⟩ ?_ ?_
  · rintro i σ H' hi ⟨cs', ds, m, v5, v6, v7, v8, rfl, G3, hl, hdl, hr, hm0, hm1⟩
    have hi' : (i : Int) < 1000 := by omega
    have hcl : (0 : Int) < (iv cs').length := by rw [iv_len]; omega
    walk_at "go"
    generalize hj : (0 + (i : Int)) % ((iv cs').length : Int) = j
    have hj0 : 0 ≤ j := by rw [← hj]; exact Int.emod_nonneg _ (by omega)
    have hj1 : j < (cs'.length : Int) := by rw [← hj, iv_len]; rw [iv_len] at hcl; exact Int.emod_lt_of_pos _ hcl
    refine r_ixL (by walk_at "l") (atI_iv hj0 hj1) ?_
    generalize cs'.getD j.toNat 0 = z
    walk_at "go"
    refine r_mul (m := 32) (k := 32) (nab hm0 (by omega)) (by decide) ?_
    walk_at "go"
    have hz0 : 0 ≤ z % 1000003 := Int.emod_nonneg _ (by decide)
    have hz1 : z % 1000003 < 1000003 := Int.emod_lt_of_pos _ (by decide)
    refine r_mul (m := 32) (k := 32) (nab hz0 (by omega)) (by decide) ?_
    walk_at "go"
    refine r_mul (m := 32) (k := 32) (nab (by omega) (by omega)) (by decide) ?_
    walk_at "go"
    generalize hM : (m * 48271 + z % 1000003 * 69621 + (0 + (i : Int)) * 7919 + 11) % 2147483647 = m'
    have hm0' : 0 ≤ m' := by rw [← hM]; exact Int.emod_nonneg _ (by decide)
    have hm1' : m' < 2147483647 := by rw [← hM]; exact Int.emod_lt_of_pos _ (by decide)
    refine r_mul (m := 32) (k := 32) (nab hm0' (by omega)) (nab hm0' (by omega)) ?_
    walk_at "go"
    refine r_mul (m := 32) (k := 32) (by decide) (nab hm0' (by omega)) ?_
    walk_at "go"
    generalize (m' * m' + 31 * m' + (0 + (i : Int))) % 1000003 = w
    refine r_ifD (fun h => ?_) (fun h => ?_)
    · walk_at "go"
      refine r_append G3 (by walk_at "u") (szl (by rw [iv_len]; omega)) fun H4 G4 => ?_
      walk_at "go"
      refine r_div (by decide) (by decide) ?_
      walk_at "go"
      refine r_setL (xs := iv cs') G4 (ixN_of hj0 (by rw [iv_len]; exact hj1)) (by walk_at "u") fun H5 G5 => ?_
      rw [iv_snoc, iv_set] at G5
      refine ⟨_, _, m', _, _, _, _, rfl, G5, by rw [List.length_set]; exact hl, by simp [hdl], ?_, hm0', hm1'⟩
      intro d hd
      rcases List.mem_append.mp hd with q | q
      · exact hr d q
      · rw [List.mem_singleton.mp q]
        exact ⟨Int.emod_nonneg _ (by decide), Int.emod_lt_of_pos _ (by decide)⟩
    · walk_at "go"
      refine r_append G3 (by walk_at "u") (szl (by rw [iv_len]; omega)) fun H4 G4 => ?_
      rw [iv_snoc] at G4
      refine ⟨_, _, m', _, _, _, _, rfl, G4, hl, by simp [hdl], ?_, hm0', hm1'⟩
      intro d hd
      rcases List.mem_append.mp hd with q | q
      · exact hr d q
      · rw [List.mem_singleton.mp q]
        exact ⟨Int.emod_nonneg _ (by decide), Int.emod_lt_of_pos _ (by decide)⟩
  · rintro σ H' ⟨cs', ds, m, v5, v6, v7, v8, rfl, G3, hl, hdl, hr, hm0, hm1⟩
    walk_at "go"
    refine r_reverse G3 (by walk_at "u") fun H4 G4 => ?_
    walk_at "go"
    rw [show (iv ds).reverse = iv ds.reverse from by simp] at G4
    refine k p2 H4 ds.reverse ?_ G4.bh (G4.get (by walk_at "m")) ⟨by rw [List.length_reverse]; omega, fun d hd => hr d (List.mem_reverse.mp hd)⟩
    exact (G4.own _ (by walk_at "m")).2.2
theorem u_draws {K : PySem.W.Frag} {H F : Hp} {Q : VK} {X : XK} {E : En} {L : Led} {a : Addr} {ns : List Int} {c : Int} (G : St E F H L) (ha : SqL K H a (iv ns)) (hn : ns.length ≤ 63) (h0 : 0 ≤ c) (h1 : c ≤ 1000)
    (q : ∀ p ds H', Dok ds → St E F H' ((p, .lst (iv ds)) :: L) → Q (.ref p) H') : cp_draws K [.ref a, .int c] H Q X :=
  ⟨a, ns, c, rfl, ha, hn, h0, h1, fun p H' ds hn hs hp hd => q p ds H' hd (G.add hs hn hp)⟩
end
end SL

set_option Elab.async false
set_option linter.all false
set_option maxRecDepth 100000
set_option maxHeartbeats 4000000
namespace L2
open PySem PySem.Spec PyProof.Rows
/-! ## a list or a tuple is walked -/
def SqB (K : PySem.W.Frag) (H : Hp) (a : Addr) (xs : List V) : Bool → Prop
  | true => SqL K H a xs
  | false => SqT K H a xs
def Itb (K : PySem.W.Frag) (a : Addr) : Bool → It
  | true => Itl K a
  | false => Itt K a
def RISq (K : PySem.W.Frag) (x : V) (H : Hp) (R : It → Hp → Prop) : Prop := ∃ (a : Addr) (b : Bool) (xs : List V), x = .ref a ∧ SqB K H a xs b ∧ R (Itb K a b) H
def iSeq (K : PySem.W.Frag) (tl : TE) : TI := fun σ H R => tl σ H fun x H1 => RISq K x H1 R
section
variable {X : Cx} {tg : Expr}
theorem pi_seq {l : Expr} {tl : TE} (hl : PE X l tl) : PI X tg l (iSeq X.K tl) := by
  refine ⟨fun pins s σ H R I h => thn (hl.run pins s σ H _ I h) fun v s1 hq => ?_⟩
  obtain ⟨x, H1, I1, rx, a, b, xs, e, sq, q⟩ := hq
  subst e
  obtain rfl : v = Value.ref a := rx
  have fp : ∀ c ∈ [s1.heap.objs.size], FpOk X pins H1 c := fun c hc => by
    rw [List.mem_singleton.mp hc]
    exact I1.fpOk (Nat.le_refl _) (I1.hok.fresh (Nat.le_refl _))
  have old : ∀ (o : Obj), Inv X pins σ H1 { s1 with heap := s1.heap.push o } := fun o => I1.kept (t' := s1.toks) fun _ _ z => Heap.get?_push_of_some _ z
  cases b with
  | true =>
    obtain ⟨its, _, p, _⟩ := I1.list (show SqL X.K H1 a xs from sq)
    exact wpAny_pyIter_list p.isList ⟨_, [s1.heap.objs.size], _, Itl X.K a, H1, rfl, old _, turn_list a _, ⟨_, Heap.get?_push_size _ rfl, rfl, rfl⟩, fp, q⟩
  | false =>
    obtain ⟨its, _, p, _⟩ := I1.tuple (show SqT X.K H1 a xs from sq)
    exact wpAny_pyIter_tuple (show s1.heap.IsTuple a its.toArray from p) ⟨_, [s1.heap.objs.size], _, Itt X.K a, H1, rfl, old _, turn_tuple a _, ⟨_, Heap.get?_push_size _ rfl, rfl, rfl⟩, fp, q⟩
end
end L2
namespace SL
open PySem L2
section

set_option hygiene false
local macro_rules | `(tactic| walk_at "m") => `(tactic| first | exact List.Mem.head _ | (refine List.Mem.tail _ ?_; walk_at "m"))
local macro_rules | `(tactic| walk_at "u") => `(tactic| first | exact Upd.head | (apply Upd.tail; walk_at "u"))
local macro_rules | `(tactic| walk_at "tk") => `(tactic| first | exact Tak.head | (apply Tak.tail; walk_at "tk"))
local macro_rules | `(tactic| walk_at "l") => `(tactic| first | assumption | exact lS (St.fh (by assumption)) (by assumption) | exact SqL.of (St.get (by assumption) (by walk_at "m")))
local macro_rules | `(tactic| walk_at "t") => `(tactic| first | assumption | exact tS (St.fh (by assumption)) (by assumption) | exact SqT.of (St.get (by assumption) (by walk_at "m")))
local macro_rules | `(tactic| walk_at "lt") => `(tactic| first | exact .inl (by walk_at "l") | exact .inr (by walk_at "t"))
local macro_rules | `(tactic| walk_at "sz") => `(tactic| first | (show _ ≤ sizeLine; decide) | exact sz (by simp) | exact szl (by simp) | exact sz (by omega) | exact szl (by omega) | exact sz (by simp; omega) | exact szl (by simp; omega))
local macro_rules | `(tactic| walk_at "c") => `(tactic| first | assumption | decide | omega)
local macro_rules | `(tactic| walk_at "g1") => `(tactic| with_reducible first
  | refine w_seq ?_ | refine w_asg ?_ | refine w_c ?_ | refine w_op ?_
  | refine r_I0 ?_ | refine w_test ?_ | refine r_b ?_ | refine w_if ?_ | refine w_cons ?_ | refine w_nil ?_
  | refine w_ret ?_ | refine w_drop ?_ | refine w_cb ?_ | refine w_call ?_ | refine w_next ?_ | refine w_tup ?_ | refine w_lst ?_ | refine w_bm ?_ | refine w_bm0 ?_
  | refine w_and ?_ | refine w_or ?_ | refine w_not ?_ | refine w_andV ?_ | refine w_orV ?_ | refine w_notV ?_ | refine w_tB ?_ | refine w_un ?_ | refine r_U ?_
  | refine w_for ?_ | refine w_iL ?_ | refine w_iT ?_ | refine w_i1 ?_ | refine w_i2 ?_ | refine w_sl ?_ | refine w_part ?_ | refine w_nopart ?_ | refine r_part ?_
  | refine r_eqI ?_ | refine r_neI ?_ | refine r_eqS ?_ | refine r_neS ?_ | refine r_eqB ?_ | refine r_neB ?_ | refine r_ifT ?_ | refine r_ifF ?_ | refine r_ifNt ?_ | refine r_ifNf ?_ | refine r_ifRN ?_ | refine r_ifNRN ?_ | refine r_ifNN ?_ | refine r_ifNNN ?_
  | refine w_ifE ?_ | refine r_int1 ?_ | refine r_int1b ?_ | refine r_isnone ?_ | refine r_notnone ?_ | refine r_max2 ?_ | refine r_min2 ?_ | refine r_ipI ?_ | refine w_tru ?_ | refine w_rs ?_
  | refine w_retN ?_ | refine w_break ?_ | refine w_cont ?_ | refine w_callS ?_ | refine w_asgG ?_ | refine w_gsub ?_)
local macro_rules | `(tactic| walk_at "g2") => `(tactic| first
  | ((with_reducible refine' w_var ?hv ?_); (case hv => rfl)) | ((with_reducible refine' w_aug ?hv ?_); (case hv => rfl))
  | ((with_reducible show rLen _ _ _ _); refine r_len (by walk_at "lt") ?_)
  | (with_reducible refine r_I ?cnd ?_; (case cnd => first | decide | omega | assumption | (unfold CPow; decide)))
  | ((with_reducible show RTy _ _ _ _ _); refine r_tyL (by walk_at "l") ?_)
  | (with_reducible refine r_ifDT (by walk_at "c") ?_) | (with_reducible refine r_ifDF (by walk_at "c") ?_)
  | (with_reducible refine r_ifNT (by walk_at "c") ?_) | (with_reducible refine r_ifNF (by walk_at "c") ?_))
local macro_rules | `(tactic| walk_at "go") => `(tactic| repeat (first | walk_at "g1" | walk_at "g2"))

variable {n b c : L2.St → Hp → Prop} {r : VK} {σ : L2.St} {H H' : Hp} {Q : VK} {t : TS} {te : TE} {x y v : V} {K : PySem.W.Frag} {E : En} {F : Hp} {L L' : Led} {p a : Addr} {xs : List V} {k : Bool}
theorem qS (e : Same H H') (h : SqB K H a xs k) : SqB K H' a xs k := by
  cases k with
  | true => exact lS e h
  | false => exact tS e h
theorem qor (h : SqB K H a xs k) : SqL K H a xs ∨ SqT K H a xs := by
  cases k with
  | true => exact .inl h
  | false => exact .inr h
theorem w_iSq {R : It → Hp → Prop} (h : te σ H fun x H1 => RISq K x H1 R) : iSeq K te σ H R := h
theorem r_isq {R : It → Hp → Prop} (h : SqB K H a xs k) (q : R (Itb K a k) H) : RISq K (.ref a) H R := ⟨a, k, xs, rfl, h, q⟩
theorem r_forB {i0 : Nat} (Pv : Nat → L2.St → Hp → Prop) (h0 : Pv 0 σ H) (hl : ∀ i σ H, i ≤ xs.length → Pv i σ H → SqB K H a xs k)
    (hs : ∀ i x σ H, xs[i]? = some x → Pv i σ H → t ⟨Pv (i + 1), r, n, Pv (i + 1)⟩ (σ.set i0 (some x)) H) (hd : ∀ σ H, Pv xs.length σ H → n σ H) : RFor (Itb K a k) (gName i0) t ⟨n, r, b, c⟩ σ H := by
  cases k with
  | true => exact r_forL Pv h0 hl hs hd
  | false => exact r_forT Pv h0 hl hs hd
/-! ## comprehensions -/
def RApp (D : Addr) (y : V) (H : Hp) (P : Hp → Prop) : Prop := ∃ acc, H D = some (.lst acc) ∧ acc.length < sizeLine ∧ P (upd H D (.lst (acc ++ [y])))
def RLc (J : It) (g : TG) (tt : TT) (te : TE) (vs : List Nat) (σ : L2.St) (Q : VK) (H1 : Hp) : Prop := ∀ D, H1 D = none → ∃ W : Nat → Nat → Hp → Prop, (∃ m, W 0 m (upd H1 D (.lst []))) ∧ ∀ i m H, W i m H →
  (J.stop i H ∧ Q (.ref D) H) ∨ (J.go i H ∧ ∃ Nx : Hp → Prop, (∀ H', Nx H' → ∃ m', m' < m ∧ W (i + 1) m' H') ∧ ∀ x H', J.yld i H x H' → g x (wipe σ vs) H' fun σ2 H2 => wipe σ2 vs = wipe σ vs ∧ tt σ2 H2 fun b H3 =>
    if b = true then te σ2 H3 fun y H4 => RApp D y H4 Nx else Nx H3)
theorem w_lc {wi : TI} {g : TG} {tt : TT} {vs : List Nat} (h : wi σ H fun J H1 => RLc J g tt te vs σ Q H1) : tLc wi g tt te vs σ H Q := h
theorem r_app {P : Hp → Prop} {acc : List V} (G : St E F H L) (u : Upd L p (.lst acc) (.lst (acc ++ [y])) L') (hs : acc.length < sizeLine) (q : ∀ H', St E F H' L' → P H') : RApp p y H P :=
  ⟨acc, G.get u.mem, hs, q _ (G.put u)⟩
theorem wipe_set1 {σ : L2.St} {i : Nat} {v : Option V} : wipe ((wipe σ [i]).set i v) [i] = wipe σ [i] := by
  show ((σ.set i none).set i v).set i none = σ.set i none
  rw [List.set_set, List.set_set]
theorem yes_of {σ : L2.St} {H : Hp} {A B : Hp → Prop} (h : A H) : tYes σ H fun b H3 => if b = true then A H3 else B H3 := by
  show (if true = true then A H else B H)
  rw [if_pos rfl]
  exact h
/-- over a list or a tuple, no test -/
theorem r_lcB {i0 : Nat} (G : St E F H L) (Pv : Addr → Nat → Hp → Prop) (h0 : ∀ D H', St E F H' ((D, .lst []) :: L) → Pv D 0 H') (hl : ∀ D i H', i ≤ xs.length → Pv D i H' → SqB K H' a xs k)
    (hs : ∀ D i x H', xs[i]? = some x → Pv D i H' → te ((wipe σ [i0]).set i0 (some x)) H' fun y H4 => RApp D y H4 (Pv D (i + 1))) (hd : ∀ D H', Pv D xs.length H' → Q (.ref D) H') : RLc (Itb K a k) (gName i0) tYes te [i0] σ Q H := by
  intro D hD
  have h0' := h0 D _ (G.new hD)
  cases k with
  | true => exact lc_list (K := K) (a := a) (xs := xs) (Qd := fun H' => Q (.ref D) H') (Pv D) h0' (hl D) (fun i x H' hi p => ⟨wipe_set1, yes_of (hs D i x H' hi p)⟩) (hd D)
  | false => exact lc_tup (K := K) (a := a) (xs := xs) (Qd := fun H' => Q (.ref D) H') (Pv D) h0' (hl D) (fun i x H' hi p => ⟨wipe_set1, yes_of (hs D i x H' hi p)⟩) (hd D)
theorem r_lcR {lo : Int} {m i0 : Nat} (G : St E F H L) (Pv : Addr → Nat → Hp → Prop) (h0 : ∀ D H', St E F H' ((D, .lst []) :: L) → Pv D 0 H')
    (hs : ∀ D i H', i < m → Pv D i H' → te ((wipe σ [i0]).set i0 (some (.int (lo + i)))) H' fun y H4 => RApp D y H4 (Pv D (i + 1))) (hd : ∀ D H', Pv D m H' → Q (.ref D) H') : RLc (Itr lo m) (gName i0) tYes te [i0] σ Q H := by
  intro D hD
  exact lc_range (Qd := fun H' => Q (.ref D) H') (Pv D) (h0 D _ (G.new hD)) (fun i H' hi p => ⟨wipe_set1, yes_of (hs D i H' hi p)⟩) (hd D)
/-- .. with a test -/
theorem r_lcBT {i0 : Nat} {tt : TT} (G : St E F H L) (Pv : Addr → Nat → Hp → Prop) (h0 : ∀ D H', St E F H' ((D, .lst []) :: L) → Pv D 0 H') (hl : ∀ D i H', i ≤ xs.length → Pv D i H' → SqB K H' a xs k)
    (hs : ∀ D i x H', xs[i]? = some x → Pv D i H' → tt ((wipe σ [i0]).set i0 (some x)) H' fun b H3 => RIf b (te ((wipe σ [i0]).set i0 (some x)) H3 fun y H4 => RApp D y H4 (Pv D (i + 1))) (Pv D (i + 1) H3)) (hd : ∀ D H', Pv D xs.length H' → Q (.ref D) H') : RLc (Itb K a k) (gName i0) tt te [i0] σ Q H := by
  intro D hD
  have h0' := h0 D _ (G.new hD)
  cases k with
  | true => exact lc_list (K := K) (a := a) (xs := xs) (Qd := fun H' => Q (.ref D) H') (Pv D) h0' (hl D) (fun i x H' hi p => ⟨wipe_set1, hs D i x H' hi p⟩) (hd D)
  | false => exact lc_tup (K := K) (a := a) (xs := xs) (Qd := fun H' => Q (.ref D) H') (Pv D) h0' (hl D) (fun i x H' hi p => ⟨wipe_set1, hs D i x H' hi p⟩) (hd D)
theorem r_lcRT {lo : Int} {m i0 : Nat} {tt : TT} (G : St E F H L) (Pv : Addr → Nat → Hp → Prop) (h0 : ∀ D H', St E F H' ((D, .lst []) :: L) → Pv D 0 H')
    (hs : ∀ D i H', i < m → Pv D i H' → tt ((wipe σ [i0]).set i0 (some (.int (lo + i)))) H' fun b H3 => RIf b (te ((wipe σ [i0]).set i0 (some (.int (lo + i)))) H3 fun y H4 => RApp D y H4 (Pv D (i + 1))) (Pv D (i + 1) H3)) (hd : ∀ D H', Pv D m H' → Q (.ref D) H') : RLc (Itr lo m) (gName i0) tt te [i0] σ Q H := by
  intro D hD
  exact lc_range (Qd := fun H' => Q (.ref D) H') (Pv D) (h0 D _ (G.new hD)) (fun i H' hi p => ⟨wipe_set1, hs D i H' hi p⟩) (hd D)
theorem take_snoc {α : Type} : ∀ {l : List α} {i : Nat} {x : α}, l[i]? = some x → l.take (i + 1) = l.take i ++ [x]
  | [], i, x, h => by simp at h
  | y :: l, 0, x, h => by
    have e : y = x := Option.some.inj h
    rw [e]; rfl
  | y :: l, i + 1, x, h => by
    have ih := take_snoc (l := l) (i := i) (x := x) h
    rw [List.take_succ_cons, ih]; rfl
/-- each item on its own, nothing else happens -/
theorem r_lcM {i0 : Nat} (f : V → V) (hsz : xs.length ≤ 1000000) (G : St E F H L) (hx : SqB K H a xs k)
    (hs : ∀ D (i : Nat) x acc H' (Q' : VK), xs[i]? = some x → Same H H' → St E F H' ((D, .lst acc) :: L) → Q' (f x) H' → te ((wipe σ [i0]).set i0 (some x)) H' Q')
    (q : ∀ D H', Same H H' → St E F H' ((D, .lst (xs.map f)) :: L) → Q (.ref D) H') : RLc (Itb K a k) (gName i0) tYes te [i0] σ Q H := by
  intro D0 hD0
  have G0 := St.init (Same.refl H)
  refine r_lcB (L := []) G0 (fun D i H' => H D = none ∧ Same H H' ∧ H' D = some (.lst ((xs.take i).map f))) (fun D H' G' => ⟨(G'.own _ (by walk_at "m")).2.2, G'.bh, G'.get (by walk_at "m")⟩) (fun D i H' _ h => qS h.2.1 hx) (fun D i x H' hi h => ?_) (fun D H' h => ?_) D0 hD0
  · have G' : St E F H' ((D, .lst ((xs.take i).map f)) :: L) := G.add h.2.1 h.1 h.2.2
    refine hs D i x _ H' _ hi h.2.1 G' ⟨_, h.2.2, szl (by rw [List.length_map, List.length_take]; omega), h.1, fun b o e => ?_, ?_⟩
    · rw [upd_ne (ne_of_none e h.1)]; exact h.2.1 b o e
    · rw [upd_same, take_snoc hi, List.map_append]; rfl
  · refine q D H' h.2.1 ?_
    have := G.add h.2.1 h.1 h.2.2
    rw [List.take_length] at this
    exact this
end
end SL

set_option Elab.async false
set_option linter.all false
set_option maxRecDepth 100000
set_option maxHeartbeats 4000000

namespace PySem
open Sem (wp)
section
variable {prog : Program} {w : World} {A : Around} {E : Value → Shared → Prop} {RR : Result → Shared → Prop} {J : Addr} {fo wo : List Addr} {sz : Nat} {PP : Nat → Value → Prop} {ST : Nat → Heap → Prop} {kw : List (Str × Value)}
/-- the rest of max, from the second item on; whatever default was given -/
theorem mm_max_rest (Wk : Walks prog w A.in1 J fo wo sz PP ST) (bt : Nat → Nat → Bool) (cm : CmpOf prog w A.in1 .Gt PP bt) (B : Addr) (nB : B ∉ fo) :
    ∀ (d j : Nat) (s : Shared) (u : Value) (c : Nat), sz - (j + 1) = d → j + 1 ≤ sz → ST (j + 1) s.heap → PP (argBest bt j) u →
    s.heap.get? B = some { cls := .type "list", dict := none, data := .seq #[u, u] c, slots := #[] } →
    (∀ v h1 t1, PP (argBest bt (sz - 1)) v → (∀ b o, b ∉ wo → b ≠ B → s.heap.get? b = some o → h1.get? b = some o) → RR (.ok (.ret v)) { s with heap := h1, toks := t1 }) →
    codeAny (model prog w) A (.builtin "max.loop" ⟨[.ref J, .none, .ref B], kw⟩) RR s := by
  have nBw : B ∉ wo := fun h => nB (Wk.sub _ h)
  have nm : (toString "max" ++ toString ".loop" : String) = "max.loop" := by decide
  intro d
  induction d with
  | zero =>
    intro j s u c e1 e2 e3 e4 e5 fin
    have last : j + 1 = sz := by omega
    refine codeAny_builtin F.entry_max_loop ?_
    rw [Around.under_plainId F.plain_max_loop _]
    show wpAny _ A.in1 (seqItems? (.ref B) >>= _) _ _ s
    refine wpAny_bind (wpAny_seqItems e5 rfl ?_)
    show wpAny _ A.in1 (tryCatch (pyNext (.ref J)) _ >>= _) _ _ s
    refine wpAny_bind (wpAny_tryCatch (Wk.done s _ _ (last ▸ e3) fun h1 t1 kp => ?_))
    have e6 := kp B _ nBw e5
    show wpAny _ A.in1 (updateSeq B (fun _ => #[]) >>= _) _ _ _
    refine wpAny_bind ?_
    refine wpAny_updateSeq e6 rfl (wpAny_bind (wpAny_letGo (wpAny_pure ?_)))
    exact fin u _ t1 (by rw [← last]; exact e4) fun b o q1 q2 q3 => (Heap.get?_update_other _ _ (Ne.symm q2)).trans (kp b o q1 q3)
  | succ d ih =>
    intro j s u c e1 e2 e3 e4 e5 fin
    have more : j + 1 < sz := by omega
    refine codeAny_builtin F.entry_max_loop ?_
    rw [Around.under_plainId F.plain_max_loop _]
    show wpAny _ A.in1 (seqItems? (.ref B) >>= _) _ _ s
    refine wpAny_bind (wpAny_seqItems e5 rfl ?_)
    show wpAny _ A.in1 (tryCatch (pyNext (.ref J)) _ >>= _) _ _ s
    refine wpAny_bind (wpAny_tryCatch (Wk.item (j + 1) s _ _ more e3 fun v h1 t1 pv s1 kp => ?_))
    have e6 := kp B _ nBw e5
    show wpAny _ A.in1 (tryCatch (holding [v, v] (richCompare .Gt v u >>= _)) _ >>= _) _ _ _
    refine wpAny_bind (wpAny_tryCatch (wpAny_holding (wpAny_bind (cm (j + 1) (argBest bt j) v u _ _ _ pv e4 ?_))))
    refine wpAny_bind (wpAny_holding (wpAny_truthy_bool ?_))
    refine wpAny_bind (wpAny_letGo (wpAny_pure ?_))
    cases better : bt (j + 1) (argBest bt j) with
    | true =>
      simp only [if_true]
      refine wpAny_bind ?_
      refine wpAny_updateSeq e6 rfl (wpAny_bind (wpAny_letGo ?_))
      rw [nm]
      refine wpAny_pure ⟨plainId_quiet F.plain_max_loop _, ih (j + 1) _ v _ (by omega) more (Wk.frame _ _ _ s1 fun b q o z => ?_) (by simp only [argBest, better, if_true]; exact pv) (Heap.get?_update_self _ e6 rfl) fun v1 h2 t2 q1 q2 => ?_⟩
      · exact (Heap.get?_update_other _ _ (fun z : B = b => nB (by rw [z]; exact q))).trans z
      · exact fin v1 h2 t2 q1 fun b o z1 z2 z3 => q2 b o z1 z2 ((Heap.get?_update_other _ _ (Ne.symm z2)).trans (kp b o z1 z3))
    | false =>
      simp only [Bool.false_eq_true, if_false]
      refine wpAny_bind (wpAny_letGo ?_)
      rw [nm]
      refine wpAny_pure ⟨plainId_quiet F.plain_max_loop _, ih (j + 1) _ u c (by omega) more s1 (by simp only [argBest, better, Bool.false_eq_true, if_false]; exact e4) e6 fun v1 h2 t2 q1 q2 => ?_⟩
      exact fin v1 h2 t2 q1 fun b o z1 z2 z3 => q2 b o z1 z2 (kp b o z1 z3)
theorem mm_max_all (Wk : Walks prog w A.in1 J fo wo sz PP ST) (bt : Nat → Nat → Bool) (cm : CmpOf prog w A.in1 .Gt PP bt) (B : Addr) (nB : B ∉ fo) {s : Shared} {c : Nat} (e3 : ST 0 s.heap)
    (e5 : s.heap.get? B = some { cls := .type "list", dict := none, data := .seq #[] c, slots := #[] }) {dv : Value} (hkw : sz = 0 → kw = [(Str.ofString "default", dv)])
    (fin : ∀ v h1 t1, (0 < sz → PP (argBest bt (sz - 1)) v) → (sz = 0 → v = dv) → (∀ b o, b ∉ wo → b ≠ B → s.heap.get? b = some o → h1.get? b = some o) → RR (.ok (.ret v)) { s with heap := h1, toks := t1 }) :
    codeAny (model prog w) A (.builtin "max.loop" ⟨[.ref J, .none, .ref B], kw⟩) RR s := by
  have nBw : B ∉ wo := fun h => nB (Wk.sub _ h)
  have nm : (toString "max" ++ toString ".loop" : String) = "max.loop" := by decide
  refine codeAny_builtin F.entry_max_loop ?_
  rw [Around.under_plainId F.plain_max_loop _]
  show wpAny _ A.in1 (seqItems? (.ref B) >>= _) _ _ s
  refine wpAny_bind (wpAny_seqItems e5 rfl ?_)
  show wpAny _ A.in1 (tryCatch (pyNext (.ref J)) _ >>= _) _ _ s
  by_cases none : sz = 0
  · have hk := hkw none
    subst hk
    refine wpAny_bind (wpAny_tryCatch (Wk.done s _ _ (by rw [none]; exact e3) fun h1 t1 kp => ?_))
    show wpAny _ A.in1 (rule (toString "max" ++ toString ".default") >>= _) _ _ _
    refine wpAny_bind (wpAny_rule ?_)
    exact wpAny_pure (fin dv h1 t1 (fun z => absurd z (by omega)) (fun _ => rfl) fun b o q1 q2 q3 => kp b o q1 q3)
  · have some0 : 0 < sz := by omega
    refine wpAny_bind (wpAny_tryCatch (Wk.item 0 s _ _ some0 e3 fun v h1 t1 pv s1 kp => ?_))
    have e6 := kp B _ nBw e5
    show wpAny _ A.in1 (updateSeq B (fun _ => #[v, v]) >>= _) _ _ _
    refine wpAny_bind ?_
    refine wpAny_updateSeq e6 rfl ?_
    rw [nm]
    refine wpAny_pure ⟨plainId_quiet F.plain_max_loop _, mm_max_rest Wk bt cm B nB _ 0 _ v _ rfl some0 (Wk.frame _ _ _ s1 fun b q o z => ?_) pv (Heap.get?_update_self _ e6 rfl) fun v1 h2 t2 q1 q2 => ?_⟩
    · exact (Heap.get?_update_other _ _ (fun z : B = b => nB (by rw [z]; exact q))).trans z
    · exact fin v1 h2 t2 (fun _ => q1) (fun z => absurd z none) fun b o z1 z2 z3 => q2 b o z1 z2 ((Heap.get?_update_other _ _ (Ne.symm z2)).trans (kp b o z1 z3))
theorem F.mm_max_d (a v : Value) : argsOk "max" ⟨[a], [(Str.ofString "default", v)]⟩ := by unfold argsOk; kernel_rfl
/-- max(x), max(x, default=d) -/
theorem mm_max {s : Shared} {x : Value} {Q : Value → Shared → Prop} {kw : List (Str × Value)} {dv : Value} (hkw : kw = [] ∨ kw = [(Str.ofString "default", dv)])
    (h : wpAny (model prog w) A.in1 (pyIter x) (fun it s2 => ∃ J fo wo sz PP ST bt, it = .ref J ∧ Walks prog w A.in1 J fo wo sz PP ST ∧ ST 0 s2.heap ∧ (∀ b ∈ fo, b < s2.heap.objs.size) ∧ (sz = 0 → kw = [(Str.ofString "default", dv)]) ∧ CmpOf prog w A.in1 .Gt PP bt ∧
      ∀ v h1 t1, (0 < sz → PP (argBest bt (sz - 1)) v) → (sz = 0 → v = dv) → (∀ b o, b ∉ wo → s2.heap.get? b = some o → h1.get? b = some o) → Q v { s2 with heap := h1, toks := t1 }) E s) :
    wpAny (model prog w) A (call (.builtin "max") [x] kw) Q E s := by
  have nm : (toString "max" ++ toString ".loop" : String) = "max.loop" := by decide
  have go : ∀ (it : Value) (s2 : Shared), (∃ J fo wo sz PP ST bt, it = .ref J ∧ Walks prog w A.in1 J fo wo sz PP ST ∧ ST 0 s2.heap ∧ (∀ b ∈ fo, b < s2.heap.objs.size) ∧ (sz = 0 → kw = [(Str.ofString "default", dv)]) ∧ CmpOf prog w A.in1 .Gt PP bt ∧
      ∀ v h1 t1, (0 < sz → PP (argBest bt (sz - 1)) v) → (sz = 0 → v = dv) → (∀ b o, b ∉ wo → s2.heap.get? b = some o → h1.get? b = some o) → Q v { s2 with heap := h1, toks := t1 }) →
      codeAny (model prog w) A (.builtin "max.loop" ⟨[it, .none, .ref s2.heap.objs.size], kw⟩) (fun r s' => match r with | .ok (.ret v) => Q v s' | .ok _ => False | .error e => E e s')
        { s2 with heap := s2.heap.push { cls := .type "list", data := .seq #[] } } := by
    rintro it s2 ⟨J, fo, wo, sz, PP, ST, bt, rfl, Wk, st, lt, hd, cm, q⟩
    have nB : s2.heap.objs.size ∉ fo := fun z => Nat.lt_irrefl _ (lt _ z)
    refine mm_max_all (s := { s2 with heap := s2.heap.push { cls := .type "list", data := .seq #[] } }) (dv := dv) Wk bt cm s2.heap.objs.size nB (Wk.frame _ _ _ st fun b _ o e => Heap.get?_push_of_some _ e) (Heap.get?_push_size _ rfl) hd fun v h1 t1 q1 q2 q3 => ?_
    exact q v h1 t1 q1 q2 fun b o z1 z2 => q3 b o z1 (Nat.ne_of_lt (Heap.lt_size z2)) (Heap.get?_push_of_some _ z2)
  rcases hkw with z | z
  · subst z
    refine call_function_tree F.kind_max F.plain_max F.entry_max (F.args_max1 _) ?_
    show wpAny _ A.in1 (Builtin.Builtins.bindParams "max" ["key", "default"] 0 ⟨[], []⟩ >>= _) _ _ s
    refine wpAny_bind (wpAny_of_eq (show Builtin.Builtins.bindParams "max" ["key", "default"] 0 ⟨[], []⟩ = pure [none, none] from rfl) ?_)
    refine wpAny_bind (wpAny_pure ?_)
    refine wpAny_bind (wpAny_mono h (fun it s2 hh => ?_) fun _ _ e => e)
    refine wpAny_bind (wpAny_newObj_type ?_)
    rw [nm]
    exact wpAny_pure ⟨plainId_quiet F.plain_max_loop _, go it s2 hh⟩
  · subst z
    refine PyProof.Rows.kmk_tree F.kind_max F.plain_max F.entry_max (F.mm_max_d _ _) ?_
    show wpAny _ A.in1 (Builtin.Builtins.bindParams "max" ["key", "default"] 0 ⟨[], [(Str.ofString "default", dv)]⟩ >>= _) _ _ s
    refine wpAny_bind (wpAny_of_eq (show Builtin.Builtins.bindParams "max" ["key", "default"] 0 ⟨[], [(Str.ofString "default", dv)]⟩ = pure [none, some dv] from rfl) ?_)
    refine wpAny_bind (wpAny_pure ?_)
    refine wpAny_bind (wpAny_mono h (fun it s2 hh => ?_) fun _ _ e => e)
    refine wpAny_bind (wpAny_newObj_type ?_)
    rw [nm]
    exact wpAny_pure ⟨plainId_quiet F.plain_max_loop _, go it s2 hh⟩
end
end PySem

namespace PySem
open Sem (wp)
section
variable {prog : Program} {w : World} {A : Around} {E : Value → Shared → Prop} {RR : Result → Shared → Prop} {J : Addr} {fo wo : List Addr} {sz : Nat} {PP : Nat → Value → Prop} {ST : Nat → Heap → Prop} {kw : List (Str × Value)}
/-- the rest of min, from the second item on; whatever default was given -/
theorem mm_min_rest (Wk : Walks prog w A.in1 J fo wo sz PP ST) (bt : Nat → Nat → Bool) (cm : CmpOf prog w A.in1 .Lt PP bt) (B : Addr) (nB : B ∉ fo) :
    ∀ (d j : Nat) (s : Shared) (u : Value) (c : Nat), sz - (j + 1) = d → j + 1 ≤ sz → ST (j + 1) s.heap → PP (argBest bt j) u →
    s.heap.get? B = some { cls := .type "list", dict := none, data := .seq #[u, u] c, slots := #[] } →
    (∀ v h1 t1, PP (argBest bt (sz - 1)) v → (∀ b o, b ∉ wo → b ≠ B → s.heap.get? b = some o → h1.get? b = some o) → RR (.ok (.ret v)) { s with heap := h1, toks := t1 }) →
    codeAny (model prog w) A (.builtin "min.loop" ⟨[.ref J, .none, .ref B], kw⟩) RR s := by
  have nBw : B ∉ wo := fun h => nB (Wk.sub _ h)
  have nm : (toString "min" ++ toString ".loop" : String) = "min.loop" := by decide
  intro d
  induction d with
  | zero =>
    intro j s u c e1 e2 e3 e4 e5 fin
    have last : j + 1 = sz := by omega
    refine codeAny_builtin F.entry_min_loop ?_
    rw [Around.under_plainId F.plain_min_loop _]
    show wpAny _ A.in1 (seqItems? (.ref B) >>= _) _ _ s
    refine wpAny_bind (wpAny_seqItems e5 rfl ?_)
    show wpAny _ A.in1 (tryCatch (pyNext (.ref J)) _ >>= _) _ _ s
    refine wpAny_bind (wpAny_tryCatch (Wk.done s _ _ (last ▸ e3) fun h1 t1 kp => ?_))
    have e6 := kp B _ nBw e5
    show wpAny _ A.in1 (updateSeq B (fun _ => #[]) >>= _) _ _ _
    refine wpAny_bind ?_
    refine wpAny_updateSeq e6 rfl (wpAny_bind (wpAny_letGo (wpAny_pure ?_)))
    exact fin u _ t1 (by rw [← last]; exact e4) fun b o q1 q2 q3 => (Heap.get?_update_other _ _ (Ne.symm q2)).trans (kp b o q1 q3)
  | succ d ih =>
    intro j s u c e1 e2 e3 e4 e5 fin
    have more : j + 1 < sz := by omega
    refine codeAny_builtin F.entry_min_loop ?_
    rw [Around.under_plainId F.plain_min_loop _]
    show wpAny _ A.in1 (seqItems? (.ref B) >>= _) _ _ s
    refine wpAny_bind (wpAny_seqItems e5 rfl ?_)
    show wpAny _ A.in1 (tryCatch (pyNext (.ref J)) _ >>= _) _ _ s
    refine wpAny_bind (wpAny_tryCatch (Wk.item (j + 1) s _ _ more e3 fun v h1 t1 pv s1 kp => ?_))
    have e6 := kp B _ nBw e5
    show wpAny _ A.in1 (tryCatch (holding [v, v] (richCompare .Lt v u >>= _)) _ >>= _) _ _ _
    refine wpAny_bind (wpAny_tryCatch (wpAny_holding (wpAny_bind (cm (j + 1) (argBest bt j) v u _ _ _ pv e4 ?_))))
    refine wpAny_bind (wpAny_holding (wpAny_truthy_bool ?_))
    refine wpAny_bind (wpAny_letGo (wpAny_pure ?_))
    cases better : bt (j + 1) (argBest bt j) with
    | true =>
      simp only [if_true]
      refine wpAny_bind ?_
      refine wpAny_updateSeq e6 rfl (wpAny_bind (wpAny_letGo ?_))
      rw [nm]
      refine wpAny_pure ⟨plainId_quiet F.plain_min_loop _, ih (j + 1) _ v _ (by omega) more (Wk.frame _ _ _ s1 fun b q o z => ?_) (by simp only [argBest, better, if_true]; exact pv) (Heap.get?_update_self _ e6 rfl) fun v1 h2 t2 q1 q2 => ?_⟩
      · exact (Heap.get?_update_other _ _ (fun z : B = b => nB (by rw [z]; exact q))).trans z
      · exact fin v1 h2 t2 q1 fun b o z1 z2 z3 => q2 b o z1 z2 ((Heap.get?_update_other _ _ (Ne.symm z2)).trans (kp b o z1 z3))
    | false =>
      simp only [Bool.false_eq_true, if_false]
      refine wpAny_bind (wpAny_letGo ?_)
      rw [nm]
      refine wpAny_pure ⟨plainId_quiet F.plain_min_loop _, ih (j + 1) _ u c (by omega) more s1 (by simp only [argBest, better, Bool.false_eq_true, if_false]; exact e4) e6 fun v1 h2 t2 q1 q2 => ?_⟩
      exact fin v1 h2 t2 q1 fun b o z1 z2 z3 => q2 b o z1 z2 (kp b o z1 z3)
theorem mm_min_all (Wk : Walks prog w A.in1 J fo wo sz PP ST) (bt : Nat → Nat → Bool) (cm : CmpOf prog w A.in1 .Lt PP bt) (B : Addr) (nB : B ∉ fo) {s : Shared} {c : Nat} (e3 : ST 0 s.heap)
    (e5 : s.heap.get? B = some { cls := .type "list", dict := none, data := .seq #[] c, slots := #[] }) {dv : Value} (hkw : sz = 0 → kw = [(Str.ofString "default", dv)])
    (fin : ∀ v h1 t1, (0 < sz → PP (argBest bt (sz - 1)) v) → (sz = 0 → v = dv) → (∀ b o, b ∉ wo → b ≠ B → s.heap.get? b = some o → h1.get? b = some o) → RR (.ok (.ret v)) { s with heap := h1, toks := t1 }) :
    codeAny (model prog w) A (.builtin "min.loop" ⟨[.ref J, .none, .ref B], kw⟩) RR s := by
  have nBw : B ∉ wo := fun h => nB (Wk.sub _ h)
  have nm : (toString "min" ++ toString ".loop" : String) = "min.loop" := by decide
  refine codeAny_builtin F.entry_min_loop ?_
  rw [Around.under_plainId F.plain_min_loop _]
  show wpAny _ A.in1 (seqItems? (.ref B) >>= _) _ _ s
  refine wpAny_bind (wpAny_seqItems e5 rfl ?_)
  show wpAny _ A.in1 (tryCatch (pyNext (.ref J)) _ >>= _) _ _ s
  by_cases none : sz = 0
  · have hk := hkw none
    subst hk
    refine wpAny_bind (wpAny_tryCatch (Wk.done s _ _ (by rw [none]; exact e3) fun h1 t1 kp => ?_))
    show wpAny _ A.in1 (rule (toString "min" ++ toString ".default") >>= _) _ _ _
    refine wpAny_bind (wpAny_rule ?_)
    exact wpAny_pure (fin dv h1 t1 (fun z => absurd z (by omega)) (fun _ => rfl) fun b o q1 q2 q3 => kp b o q1 q3)
  · have some0 : 0 < sz := by omega
    refine wpAny_bind (wpAny_tryCatch (Wk.item 0 s _ _ some0 e3 fun v h1 t1 pv s1 kp => ?_))
    have e6 := kp B _ nBw e5
    show wpAny _ A.in1 (updateSeq B (fun _ => #[v, v]) >>= _) _ _ _
    refine wpAny_bind ?_
    refine wpAny_updateSeq e6 rfl ?_
    rw [nm]
    refine wpAny_pure ⟨plainId_quiet F.plain_min_loop _, mm_min_rest Wk bt cm B nB _ 0 _ v _ rfl some0 (Wk.frame _ _ _ s1 fun b q o z => ?_) pv (Heap.get?_update_self _ e6 rfl) fun v1 h2 t2 q1 q2 => ?_⟩
    · exact (Heap.get?_update_other _ _ (fun z : B = b => nB (by rw [z]; exact q))).trans z
    · exact fin v1 h2 t2 (fun _ => q1) (fun z => absurd z none) fun b o z1 z2 z3 => q2 b o z1 z2 ((Heap.get?_update_other _ _ (Ne.symm z2)).trans (kp b o z1 z3))
theorem F.mm_min_d (a v : Value) : argsOk "min" ⟨[a], [(Str.ofString "default", v)]⟩ := by unfold argsOk; kernel_rfl
/-- min(x), min(x, default=d) -/
theorem mm_min {s : Shared} {x : Value} {Q : Value → Shared → Prop} {kw : List (Str × Value)} {dv : Value} (hkw : kw = [] ∨ kw = [(Str.ofString "default", dv)])
    (h : wpAny (model prog w) A.in1 (pyIter x) (fun it s2 => ∃ J fo wo sz PP ST bt, it = .ref J ∧ Walks prog w A.in1 J fo wo sz PP ST ∧ ST 0 s2.heap ∧ (∀ b ∈ fo, b < s2.heap.objs.size) ∧ (sz = 0 → kw = [(Str.ofString "default", dv)]) ∧ CmpOf prog w A.in1 .Lt PP bt ∧
      ∀ v h1 t1, (0 < sz → PP (argBest bt (sz - 1)) v) → (sz = 0 → v = dv) → (∀ b o, b ∉ wo → s2.heap.get? b = some o → h1.get? b = some o) → Q v { s2 with heap := h1, toks := t1 }) E s) :
    wpAny (model prog w) A (call (.builtin "min") [x] kw) Q E s := by
  have nm : (toString "min" ++ toString ".loop" : String) = "min.loop" := by decide
  have go : ∀ (it : Value) (s2 : Shared), (∃ J fo wo sz PP ST bt, it = .ref J ∧ Walks prog w A.in1 J fo wo sz PP ST ∧ ST 0 s2.heap ∧ (∀ b ∈ fo, b < s2.heap.objs.size) ∧ (sz = 0 → kw = [(Str.ofString "default", dv)]) ∧ CmpOf prog w A.in1 .Lt PP bt ∧
      ∀ v h1 t1, (0 < sz → PP (argBest bt (sz - 1)) v) → (sz = 0 → v = dv) → (∀ b o, b ∉ wo → s2.heap.get? b = some o → h1.get? b = some o) → Q v { s2 with heap := h1, toks := t1 }) →
      codeAny (model prog w) A (.builtin "min.loop" ⟨[it, .none, .ref s2.heap.objs.size], kw⟩) (fun r s' => match r with | .ok (.ret v) => Q v s' | .ok _ => False | .error e => E e s')
        { s2 with heap := s2.heap.push { cls := .type "list", data := .seq #[] } } := by
    rintro it s2 ⟨J, fo, wo, sz, PP, ST, bt, rfl, Wk, st, lt, hd, cm, q⟩
    have nB : s2.heap.objs.size ∉ fo := fun z => Nat.lt_irrefl _ (lt _ z)
    refine mm_min_all (s := { s2 with heap := s2.heap.push { cls := .type "list", data := .seq #[] } }) (dv := dv) Wk bt cm s2.heap.objs.size nB (Wk.frame _ _ _ st fun b _ o e => Heap.get?_push_of_some _ e) (Heap.get?_push_size _ rfl) hd fun v h1 t1 q1 q2 q3 => ?_
    exact q v h1 t1 q1 q2 fun b o z1 z2 => q3 b o z1 (Nat.ne_of_lt (Heap.lt_size z2)) (Heap.get?_push_of_some _ z2)
  rcases hkw with z | z
  · subst z
    refine call_function_tree F.kind_min F.plain_min F.entry_min (F.args_min1 _) ?_
    show wpAny _ A.in1 (Builtin.Builtins.bindParams "min" ["key", "default"] 0 ⟨[], []⟩ >>= _) _ _ s
    refine wpAny_bind (wpAny_of_eq (show Builtin.Builtins.bindParams "min" ["key", "default"] 0 ⟨[], []⟩ = pure [none, none] from rfl) ?_)
    refine wpAny_bind (wpAny_pure ?_)
    refine wpAny_bind (wpAny_mono h (fun it s2 hh => ?_) fun _ _ e => e)
    refine wpAny_bind (wpAny_newObj_type ?_)
    rw [nm]
    exact wpAny_pure ⟨plainId_quiet F.plain_min_loop _, go it s2 hh⟩
  · subst z
    refine PyProof.Rows.kmk_tree F.kind_min F.plain_min F.entry_min (F.mm_min_d _ _) ?_
    show wpAny _ A.in1 (Builtin.Builtins.bindParams "min" ["key", "default"] 0 ⟨[], [(Str.ofString "default", dv)]⟩ >>= _) _ _ s
    refine wpAny_bind (wpAny_of_eq (show Builtin.Builtins.bindParams "min" ["key", "default"] 0 ⟨[], [(Str.ofString "default", dv)]⟩ = pure [none, some dv] from rfl) ?_)
    refine wpAny_bind (wpAny_pure ?_)
    refine wpAny_bind (wpAny_mono h (fun it s2 hh => ?_) fun _ _ e => e)
    refine wpAny_bind (wpAny_newObj_type ?_)
    rw [nm]
    exact wpAny_pure ⟨plainId_quiet F.plain_min_loop _, go it s2 hh⟩
end
end PySem

namespace L2
open PySem PySem.Spec PyProof.Rows
section
variable {X : Cx}
/-- max of a list or tuple of ints that is not empty; with a default: of any -/
def rB_max (K : PySem.W.Frag) : List V → Hp → VK → Prop := fun vs H Q => ∃ (a : Addr) (k : Bool) (ns : List Int), vs = [V.ref a] ∧ SqB K H a (ns.map V.int) k ∧ 0 < ns.length ∧ ∀ m, m ∈ ns → (∀ y ∈ ns, y ≤ m) → Q (.int m) H
def rD_max (K : PySem.W.Frag) : List V → List V → Hp → VK → Prop := fun vs zs H Q => ∃ (a : Addr) (k : Bool) (ns : List Int) (d : Int), vs = [V.ref a] ∧ zs = [V.int d] ∧ SqB K H a (ns.map V.int) k ∧
  ∀ m, (ns = [] → m = d) → (ns ≠ [] → m ∈ ns ∧ ∀ y ∈ ns, y ≤ m) → Q (.int m) H
theorem mm_core_max {pins : List (Addr × Obj)} {s : Shared} {σ : L2.St} {H : Hp} {Q : VK} (hc : X.calm = true) (I : Inv X pins σ H s) {a : Addr} {k : Bool} {ns : List Int} {kw : List (Str × Value)} {dv : Value} {d : Int} (hkw : kw = [] ∨ kw = [(Str.ofString "default", dv)])
    (h0 : ns.length = 0 → kw = [(Str.ofString "default", dv)]) (hd : ns.length = 0 → ∃ t, dv = .int d t) (hs : SqB X.K H a (ns.map V.int) k) (q : ∀ m, (ns = [] → m = d) → (ns ≠ [] → m ∈ ns ∧ ∀ y ∈ ns, y ≤ m) → Q (.int m) H) :
    wpAny (model X.prog X.w) X.A (call (.builtin "max") [.ref a] kw) (EP X pins σ Q) X.xe s := by
  have fin : ∀ (its : List Value), Vals (ns.map V.int) its → ∀ (xs : Array (Int × Tok)), its.toArray = intItems xs → ∀ (v : Value) (h1 : Heap) (t1 : Nat), (0 < xs.size → (intItems xs)[argBest (fun i j => decide (numAt xs i > numAt xs j)) (xs.size - 1)]? = some v) → (xs.size = 0 → v = dv) →
      (∀ b o, s.heap.get? b = some o → h1.get? b = some o) → EP X pins σ Q v { s with heap := h1, toks := t1 } := by
    intro its rv xs e v h1 t1 q1 q2 q3
    have hi := rv.ints
    have hn : numsOf (intItems xs).toList = ns := by rw [← e]; exact hi.numsOf
    rw [nums_intItems] at hn
    have hl : ns.length = xs.size := by rw [← hn]; simp
    by_cases z : xs.size = 0
    · obtain ⟨t, et⟩ := hd (by rw [hl]; exact z)
      rw [q2 z, et]
      have ne : ns = [] := List.eq_nil_of_length_eq_zero (by rw [hl]; exact z)
      exact ⟨.int d, H, I.kept q3, ⟨_, rfl⟩, q d (fun _ => rfl) fun w => absurd ne w⟩
    · have hv := q1 (by omega)
      obtain ⟨t, rfl⟩ := intItems_at hv
      obtain ⟨b1, b2⟩ := argBest_gt (numAt xs) (xs.size - 1)
      refine ⟨.int _, H, I.kept q3, ⟨_, rfl⟩, q _ (fun w => absurd (by rw [← hl, w]; rfl) z) fun _ => ⟨?_, fun y hy => ?_⟩⟩
      · rw [← hn, numAt_eq]; exact PySem.getD_mem (by rw [List.length_map, Array.length_toList]; omega)
      · rw [← hn] at hy
        obtain ⟨j, hj, rfl⟩ := mem_getD hy
        rw [List.length_map, Array.length_toList] at hj
        rw [← numAt_eq]; exact b2 j (by omega)
  have hh := I.ok.hd hc
  cases k with
  | true =>
    obtain ⟨its, rv, p, _⟩ := I.list (show SqL X.K H a (ns.map V.int) from hs)
    obtain ⟨xs, e⟩ := rv.ints.allInts.items
    have hl : ns.length = xs.size := by
      have h1 := rv.length
      have h2 : its.toArray.size = xs.size := by rw [e]; simp [intItems]
      simp at h1 h2
      omega
    have p' := p.isList
    rw [e] at p'
    refine mm_max hkw (iter_intList p' fun s₂ e2 st hfp hlI => ?_)
    subst e2
    refine ⟨_, _, _, _, _, _, _, rfl, Walks.list (A := X.A.in1) hh _ a hlI (intItems xs), st, hfp, (fun z => h0 (by rw [hl]; simpa [intItems] using z)), CmpOf.ints_gt (numAt xs) (fun _ _ => intItems_at), fun v h1 t1 q1 q2 q3 => ?_⟩
    exact fin its rv xs e v h1 t1 (fun z => by simpa [intItems] using q1 (by simpa [intItems] using z)) (fun z => q2 (by simpa [intItems] using z)) (old_kept q3)
  | false =>
    obtain ⟨its, rv, p, _⟩ := I.tuple (show SqT X.K H a (ns.map V.int) from hs)
    obtain ⟨xs, e⟩ := rv.ints.allInts.items
    have hl : ns.length = xs.size := by
      have h1 := rv.length
      have h2 : its.toArray.size = xs.size := by rw [e]; simp [intItems]
      simp at h1 h2
      omega
    have p' : s.heap.IsTuple a (intItems xs) := by rw [← e]; exact p
    have hlt : a < s.heap.objs.size := by obtain ⟨_, z, _⟩ := p'; exact Heap.lt_size z
    refine mm_max hkw (wpAny_pyIter_tuple p' ?_)
    refine ⟨s.heap.objs.size, _, _, _, _, _, _, rfl, Walks.tuple (A := X.A.in1) hh _ a (Nat.ne_of_lt hlt) (intItems xs), ⟨⟨_, Heap.get?_push_size _ rfl, rfl, rfl⟩, p'.push _⟩, fun b hb => ?_, (fun z => h0 (by rw [hl]; simpa [intItems] using z)), CmpOf.ints_gt (numAt xs) (fun _ _ => intItems_at), fun v h1 t1 q1 q2 q3 => ?_⟩
    · show b < (s.heap.push _).objs.size
      rw [Heap.size_push]
      rcases List.mem_cons.mp hb with z | z
      · rw [z]; exact Nat.lt_succ_self _
      · rw [List.mem_singleton.mp z]; exact Nat.lt_succ_of_lt hlt
    · refine fin its rv xs e v h1 t1 (fun z => by simpa [intItems] using q1 (by simpa [intItems] using z)) (fun z => q2 (by simpa [intItems] using z)) fun b o z => q3 b o (fun y => ?_) (Heap.get?_push_of_some _ z)
      rw [List.mem_singleton.mp y] at z
      exact absurd (Heap.lt_size z) (Nat.lt_irrefl _)
theorem cB_max (hc : X.calm = true) : CallR X (.builtin "max") (rB_max X.K) := by
  intro pins s σ H vs us Q I r h
  obtain ⟨a, k, ns, rfl, hs, hne, q⟩ := h
  rw [Vals.ref1 r]
  exact mm_core_max (kw := []) (dv := .none) (d := 0) hc I (.inl rfl) (fun z => absurd z (by omega)) (fun z => absurd z (by omega)) hs fun m _ h2 => (h2 (fun z => by rw [z] at hne; cases hne)).elim (q m)
theorem cD_max (hc : X.calm = true) : CallRK X (.builtin "max") [Str.ofString "default"] (rD_max X.K) := by
  intro pins s σ H vs zs us ws Q I r rz h
  obtain ⟨a, k, ns, d, rfl, rfl, hs, q⟩ := h
  rw [Vals.ref1 r]
  cases rz with
  | cons r1 r2 =>
    cases r2
    obtain ⟨t, rfl⟩ := r1
    exact mm_core_max (dv := .int d t) (d := d) hc I (.inr rfl) (fun _ => rfl) (fun _ => ⟨t, rfl⟩) hs q
end
end L2

namespace L2
open PySem PySem.Spec PyProof.Rows
section
variable {X : Cx}
/-- min of a list or tuple of ints that is not empty; with a default: of any -/
def rB_min (K : PySem.W.Frag) : List V → Hp → VK → Prop := fun vs H Q => ∃ (a : Addr) (k : Bool) (ns : List Int), vs = [V.ref a] ∧ SqB K H a (ns.map V.int) k ∧ 0 < ns.length ∧ ∀ m, m ∈ ns → (∀ y ∈ ns, m ≤ y) → Q (.int m) H
def rD_min (K : PySem.W.Frag) : List V → List V → Hp → VK → Prop := fun vs zs H Q => ∃ (a : Addr) (k : Bool) (ns : List Int) (d : Int), vs = [V.ref a] ∧ zs = [V.int d] ∧ SqB K H a (ns.map V.int) k ∧
  ∀ m, (ns = [] → m = d) → (ns ≠ [] → m ∈ ns ∧ ∀ y ∈ ns, m ≤ y) → Q (.int m) H
theorem mm_core_min {pins : List (Addr × Obj)} {s : Shared} {σ : L2.St} {H : Hp} {Q : VK} (hc : X.calm = true) (I : Inv X pins σ H s) {a : Addr} {k : Bool} {ns : List Int} {kw : List (Str × Value)} {dv : Value} {d : Int} (hkw : kw = [] ∨ kw = [(Str.ofString "default", dv)])
    (h0 : ns.length = 0 → kw = [(Str.ofString "default", dv)]) (hd : ns.length = 0 → ∃ t, dv = .int d t) (hs : SqB X.K H a (ns.map V.int) k) (q : ∀ m, (ns = [] → m = d) → (ns ≠ [] → m ∈ ns ∧ ∀ y ∈ ns, m ≤ y) → Q (.int m) H) :
    wpAny (model X.prog X.w) X.A (call (.builtin "min") [.ref a] kw) (EP X pins σ Q) X.xe s := by
  have fin : ∀ (its : List Value), Vals (ns.map V.int) its → ∀ (xs : Array (Int × Tok)), its.toArray = intItems xs → ∀ (v : Value) (h1 : Heap) (t1 : Nat), (0 < xs.size → (intItems xs)[argBest (fun i j => decide (numAt xs i < numAt xs j)) (xs.size - 1)]? = some v) → (xs.size = 0 → v = dv) →
      (∀ b o, s.heap.get? b = some o → h1.get? b = some o) → EP X pins σ Q v { s with heap := h1, toks := t1 } := by
    intro its rv xs e v h1 t1 q1 q2 q3
    have hi := rv.ints
    have hn : numsOf (intItems xs).toList = ns := by rw [← e]; exact hi.numsOf
    rw [nums_intItems] at hn
    have hl : ns.length = xs.size := by rw [← hn]; simp
    by_cases z : xs.size = 0
    · obtain ⟨t, et⟩ := hd (by rw [hl]; exact z)
      rw [q2 z, et]
      have ne : ns = [] := List.eq_nil_of_length_eq_zero (by rw [hl]; exact z)
      exact ⟨.int d, H, I.kept q3, ⟨_, rfl⟩, q d (fun _ => rfl) fun w => absurd ne w⟩
    · have hv := q1 (by omega)
      obtain ⟨t, rfl⟩ := intItems_at hv
      obtain ⟨b1, b2⟩ := argBest_lt (numAt xs) (xs.size - 1)
      refine ⟨.int _, H, I.kept q3, ⟨_, rfl⟩, q _ (fun w => absurd (by rw [← hl, w]; rfl) z) fun _ => ⟨?_, fun y hy => ?_⟩⟩
      · rw [← hn, numAt_eq]; exact PySem.getD_mem (by rw [List.length_map, Array.length_toList]; omega)
      · rw [← hn] at hy
        obtain ⟨j, hj, rfl⟩ := mem_getD hy
        rw [List.length_map, Array.length_toList] at hj
        rw [← numAt_eq]; exact b2 j (by omega)
  have hh := I.ok.hd hc
  cases k with
  | true =>
    obtain ⟨its, rv, p, _⟩ := I.list (show SqL X.K H a (ns.map V.int) from hs)
    obtain ⟨xs, e⟩ := rv.ints.allInts.items
    have hl : ns.length = xs.size := by
      have h1 := rv.length
      have h2 : its.toArray.size = xs.size := by rw [e]; simp [intItems]
      simp at h1 h2
      omega
    have p' := p.isList
    rw [e] at p'
    refine mm_min hkw (iter_intList p' fun s₂ e2 st hfp hlI => ?_)
    subst e2
    refine ⟨_, _, _, _, _, _, _, rfl, Walks.list (A := X.A.in1) hh _ a hlI (intItems xs), st, hfp, (fun z => h0 (by rw [hl]; simpa [intItems] using z)), CmpOf.ints_lt (numAt xs) (fun _ _ => intItems_at), fun v h1 t1 q1 q2 q3 => ?_⟩
    exact fin its rv xs e v h1 t1 (fun z => by simpa [intItems] using q1 (by simpa [intItems] using z)) (fun z => q2 (by simpa [intItems] using z)) (old_kept q3)
  | false =>
    obtain ⟨its, rv, p, _⟩ := I.tuple (show SqT X.K H a (ns.map V.int) from hs)
    obtain ⟨xs, e⟩ := rv.ints.allInts.items
    have hl : ns.length = xs.size := by
      have h1 := rv.length
      have h2 : its.toArray.size = xs.size := by rw [e]; simp [intItems]
      simp at h1 h2
      omega
    have p' : s.heap.IsTuple a (intItems xs) := by rw [← e]; exact p
    have hlt : a < s.heap.objs.size := by obtain ⟨_, z, _⟩ := p'; exact Heap.lt_size z
    refine mm_min hkw (wpAny_pyIter_tuple p' ?_)
    refine ⟨s.heap.objs.size, _, _, _, _, _, _, rfl, Walks.tuple (A := X.A.in1) hh _ a (Nat.ne_of_lt hlt) (intItems xs), ⟨⟨_, Heap.get?_push_size _ rfl, rfl, rfl⟩, p'.push _⟩, fun b hb => ?_, (fun z => h0 (by rw [hl]; simpa [intItems] using z)), CmpOf.ints_lt (numAt xs) (fun _ _ => intItems_at), fun v h1 t1 q1 q2 q3 => ?_⟩
    · show b < (s.heap.push _).objs.size
      rw [Heap.size_push]
      rcases List.mem_cons.mp hb with z | z
      · rw [z]; exact Nat.lt_succ_self _
      · rw [List.mem_singleton.mp z]; exact Nat.lt_succ_of_lt hlt
    · refine fin its rv xs e v h1 t1 (fun z => by simpa [intItems] using q1 (by simpa [intItems] using z)) (fun z => q2 (by simpa [intItems] using z)) fun b o z => q3 b o (fun y => ?_) (Heap.get?_push_of_some _ z)
      rw [List.mem_singleton.mp y] at z
      exact absurd (Heap.lt_size z) (Nat.lt_irrefl _)
theorem cB_min (hc : X.calm = true) : CallR X (.builtin "min") (rB_min X.K) := by
  intro pins s σ H vs us Q I r h
  obtain ⟨a, k, ns, rfl, hs, hne, q⟩ := h
  rw [Vals.ref1 r]
  exact mm_core_min (kw := []) (dv := .none) (d := 0) hc I (.inl rfl) (fun z => absurd z (by omega)) (fun z => absurd z (by omega)) hs fun m _ h2 => (h2 (fun z => by rw [z] at hne; cases hne)).elim (q m)
theorem cD_min (hc : X.calm = true) : CallRK X (.builtin "min") [Str.ofString "default"] (rD_min X.K) := by
  intro pins s σ H vs zs us ws Q I r rz h
  obtain ⟨a, k, ns, d, rfl, rfl, hs, q⟩ := h
  rw [Vals.ref1 r]
  cases rz with
  | cons r1 r2 =>
    cases r2
    obtain ⟨t, rfl⟩ := r1
    exact mm_core_min (dv := .int d t) (d := d) hc I (.inr rfl) (fun _ => rfl) (fun _ => ⟨t, rfl⟩) hs q
end
end L2

set_option Elab.async false
set_option linter.all false
set_option maxRecDepth 100000
set_option maxHeartbeats 4000000
namespace SL
open PySem L2
section

set_option hygiene false
local macro_rules | `(tactic| walk_at "m") => `(tactic| first | exact List.Mem.head _ | (refine List.Mem.tail _ ?_; walk_at "m"))
local macro_rules | `(tactic| walk_at "u") => `(tactic| first | exact Upd.head | (apply Upd.tail; walk_at "u"))
local macro_rules | `(tactic| walk_at "tk") => `(tactic| first | exact Tak.head | (apply Tak.tail; walk_at "tk"))
local macro_rules | `(tactic| walk_at "l") => `(tactic| first | assumption | exact lS (St.fh (by assumption)) (by assumption) | exact SqL.of (St.get (by assumption) (by walk_at "m")))
local macro_rules | `(tactic| walk_at "t") => `(tactic| first | assumption | exact tS (St.fh (by assumption)) (by assumption) | exact SqT.of (St.get (by assumption) (by walk_at "m")))
local macro_rules | `(tactic| walk_at "lt") => `(tactic| first | exact .inl (by walk_at "l") | exact .inr (by walk_at "t"))
local macro_rules | `(tactic| walk_at "sz") => `(tactic| first | (show _ ≤ sizeLine; decide) | exact sz (by simp) | exact szl (by simp) | exact sz (by omega) | exact szl (by omega) | exact sz (by simp; omega) | exact szl (by simp; omega))
local macro_rules | `(tactic| walk_at "c") => `(tactic| first | assumption | decide | omega)
local macro_rules | `(tactic| walk_at "g1") => `(tactic| with_reducible first
  | refine w_seq ?_ | refine w_asg ?_ | refine w_c ?_ | refine w_op ?_
  | refine r_I0 ?_ | refine w_test ?_ | refine r_b ?_ | refine w_if ?_ | refine w_cons ?_ | refine w_nil ?_
  | refine w_ret ?_ | refine w_drop ?_ | refine w_cb ?_ | refine w_call ?_ | refine w_next ?_ | refine w_tup ?_ | refine w_lst ?_ | refine w_bm ?_ | refine w_bm0 ?_
  | refine w_and ?_ | refine w_or ?_ | refine w_not ?_ | refine w_andV ?_ | refine w_orV ?_ | refine w_notV ?_ | refine w_tB ?_ | refine w_un ?_ | refine r_U ?_
  | refine w_for ?_ | refine w_iL ?_ | refine w_iT ?_ | refine w_i1 ?_ | refine w_i2 ?_ | refine w_sl ?_ | refine w_part ?_ | refine w_nopart ?_ | refine r_part ?_
  | refine r_eqI ?_ | refine r_neI ?_ | refine r_eqS ?_ | refine r_neS ?_ | refine r_eqB ?_ | refine r_neB ?_ | refine r_ifT ?_ | refine r_ifF ?_ | refine r_ifNt ?_ | refine r_ifNf ?_ | refine r_ifRN ?_ | refine r_ifNRN ?_ | refine r_ifNN ?_ | refine r_ifNNN ?_
  | refine w_ifE ?_ | refine r_int1 ?_ | refine r_int1b ?_ | refine r_isnone ?_ | refine r_notnone ?_ | refine r_max2 ?_ | refine r_min2 ?_ | refine r_ipI ?_ | refine w_tru ?_ | refine w_rs ?_
  | refine w_retN ?_ | refine w_break ?_ | refine w_cont ?_ | refine w_callS ?_ | refine w_asgG ?_ | refine w_gsub ?_)
local macro_rules | `(tactic| walk_at "g2") => `(tactic| first
  | ((with_reducible refine' w_var ?hv ?_); (case hv => rfl)) | ((with_reducible refine' w_aug ?hv ?_); (case hv => rfl))
  | ((with_reducible show rLen _ _ _ _); refine r_len (by walk_at "lt") ?_)
  | (with_reducible refine r_I ?cnd ?_; (case cnd => first | decide | omega | assumption | (unfold CPow; decide)))
  | ((with_reducible show RTy _ _ _ _ _); refine r_tyL (by walk_at "l") ?_)
  | (with_reducible refine r_ifDT (by walk_at "c") ?_) | (with_reducible refine r_ifDF (by walk_at "c") ?_)
  | (with_reducible refine r_ifNT (by walk_at "c") ?_) | (with_reducible refine r_ifNF (by walk_at "c") ?_))
local macro_rules | `(tactic| walk_at "go") => `(tactic| repeat (first | walk_at "g1" | walk_at "g2"))

variable {n b c : L2.St → Hp → Prop} {r : VK} {σ : L2.St} {H H' : Hp} {Q : VK} {t : TS} {te ta tb : TE} {x y v : V} {K : PySem.W.Frag} {E : En} {F F' : Hp} {L L' L1 L2 : Led} {p a : Addr} {xs ys : List V} {ns ms : List Int} {k : Bool} {QB : Bool → Hp → Prop} {C dx : Addr} {fs : List (Str × V)} {f : Str} {o : HO}
/-! ## min and max -/
theorem r_maxB (hs : SqB K H a (iv ns) k) (hn : 0 < ns.length) (q : ∀ m, m ∈ ns → (∀ y ∈ ns, y ≤ m) → Q (.int m) H) : rB_max K [.ref a] H Q := ⟨a, k, ns, rfl, hs, hn, q⟩
theorem r_minB (hs : SqB K H a (iv ns) k) (hn : 0 < ns.length) (q : ∀ m, m ∈ ns → (∀ y ∈ ns, m ≤ y) → Q (.int m) H) : rB_min K [.ref a] H Q := ⟨a, k, ns, rfl, hs, hn, q⟩
theorem r_maxD {d : Int} (hs : SqB K H a (iv ns) k) (q : ∀ m, (ns = [] → m = d) → (ns ≠ [] → m ∈ ns ∧ ∀ y ∈ ns, y ≤ m) → Q (.int m) H) : rD_max K [.ref a] [.int d] H Q := ⟨a, k, ns, d, rfl, rfl, hs, q⟩
theorem r_minD {d : Int} (hs : SqB K H a (iv ns) k) (q : ∀ m, (ns = [] → m = d) → (ns ≠ [] → m ∈ ns ∧ ∀ y ∈ ns, m ≤ y) → Q (.int m) H) : rD_min K [.ref a] [.int d] H Q := ⟨a, k, ns, d, rfl, rfl, hs, q⟩
theorem w_ckw {R : List V → List V → Hp → VK → Prop} {tr tk : TA} (h : tr σ H fun vs H1 => tk σ H1 fun zs H2 => R vs zs H2 Q) : tCKw R tr tk σ H Q := h
/-! ## isinstance -/
theorem r_isi {a b : String} {r : Bool} (ty : TyX K H x (.type a)) (h : kitB a b = some r) (q : Q (.bl r) H) : rIsi K [x, .ty b] H Q := ⟨x, .ty b, .type a, .type b, r, rfl, .ty b, ty, kit_ty h, q⟩
theorem tyB (h : SqB K H a xs k) : TyX K H (.ref a) (.type (if k then "list" else "tuple")) := by
  cases k with
  | true =>
    rcases (show SqL K H a xs from h) with (h | ⟨o, h⟩) | ⟨o, its, n, e, c, _⟩
    · exact .base (.lst h)
    · exact .base (.frz h)
    · exact .kList e c
  | false =>
    rcases (show SqT K H a xs from h) with (h | ⟨o, h⟩) | ⟨o, its, n, e, c, _⟩
    · exact .base (.tup h)
    · exact .fTuple h
    · exact .kTuple e c
theorem r_isiT (h : SqT K H a xs) (q : Q (.bl true) H) : rIsi K [.ref a, .ty "tuple"] H Q := r_isi (tyB (k := false) h) (by decide +kernel) q
theorem r_isiL (h : SqL K H a xs) (q : Q (.bl true) H) : rIsi K [.ref a, .ty "list"] H Q := r_isi (tyB (k := true) h) (by decide +kernel) q
theorem r_isiI {i : Int} (q : Q (.bl true) H) : rIsi K [.int i, .ty "int"] H Q := r_isi (.base (.int i)) (by decide +kernel) q
theorem r_isiIb {i : Int} (q : Q (.bl false) H) : rIsi K [.int i, .ty "bool"] H Q := r_isi (.base (.int i)) (by decide +kernel) q
theorem r_isiB {i : Bool} (q : Q (.bl true) H) : rIsi K [.bl i, .ty "bool"] H Q := r_isi (.base (.bl i)) (by decide +kernel) q
theorem r_isin_ref (q : Q (.bl false) H) : rIsNone (.ref a) .non H Q := r_isnone (by rw [decide_eq_false (fun z => nomatch z)]; exact q)
theorem r_isin_non (q : Q (.bl true) H) : rIsNone .non .non H Q := r_isnone (by rw [decide_eq_true rfl]; exact q)
theorem r_notn_ref (q : Q (.bl true) H) : rNotNone (.ref a) .non H Q := r_notnone (by rw [decide_eq_false (fun z => nomatch z)]; exact q)
theorem r_notn_non (q : Q (.bl false) H) : rNotNone .non .non H Q := r_notnone (by rw [decide_eq_true rfl]; exact q)
/-! ## fields, instances -/
def RFld (K : PySem.W.Frag) (f : Str) (x : V) (H : Hp) (Q : VK) : Prop := ∃ a C dx fs v, x = .ref a ∧ H a = some (.ins C dx fs) ∧ Cls K C ∧ NoAttr K C f ∧ fs.lookup f = some v ∧ Q v H
theorem w_fld (h : te σ H fun x H1 => RFld K f x H1 Q) : tFld K te f σ H Q := h
theorem r_fld (h : H a = some (.ins C dx fs)) (c : Cls K C) (nf : NoAttr K C f) (e : fs.lookup f = some v) (q : Q v H) : RFld K f (.ref a) H Q := ⟨a, C, dx, fs, v, rfl, h, c, nf, e, q⟩
def RSFld (K : PySem.W.Frag) (f : Str) (x y : V) (H : Hp) (P : Hp → Prop) : Prop := ∃ a C dx fs, x = .ref a ∧ H a = some (.ins C dx fs) ∧ Cls K C ∧ NoAttr K C f ∧ fs.length < 1000 ∧ P (upd H a (.ins C dx (putF f y fs)))
theorem w_sfld (h : tb σ H fun y H1 => ta σ H1 fun x H2 => RSFld K f x y H2 (n σ)) : sFld K ta tb f ⟨n, r, b, c⟩ σ H := h
theorem r_sfld {P : Hp → Prop} {fs' : List (Str × V)} (G : St E F H L) (cl : Cls K C) (nf : NoAttr K C f) (u : Upd L a (.ins C dx fs) (.ins C dx fs') L') (e : putF f y fs = fs') (hl : fs.length < 1000) (q : ∀ H', St E F H' L' → P H') : RSFld K f (.ref a) y H P :=
  ⟨a, C, dx, fs, rfl, G.get u.mem, cl, nf, hl, by rw [e]; exact q _ (G.put u)⟩
def RMk (C : Addr) (sp : Sp) (vs : List V) (H : Hp) (Q : VK) (X : XK) : Prop := ∀ x dx, H x = none → H dx = none → dx ≠ x → sp (.ref x :: vs) (upd (upd H dx (.own x)) x (.ins C dx [])) (fun v H2 => v = .non ∧ Q (.ref x) H2) X
theorem w_mk {sp : Sp} {X : XK} {tr : TA} (h : tr σ H fun vs H1 => RMk C sp vs H1 Q X) : tMake C sp [] X tr σ H Q := by
  have e : ∀ vs H1, RMk C sp vs H1 Q X → RMk C sp (vs ++ []) H1 Q X := fun vs H1 h => by rw [List.append_nil]; exact h
  show tr σ H fun vs H1 => RMk C sp (vs ++ []) H1 Q X
  simpa only [List.append_nil] using h
theorem r_mk {sp : Sp} {X : XK} {vs : List V} (G : St E F H L) (q : ∀ x dx H', St E F H' ((x, .ins C dx []) :: (dx, .own x) :: L) → sp (.ref x :: vs) H' (fun v H2 => v = .non ∧ Q (.ref x) H2) X) : RMk C sp vs H Q X := by
  intro x dx hx hd ne
  have G1 := G.new (o := .own x) hd
  exact q x dx _ (G1.new (by rw [upd_ne (Ne.symm ne)]; exact hx))
/-! ## more of the ledger -/
theorem St.perm (G : St E F H L) (pm : L'.Perm L) : St E F H L' := ⟨G.bh, G.fh, G.ff, G.pr, fun x hx => G.own x (pm.mem_iff.mp hx), (pm.map _).nodup_iff.mpr G.nd⟩
theorem St.frzs : ∀ {L1 : Led} {F : Hp}, St E F H (L1 ++ L2) → ∃ F', Same F F' ∧ (∀ x ∈ L1, F' x.1 = some x.2) ∧ St E F' H L2
  | [], F, G => ⟨F, Same.refl _, (fun _ h => nomatch h), G⟩
  | (a, o) :: r, F, G => by
    obtain ⟨F1, s1, h1, G1⟩ := G.frz (L' := r ++ L2) Tak.head
    obtain ⟨F2, s2, h2, G2⟩ := St.frzs G1
    refine ⟨F2, s1.trans s2, fun x hx => ?_, G2⟩
    rcases List.mem_cons.mp hx with q | q
    · subst q; exact s2 _ _ h1
    · exact h2 x q
theorem Tak.perm (t : Tak L a o L') : ((a, o) :: L').Perm L := by
  induction t with
  | head => exact List.Perm.refl _
  | tail _ ih => exact (List.Perm.swap _ _ _).trans (List.Perm.cons _ ih)
theorem St.front (G : St E F H L) (t : Tak L a o L') : St E F H ((a, o) :: L') := G.perm t.perm
theorem St.toEnd {x : Addr × HO} (G : St E F H (x :: L)) : St E F H (L ++ [x]) := G.perm (List.perm_append_comm (l₂ := [x]))
theorem St.same (G : St E F H L) : Same E.H H := G.bh
/-! ## data -/
abbrev dI (ns : List Int) : List PyData := ns.map PyData.int
theorem dpa_iv : ∀ {ns : List Int}, DpAll K H (iv ns) (dI ns)
  | [] => .nil
  | _ :: _ => .cons (.int _) dpa_iv
theorem dp_ints (h : SqL K H a (iv ns)) : Dp K H (.ref a) (.list (dI ns)) := .lst h dpa_iv
theorem dpT_ints (h : SqT K H a (iv ns)) : Dp K H (.ref a) (.tuple (dI ns)) := .tup h dpa_iv
theorem dpa_map {α : Type} {g : α → V} {d : α → PyData} : ∀ {xs : List α}, (∀ x ∈ xs, Dp K H (g x) (d x)) → DpAll K H (xs.map g) (xs.map d)
  | [], _ => .nil
  | x :: xs, h => .cons (h x List.mem_cons_self) (dpa_map fun y hy => h y (List.mem_cons_of_mem _ hy))
theorem eqvAll_map {α : Type} [DecidableEq α] {d : α → PyData} (h : ∀ x y, PyData.eqv (d x) (d y) = decide (x = y)) : ∀ (xs ys : List α), PyData.eqvAll (xs.map d) (ys.map d) = decide (xs = ys)
  | [], [] => rfl
  | [], _ :: _ => by simp [PyData.eqvAll]
  | _ :: _, [] => by simp [PyData.eqvAll]
  | x :: xs, y :: ys => by
    rw [List.map_cons, List.map_cons, PyData.eqvAll, h, eqvAll_map h xs ys]
    by_cases e : x = y <;> by_cases e2 : xs = ys <;> simp [e, e2]
theorem eqv_int (i j : Int) : PyData.eqv (.int i) (.int j) = decide (i = j) := by simp [PyData.eqv, Bool.beq_eq_decide_eq]
theorem eqvAll_ints (xs ys : List Int) : PyData.eqvAll (dI xs) (dI ys) = decide (xs = ys) := eqvAll_map eqv_int xs ys
theorem eqv_list (xs ys : List PyData) : PyData.eqv (.list xs) (.list ys) = PyData.eqvAll xs ys := by rw [PyData.eqv]
theorem eqv_tuple (xs ys : List PyData) : PyData.eqv (.tuple xs) (.tuple ys) = PyData.eqvAll xs ys := by rw [PyData.eqv]
theorem eqvAll_nil : PyData.eqvAll [] [] = true := rfl
theorem eqvAll_cons (x y : PyData) (xs ys : List PyData) : PyData.eqvAll (x :: xs) (y :: ys) = (PyData.eqv x y && PyData.eqvAll xs ys) := by rw [PyData.eqvAll]
/-- laid and not deep -/
structure Shp (m : Nat) (d : PyData) : Prop where
  lay : d.canLay0 = true
  dep : d.depth ≤ m
theorem Shp.ok {m : Nat} {d : PyData} (h : Shp m d) (hm : m ≤ 64) : SeqAt.shaped d = true := by
  unfold SeqAt.shaped
  rw [h.lay, decide_eq_true (Nat.le_trans h.dep hm)]; rfl
theorem Shp.mono {m m' : Nat} {d : PyData} (h : Shp m d) (hm : m ≤ m') : Shp m' d := ⟨h.lay, Nat.le_trans h.dep hm⟩
theorem eqv_self {m : Nat} {d : PyData} (h : Shp m d) : PyData.eqv d d = true := PySem.SeqAt.eqv_refl d h.lay
theorem shp_int {i : Int} : Shp 0 (.int i) := ⟨rfl, Nat.le_refl _⟩
theorem shp_bool {i : Bool} : Shp 0 (.bool i) := ⟨rfl, Nat.le_refl _⟩
theorem shp_none : Shp 0 .none := ⟨rfl, Nat.le_refl _⟩
structure ShpA (m : Nat) (ds : List PyData) : Prop where
  lay : PyData.canLayAll0 ds = true
  dep : PyData.depthAll ds ≤ m
theorem shpa_nil {m : Nat} : ShpA m [] := ⟨rfl, Nat.zero_le _⟩
theorem shpa_cons {m : Nat} {d : PyData} {ds : List PyData} (h : Shp m d) (h2 : ShpA m ds) : ShpA m (d :: ds) := by
  refine ⟨?_, ?_⟩
  · rw [PyData.canLayAll0, h.lay, h2.lay]; rfl
  · rw [PyData.depthAll]; exact Nat.max_le.mpr ⟨h.dep, h2.dep⟩
theorem shpa_map {α : Type} {m : Nat} {d : α → PyData} : ∀ {xs : List α}, (∀ x ∈ xs, Shp m (d x)) → ShpA m (xs.map d)
  | [], _ => shpa_nil
  | x :: xs, h => shpa_cons (h x List.mem_cons_self) (shpa_map fun y hy => h y (List.mem_cons_of_mem _ hy))
theorem shp_list {m : Nat} {ds : List PyData} (h : ShpA m ds) : Shp (m + 1) (.list ds) := ⟨by rw [PyData.canLay0]; exact h.lay, by rw [PyData.depth]; exact Nat.succ_le_succ h.dep⟩
theorem shp_tuple {m : Nat} {ds : List PyData} (h : ShpA m ds) : Shp (m + 1) (.tuple ds) := ⟨by rw [PyData.canLay0]; exact h.lay, by rw [PyData.depth]; exact Nat.succ_le_succ h.dep⟩
theorem shpa_ints {m : Nat} : ShpA m (dI ns) := shpa_map fun _ _ => shp_int.mono (Nat.zero_le _)
theorem r_eqD {d e : PyData} {m m' : Nat} {k : Bool} (h1 : Dp K H x d) (h2 : Dp K H y e) (s1 : Shp m d) (s2 : Shp m' e) (hk : PyData.eqv d e = k) (q : Q (.bl k) H) (hm : m ≤ 64 := by decide) (hm' : m' ≤ 64 := by decide) : rEqD K x y H Q :=
  ⟨d, e, h1, h2, s1.ok hm, s2.ok hm', by rw [hk]; exact q⟩
theorem r_neD {d e : PyData} {m m' : Nat} {k : Bool} (h1 : Dp K H x d) (h2 : Dp K H y e) (s1 : Shp m d) (s2 : Shp m' e) (hk : PyData.eqv d e = k) (q : Q (.bl (!k)) H) (hm : m ≤ 64 := by decide) (hm' : m' ≤ 64 := by decide) : rNeD K x y H Q :=
  ⟨d, e, h1, h2, s1.ok hm, s2.ok hm', by rw [hk]; exact q⟩
theorem sIx_nat {n d k : Nat} : HT.sIx n d (some (k : Int)) = min k n := by
  unfold HT.sIx
  simp
  omega
theorem cut_from {k : Nat} : cutV xs (some (k : Int)) none = xs.drop k := by
  unfold cutV
  rw [sIx_nat, show HT.sIx xs.length xs.length none = xs.length from rfl]
  by_cases h : k ≤ xs.length
  · rw [Nat.min_eq_left h, List.take_of_length_le (by simp)]
  · rw [Nat.min_eq_right (by omega), List.drop_of_length_le (by omega), List.drop_of_length_le (by omega)]; simp
theorem cut_to {k : Nat} : cutV xs none (some (k : Int)) = xs.take k := by
  unfold cutV
  rw [sIx_nat, show HT.sIx xs.length 0 none = 0 from rfl, List.drop_zero, Nat.sub_zero]
  by_cases h : k ≤ xs.length
  · rw [Nat.min_eq_left h]
  · rw [Nat.min_eq_right (by omega), List.take_of_length_le (by omega), List.take_of_length_le (by omega)]
/-! ## rows: lists of lists of ints -/
inductive Rows (K : PySem.W.Frag) (H : Hp) (k : Bool) : List Addr → List (List Int) → Prop
  | nil : Rows K H k [] []
  | cons {a as ns rs} : SqB K H a (iv ns) k → Rows K H k as rs → Rows K H k (a :: as) (ns :: rs)
theorem Rows.len {as : List Addr} {rs : List (List Int)} (h : Rows K H k as rs) : as.length = rs.length := by
  induction h with
  | nil => rfl
  | cons _ _ ih => rw [List.length_cons, List.length_cons, ih]
theorem Rows.mono {as : List Addr} {rs : List (List Int)} (e : Same H H') (h : Rows K H k as rs) : Rows K H' k as rs := by
  induction h with
  | nil => exact .nil
  | cons h1 _ ih => exact .cons (qS e h1) ih
theorem Rows.at {as : List Addr} {rs : List (List Int)} (h : Rows K H k as rs) : ∀ {i : Nat} {a : Addr}, as[i]? = some a → ∃ ns, rs[i]? = some ns ∧ SqB K H a (iv ns) k := by
  induction h with
  | nil => intro i a e; simp at e
  | cons h1 _ ih =>
    intro i a e
    cases i with
    | zero => rw [List.getElem?_cons_zero] at e; cases e; exact ⟨_, rfl, h1⟩
    | succ i => exact ih (by simpa using e)
theorem Rows.snoc {as : List Addr} {rs : List (List Int)} (h : Rows K H k as rs) (h2 : SqB K H a (iv ns) k) : Rows K H k (as ++ [a]) (rs ++ [ns]) := by
  induction h with
  | nil => exact .cons h2 .nil
  | cons h1 _ ih => exact .cons h1 ih
theorem Rows.set {as : List Addr} {rs : List (List Int)} (h : Rows K H k as rs) (h2 : SqB K H a (iv ns) k) : ∀ {j : Nat}, Rows K H k (as.set j a) (rs.set j ns) := by
  induction h with
  | nil => intro j; exact .nil
  | cons h1 hr ih =>
    intro j
    cases j with
    | zero => exact .cons h2 hr
    | succ j => exact .cons h1 ih
abbrev dRow : Bool → List Int → PyData
  | true, ns => .list (dI ns)
  | false, ns => .tuple (dI ns)
theorem Rows.dp {as : List Addr} {rs : List (List Int)} (h : Rows K H k as rs) : DpAll K H (as.map V.ref) (rs.map (dRow k)) := by
  induction h with
  | nil => exact .nil
  | cons h1 _ ih =>
    refine .cons ?_ ih
    cases k with
    | true => exact dp_ints h1
    | false => exact dpT_ints h1
theorem eqv_row {k : Bool} (xs ys : List Int) : PyData.eqv (dRow k xs) (dRow k ys) = decide (xs = ys) := by
  cases k with
  | true => rw [dRow, dRow, eqv_list, eqvAll_ints]
  | false => rw [dRow, dRow, eqv_tuple, eqvAll_ints]
theorem shp_row {k : Bool} : Shp 1 (dRow k ns) := by
  cases k with
  | true => exact shp_list shpa_ints
  | false => exact shp_tuple shpa_ints
abbrev rv (as : List Addr) : List V := as.map V.ref
theorem rv_len {as : List Addr} : (rv as).length = as.length := List.length_map ..
theorem rv_get {as : List Addr} {i : Nat} {x : V} (h : (rv as)[i]? = some x) : ∃ z, as[i]? = some z ∧ x = .ref z := by
  rw [List.getElem?_map] at h
  cases e : as[i]? with
  | none => rw [e] at h; cases h
  | some z => rw [e] at h; exact ⟨z, rfl, (Option.some.inj h).symm⟩
end
end SL

set_option Elab.async false
set_option linter.all false
set_option maxRecDepth 100000
set_option maxHeartbeats 4000000
namespace SL
open PySem L2
section

set_option hygiene false
local macro_rules | `(tactic| walk_at "m") => `(tactic| first | exact List.Mem.head _ | (refine List.Mem.tail _ ?_; walk_at "m"))
local macro_rules | `(tactic| walk_at "u") => `(tactic| first | exact Upd.head | (apply Upd.tail; walk_at "u"))
local macro_rules | `(tactic| walk_at "tk") => `(tactic| first | exact Tak.head | (apply Tak.tail; walk_at "tk"))
local macro_rules | `(tactic| walk_at "l") => `(tactic| first | assumption | exact lS (St.fh (by assumption)) (by assumption) | exact SqL.of (St.get (by assumption) (by walk_at "m")))
local macro_rules | `(tactic| walk_at "t") => `(tactic| first | assumption | exact tS (St.fh (by assumption)) (by assumption) | exact SqT.of (St.get (by assumption) (by walk_at "m")))
local macro_rules | `(tactic| walk_at "lt") => `(tactic| first | exact .inl (by walk_at "l") | exact .inr (by walk_at "t"))
local macro_rules | `(tactic| walk_at "sz") => `(tactic| first | (show _ ≤ sizeLine; decide) | exact sz (by simp) | exact szl (by simp) | exact sz (by omega) | exact szl (by omega) | exact sz (by simp; omega) | exact szl (by simp; omega))
local macro_rules | `(tactic| walk_at "c") => `(tactic| first | assumption | decide | omega)
local macro_rules | `(tactic| walk_at "g1") => `(tactic| with_reducible first
  | refine w_seq ?_ | refine w_asg ?_ | refine w_c ?_ | refine w_op ?_
  | refine r_I0 ?_ | refine w_test ?_ | refine r_b ?_ | refine w_if ?_ | refine w_cons ?_ | refine w_nil ?_
  | refine w_ret ?_ | refine w_drop ?_ | refine w_cb ?_ | refine w_call ?_ | refine w_next ?_ | refine w_tup ?_ | refine w_lst ?_ | refine w_bm ?_ | refine w_bm0 ?_
  | refine w_and ?_ | refine w_or ?_ | refine w_not ?_ | refine w_andV ?_ | refine w_orV ?_ | refine w_notV ?_ | refine w_tB ?_ | refine w_un ?_ | refine r_U ?_
  | refine w_for ?_ | refine w_iL ?_ | refine w_iT ?_ | refine w_i1 ?_ | refine w_i2 ?_ | refine w_sl ?_ | refine w_part ?_ | refine w_nopart ?_ | refine r_part ?_
  | refine r_eqI ?_ | refine r_neI ?_ | refine r_eqS ?_ | refine r_neS ?_ | refine r_eqB ?_ | refine r_neB ?_ | refine r_ifT ?_ | refine r_ifF ?_ | refine r_ifNt ?_ | refine r_ifNf ?_ | refine r_ifRN ?_ | refine r_ifNRN ?_ | refine r_ifNN ?_ | refine r_ifNNN ?_
  | refine w_ifE ?_ | refine r_int1 ?_ | refine r_int1b ?_ | refine r_isnone ?_ | refine r_notnone ?_ | refine r_max2 ?_ | refine r_min2 ?_ | refine r_ipI ?_ | refine w_tru ?_ | refine w_rs ?_
  | refine w_retN ?_ | refine w_break ?_ | refine w_cont ?_ | refine w_callS ?_ | refine w_asgG ?_ | refine w_gsub ?_)
local macro_rules | `(tactic| walk_at "g2") => `(tactic| first
  | ((with_reducible refine' w_var ?hv ?_); (case hv => rfl)) | ((with_reducible refine' w_aug ?hv ?_); (case hv => rfl))
  | ((with_reducible show rLen _ _ _ _); refine r_len (by walk_at "lt") ?_)
  | (with_reducible refine r_I ?cnd ?_; (case cnd => first | decide | omega | assumption | (unfold CPow; decide)))
  | ((with_reducible show RTy _ _ _ _ _); refine r_tyL (by walk_at "l") ?_)
  | (with_reducible refine r_ifDT (by walk_at "c") ?_) | (with_reducible refine r_ifDF (by walk_at "c") ?_)
  | (with_reducible refine r_ifNT (by walk_at "c") ?_) | (with_reducible refine r_ifNF (by walk_at "c") ?_))
local macro_rules | `(tactic| walk_at "go") => `(tactic| repeat (first | walk_at "g1" | walk_at "g2"))

variable {n b c : L2.St → Hp → Prop} {r : VK} {σ : L2.St} {H H' : Hp} {Q : VK} {t : TS} {te ta tb : TE} {x y v : V} {K : PySem.W.Frag} {E : En} {F F' : Hp} {L L' L1 L2 : Led} {p a : Addr} {xs ys : List V} {ns ms : List Int} {k : Bool} {o o' : HO}
/-! ## the law's promise, calls that hand back what they made -/
def spL (K : PySem.W.Frag) : Sp := fun vs H Q E => ∃ (a : Addr) (ns : List Int), vs = [.ref a] ∧ (SqL K H a (iv ns) ∧ ns.length ≤ 63 ∧ ∀ H', Q (.bl true) H')
structure Own (H H' : Hp) (L : Led) : Prop where
  hh : Same H H'
  own : ∀ x ∈ L, H' x.1 = some x.2 ∧ H x.1 = none
  nd : (L.map (·.1)).Nodup
structure OwnB (p : Addr) (H H' : Hp) (o' : HO) (L : Led) : Prop where
  hh : SameB p H H'
  hp : H' p = some o'
  own : ∀ x ∈ L, H' x.1 = some x.2 ∧ H x.1 = none
  nd : (L.map (·.1)).Nodup
theorem nd_app {L1 L2 : Led} (h1 : (L1.map (·.1)).Nodup) (h2 : (L2.map (·.1)).Nodup) (h : ∀ x ∈ L1, ∀ y ∈ L2, x.1 ≠ y.1) : ((L1 ++ L2).map (·.1)).Nodup := by
  rw [List.map_append, List.nodup_append]
  refine ⟨h1, h2, fun a ha b hb => ?_⟩
  obtain ⟨x, hx, rfl⟩ := List.mem_map.mp ha
  obtain ⟨y, hy, rfl⟩ := List.mem_map.mp hb
  exact h x hx y hy
theorem St.addL (G : St E F H L) (w : Own H H' L1) : St E F H' (L1 ++ L) := by
  have G1 := G.grow w.hh
  refine ⟨G1.bh, G1.fh, G1.ff, G1.pr, fun x hx => ?_, nd_app w.nd G.nd fun x hx y hy e => ?_⟩
  · rcases List.mem_append.mp hx with q | q
    · obtain ⟨h1, h2⟩ := w.own x q
      exact ⟨h1, free_of G.fh h2, free_of G.bh h2⟩
    · exact G1.own x q
  · have h1 := (w.own x hx).2
    rw [e, (G.own y hy).1] at h1
    cases h1
theorem St.addLB (G : St E F H L) (u : Upd L p o o' L') (w : OwnB p H H' o' L1) : St E F H' (L1 ++ L') := by
  have G1 := G.putB u w.hh w.hp
  refine ⟨G1.bh, G1.fh, G1.ff, G1.pr, fun x hx => ?_, nd_app w.nd G1.nd fun x hx y hy e => ?_⟩
  · rcases List.mem_append.mp hx with q | q
    · obtain ⟨h1, h2⟩ := w.own x q
      exact ⟨h1, free_of G.fh h2, free_of G.bh h2⟩
    · exact G1.own x q
  · have h1 := (w.own x hx).2
    have : y.1 ∈ L.map (·.1) := by rw [← u.fst]; exact List.mem_map.mpr ⟨y, hy, rfl⟩
    obtain ⟨z, hz, q⟩ := List.mem_map.mp this
    have q' : z.1 = y.1 := q
    rw [e, ← q', (G.own z hz).1] at h1
    cases h1
theorem St.toOwn (G : St ⟨F, H⟩ F' H' L) : Own H H' L := ⟨G.bh, fun x hx => ⟨(G.own x hx).1, (G.own x hx).2.2⟩, G.nd⟩
theorem St.toOwnB (G : St ⟨F, del H p⟩ F' H' ((p, o') :: L)) : OwnB p H H' o' L := by
  have hn := G.nd
  rw [List.map_cons, List.nodup_cons] at hn
  refine ⟨fun b u h e => G.bh b u (by rw [show (En.mk F (del H p)).H = del H p from rfl, del_ne h]; exact e), G.get List.mem_cons_self, fun x hx => ?_, hn.2⟩
  obtain ⟨h1, _, h3⟩ := G.own x (List.mem_cons_of_mem _ hx)
  have ne : x.1 ≠ p := fun e => hn.1 (List.mem_map.mpr ⟨x, hx, e⟩)
  exact ⟨h1, by rw [show (En.mk F (del H p)).H = del H p from rfl, del_ne ne] at h3; exact h3⟩
theorem St.same1 (G : St ⟨F, del H p⟩ F' H' L) (m : (p, o) ∈ L) (h : H p = some o) : Same H H' := fun b u e => by
  by_cases c : b = p
  · subst c; rw [h] at e; cases e; exact G.get m
  · exact G.bh b u (by rw [show (En.mk F (del H p)).H = del H p from rfl, del_ne c]; exact e)
/-- an instance is no list and no tuple -/
theorem sq_del {C dx : Addr} {fs : List (Str × V)} (h : H p = some (.ins C dx fs)) (s : SqB K H a xs k) : SqB K (del H p) a xs k := by
  cases k with
  | true =>
    rcases s with (s | ⟨z, s⟩) | s
    · exact .inl (.inl (by rw [del_ne (ne_of s h (fun z => nomatch z))]; exact s))
    · exact .inl (.inr ⟨z, by rw [del_ne (ne_of s h (fun z => nomatch z))]; exact s⟩)
    · exact .inr s
  | false =>
    rcases s with (s | ⟨z, s⟩) | s
    · exact .inl (.inl (by rw [del_ne (ne_of s h (fun z => nomatch z))]; exact s))
    · exact .inl (.inr ⟨z, by rw [del_ne (ne_of s h (fun z => nomatch z))]; exact s⟩)
    · exact .inr s
theorem Rows.del {C dx : Addr} {fs : List (Str × V)} {as : List Addr} {rs : List (List Int)} (h : H p = some (.ins C dx fs)) (s : Rows K H k as rs) : Rows K (del H p) k as rs := by
  induction s with
  | nil => exact .nil
  | cons h1 _ ih => exact .cons (sq_del h h1) ih
/-! ## rows that are owned -/
def rowL : List Addr → List (List Int) → Led
  | a :: as, r :: rs => (a, .lst (iv r)) :: rowL as rs
  | _, _ => []
theorem rowL_rows {as : List Addr} {rs : List (List Int)} (hl : as.length = rs.length) (h : ∀ x ∈ rowL as rs, H x.1 = some x.2) : Rows K H true as rs := by
  induction as generalizing rs with
  | nil => cases rs with
    | nil => exact .nil
    | cons _ _ => cases hl
  | cons a as ih => cases rs with
    | nil => cases hl
    | cons r rs => exact .cons (show SqL K H a (iv r) from SqL.of (h _ List.mem_cons_self)) (ih (by simpa using hl) fun x hx => h x (List.mem_cons_of_mem _ hx))
theorem rowL_upd : ∀ {as : List Addr} {rs : List (List Int)} {j : Nat} {a : Addr} {r r' : List Int}, as[j]? = some a → rs[j]? = some r → Upd (rowL as rs) a (.lst (iv r)) (.lst (iv r')) (rowL as (rs.set j r'))
  | [], _, _, _, _, _, h, _ => by simp at h
  | _ :: _, [], _, _, _, _, _, h => by simp at h
  | a :: as, r :: rs, 0, a', r0, r', h1, h2 => by
    simp at h1 h2
    subst h1 h2
    exact .head
  | a :: as, r :: rs, j + 1, a', r0, r', h1, h2 => .tail (rowL_upd (by simpa using h1) (by simpa using h2))
theorem rowL_snoc : ∀ {as : List Addr} {rs : List (List Int)} {a : Addr} {r : List Int}, as.length = rs.length → rowL (as ++ [a]) (rs ++ [r]) = rowL as rs ++ [(a, .lst (iv r))]
  | [], [], _, _, _ => rfl
  | [], _ :: _, _, _, h => by cases h
  | _ :: _, [], _, _, h => by cases h
  | x :: as, y :: rs, a, r, h => by
    show (x, HO.lst (iv y)) :: rowL (as ++ [a]) (rs ++ [r]) = (x, HO.lst (iv y)) :: (rowL as rs ++ [(a, .lst (iv r))])
    rw [rowL_snoc (by simpa using h)]
theorem Upd.app {L0 : Led} (u : Upd L a o o' L') : Upd (L0 ++ L) a o o' (L0 ++ L') := by
  induction L0 with
  | nil => exact u
  | cons x r ih => exact .tail ih
theorem Upd.appL {L0 : Led} (u : Upd L a o o' L') : Upd (L ++ L0) a o o' (L' ++ L0) := by
  induction u with
  | head => exact .head
  | tail _ ih => exact .tail ih
/-! ## integers in a tuple -/
def cp_is_integer (K : PySem.W.Frag) : Sp := fun vs H Q E => ∃ (i : Int), vs = [.int i] ∧ (Q (.bl true) H)
theorem u_isint {K : PySem.W.Frag} {i : Int} {H : Hp} {Q : VK} {X : XK} (q : Q (.bl true) H) : cp_is_integer K [.int i] H Q X := ⟨i, rfl, q⟩
def ct_is_integer (K : PySem.W.Frag) : TS := (tRet (tAndV (tCB (rIsi K) (tCons (tVar 0) (tCons (tC (.ty "int")) tNil))) (tNotV (tCB (rIsi K) (tCons (tVar 0) (tCons (tC (.ty "bool")) tNil))))))
theorem cv_is_integer {K : PySem.W.Frag} {vs : List V} {H : Hp} {Q : VK} {E : XK} (h : cp_is_integer K vs H Q E) : ct_is_integer K (D0 Q) (start ["actual"] vs) H := by
  obtain ⟨i, rfl, q⟩ := h
  unfold ct_is_integer
  show tRet _ (D0 Q) [some (.int i)] H
  unfold D0
  walk_at "go"
  refine r_isiI ?_
  walk_at "go"
  refine r_isiIb ?_
  walk_at "go"
  exact q
def cp_integers (K : PySem.W.Frag) : Sp := fun vs H Q E => ∃ (a : Addr) (ns : List Int) (lo hi : Int), vs = [.ref a, .int lo, .int hi] ∧ (SqT K H a (iv ns) ∧ ((∀ z ∈ ns, lo ≤ z ∧ z < hi) → Q (.bl true) H) ∧ (¬ (∀ z ∈ ns, lo ≤ z ∧ z < hi) → Q (.bl false) H))
def ct_integers (K : PySem.W.Frag) : TS := (tSeq (tIfS (tNot (tB (tCB (rIsi K) (tCons (tVar 0) (tCons (tC (.ty "tuple")) tNil))))) (tRet (tC (.bl false))) tNext)
 (tSeq (tFor (iTup K (tVar 0)) (gName 3) (tIfS (tOr (tNot (tB (tCall (cp_is_integer K) [] E0 (tCons (tVar 3) tNil)))) (tOr (tTest (tOp rLtI (tVar 3) (tVar 1))) (tTest (tOp rGeI (tVar 3) (tVar 2))))) (tRet (tC (.bl false))) tNext))
 (tRet (tC (.bl true)))))
theorem cv_integers {K : PySem.W.Frag} {vs : List V} {H : Hp} {Q : VK} {E : XK} (h : cp_integers K vs H Q E) : ct_integers K (D0 Q) (start ["actual", "low", "high", "item"] vs) H := by
  obtain ⟨a, ns, lo, hi, rfl, ha, q1, q2⟩ := h
  unfold ct_integers
  show tSeq _ _ (D0 Q) [some (.ref a), some (.int lo), some (.int hi), none] H
  unfold D0
  walk_at "go"
  refine r_isiT ha ?_
  walk_at "go"
  refine r_it ha ?_
  refine r_forT (xs := iv ns) (fun i σ H' => H' = H ∧ (∃ v, σ = [some (.ref a), some (.int lo), some (.int hi), v]) ∧ ∀ z ∈ ns.take i, lo ≤ z ∧ z < hi) ⟨rfl, ⟨_, rfl⟩, (fun _ h => by simp at h)⟩ (fun _ _ _ _ h => h.1 ▸ ha) ?_ ?_
  · rintro i x σ H' hi' ⟨rfl, ⟨v, rfl⟩, hz⟩
    obtain ⟨z, hz1, rfl⟩ := iv_get hi'
    walk_at "go"
    refine u_isint ?_
    walk_at "go"
    have hm : z ∈ ns := List.mem_of_getElem? hz1
    refine r_ifD (fun h => ?_) (fun h => ?_)
    · walk_at "go"
      exact q2 fun w => absurd (w z hm).1 (by omega)
    · walk_at "go"
      refine r_ifD (fun h2 => ?_) (fun h2 => ?_)
      · walk_at "go"
        exact q2 fun w => absurd (w z hm).2 (by omega)
      · walk_at "go"
        refine ⟨rfl, ⟨_, rfl⟩, fun y hy => ?_⟩
        rw [take_snoc hz1] at hy
        rcases List.mem_append.mp hy with q | q
        · exact hz y q
        · rw [List.mem_singleton.mp q]; omega
  · rintro σ H' ⟨rfl, ⟨v, rfl⟩, hz⟩
    walk_at "go"
    refine q1 fun z hz' => hz z ?_
    rw [iv_len, List.take_length]; exact hz'
end
end SL

set_option Elab.async false
set_option linter.all false
set_option maxRecDepth 100000
set_option maxHeartbeats 4000000
namespace LW
open PySem L2 SL
structure Pok (m st : Int) (ps : List Int) (rs : List (List Int)) : Prop where
  m1 : 1 ≤ m
  ne : 0 < rs.length
  pl : ps.length = rs.length
  s0 : 0 ≤ st
  s1 : st < rs.length
  pp : ∀ p ∈ ps, 0 ≤ p
  rr : ∀ r ∈ rs, (r.length : Int) = m ∧ ∀ x ∈ r, 0 ≤ x ∧ x < rs.length
def paF (m st : Int) (pa ra : Addr) : List (Str × V) := [("letters", .int m), ("start", .int st), ("priorities", .ref pa), ("rows", .ref ra)]
structure PaAt (K : PySem.W.Frag) (C : Addr) (F : Hp) (x : Addr) (m st : Int) (ps : List Int) (rs : List (List Int)) : Prop where
  ex : ∃ dx pa ra as, F x = some (.ins C dx (paF m st pa ra)) ∧ SqT K F pa (iv ps) ∧ SqT K F ra (rv as) ∧ Rows K F false as rs
abbrev dFields (m st : Int) (ps : List Int) (rs : List (List Int)) : PyData := .tuple [.int m, .int st, .list (dI ps), .list (rs.map (dRow true))]

structure Ads where
  a_ParityAutomaton_init : Addr
  fd_ParityAutomaton_init : FuncData
  a_complement_parity : Addr
  fd_complement_parity : FuncData
  a__law_draws : Addr
  fd__law_draws : FuncData
  a__law_take : Addr
  fd__law_take : FuncData
  a__law_is_integer : Addr
  fd__law_is_integer : FuncData
  a__law_integers : Addr
  fd__law_integers : FuncData
  a__law_flat : Addr
  fd__law_flat : FuncData
  a__law_parity : Addr
  fd__law_parity : FuncData
  a__law_is_parity : Addr
  fd__law_is_parity : FuncData
  a__law_outcome : Addr
  fd__law_outcome : FuncData
  a__law_fields : Addr
  fd__law_fields : FuncData
  a_law : Addr
  fd_law : FuncData
  C_SynthError : Addr
  C_InvalidAutomaton : Addr
  C_ParityAutomaton : Addr
structure Cl (K : PySem.W.Frag) (A : Ads) : Prop where
  cl_ParityAutomaton : Cls K A.C_ParityAutomaton
  na_ParityAutomaton_letters : NoAttr K A.C_ParityAutomaton "letters"
  na_ParityAutomaton_start : NoAttr K A.C_ParityAutomaton "start"
  na_ParityAutomaton_priorities : NoAttr K A.C_ParityAutomaton "priorities"
  na_ParityAutomaton_rows : NoAttr K A.C_ParityAutomaton "rows"
  ty_ParityAutomaton : ∀ {H : Hp} {a dx : Addr} {fs : List (Str × V)}, H a = some (.ins A.C_ParityAutomaton dx fs) → TyX K H (.ref a) (.ref A.C_ParityAutomaton)
  em_InvalidAutomaton_InvalidAutomaton : PySem.W.exmOne K (.ref A.C_InvalidAutomaton) (.ref A.C_InvalidAutomaton) = some true
def sp_ParityAutomaton_init (K : PySem.W.Frag) (A : Ads) : Sp := fun vs H Q E => ∃ (F : Hp) (x dx a b : Addr) (kr ki : Bool) (as : List Addr) (m st : Int) (ps : List Int) (rs : List (List Int)), vs = [.ref x, .int m, .int st, .ref a, .ref b] ∧ (Same F H ∧ F x = none ∧ H x = some (.ins A.C_ParityAutomaton dx []) ∧ SqL K H a (iv ps) ∧ SqB K H b (rv as) kr ∧ Rows K H ki as rs ∧ (ki = false → Rows K F ki as rs) ∧ ps.length ≤ 1000 ∧ rs.length ≤ 1000 ∧ (Pok m st ps rs → ∀ F' H' pa ra as', GrB x F H F' H' → H' x = some (.ins A.C_ParityAutomaton dx (paF m st pa ra)) → F' pa = some (.tup (iv ps)) → F' ra = some (.tup (rv as')) → Rows K F' false as' rs → Q .non H') ∧ (¬ Pok m st ps rs → ∀ H', Same H H' → E (.ref A.C_InvalidAutomaton) none H'))
def sp_complement_parity (K : PySem.W.Frag) (A : Ads) : Sp := fun vs H Q E => ∃ (F : Hp) (x : Addr) (m st : Int) (ps : List Int) (rs : List (List Int)), vs = [.ref x] ∧ (Same F H ∧ PaAt K A.C_ParityAutomaton F x m st ps rs ∧ Pok m st ps rs ∧ ps.length ≤ 1000 ∧ rs.length ≤ 1000 ∧ ∀ F' H' y, Gr F H F' H' → PaAt K A.C_ParityAutomaton F' y m st (ps.map (· + 1)) rs → Q (.ref y) H')
abbrev sp__law_draws (K : PySem.W.Frag) (A : Ads) : Sp := cp_draws K
abbrev sp__law_take (K : PySem.W.Frag) (A : Ads) : Sp := cp_take K
abbrev sp__law_is_integer (K : PySem.W.Frag) (A : Ads) : Sp := cp_is_integer K
abbrev sp__law_integers (K : PySem.W.Frag) (A : Ads) : Sp := cp_integers K
def sp__law_flat (K : PySem.W.Frag) (A : Ads) : Sp := fun vs H Q E => ∃ (a : Addr) (as : List Addr) (rs : List (List Int)), vs = [.ref a] ∧ (SqL K H a (rv as) ∧ Rows K H true as rs ∧ rs.length ≤ 1000 ∧ ∀ H' b bs, bs.length = rs.length → Own H H' ((b, .lst (rv bs)) :: rowL bs rs) → Q (.ref b) H')
def sp__law_parity (K : PySem.W.Frag) (A : Ads) : Sp := fun vs H Q E => ∃ (p : Addr) (ds : List Int) (m mo : Int), vs = [.ref p, .int m, .int mo] ∧ (H p = some (.lst (iv ds)) ∧ Dok ds ∧ 1 ≤ m ∧ m ≤ 10 ∧ 1 ≤ mo ∧ mo ≤ 10 ∧ ∀ H' ds' t a b bs st ps rs, Dok ds' → Pok m st ps rs → (rs.length : Int) ≤ mo → bs.length = rs.length → OwnB p H H' (.lst (iv ds')) ((t, .tup [.int st, .ref a, .ref b]) :: (b, .lst (rv bs)) :: (a, .lst (iv ps)) :: rowL bs rs) → Q (.ref t) H')
def sp__law_is_parity (K : PySem.W.Frag) (A : Ads) : Sp := fun vs H Q E => ∃ (x : Addr) (m st : Int) (ps : List Int) (rs : List (List Int)), vs = [.ref x, .int m] ∧ (PaAt K A.C_ParityAutomaton H x m st ps rs ∧ Pok m st ps rs ∧ ps.length ≤ 1000 ∧ rs.length ≤ 1000 ∧ Q (.bl true) H)
def sp__law_outcome (K : PySem.W.Frag) (A : Ads) : Sp := fun vs H Q E => ∃ (F : Hp) (a b : Addr) (as : List Addr) (m st : Int) (ps : List Int) (rs : List (List Int)), vs = [.int m, .int st, .ref a, .ref b] ∧ (Same F H ∧ SqL K H a (iv ps) ∧ SqL K H b (rv as) ∧ Rows K H true as rs ∧ ps.length ≤ 1000 ∧ rs.length ≤ 1000 ∧ (Pok m st ps rs → ∀ F' H' y, Gr F H F' H' → PaAt K A.C_ParityAutomaton F' y m st ps rs → Q (.ref y) H') ∧ (¬ Pok m st ps rs → ∀ H', Same H H' → Q .non H'))
def sp__law_fields (K : PySem.W.Frag) (A : Ads) : Sp := fun vs H Q E => ∃ (x : Addr) (m st : Int) (ps : List Int) (rs : List (List Int)), vs = [.ref x] ∧ (PaAt K A.C_ParityAutomaton H x m st ps rs ∧ ps.length ≤ 1000 ∧ rs.length ≤ 1000 ∧ ∀ v H', Same H H' → Dp K H' v (dFields m st ps rs) → Q v H')
abbrev sp_law (K : PySem.W.Frag) (A : Ads) : Sp := spL K
def t_ParityAutomaton_init (K : PySem.W.Frag) (A : Ads) (E : XK) : TS := (tSeq (tIfS (tOr (tTest (tOp rLtI (tVar 1) (tC (.int (1))))) (tOr (tTest (tOp rEq (tCB (rLen K) (tCons (tVar 4) tNil)) (tC (.int (0))))) (tTest (tOp rNe (tCB (rLen K) (tCons (tVar 3) tNil)) (tCB (rLen K) (tCons (tVar 4) tNil)))))) (tRs A.C_InvalidAutomaton E) tNext)
 (tSeq (tIfS (tOr (tTest (tOp rLtI (tVar 2) (tC (.int (0))))) (tOr (tTest (tOp rGeI (tVar 2) (tCB (rLen K) (tCons (tVar 4) tNil)))) (tTest (tOp rLtI (tCB (rB_min K) (tCons (tVar 3) tNil)) (tC (.int (0))))))) (tRs A.C_InvalidAutomaton E) tNext)
 (tSeq (tFor (iSeq K (tVar 4)) (gName 5) (tIfS (tOr (tTest (tOp rNe (tCB (rLen K) (tCons (tVar 5) tNil)) (tVar 1))) (tOr (tTest (tOp rLtI (tCB (rB_min K) (tCons (tVar 5) tNil)) (tC (.int (0))))) (tTest (tOp rGeI (tCB (rB_max K) (tCons (tVar 5) tNil)) (tCB (rLen K) (tCons (tVar 4) tNil)))))) (tRs A.C_InvalidAutomaton E) tNext))
 (tSeq (sFld K (tVar 0) (tVar 1) "letters")
 (tSeq (sFld K (tVar 0) (tVar 2) "start")
 (tSeq (sFld K (tVar 0) (tCB (rTupOf K) (tCons (tVar 3) tNil)) "priorities")
 (sFld K (tVar 0) (tCB (rTupOf K) (tCons (tLc (iSeq K (tVar 4)) (gName 5) tYes (tCB (rTupOf K) (tCons (tVar 5) tNil)) [5]) tNil)) "rows")))))))
def t_complement_parity (K : PySem.W.Frag) (A : Ads) (E : XK) : TS := (tSeq (tAsg (tLc (iTup K (tFld K (tVar 0) "priorities")) (gName 1) tYes (tOp rAddI (tVar 1) (tC (.int (1)))) [1]) (gName 2))
 (tRet (tMake A.C_ParityAutomaton (sp_ParityAutomaton_init K A) [] E0 (tCons (tFld K (tVar 0) "letters") (tCons (tFld K (tVar 0) "start") (tCons (tVar 2) (tCons (tFld K (tVar 0) "rows") tNil)))))))
def t__law_draws (K : PySem.W.Frag) (A : Ads) (E : XK) : TS := (tSeq (tAsg (tCB (rListOf K) (tCons (tVar 0) tNil)) (gName 2))
 (tSeq (tIfS (tTest (tOp rEq (tCB (rLen K) (tCons (tVar 2) tNil)) (tC (.int (0))))) (tAsg (tLst (tCons (tC (.int (7))) tNil)) (gName 2)) tNext)
 (tSeq (tAsg (tLst tNil) (gName 3))
 (tSeq (tAsg (tC (.int (12345))) (gName 4))
 (tSeq (tFor (iRng1 (tCons (tVar 1) tNil)) (gName 5) (tSeq (tAsg (tOp rModI (tVar 5) (tCB (rLen K) (tCons (tVar 2) tNil))) (gName 6))
 (tSeq (tAsg (tOp (rIxL K) (tVar 2) (tVar 6)) (gName 7))
 (tSeq (tAsg (tOp rModI (tCB rInt1 (tCons (tOp rAddI (tOp rAddI (tOp rAddI (tOp rMulI (tVar 4) (tC (.int (48271)))) (tOp rMulI (tOp rModI (tCB rInt1 (tCons (tVar 7) tNil)) (tC (.int (1000003)))) (tC (.int (69621))))) (tOp rMulI (tVar 5) (tC (.int (7919))))) (tC (.int (11)))) tNil)) (tC (.int (2147483647)))) (gName 4))
 (tSeq (tAsg (tOp rModI (tCB rInt1 (tCons (tOp rAddI (tOp rAddI (tOp rMulI (tVar 4) (tVar 4)) (tOp rMulI (tC (.int (31))) (tVar 4))) (tVar 5)) tNil)) (tC (.int (1000003)))) (gName 8))
 (tIfS (tTest (tOp rGeI (tVar 7) (tOp rPowI (tC (.int (10))) (tC (.int (18)))))) (tSeq (tDrop (tBM K "list" rAppend (tVar 3) (tCons (tOp rModI (tCB rInt1 (tCons (tVar 7) tNil)) (tC (.int (1000)))) tNil)))
 (tAsg (tOp rDivI (tVar 7) (tC (.int (1000)))) (gSub (tVar 2) (tVar 6) rSetL))) (tDrop (tBM K "list" rAppend (tVar 3) (tCons (tOp rModI (tCB rInt1 (tCons (tVar 8) tNil)) (tC (.int (1000)))) tNil)))))))))
 (tSeq (tDrop (tBM0 K "list" rReverse (tVar 3)))
 (tRet (tVar 3))))))))
def t__law_take (K : PySem.W.Frag) (A : Ads) (E : XK) : TS := (tSeq (tIfS (tTest (tOp rEq (tCB (rLen K) (tCons (tVar 0) tNil)) (tC (.int (0))))) (tRet (tC (.int (0)))) tNext)
 (tRet (tOp rModI (tCB rInt1 (tCons (tBM0 K "list" rPop (tVar 0)) tNil)) (tVar 1))))
def t__law_is_integer (K : PySem.W.Frag) (A : Ads) (E : XK) : TS := (tRet (tAndV (tCB (rIsi K) (tCons (tVar 0) (tCons (tC (.ty "int")) tNil))) (tNotV (tCB (rIsi K) (tCons (tVar 0) (tCons (tC (.ty "bool")) tNil))))))
def t__law_integers (K : PySem.W.Frag) (A : Ads) (E : XK) : TS := (tSeq (tIfS (tNot (tB (tCB (rIsi K) (tCons (tVar 0) (tCons (tC (.ty "tuple")) tNil))))) (tRet (tC (.bl false))) tNext)
 (tSeq (tFor (iTup K (tVar 0)) (gName 3) (tIfS (tOr (tNot (tB (tCall (sp__law_is_integer K A) [] E0 (tCons (tVar 3) tNil)))) (tOr (tTest (tOp rLtI (tVar 3) (tVar 1))) (tTest (tOp rGeI (tVar 3) (tVar 2))))) (tRet (tC (.bl false))) tNext))
 (tRet (tC (.bl true)))))
def t__law_flat (K : PySem.W.Frag) (A : Ads) (E : XK) : TS := (tRet (tLc (iList K (tVar 0)) (gName 1) tYes (tCB (rListOf K) (tCons (tVar 1) tNil)) [1]))
def t__law_parity (K : PySem.W.Frag) (A : Ads) (E : XK) : TS := (tSeq (tAsg (tOp rAddI (tC (.int (1))) (tCall (sp__law_take K A) [] E0 (tCons (tVar 0) (tCons (tVar 2) tNil)))) (gName 3))
 (tSeq (tAsg (tOp rAddI (tC (.int (1))) (tCall (sp__law_take K A) [] E0 (tCons (tVar 0) (tCons (tC (.int (4))) tNil)))) (gName 4))
 (tSeq (tAsg (tLc (iRng1 (tCons (tVar 3) tNil)) (gName 5) tYes (tCall (sp__law_take K A) [] E0 (tCons (tVar 0) (tCons (tVar 4) tNil))) [5]) (gName 6))
 (tSeq (tAsg (tLst tNil) (gName 7))
 (tSeq (tFor (iRng1 (tCons (tVar 3) tNil)) (gName 5) (tDrop (tBM K "list" rAppend (tVar 7) (tCons (tLc (iRng1 (tCons (tVar 1) tNil)) (gName 8) tYes (tCall (sp__law_take K A) [] E0 (tCons (tVar 0) (tCons (tVar 3) tNil))) [8]) tNil))))
 (tRet (tTup (tCons (tCall (sp__law_take K A) [] E0 (tCons (tVar 0) (tCons (tVar 3) tNil))) (tCons (tVar 6) (tCons (tVar 7) tNil))))))))))
def t__law_is_parity (K : PySem.W.Frag) (A : Ads) (E : XK) : TS := (tSeq (tIfS (tOr (tNot (tB (tCall (sp__law_is_integer K A) [] E0 (tCons (tFld K (tVar 0) "letters") tNil)))) (tTest (tOp rNe (tFld K (tVar 0) "letters") (tVar 1)))) (tRet (tC (.bl false))) tNext)
 (tSeq (tIfS (tOr (tNot (tB (tCB (rIsi K) (tCons (tFld K (tVar 0) "rows") (tCons (tC (.ty "tuple")) tNil))))) (tTest (tOp rEq (tCB (rLen K) (tCons (tFld K (tVar 0) "rows") tNil)) (tC (.int (0)))))) (tRet (tC (.bl false))) tNext)
 (tSeq (tAsg (tCB (rLen K) (tCons (tFld K (tVar 0) "rows") tNil)) (gName 2))
 (tSeq (tIfS (tOr (tNot (tB (tCall (sp__law_is_integer K A) [] E0 (tCons (tFld K (tVar 0) "start") tNil)))) (tOr (tTest (tOp rLtI (tFld K (tVar 0) "start") (tC (.int (0))))) (tTest (tOp rGeI (tFld K (tVar 0) "start") (tVar 2))))) (tRet (tC (.bl false))) tNext)
 (tSeq (tIfS (tOr (tNot (tB (tCB (rIsi K) (tCons (tFld K (tVar 0) "priorities") (tCons (tC (.ty "tuple")) tNil))))) (tTest (tOp rNe (tCB (rLen K) (tCons (tFld K (tVar 0) "priorities") tNil)) (tVar 2)))) (tRet (tC (.bl false))) tNext)
 (tSeq (tFor (iTup K (tFld K (tVar 0) "priorities")) (gName 3) (tIfS (tOr (tNot (tB (tCall (sp__law_is_integer K A) [] E0 (tCons (tVar 3) tNil)))) (tTest (tOp rLtI (tVar 3) (tC (.int (0)))))) (tRet (tC (.bl false))) tNext))
 (tSeq (tFor (iTup K (tFld K (tVar 0) "rows")) (gName 4) (tIfS (tOr (tNot (tB (tCall (sp__law_integers K A) [] E0 (tCons (tVar 4) (tCons (tC (.int (0))) (tCons (tVar 2) tNil)))))) (tTest (tOp rNe (tCB (rLen K) (tCons (tVar 4) tNil)) (tVar 1)))) (tRet (tC (.bl false))) tNext))
 (tRet (tC (.bl true))))))))))
def t__law_outcome (K : PySem.W.Frag) (A : Ads) (E : XK) : TS := (tSeq (fun D σ H => (fun W : WX => (tAsg (tMake A.C_ParityAutomaton (sp_ParityAutomaton_init K A) [] (wAll W) (tCons (tVar 0) (tCons (tVar 1) (tCons (tVar 2) (tCons (tVar 3) tNil))))) (gName 4))) (wMany K (fun _ _ _ _ => False) D [(.ref A.C_InvalidAutomaton, fun a cls d => (tRet (tC .non)))]) D σ H)
 (tRet (tIf (tTest (tOp rIsNone (tVar 4) (tC .non))) (tC (.str "nothing")) (tVar 4))))
def t__law_fields (K : PySem.W.Frag) (A : Ads) (E : XK) : TS := (tRet (tTup (tCons (tFld K (tVar 0) "letters") (tCons (tFld K (tVar 0) "start") (tCons (tCB (rListOf K) (tCons (tFld K (tVar 0) "priorities") tNil)) (tCons (tLc (iTup K (tFld K (tVar 0) "rows")) (gName 1) tYes (tCB (rListOf K) (tCons (tVar 1) tNil)) [1]) tNil))))))
def t_law_21 (K : PySem.W.Frag) (A : Ads) (E : XK) : TS := (tSeq (tFor (iList K (tOp (rIxL K) (tVar 11) (tC (.int (1))))) (gName 10) (tDrop (tBM K "list" rAppend (tVar 10) (tCons (tC (.int (0))) tNil))))
 (tSeq (tIfS (tTest (tOp (rNeD K) (tCall (sp__law_fields K A) [] E0 (tCons (tVar 12) tNil)) (tTup (tCons (tVar 2) (tCons (tVar 3) (tCons (tVar 4) (tCons (tVar 5) tNil))))))) (tRet (tC (.bl false))) tNext)
 (tSeq (tAsg (tCall (sp_complement_parity K A) [] E0 (tCons (tVar 12) tNil)) (gName 13))
 (tSeq (tAsg (tLc (iList K (tVar 4)) (gName 14) tYes (tOp rAddI (tVar 14) (tC (.int (1)))) [14]) (gName 15))
 (tSeq (tIfS (tOr (tNot (tB (tCall (sp__law_is_parity K A) [] E0 (tCons (tVar 13) (tCons (tVar 2) tNil))))) (tTest (tOp (rNeD K) (tCall (sp__law_fields K A) [] E0 (tCons (tVar 13) tNil)) (tTup (tCons (tVar 2) (tCons (tVar 3) (tCons (tVar 15) (tCons (tVar 5) tNil)))))))) (tRet (tC (.bl false))) tNext)
 (tRet (tOp (rEqD K) (tCall (sp__law_fields K A) [] E0 (tCons (tVar 12) tNil)) (tTup (tCons (tVar 2) (tCons (tVar 3) (tCons (tVar 4) (tCons (tVar 5) tNil))))))))))))
def t_law_15 (K : PySem.W.Frag) (A : Ads) (E : XK) : TS := (tSeq (tAsg (tLst (tCons (tCB (rListOf K) (tCons (tVar 4) tNil)) (tCons (tCall (sp__law_flat K A) [] E0 (tCons (tVar 5) tNil)) tNil))) (gName 11))
 (tSeq (tAsg (tCall (sp__law_outcome K A) [] E0 (tCons (tVar 2) (tCons (tVar 3) (tCons (tOp (rIxL K) (tVar 11) (tC (.int (0)))) (tCons (tOp (rIxL K) (tVar 11) (tC (.int (1)))) tNil))))) (gName 12))
 (tSeq (tIfS (tTest (tOp (rNeD K) (tVar 11) (tLst (tCons (tVar 4) (tCons (tVar 5) tNil))))) (tRet (tC (.bl false))) tNext)
 (tSeq (tIfS (tTest (tOp rLtI (tVar 7) (tC (.int (8))))) (tRet (tOp rIsNone (tVar 12) (tC .non))) tNext)
 (tSeq (tIfS (tOr (tTest (tOp rIsNone (tVar 12) (tC .non))) (tNot (tB (tCall (sp__law_is_parity K A) [] E0 (tCons (tVar 12) (tCons (tVar 2) tNil)))))) (tRet (tC (.bl false))) tNext)
 (tSeq (tDrop (tBM K "list" rAppend (tOp (rIxL K) (tVar 11) (tC (.int (0)))) (tCons (tC (.int (1))) tNil)))
 (t_law_21 K A E)))))))
def t_law (K : PySem.W.Frag) (A : Ads) (E : XK) : TS := (tSeq (tAsg (tCall (sp__law_draws K A) [] E0 (tCons (tVar 0) (tCons (tC (.int (100))) tNil))) (gName 1))
 (tSeq (tAsg (tOp rAddI (tC (.int (1))) (tCall (sp__law_take K A) [] E0 (tCons (tVar 1) (tCons (tC (.int (3))) tNil)))) (gName 2))
 (tSeq (tAsg (tCall (sp__law_parity K A) [] E0 (tCons (tVar 1) (tCons (tVar 2) (tCons (tC (.int (4))) tNil)))) (gTup K 3 (gCons (gName 3) (gCons (gName 4) (gCons (gName 5) gNil)))))
 (tSeq (tAsg (tCB (rLen K) (tCons (tVar 5) tNil)) (gName 6))
 (tSeq (tAsg (tCall (sp__law_take K A) [] E0 (tCons (tVar 1) (tCons (tC (.int (16))) tNil))) (gName 7))
 (tSeq (tAsg (tCall (sp__law_take K A) [] E0 (tCons (tVar 1) (tCons (tVar 6) tNil))) (gName 8))
 (tSeq (tAsg (tCall (sp__law_take K A) [] E0 (tCons (tVar 1) (tCons (tVar 2) tNil))) (gName 9))
 (tSeq (tIfS (tTest (tOp rEq (tVar 7) (tC (.int (0))))) (tAsg (tOp (rIxL K) (tLst (tCons (tC (.int (0))) (tCons (tUn rNegI (tC (.int (2)))) (tCons (tOp rAddI (tVar 2) (tC (.int (1)))) tNil)))) (tCall (sp__law_take K A) [] E0 (tCons (tVar 1) (tCons (tC (.int (3))) tNil)))) (gName 2)) tNext)
 (tSeq (tIfS (tTest (tOp rEq (tVar 7) (tC (.int (1))))) (tSeq (tAsg (tLst tNil) (gName 5))
 (tAsg (tLst tNil) (gName 4))) tNext)
 (tSeq (tIfS (tTest (tOp rEq (tVar 7) (tC (.int (2))))) (tAsg (tOp (rIxL K) (tLst (tCons (tUn rNegI (tC (.int (1)))) (tCons (tVar 6) (tCons (tOp rAddI (tVar 6) (tC (.int (3)))) tNil)))) (tCall (sp__law_take K A) [] E0 (tCons (tVar 1) (tCons (tC (.int (3))) tNil)))) (gName 3)) tNext)
 (tSeq (tIfS (tTest (tOp rEq (tVar 7) (tC (.int (3))))) (tAsg (tSl (rSlL K) (tVar 4) (tPart (tC (.int (1)))) tNoPart) (gName 4)) tNext)
 (tSeq (tIfS (tTest (tOp rEq (tVar 7) (tC (.int (4))))) (tAsg (tUn rNegI (tC (.int (1)))) (gSub (tVar 4) (tVar 8) rSetL)) tNext)
 (tSeq (tIfS (tTest (tOp rEq (tVar 7) (tC (.int (5))))) (tSeq (tAsg (tOp (rIxL K) (tVar 5) (tVar 8)) (gName 10))
 (tAsg (tOp (rIxL K) (tLst (tCons (tUn rNegI (tC (.int (1)))) (tCons (tVar 6) tNil))) (tCall (sp__law_take K A) [] E0 (tCons (tVar 1) (tCons (tC (.int (2))) tNil)))) (gSub (tVar 10) (tVar 9) rSetL))) tNext)
 (tSeq (tIfS (tTest (tOp rEq (tVar 7) (tC (.int (6))))) (tAsg (tOp rCat (tOp (rIxL K) (tVar 5) (tVar 8)) (tLst (tCons (tC (.int (0))) tNil))) (gSub (tVar 5) (tVar 8) rSetL)) tNext)
 (tSeq (tIfS (tTest (tOp rEq (tVar 7) (tC (.int (7))))) (tAsg (tOp rCat (tVar 4) (tLst (tCons (tC (.int (0))) tNil))) (gName 4)) tNext)
 (t_law_15 K A E))))))))))))))))

section

set_option hygiene false
local macro_rules | `(tactic| walk_at "m") => `(tactic| first | exact List.Mem.head _ | (refine List.Mem.tail _ ?_; walk_at "m"))
local macro_rules | `(tactic| walk_at "u") => `(tactic| first | exact Upd.head | (apply Upd.tail; walk_at "u"))
local macro_rules | `(tactic| walk_at "tk") => `(tactic| first | exact Tak.head | (apply Tak.tail; walk_at "tk"))
local macro_rules | `(tactic| walk_at "l") => `(tactic| first | assumption | exact lS (St.fh (by assumption)) (by assumption) | exact SqL.of (St.get (by assumption) (by walk_at "m")))
local macro_rules | `(tactic| walk_at "t") => `(tactic| first | assumption | exact tS (St.fh (by assumption)) (by assumption) | exact SqT.of (St.get (by assumption) (by walk_at "m")))
local macro_rules | `(tactic| walk_at "lt") => `(tactic| first | exact .inl (by walk_at "l") | exact .inr (by walk_at "t"))
local macro_rules | `(tactic| walk_at "sz") => `(tactic| first | (show _ ≤ sizeLine; decide) | exact sz (by simp) | exact szl (by simp) | exact sz (by omega) | exact szl (by omega) | exact sz (by simp; omega) | exact szl (by simp; omega))
local macro_rules | `(tactic| walk_at "c") => `(tactic| first | assumption | decide | omega)
local macro_rules | `(tactic| walk_at "g1") => `(tactic| with_reducible first
  | refine w_seq ?_ | refine w_asg ?_ | refine w_c ?_ | refine w_op ?_
  | refine r_I0 ?_ | refine w_test ?_ | refine r_b ?_ | refine w_if ?_ | refine w_cons ?_ | refine w_nil ?_
  | refine w_ret ?_ | refine w_drop ?_ | refine w_cb ?_ | refine w_call ?_ | refine w_next ?_ | refine w_tup ?_ | refine w_lst ?_ | refine w_bm ?_ | refine w_bm0 ?_
  | refine w_and ?_ | refine w_or ?_ | refine w_not ?_ | refine w_andV ?_ | refine w_orV ?_ | refine w_notV ?_ | refine w_tB ?_ | refine w_un ?_ | refine r_U ?_
  | refine w_for ?_ | refine w_iL ?_ | refine w_iT ?_ | refine w_i1 ?_ | refine w_i2 ?_ | refine w_sl ?_ | refine w_part ?_ | refine w_nopart ?_ | refine r_part ?_
  | refine r_eqI ?_ | refine r_neI ?_ | refine r_eqS ?_ | refine r_neS ?_ | refine r_eqB ?_ | refine r_neB ?_ | refine r_ifT ?_ | refine r_ifF ?_ | refine r_ifNt ?_ | refine r_ifNf ?_ | refine r_ifRN ?_ | refine r_ifNRN ?_ | refine r_ifNN ?_ | refine r_ifNNN ?_
  | refine w_ifE ?_ | refine r_int1 ?_ | refine r_int1b ?_ | refine r_isnone ?_ | refine r_notnone ?_ | refine r_max2 ?_ | refine r_min2 ?_ | refine r_ipI ?_ | refine w_tru ?_ | refine w_rs ?_
  | refine w_retN ?_ | refine w_break ?_ | refine w_cont ?_ | refine w_callS ?_ | refine w_asgG ?_ | refine w_gsub ?_ | refine w_fld ?_ | refine w_sfld ?_ | refine w_mk ?_ | refine w_lc ?_ | refine w_iSq ?_ | refine u_isint ?_ | refine w_dnew ?_ | refine w_dnotin ?_ | refine w_din ?_ | refine w_dget ?_ | refine w_dput ?_ | refine w_ckw ?_)
local macro_rules | `(tactic| walk_at "g2") => `(tactic| first
  | ((with_reducible refine' w_var ?hv ?_); (case hv => rfl)) | ((with_reducible refine' w_aug ?hv ?_); (case hv => rfl))
  | ((with_reducible show rLen _ _ _ _); refine r_len (by walk_at "lt") ?_)
  | (with_reducible refine r_I ?cnd ?_; (case cnd => first | decide | omega | assumption | (unfold CPow; decide)))
  | ((with_reducible show RTy _ _ _ _ _); refine r_tyL (by walk_at "l") ?_)
  | (with_reducible refine r_ifDT (by walk_at "c") ?_) | (with_reducible refine r_ifDF (by walk_at "c") ?_)
  | (with_reducible refine r_ifNT (by walk_at "c") ?_) | (with_reducible refine r_ifNF (by walk_at "c") ?_))
local macro_rules | `(tactic| walk_at "go") => `(tactic| repeat (first | walk_at "g1" | walk_at "g2"))

variable {vs : List V} {H : Hp} {Q : VK} {E : XK} {K : PySem.W.Frag} {A : Ads}
theorem p__law_draws (T : Cl K A) (h : sp__law_draws K A vs H Q E) : t__law_draws K A E (D0 Q) (start ["script", "count", "cells", "found", "mixed", "k", "j", "cell", "again"] vs) H := cv_draws (E := E) h
theorem p__law_take (T : Cl K A) (h : sp__law_take K A vs H Q E) : t__law_take K A E (D0 Q) (start ["draws", "limit"] vs) H := cv_take (E := E) h
theorem p__law_is_integer (T : Cl K A) (h : sp__law_is_integer K A vs H Q E) : t__law_is_integer K A E (D0 Q) (start ["actual"] vs) H := cv_is_integer (E := E) h
theorem p__law_integers (T : Cl K A) (h : sp__law_integers K A vs H Q E) : t__law_integers K A E (D0 Q) (start ["actual", "low", "high", "item"] vs) H := cv_integers (E := E) h
theorem PaAt.mono {C x : Addr} {F F' : Hp} {m st : Int} {ps : List Int} {rs : List (List Int)} (e : Same F F') (h : PaAt K C F x m st ps rs) : PaAt K C F' x m st ps rs := by
  obtain ⟨dx, pa, ra, as, h1, h2, h3, h4⟩ := h.ex
  exact ⟨⟨dx, pa, ra, as, e _ _ h1, tS e h2, tS e h3, h4.mono e⟩⟩
theorem lk_letters {m st : Int} {pa ra : Addr} : (paF m st pa ra).lookup ("letters" : Str) = some (.int m) := rfl
theorem lk_start {m st : Int} {pa ra : Addr} : (paF m st pa ra).lookup ("start" : Str) = some (.int st) := rfl
theorem lk_prio {m st : Int} {pa ra : Addr} : (paF m st pa ra).lookup ("priorities" : Str) = some (.ref pa) := rfl
theorem lk_rows {m st : Int} {pa ra : Addr} : (paF m st pa ra).lookup ("rows" : Str) = some (.ref ra) := rfl
theorem p_ParityAutomaton_init (T : Cl K A) (h : sp_ParityAutomaton_init K A vs H Q E) : t_ParityAutomaton_init K A E (D0 Q) (start ["self", "letters", "start", "priorities", "rows", "row"] vs) H := by
  obtain ⟨F, x, dx, a, b, kr, ki, as, m, st, ps, rs, rfl, sF, fx, hx, ha0, hb0, hr0, hrF, lp, lr, k1, k2⟩ := h
  have G := St.init1 sF hx fx
  have ha : SqL K (del H x) a (iv ps) := sq_del (k := true) hx ha0
  have hb := sq_del hx hb0
  have hr := hr0.del hx
  have al := hr.len
  unfold t_ParityAutomaton_init
  show tSeq _ _ (D0 Q) [some (.ref x), some (.int m), some (.int st), some (.ref a), some (.ref b), none] H
  unfold D0
  have bad : ∀ {F1 H1 : Hp} {L1 : Led}, St ⟨F, del H x⟩ F1 H1 L1 → (x, HO.ins A.C_ParityAutomaton dx []) ∈ L1 → ¬ Pok m st ps rs → E (.ref A.C_InvalidAutomaton) none H1 := fun G1 m1 np => k2 np _ (G1.same1 m1 hx)
  walk_at "go"
  refine r_ifD (fun h1 => ?_) (fun h1 => ?_)
  · walk_at "go"
    exact bad G (by walk_at "m") fun p => by have := p.m1; omega
  walk_at "go"
  refine r_len (qor hb0) ?_
  rw [rv_len, al]
  walk_at "go"
  refine r_ifD (fun h2 => ?_) (fun h2 => ?_)
  · walk_at "go"
    exact bad G (by walk_at "m") fun p => by have := p.ne; omega
  walk_at "go"
  refine r_len (qor hb0) ?_
  rw [rv_len, al, iv_len]
  walk_at "go"
  refine r_ifN (fun h3 => ?_) (fun h3 => ?_)
  · walk_at "go"
    exact bad G (by walk_at "m") fun p => by have := p.pl; omega
  walk_at "go"
  refine r_ifD (fun h4 => ?_) (fun h4 => ?_)
  · walk_at "go"
    exact bad G (by walk_at "m") fun p => by have := p.s0; omega
  walk_at "go"
  refine r_len (qor hb0) ?_
  rw [rv_len, al]
  walk_at "go"
  refine r_ifD (fun h5 => ?_) (fun h5 => ?_)
  · walk_at "go"
    exact bad G (by walk_at "m") fun p => by have := p.s1; omega
  walk_at "go"
  refine r_minB (k := true) (ns := ps) ha0 (by omega) fun mi mi1 mi2 => ?_
  walk_at "go"
  refine r_ifD (fun h6 => ?_) (fun h6 => ?_)
  · walk_at "go"
    exact bad G (by walk_at "m") fun p => by have := p.pp mi mi1; omega
  walk_at "go"
  refine r_isq hb0 ?_
  refine r_forB (xs := rv as) (fun i σ H' => (∃ v, σ = [some (.ref x), some (.int m), some (.int st), some (.ref a), some (.ref b), v]) ∧ St ⟨F, del H x⟩ F H' [(x, .ins A.C_ParityAutomaton dx [])] ∧ ∀ r ∈ rs.take i, (r.length : Int) = m ∧ ∀ x ∈ r, 0 ≤ x ∧ x < rs.length)
    ⟨⟨_, rfl⟩, G, fun _ h => by simp at h⟩ (fun _ _ _ _ h => qS h.2.1.bh hb) ?_ ?_
  · rintro i y σ H' hi ⟨⟨v, rfl⟩, G1, hok⟩
    obtain ⟨ra, hi1, rfl⟩ := rv_get hi
    obtain ⟨r0, hr1, hs⟩ := hr.at hi1
    have hs' := qS G1.bh hs
    have hm : r0 ∈ rs := List.mem_of_getElem? hr1
    walk_at "go"
    refine r_len (qor hs') ?_
    rw [iv_len]
    walk_at "go"
    refine r_ifN (fun h7 => ?_) (fun h7 => ?_)
    · walk_at "go"
      exact bad G1 (by walk_at "m") fun p => h7 (p.rr r0 hm).1
    walk_at "go"
    refine r_minB hs' (by omega) fun mn mn1 mn2 => ?_
    walk_at "go"
    refine r_ifD (fun h8 => ?_) (fun h8 => ?_)
    · walk_at "go"
      exact bad G1 (by walk_at "m") fun p => by have := ((p.rr r0 hm).2 mn mn1).1; omega
    walk_at "go"
    refine r_maxB hs' (by omega) fun mx mx1 mx2 => ?_
    walk_at "go"
    refine r_len (qor (qS G1.bh hb)) ?_
    rw [rv_len, al]
    walk_at "go"
    refine r_ifD (fun h9 => ?_) (fun h9 => ?_)
    · walk_at "go"
      exact bad G1 (by walk_at "m") fun p => by have := ((p.rr r0 hm).2 mx mx1).2; omega
    walk_at "go"
    refine ⟨⟨_, rfl⟩, G1, fun r hr' => ?_⟩
    rw [take_snoc hr1] at hr'
    rcases List.mem_append.mp hr' with q | q
    · exact hok r q
    · rw [List.mem_singleton.mp q]
      refine ⟨h7, fun z hz => ?_⟩
      have q1 := mn2 z hz
      have q2 := mx2 z hz
      omega
  rintro σ H1 ⟨⟨v, rfl⟩, G1, hok⟩
  rw [rv_len, al, List.take_length] at hok
  have OK : Pok m st ps rs := ⟨by omega, by omega, by omega, by omega, by omega, fun p hp => by have := mi2 p hp; omega, hok⟩
  walk_at "go"
  refine r_sfld G1 T.cl_ParityAutomaton T.na_ParityAutomaton_letters (fs' := [("letters", .int m)]) (by walk_at "u") rfl (by show 0 < 1000; decide) fun H2 G2 => ?_
  walk_at "go"
  refine r_sfld G2 T.cl_ParityAutomaton T.na_ParityAutomaton_start (fs' := [("letters", .int m), ("start", .int st)]) (by walk_at "u") rfl (by show 1 < 1000; decide) fun H3 G3 => ?_
  walk_at "go"
  refine r_tupofL G3 (lS G3.bh ha) fun pa H4 G4 => ?_
  walk_at "go"
  refine r_sfld G4 T.cl_ParityAutomaton T.na_ParityAutomaton_priorities (fs' := [("letters", .int m), ("start", .int st), ("priorities", .ref pa)]) (by walk_at "u") rfl (by show 2 < 1000; decide) fun H5 G5 => ?_
  walk_at "go"
  walk_at "go"
  refine r_isq (qS G5.bh hb) ?_
  obtain ⟨F1, s1, hpa, G6⟩ := G5.frz Tak.head
  refine r_lcB (xs := rv as) G6 (fun D i H' => ∃ F' as', Same F1 F' ∧ St ⟨F, del H x⟩ F' H' ((D, .lst (rv as')) :: _) ∧ Rows K F' false as' (rs.take i) ∧ as'.length ≤ i) (fun D H' G' => ⟨F1, [], Same.refl _, G', .nil, Nat.le_refl _⟩)
    (fun D i H' _ h => by obtain ⟨F', as', _, G', _, _⟩ := h; exact qS G'.bh hb) ?_ ?_
  · rintro D i y H' hi ⟨F', as', sF', G7, hR, hla⟩
    obtain ⟨ra, hi1, rfl⟩ := rv_get hi
    obtain ⟨r0, hr1, hs⟩ := hr.at hi1
    have hi2 : i < rs.length := (List.getElem?_eq_some_iff.mp hr1).1
    walk_at "go"
    cases ki with
    | true =>
      refine r_tupofL G7 (lS G7.bh hs) fun t H8 G8 => ?_
      obtain ⟨F2, s2, ht, G9⟩ := G8.frz Tak.head
      refine r_app G9 Upd.head (szl (by rw [rv_len]; omega)) fun H10 G10 => ?_
      refine ⟨F2, as' ++ [t], sF'.trans s2, ?_, ?_, by simp; omega⟩
      · rw [show rv (as' ++ [t]) = rv as' ++ [V.ref t] from by simp]; exact G10
      · rw [take_snoc hr1]; exact (hR.mono s2).snoc (show SqT K F2 t (iv r0) from SqT.of ht)
    | false =>
      obtain ⟨r1, hr2, hs2⟩ := (hrF rfl).at hi1
      rw [hr1] at hr2; cases hr2
      have hs3 : SqB K F' ra (iv r0) false := qS ((G7.ff)) hs2
      refine r_tupofT (tS G7.fh hs3) ?_
      refine r_app G7 Upd.head (szl (by rw [rv_len]; omega)) fun H10 G10 => ?_
      refine ⟨F', as' ++ [ra], sF', ?_, ?_, by simp; omega⟩
      · rw [show rv (as' ++ [ra]) = rv as' ++ [V.ref ra] from by simp]; exact G10
      · rw [take_snoc hr1]; exact hR.snoc hs3
  rintro D H6 ⟨F', as', sF', G7, hR, hla⟩
  rw [rv_len, al, List.take_length] at hR
  walk_at "go"
  refine r_tupofL G7 (by walk_at "l") fun ra H8 G8 => ?_
  walk_at "go"
  refine r_sfld G8 T.cl_ParityAutomaton T.na_ParityAutomaton_rows (fs' := paF m st pa ra) (by walk_at "u") rfl (by show 3 < 1000; decide) fun H9 G9 => ?_
  obtain ⟨F2, s2, hra, G10⟩ := G9.frz Tak.head
  exact k1 OK F2 H9 pa ra as' (G10.grB (by walk_at "m")) (G10.get (by walk_at "m")) (s2 _ _ (sF' _ _ hpa)) hra (hR.mono s2)
theorem p_complement_parity (T : Cl K A) (h : sp_complement_parity K A vs H Q E) : t_complement_parity K A E (D0 Q) (start ["parity", "priority", "priorities"] vs) H := by
  obtain ⟨F, x, m, st, ps, rs, rfl, sF, hP, OK, lp, lr, k⟩ := h
  obtain ⟨dx, pa, ra, as, h1, h2, h3, h4⟩ := hP.ex
  have G := St.init sF
  unfold t_complement_parity
  show tSeq _ _ (D0 Q) [some (.ref x), none, none] H
  unfold D0
  walk_at "go"
  walk_at "go"
  refine r_fld (G.fh _ _ h1) T.cl_ParityAutomaton T.na_ParityAutomaton_priorities lk_prio ?_
  refine r_it (tS G.fh h2) ?_
  refine r_lcM (k := false) (xs := iv ps) (fun v => match v with | .int i => .int (i + 1) | v => v) (by rw [iv_len]; omega) G (tS G.fh h2) (fun D i y acc H' Q' hi e G' q => ?_) (fun D H' e G1 => ?_)
  · obtain ⟨z, hz, rfl⟩ := iv_get hi
    walk_at "go"
    exact q
  rw [show (iv ps).map (fun v => match v with | V.int i => V.int (i + 1) | v => v) = iv (ps.map (· + 1)) from by simp] at G1
  walk_at "go"
  walk_at "go"
  refine r_fld (G1.fh _ _ h1) T.cl_ParityAutomaton T.na_ParityAutomaton_letters lk_letters ?_
  walk_at "go"
  refine r_fld (G1.fh _ _ h1) T.cl_ParityAutomaton T.na_ParityAutomaton_start lk_start ?_
  walk_at "go"
  walk_at "go"
  refine r_fld (G1.fh _ _ h1) T.cl_ParityAutomaton T.na_ParityAutomaton_rows lk_rows ?_
  walk_at "go"
  refine r_mk G1 fun y dy H2 G2 => ?_
  have OK2 : Pok m st (ps.map (· + 1)) rs := ⟨OK.m1, OK.ne, by rw [List.length_map]; exact OK.pl, OK.s0, OK.s1, fun p hp => by
    obtain ⟨q, hq, rfl⟩ := List.mem_map.mp hp
    have := OK.pp q hq
    show 0 ≤ q + 1
    omega, OK.rr⟩
  refine ⟨F, y, dy, D, ra, false, false, as, m, st, ps.map (· + 1), rs, rfl, G2.fh, (G2.own _ (by walk_at "m")).2.1, G2.get (by walk_at "m"), by walk_at "l", show SqB K H2 ra (rv as) false from tS G2.fh h3, h4.mono G2.fh, fun _ => h4, by rw [List.length_map]; exact lp, lr, fun _ F' H' pa' ra' as' gb hy hpa hra hR => ⟨rfl, ?_⟩, fun np => absurd OK2 np⟩
  have G3 := G2.callB Upd.head gb hy
  obtain ⟨F3, s3, hy3, G4⟩ := G3.frz Tak.head
  exact k F3 H' y G4.gr ⟨⟨dy, pa', ra', as', hy3, SqT.of (s3 _ _ hpa), SqT.of (s3 _ _ hra), hR.mono s3⟩⟩
theorem p__law_flat (T : Cl K A) (h : sp__law_flat K A vs H Q E) : t__law_flat K A E (D0 Q) (start ["rows", "row"] vs) H := by
  obtain ⟨a, as, rs, rfl, ha, hr, lr, k⟩ := h
  have G := St.init (Same.refl H)
  have al := hr.len
  unfold t__law_flat
  show tRet _ (D0 Q) [some (.ref a), none] H
  unfold D0
  walk_at "go"
  walk_at "go"
  refine r_il ha ?_
  refine r_lcB (k := true) (xs := rv as) G (fun D i H' => ∃ bs, bs.length = i ∧ St ⟨H, H⟩ H H' ((D, .lst (rv bs)) :: rowL bs (rs.take i))) (fun D H' G' => ⟨[], rfl, G'⟩) (fun D i H' _ h => by obtain ⟨bs, _, G'⟩ := h; exact lS G'.bh ha) ?_ ?_
  · rintro D i y H' hi ⟨bs, hbl, G1⟩
    obtain ⟨ra, hi1, rfl⟩ := rv_get hi
    obtain ⟨r0, hr1, hs⟩ := hr.at hi1
    have hi2 : i < rs.length := (List.getElem?_eq_some_iff.mp hr1).1
    walk_at "go"
    refine r_listof G1 (.inl (lS G1.bh hs)) fun t H2 G2 => ?_
    refine r_app G2 (.tail .head) (szl (by rw [rv_len]; omega)) fun H3 G3 => ?_
    refine ⟨bs ++ [t], by simp [hbl], ?_⟩
    rw [take_snoc hr1, rowL_snoc (by rw [List.length_take]; omega), show rv (bs ++ [t]) = rv bs ++ [V.ref t] from by simp]
    refine G3.perm ?_
    refine List.Perm.trans ?_ (List.Perm.swap _ _ _)
    exact List.Perm.cons _ (List.perm_append_comm (l₂ := [(t, HO.lst (iv r0))]))
  · rintro D H' ⟨bs, hbl, G1⟩
    rw [rv_len, al, List.take_length] at G1
    exact k H' D bs (by rw [hbl, rv_len, al]) G1.toOwn
theorem p__law_parity (T : Cl K A) (h : sp__law_parity K A vs H Q E) : t__law_parity K A E (D0 Q) (start ["draws", "letters", "most", "count", "top", "state", "priorities", "rows", "letter"] vs) H := by
  obtain ⟨p, ds, m, mo, rfl, hp, hd, m1, m10, o1, o10, k⟩ := h
  have G := St.init1 (F := fun _ => none) (fun _ _ e => nomatch e) hp rfl
  unfold t__law_parity
  show tSeq _ _ (D0 Q) [some (.ref p), some (.int m), some (.int mo), none, none, none, none, none, none] H
  unfold D0
  walk_at "go"
  refine u_take G (fun _ => Upd.head) hd (by omega) fun i1 d1 H1 i10 i11 hd1 G1 => ?_
  walk_at "go"
  refine u_take G1 (fun _ => Upd.head) hd1 (by decide) fun i2 d2 H2 i20 i21 hd2 G2 => ?_
  walk_at "go"
  refine r_i1 (by omega) ?_
  have e0 : 0 ≤ 1 + i1 := by omega
  refine r_lcR (L := [(p, .lst (iv d2))]) G2 (fun D i H' => ∃ ds' ps, Dok ds' ∧ ps.length = i ∧ (∀ q ∈ ps, (0 : Int) ≤ q) ∧ St ⟨fun _ => none, del H p⟩ (fun _ => none) H' [(D, .lst (iv ps)), (p, .lst (iv ds'))]) (fun D H' G' => ⟨d2, [], hd2, rfl, (fun _ h => nomatch h), G'⟩) ?_ ?_
  · rintro D i H' hi ⟨ds', ps, hd', hl, hps, G3⟩
    walk_at "go"
    refine u_take G3 (fun _ => .tail .head) hd' (by omega) fun i3 d3 H3 i30 i31 hd3 G4 => ?_
    refine r_app G4 Upd.head (szl (by rw [iv_len]; omega)) fun H5 G5 => ?_
    rw [iv_snoc] at G5
    refine ⟨d3, ps ++ [i3], hd3, by simp [hl], fun q hq => ?_, G5⟩
    rcases List.mem_append.mp hq with z | z
    · exact hps q z
    · rw [List.mem_singleton.mp z]; exact i30
  rintro a H3 ⟨ds', ps, hd', hl, hps, G3⟩
  walk_at "go"
  refine r_lst G3 (by walk_at "sz") fun b H4 G4 => ?_
  walk_at "go"
  refine r_i1 (by omega) ?_
  refine r_forR (fun i σ H' => ∃ ds' bs rs v w, σ = [some (.ref p), some (.int m), some (.int mo), some (.int (1 + i1)), some (.int (1 + i2)), v, some (.ref a), some (.ref b), w] ∧ Dok ds' ∧ bs.length = i ∧ rs.length = i ∧ (∀ r ∈ rs, (r.length : Int) = m ∧ ∀ x ∈ r, 0 ≤ x ∧ x < 1 + i1) ∧
      St ⟨fun _ => none, del H p⟩ (fun _ => none) H' ((p, .lst (iv ds')) :: (b, .lst (rv bs)) :: (a, .lst (iv ps)) :: rowL bs rs)) ⟨ds', [], [], none, none, rfl, hd', rfl, rfl, (fun _ h => nomatch h), (G4.front (a := b) (by walk_at "tk")).front (a := p) (by walk_at "tk")⟩ ?_ ?_
  · rintro i σ H' hi ⟨ds', bs, rs, v, w, rfl, hd', hbl, hrl, hrs, G5⟩
    walk_at "go"
    refine r_i1 (by omega) ?_
    refine r_lcR G5 (fun D i H' => ∃ ds' ns, Dok ds' ∧ ns.length = i ∧ (∀ q ∈ ns, (0 : Int) ≤ q ∧ q < 1 + i1) ∧ St ⟨fun _ => none, del H p⟩ (fun _ => none) H' ((D, .lst (iv ns)) :: (p, .lst (iv ds')) :: (b, .lst (rv bs)) :: (a, .lst (iv ps)) :: rowL bs rs)) (fun D H' G' => ⟨ds', [], hd', rfl, (fun _ h => nomatch h), G'⟩) ?_ ?_
    · rintro D j H' hj ⟨ds', ns, hd', hnl, hns, G6⟩
      walk_at "go"
      refine u_take G6 (fun _ => .tail .head) hd' (by omega) fun i3 d3 H3 i30 i31 hd3 G7 => ?_
      refine r_app G7 Upd.head (szl (by rw [iv_len]; omega)) fun H5 G8 => ?_
      rw [iv_snoc] at G8
      refine ⟨d3, ns ++ [i3], hd3, by simp [hnl], fun q hq => ?_, G8⟩
      rcases List.mem_append.mp hq with z | z
      · exact hns q z
      · rw [List.mem_singleton.mp z]; exact ⟨i30, i31⟩
    rintro D H6 ⟨ds2, ns, hd2', hnl, hns, G6⟩
    walk_at "go"
    refine r_append G6 (.tail (.tail .head)) (szl (by rw [rv_len]; omega)) fun H7 G7 => ?_
    refine ⟨ds2, bs ++ [D], rs ++ [ns], _, _, rfl, hd2', by simp [hbl], by simp [hrl], fun r hr => ?_, ?_⟩
    · rcases List.mem_append.mp hr with z | z
      · exact hrs r z
      · rw [List.mem_singleton.mp z]; exact ⟨by omega, hns⟩
    · rw [rowL_snoc (by omega), show rv (bs ++ [D]) = rv bs ++ [V.ref D] from by simp]
      exact G7.toEnd
  rintro σ H5 ⟨ds', bs, rs, v, w, rfl, hd', hbl, hrl, hrs, G5⟩
  walk_at "go"
  refine u_take G5 (fun _ => .head) hd' (by omega) fun st d6 H6 s0 s1 hd6 G6 => ?_
  walk_at "go"
  refine r_tup G6 (by walk_at "sz") fun t H7 G7 => ?_
  have e1 : (rs.length : Int) = 1 + i1 := by omega
  refine k H7 d6 t a b bs st ps rs hd6 ⟨m1, by omega, by omega, s0, by omega, hps, fun r hr => ⟨(hrs r hr).1, fun x hx => by have := (hrs r hr).2 x hx; omega⟩⟩ (by omega) (by omega) (St.toOwnB (G7.front (a := p) (by walk_at "tk")))
theorem p__law_is_parity (T : Cl K A) (h : sp__law_is_parity K A vs H Q E) : t__law_is_parity K A E (D0 Q) (start ["actual", "letters", "count", "priority", "row"] vs) H := by
  obtain ⟨x, m, st, ps, rs, rfl, hP, OK, lp, lr, k⟩ := h
  obtain ⟨dx, pa, ra, as, h1, h2, h3, h4⟩ := hP.ex
  have al := h4.len
  obtain ⟨o1, o2, o3, o4, o5, o6, o7⟩ := OK
  unfold t__law_is_parity
  show tSeq _ _ (D0 Q) [some (.ref x), some (.int m), none, none, none] H
  unfold D0
  walk_at "go"
  refine r_fld h1 T.cl_ParityAutomaton T.na_ParityAutomaton_letters lk_letters ?_
  walk_at "go"
  refine r_fld h1 T.cl_ParityAutomaton T.na_ParityAutomaton_letters lk_letters ?_
  walk_at "go"
  refine r_fld h1 T.cl_ParityAutomaton T.na_ParityAutomaton_rows lk_rows ?_
  walk_at "go"
  refine r_isiT h3 ?_
  walk_at "go"
  refine r_fld h1 T.cl_ParityAutomaton T.na_ParityAutomaton_rows lk_rows ?_
  walk_at "go"
  rw [rv_len, al]
  walk_at "go"
  refine r_fld h1 T.cl_ParityAutomaton T.na_ParityAutomaton_rows lk_rows ?_
  walk_at "go"
  rw [rv_len, al]
  refine r_fld h1 T.cl_ParityAutomaton T.na_ParityAutomaton_start lk_start ?_
  walk_at "go"
  refine r_fld h1 T.cl_ParityAutomaton T.na_ParityAutomaton_start lk_start ?_
  walk_at "go"
  refine r_fld h1 T.cl_ParityAutomaton T.na_ParityAutomaton_start lk_start ?_
  walk_at "go"
  refine r_fld h1 T.cl_ParityAutomaton T.na_ParityAutomaton_priorities lk_prio ?_
  walk_at "go"
  refine r_isiT h2 ?_
  walk_at "go"
  refine r_fld h1 T.cl_ParityAutomaton T.na_ParityAutomaton_priorities lk_prio ?_
  walk_at "go"
  rw [iv_len]
  walk_at "go"
  refine r_fld h1 T.cl_ParityAutomaton T.na_ParityAutomaton_priorities lk_prio ?_
  refine r_it h2 ?_
  refine r_forT (xs := iv ps) (fun i σ H' => H' = H ∧ (∃ v, σ = [some (.ref x), some (.int m), some (.int rs.length), v, none])) ⟨rfl, ⟨_, rfl⟩⟩ (fun _ _ _ _ h => h.1 ▸ h2) ?_ ?_
  · rintro i y σ H' hi ⟨rfl, ⟨v, rfl⟩⟩
    obtain ⟨z, hz, rfl⟩ := iv_get hi
    have hm := o6 z (List.mem_of_getElem? hz)
    walk_at "go"
    exact ⟨rfl, ⟨_, rfl⟩⟩
  rintro σ H' ⟨rfl, ⟨v, rfl⟩⟩
  walk_at "go"
  refine r_fld h1 T.cl_ParityAutomaton T.na_ParityAutomaton_rows lk_rows ?_
  refine r_it h3 ?_
  refine r_forT (xs := rv as) (fun i σ H'' => H'' = H' ∧ (∃ v, σ = [some (.ref x), some (.int m), some (.int rs.length), (_ : Option V), v])) ⟨rfl, ⟨_, rfl⟩⟩ (fun _ _ _ _ h => h.1 ▸ h3) ?_ ?_
  · rintro i y σ H' hi ⟨rfl, ⟨v, rfl⟩⟩
    obtain ⟨r, hr, rfl⟩ := rv_get hi
    obtain ⟨ns, hn1, hn2⟩ := h4.at hr
    obtain ⟨q1, q2⟩ := o7 ns (List.mem_of_getElem? hn1)
    have hn3 : SqT K H' r (iv ns) := hn2
    walk_at "go"
    refine ⟨r, ns, 0, rs.length, rfl, hn3, fun _ => ?_, fun w => absurd q2 w⟩
    walk_at "go"
    rw [iv_len]
    walk_at "go"
    exact ⟨rfl, ⟨_, rfl⟩⟩
  rintro σ H'' ⟨rfl, ⟨v, rfl⟩⟩
  walk_at "go"
  exact k
theorem p__law_fields (T : Cl K A) (h : sp__law_fields K A vs H Q E) : t__law_fields K A E (D0 Q) (start ["automaton", "row"] vs) H := by
  obtain ⟨x, m, st, ps, rs, rfl, hP, lp, lr, k⟩ := h
  obtain ⟨dx, pa, ra, as, h1, h2, h3, h4⟩ := hP.ex
  have al := h4.len
  have G := St.init (Same.refl H)
  unfold t__law_fields
  show tRet _ (D0 Q) [some (.ref x), none] H
  unfold D0
  walk_at "go"
  refine r_fld h1 T.cl_ParityAutomaton T.na_ParityAutomaton_letters lk_letters ?_
  walk_at "go"
  refine r_fld h1 T.cl_ParityAutomaton T.na_ParityAutomaton_start lk_start ?_
  walk_at "go"
  refine r_fld h1 T.cl_ParityAutomaton T.na_ParityAutomaton_priorities lk_prio ?_
  walk_at "go"
  refine r_listof G (.inr h2) fun a H1 G1 => ?_
  walk_at "go"
  refine r_fld (G1.bh _ _ h1) T.cl_ParityAutomaton T.na_ParityAutomaton_rows lk_rows ?_
  refine r_it (tS G1.bh h3) ?_
  obtain ⟨F1, s1, ha, G2⟩ := G1.frz Tak.head
  refine r_lcB (k := false) (xs := rv as) G2 (fun D i H' => ∃ F' bs, bs.length = i ∧ Same F1 F' ∧ St ⟨H, H⟩ F' H' [(D, .lst (rv bs))] ∧ Rows K F' true bs (rs.take i)) (fun D H' G' => ⟨F1, [], rfl, Same.refl _, G', .nil⟩) (fun D i H' _ h => by obtain ⟨F', bs, _, _, G', _⟩ := h; exact tS G'.bh h3) ?_ ?_
  · rintro D i y H' hi ⟨F', bs, hbl, sF, G3, hR⟩
    obtain ⟨r, hi1, rfl⟩ := rv_get hi
    obtain ⟨r0, hr1, hs⟩ := h4.at hi1
    have hi2 : i < rs.length := (List.getElem?_eq_some_iff.mp hr1).1
    walk_at "go"
    refine r_listof G3 (.inr (tS G3.bh hs)) fun t H2 G4 => ?_
    obtain ⟨F2, s2, ht, G5⟩ := G4.frz Tak.head
    refine r_app G5 Upd.head (szl (by rw [rv_len]; omega)) fun H3 G6 => ?_
    refine ⟨F2, bs ++ [t], by simp [hbl], sF.trans s2, ?_, ?_⟩
    · rw [show rv (bs ++ [t]) = rv bs ++ [V.ref t] from by simp]; exact G6
    · rw [take_snoc hr1]; exact (hR.mono s2).snoc (show SqL K F2 t (iv r0) from SqL.of ht)
  rintro D H2 ⟨F', bs, hbl, sF, G3, hR⟩
  rw [rv_len, al, List.take_length] at hR
  walk_at "go"
  refine r_tup G3 (by walk_at "sz") fun t H4 G4 => ?_
  refine k _ H4 G4.bh ?_
  refine .tup (SqT.of (G4.get (by walk_at "m"))) (.cons (.int _) (.cons (.int _) (.cons ?_ (.cons ?_ .nil))))
  · exact dp_ints (SqL.of (G4.fh _ _ (sF _ _ ha)))
  · exact .lst (SqL.of (G4.get (by walk_at "m"))) ((hR.mono G4.fh).dp)
theorem p__law_outcome (T : Cl K A) (h : sp__law_outcome K A vs H Q E) : t__law_outcome K A E (D0 Q) (start ["letters", "start", "priorities", "rows", "found"] vs) H := by
  obtain ⟨F, a, b, as, m, st, ps, rs, rfl, sF, ha, hb, hr, lp, lr, k1, k2⟩ := h
  have G := St.init sF
  unfold t__law_outcome
  show tSeq _ _ (D0 Q) [some (.int m), some (.int st), some (.ref a), some (.ref b), none] H
  unfold D0
  refine w_seq ?_
  walk_at "go"
  refine r_mk G fun y dy H2 G2 => ?_
  refine ⟨F, y, dy, a, b, true, true, as, m, st, ps, rs, rfl, G2.fh, (G2.own _ (by walk_at "m")).2.1, G2.get (by walk_at "m"), lS G2.bh ha, show SqB K H2 b (rv as) true from lS G2.bh hb, hr.mono G2.bh, (fun z => by cases z), lp, lr, fun OK F' H' pa' ra' as' gb hy hpa hra hR => ⟨rfl, ?_⟩, fun np H' e => ?_⟩
  · have G3 := G2.callB Upd.head gb hy
    obtain ⟨F3, s3, hy3, G4⟩ := G3.frz Tak.head
    walk_at "go"
    exact k1 OK F3 H' y G4.gr ⟨⟨dy, pa', ra', as', hy3, SqT.of (s3 _ _ hpa), SqT.of (s3 _ _ hra), hR.mono s3⟩⟩
  · intro σ
    refine ⟨true, T.em_InvalidAutomaton_InvalidAutomaton, fun _ z _ => ?_, fun z => by cases z⟩
    walk_at "go"
    exact k2 np H' (G2.bh.trans e)
/-- behind the changes of the lists that were passed -/
theorem law_last (T : Cl K A) {H0 F H1 : Hp} {L : Led} {x0 : V} {v1 v6 v7 v8 v9 : V} {v10 : Option V} {m st : Int} {a b y e d : Addr} {as bs : List Addr} {ps : List Int} {rs : List (List Int)} {cv : V} (G : St ⟨H0, H0⟩ F H1 ((e, .lst [cv, .ref d]) :: (d, .lst (rv bs)) :: (L ++ rowL bs rs)))
    (ha : SqL K F a (iv ps)) (hb : SqL K F b (rv as)) (hr : Rows K F true as rs) (hP : PaAt K A.C_ParityAutomaton F y m st ps rs) (OK : Pok m st ps rs) (hbl : bs.length = rs.length)
    (lp : ps.length ≤ 1000) (lr : rs.length ≤ 1000) (ll : ∀ r ∈ rs, r.length ≤ 1000) (k : ∀ H', Q (.bl true) H') :
    t_law_21 K A E (D0 Q) [some x0, some v1, some (.int m), some (.int st), some (.ref a), some (.ref b), some v6, some v7, some v8, some v9, v10, some (.ref e), some (.ref y), none, none, none] H1 := by
  have hD : ∀ {H' : Hp} {u : Addr} {as : List Addr} {a b : Addr} {ps : List Int}, H' u = some (.tup [.int m, .int st, .ref a, .ref b]) → SqL K H' a (iv ps) → SqL K H' b (rv as) → Rows K H' true as rs → Dp K H' (.ref u) (dFields m st ps rs) := fun h1 h2 h3 h4 =>
    .tup (SqT.of h1) (.cons (.int _) (.cons (.int _) (.cons (dp_ints h2) (.cons (.lst h3 h4.dp) .nil))))
  have hS : ∀ {ps : List Int}, Shp 3 (dFields m st ps rs) := shp_tuple (shpa_cons (shp_int.mono (by decide)) (shpa_cons (shp_int.mono (by decide)) (shpa_cons ((shp_list (m := 0) shpa_ints).mono (by decide)) (shpa_cons (shp_list (m := 1) (shpa_map fun _ _ => shp_row)) shpa_nil))))
  unfold t_law_21 D0
  walk_at "go"
  refine r_ixL (by walk_at "l") (atI_nat (j := 1) rfl) ?_
  refine r_il (by walk_at "l") ?_
  refine r_forL (xs := rv bs) (fun i σ H' => ∃ rs2 v, σ = [some x0, some v1, some (.int m), some (.int st), some (.ref a), some (.ref b), some v6, some v7, some v8, some v9, v, some (.ref e), some (.ref y), none, none, none] ∧ rs2.length = rs.length ∧ (∀ j, i ≤ j → rs2[j]? = rs[j]?) ∧
      St ⟨H0, H0⟩ F H' ((e, .lst [cv, .ref d]) :: (d, .lst (rv bs)) :: (L ++ rowL bs rs2))) ⟨rs, _, rfl, rfl, (fun _ _ => rfl), G⟩ (fun i σ H' _ h => by obtain ⟨_, _, _, _, _, G'⟩ := h; exact SqL.of (G'.get (by walk_at "m"))) ?_ ?_
  · rintro i z σ H' hi ⟨rs2, v, rfl, hl2, hj, G2⟩
    obtain ⟨ra, hi1, rfl⟩ := rv_get hi
    have hi2 : i < rs.length := by have := (List.getElem?_eq_some_iff.mp hi1).1; omega
    obtain ⟨r, hr0⟩ : ∃ r, rs[i]? = some r := ⟨_, List.getElem?_eq_getElem hi2⟩
    have hr1 := (hj i (Nat.le_refl _)).trans hr0
    have hll := ll r (List.mem_of_getElem? hr0)
    have U : ∀ r', Upd ((e, HO.lst [cv, .ref d]) :: (d, HO.lst (rv bs)) :: (L ++ rowL bs rs2)) ra (.lst (iv r)) (.lst (iv r')) ((e, HO.lst [cv, .ref d]) :: (d, HO.lst (rv bs)) :: (L ++ rowL bs (rs2.set i r'))) := fun r' => .tail (.tail (Upd.app (rowL_upd hi1 hr1)))
    walk_at "g1"
    walk_at "g1"
    walk_at "g2"
    refine r_tyL (SqL.of (G2.get (U r).mem)) ?_
    walk_at "go"
    refine r_append G2 (by rw [iv_snoc]; exact U _) (szl (by rw [iv_len]; omega)) fun H3 G3 => ?_
    refine ⟨_, _, rfl, by rw [List.length_set]; exact hl2, fun j hji => ?_, G3⟩
    rw [List.getElem?_set_ne (by omega)]
    exact hj j (by omega)
  rintro σ H2 ⟨rs2, v, rfl, _, _, G2⟩
  walk_at "go"
  refine ⟨y, m, st, ps, rs, rfl, hP.mono G2.fh, lp, lr, fun w H3 s3 hw => ?_⟩
  have G3 := G2.grow s3
  walk_at "go"
  refine r_tupS G3 (by walk_at "sz") fun u H4 s4 G4 => ?_
  refine r_neD (m := 3) (m' := 3) (Dpx.mono s4 hw) (hD (G4.get (by walk_at "m")) (lS G4.fh ha) (lS G4.fh hb) (hr.mono G4.fh)) hS hS (eqv_self hS) ?_
  walk_at "go"
  refine ⟨F, y, m, st, ps, rs, rfl, G4.fh, hP, OK, lp, lr, fun F5 H5 z g hz => ?_⟩
  have G5 := G4.call g
  have ha5 := lS g.ff ha
  have hb5 := lS g.ff hb
  have hr5 := hr.mono g.ff
  walk_at "go"
  refine r_il (lS G5.fh ha5) ?_
  refine r_lcM (k := true) (xs := iv ps) (fun v => match v with | .int i => .int (i + 1) | v => v) (by rw [iv_len]; omega) G5 (lS G5.fh ha5) (fun D i y acc H' Q' hi e G' q => ?_) (fun D H6 e G6 => ?_)
  · obtain ⟨z, hz, rfl⟩ := iv_get hi
    walk_at "go"
    exact q
  rw [show (iv ps).map (fun v => match v with | V.int i => V.int (i + 1) | v => v) = iv (ps.map (· + 1)) from by simp] at G6
  have OK2 : Pok m st (ps.map (· + 1)) rs := ⟨OK.m1, OK.ne, by rw [List.length_map]; exact OK.pl, OK.s0, OK.s1, fun p hp => by
    obtain ⟨q, hq, rfl⟩ := List.mem_map.mp hp
    have := OK.pp q hq
    show 0 ≤ q + 1
    omega, OK.rr⟩
  walk_at "go"
  refine ⟨z, m, st, ps.map (· + 1), rs, rfl, hz.mono G6.fh, OK2, by rw [List.length_map]; exact lp, lr, ?_⟩
  walk_at "go"
  refine ⟨z, m, st, ps.map (· + 1), rs, rfl, hz.mono G6.fh, by rw [List.length_map]; exact lp, lr, fun w7 H7 s7 hw7 => ?_⟩
  have G7 := G6.grow s7
  walk_at "go"
  refine r_tupS G7 (by walk_at "sz") fun u8 H8 s8 G8 => ?_
  refine r_neD (m := 3) (m' := 3) (Dpx.mono s8 hw7) (hD (G8.get (by walk_at "m")) (SqL.of (G8.get (by walk_at "m"))) (lS G8.fh hb5) (hr5.mono G8.fh)) hS hS (eqv_self hS) ?_
  walk_at "go"
  refine ⟨y, m, st, ps, rs, rfl, (hP.mono g.ff).mono G8.fh, lp, lr, fun w9 H9 s9 hw9 => ?_⟩
  have G9 := G8.grow s9
  walk_at "go"
  refine r_tupS G9 (by walk_at "sz") fun u10 H10 s10 G10 => ?_
  refine r_eqD (m := 3) (m' := 3) (Dpx.mono s10 hw9) (hD (G10.get (by walk_at "m")) (lS G10.fh ha5) (lS G10.fh hb5) (hr5.mono G10.fh)) hS hS (eqv_self hS) ?_
  exact k _
/-- from the copies on -/
theorem law_tail (T : Cl K A) {H0 F H1 : Hp} {L : Led} {x0 : V} {v1 v6 v8 v9 : V} {v10 : Option V} {m st sp : Int} {a b : Addr} {as : List Addr} {ps : List Int} {rs : List (List Int)} (G : St ⟨H0, H0⟩ F H1 L) (ha : SqL K F a (iv ps)) (hb : SqL K F b (rv as)) (hr : Rows K F true as rs)
    (lp : ps.length ≤ 1000) (lr : rs.length ≤ 1000) (ll : ∀ r ∈ rs, r.length ≤ 1000) (h1 : sp < 8 → ¬ Pok m st ps rs) (h2 : ¬ sp < 8 → Pok m st ps rs) (k : ∀ H', Q (.bl true) H') :
    t_law_15 K A E (D0 Q) [some x0, some v1, some (.int m), some (.int st), some (.ref a), some (.ref b), some v6, some (.int sp), some v8, some v9, v10, none, none, none, none, none] H1 := by
  have al := hr.len
  have hS : Shp 3 (.list [.list (dI ps), .list (rs.map (dRow true))]) := shp_list (shpa_cons ((shp_list (m := 0) shpa_ints).mono (by decide)) (shpa_cons (shp_list (m := 1) (shpa_map fun _ _ => shp_row)) shpa_nil))
  have hD : ∀ {H' : Hp} {u : Addr} {as : List Addr} {a b : Addr}, H' u = some (.lst [.ref a, .ref b]) → SqL K H' a (iv ps) → SqL K H' b (rv as) → Rows K H' true as rs → Dp K H' (.ref u) (.list [.list (dI ps), .list (rs.map (dRow true))]) := fun h1 h2 h3 h4 =>
    .lst (SqL.of h1) (.cons (dp_ints h2) (.cons (.lst h3 h4.dp) .nil))
  unfold t_law_15 D0
  walk_at "go"
  refine r_listof G (.inl (lS G.fh ha)) fun c H2 G2 => ?_
  walk_at "go"
  refine ⟨b, as, rs, rfl, lS G2.fh hb, hr.mono G2.fh, lr, fun H3 d bs hbl ow => ?_⟩
  have G3 := G2.addL ow
  walk_at "go"
  refine r_lst G3 (by walk_at "sz") fun e H4 G4' => ?_
  have G4 : St ⟨H0, H0⟩ F H4 ((e, .lst [.ref c, .ref d]) :: (d, .lst (rv bs)) :: (((c, .lst (iv ps)) :: L) ++ rowL bs rs)) := G4'.perm (List.Perm.cons _ (List.Perm.cons _ List.perm_append_comm))
  have rf : ∀ {F' H' : Hp} {L' : Led}, St ⟨H0, H0⟩ F' H' (L' ++ ((e, .lst [.ref c, .ref d]) :: (d, .lst (rv bs)) :: (((c, .lst (iv ps)) :: L) ++ rowL bs rs))) → Rows K H' true bs rs := fun G => rowL_rows hbl fun x hx => G.get (by simp [hx])
  walk_at "go"
  refine r_ixL (by walk_at "l") (atI_nat (j := 0) rfl) ?_
  walk_at "go"
  refine r_ixL (by walk_at "l") (atI_nat (j := 1) rfl) ?_
  walk_at "go"
  refine ⟨F, c, d, bs, m, st, ps, rs, rfl, G4.fh, SqL.of (G4.get (by walk_at "m")), SqL.of (G4.get (by walk_at "m")), rf (L' := []) G4, lp, lr, fun OK F5 H5 y g hP => ?_, fun np H5 sm => ?_⟩
  · have G5 := G4.call g
    have hn : ¬ sp < 8 := fun z => h1 z OK
    walk_at "go"
    refine r_lst G5 (by walk_at "sz") fun f H6 G6 => ?_
    refine r_neD (m := 3) (m' := 3) (hD (G6.get (by walk_at "m")) (SqL.of (G6.get (by walk_at "m"))) (SqL.of (G6.get (by walk_at "m"))) (rf (L' := [_]) G6)) (hD (G6.get (by walk_at "m")) (lS G6.fh (lS g.ff ha)) (lS G6.fh (lS g.ff hb)) ((hr.mono g.ff).mono G6.fh)) hS hS (eqv_self hS) ?_
    walk_at "go"
    refine ⟨y, m, st, ps, rs, rfl, hP.mono G6.fh, OK, lp, lr, ?_⟩
    walk_at "go"
    refine r_ixL (by walk_at "l") (atI_nat (j := 0) rfl) ?_
    walk_at "go"
    refine r_append G6 (by walk_at "u") (szl (by rw [iv_len]; omega)) fun H7 G7 => ?_
    have G8 := (G7.front (a := d) (by walk_at "tk")).front (a := e) (by walk_at "tk")
    exact law_last T (cv := .ref c) (L := (f, _) :: (c, _) :: L) G8 (lS g.ff ha) (lS g.ff hb) (hr.mono g.ff) hP OK hbl lp lr ll k
  · have G5 := G4.grow sm
    have hn : sp < 8 := by
      by_cases z : sp < 8
      · exact z
      · exact absurd (h2 z) np
    walk_at "go"
    refine r_lst G5 (by walk_at "sz") fun f H6 G6 => ?_
    refine r_neD (m := 3) (m' := 3) (hD (G6.get (by walk_at "m")) (SqL.of (G6.get (by walk_at "m"))) (SqL.of (G6.get (by walk_at "m"))) (rf (L' := [_]) G6)) (hD (G6.get (by walk_at "m")) (lS G6.fh ha) (lS G6.fh hb) (hr.mono G6.fh)) hS hS (eqv_self hS) ?_
    walk_at "go"
    exact k _
theorem p_law (T : Cl K A) (h : sp_law K A vs H Q E) : t_law K A E (D0 Q) (start ["script", "draws", "letters", "start", "priorities", "rows", "count", "spoilt", "state", "letter", "row", "passed", "found", "other", "priority", "raised"] vs) H := by
  obtain ⟨s, ns, rfl, hs, hns, k⟩ := h
  have G := St.init (Same.refl H)
  unfold t_law
  show tSeq _ _ (D0 Q) [some (.ref s), none, none, none, none, none, none, none, none, none, none, none, none, none, none, none] H
  unfold D0
  walk_at "go"
  refine u_draws G hs hns (by decide) (by decide) fun p d1 H1 hd1 G1 => ?_
  walk_at "go"
  refine u_take G1 (fun _ => .head) hd1 (by decide) fun m1 d2 H2 m10 m11 hd2 G2 => ?_
  walk_at "go"
  refine ⟨p, d2, 1 + m1, 4, rfl, G2.get (by walk_at "m"), hd2, by omega, by omega, by decide, by decide, fun H3 d3 t a b bs st ps rs hd3 OK lr4 hbl ow => ?_⟩
  have G3' := G2.addLB Upd.head ow
  have G3 : St ⟨H, H⟩ H H3 ((t, .tup [.int st, .ref a, .ref b]) :: (b, .lst (rv bs)) :: (a, .lst (iv ps)) :: (p, .lst (iv d3)) :: rowL bs rs) := G3'.perm (List.Perm.cons _ (List.Perm.cons _ (List.Perm.cons _ (List.perm_append_comm (l₁ := [_])))))
  clear G3'
  obtain ⟨o1, o2, o3, o4, o5, o6, o7⟩ := id OK
  have lr : rs.length ≤ 1000 := by omega
  have lp : ps.length ≤ 1000 := by omega
  have ll : ∀ r ∈ rs, r.length ≤ 1000 := fun r hr => by have := (o7 r hr).1; omega
  generalize hm : 1 + m1 = m at *
  refine ⟨t, _, rfl, SqT.of (G3.get (by walk_at "m")), rfl, ?_⟩
  refine ⟨_, _, rfl, _, _, rfl, _, _, rfl, rfl, ?_⟩
  show tSeq _ _ _ [some (.ref s), some (.ref p), some (.int m), some (.int st), some (.ref a), some (.ref b), none, none, none, none, none, none, none, none, none, none] H3
  walk_at "go"
  rw [rv_len, hbl]
  refine u_take G3 (fun _ => .tail (.tail (.tail .head))) hd3 (by decide) fun sp d4 H4 sp0 sp1 hd4 G4 => ?_
  walk_at "go"
  refine u_take G4 (fun _ => .tail (.tail (.tail .head))) hd4 (by omega) fun j d5 H5 j0 j1 hd5 G5 => ?_
  walk_at "go"
  refine u_take G5 (fun _ => .tail (.tail (.tail .head))) hd5 (by omega) fun l d6 H6 l0 l1 hd6 G6 => ?_
  have G7 := (G6.front (a := a) (by walk_at "tk")).front (a := b) (by walk_at "tk")
  clear G3 G4 G5 G6 G1 G2
  -- what is left when the lists lie still
  have fin : ∀ {F' H' : Hp} {L' : Led} {rs0 : Int} {v10 : Option V} {m st : Int} {a b : Addr} {as : List Addr} {ps : List Int} {rs : List (List Int)}, St ⟨H, H⟩ F' H' ((b, .lst (rv as)) :: (a, .lst (iv ps)) :: (L' ++ rowL as rs)) → as.length = rs.length → ps.length ≤ 1000 → rs.length ≤ 1000 → (∀ r ∈ rs, r.length ≤ 1000) → (sp < 8 → ¬ Pok m st ps rs) → (¬ sp < 8 → Pok m st ps rs) →
      t_law_15 K A E (D0 Q) [some (.ref s), some (.ref p), some (.int m), some (.int st), some (.ref a), some (.ref b), some (.int (rs0 : Int)), some (.int sp), some (.int j), some (.int l), v10, none, none, none, none, none] H' := by
    intro F' H' L' rs0 v10 m st a b as ps rs G hl lp lr ll h1 h2
    obtain ⟨F1, s1, f1, G1⟩ := St.frzs (L1 := (b, .lst (rv as)) :: (a, .lst (iv ps)) :: rowL as rs) (L2 := L') (G.perm (List.Perm.cons _ (List.Perm.cons _ List.perm_append_comm)))
    exact law_tail T G1 (SqL.of (f1 (a, .lst (iv ps)) (by walk_at "m"))) (SqL.of (f1 (b, .lst (rv as)) (by walk_at "m"))) (rowL_rows hl fun x hx => f1 x (by simp [hx])) lp lr ll h1 h2 k
  obtain ⟨r0, rs', hrs⟩ : ∃ r0 rs', rs = r0 :: rs' := by
    cases rs with
    | nil => simp at o2
    | cons r0 rs' => exact ⟨r0, rs', rfl⟩
  have hr0 : (r0.length : Int) = m := (o7 r0 (by rw [hrs]; exact List.mem_cons_self)).1
  walk_at "go"
  refine r_ifD (fun h => ?_) (fun h0 => ?_)
  · subst h
    walk_at "go"
    refine r_lst G7 (by walk_at "sz") fun e H8 G8 => ?_
    walk_at "go"
    refine u_take G8 (fun _ => .tail (.tail (.tail (.tail .head)))) hd6 (by decide) fun q d7 H9 q0 q1 hd7 G9 => ?_
    refine r_ixL (xs := iv [0, -2, m + 1]) (by walk_at "l") (atI_iv q0 q1) ?_
    have hq : ∀ z, z = [0, -2, m + 1].getD q.toNat 0 → ¬ Pok z st ps rs := by
      rintro z rfl OK2
      have e1 := OK2.m1
      have e2 := (OK2.rr r0 (by rw [hrs]; exact List.mem_cons_self)).1
      rcases (show q = 0 ∨ q = 1 ∨ q = 2 by omega) with rfl | rfl | rfl
      · have e3 : (1 : Int) ≤ 0 := e1
        omega
      · have e3 : (1 : Int) ≤ -2 := e1
        omega
      · have e3 : (r0.length : Int) = m + 1 := e2
        omega
    walk_at "go"
    have G11 := (G9.front (a := a) (by walk_at "tk")).front (a := b) (by walk_at "tk")
    exact fin (L' := [_, _, _]) G11 hbl lp lr ll (fun _ => hq _ rfl) (fun z => absurd (by decide) z)
  walk_at "go"
  refine r_ifD (fun h => ?_) (fun h1 => ?_)
  · subst h
    walk_at "go"
    refine r_lst G7 (by walk_at "sz") fun b2 H8 G8 => ?_
    walk_at "go"
    refine r_lst G8 (by walk_at "sz") fun a2 H9 G9 => ?_
    walk_at "go"
    have G10 := G9.front (a := b2) (by walk_at "tk")
    rw [show (rowL bs rs) = rowL bs rs ++ rowL [] [] from by simp [rowL]] at G10
    exact fin (a := a2) (b := b2) (as := []) (ps := []) (rs := []) (L' := _ :: _ :: _ :: _ :: rowL bs rs) G10 rfl (by decide) (by decide) (fun _ h => nomatch h) (fun _ OK2 => absurd OK2.ne (by decide)) (fun z => absurd (by decide) z)
  walk_at "go"
  refine r_ifD (fun h => ?_) (fun h2 => ?_)
  · subst h
    walk_at "go"
    refine r_lst G7 (by walk_at "sz") fun e H8 G8 => ?_
    walk_at "go"
    refine u_take G8 (fun _ => .tail (.tail (.tail (.tail .head)))) hd6 (by decide) fun q d7 H9 q0 q1 hd7 G9 => ?_
    refine r_ixL (xs := iv [-1, rs.length, rs.length + 3]) (by walk_at "l") (atI_iv q0 q1) ?_
    have hq : ∀ z, z = [-1, (rs.length : Int), rs.length + 3].getD q.toNat 0 → ¬ Pok m z ps rs := by
      rintro z rfl OK2
      have e1 := OK2.s0
      have e2 := OK2.s1
      rcases (show q = 0 ∨ q = 1 ∨ q = 2 by omega) with rfl | rfl | rfl
      · have e3 : (0 : Int) ≤ -1 := e1
        omega
      · have e3 : (rs.length : Int) < rs.length := e2
        omega
      · have e3 : (rs.length : Int) + 3 < rs.length := e2
        omega
    walk_at "go"
    have G11 := (G9.front (a := a) (by walk_at "tk")).front (a := b) (by walk_at "tk")
    exact fin (L' := [_, _, _]) G11 hbl lp lr ll (fun _ => hq _ rfl) (fun z => absurd (by decide) z)
  walk_at "go"
  refine r_ifD (fun h => ?_) (fun h3 => ?_)
  · subst h
    walk_at "go"
    refine r_slL G7 (by walk_at "l") fun a2 H8 G8 => ?_
    rw [show cutV (iv ps) (some 1) none = iv (ps.drop 1) from (cut_from (k := 1)).trans (by simp)] at G8
    walk_at "go"
    have G11 := G8.front (a := b) (by walk_at "tk")
    exact fin (a := a2) (ps := ps.drop 1) (L' := [_, _, _]) G11 hbl (by simp; omega) lr ll (fun _ OK2 => by have := OK2.pl; simp at this; omega) (fun z => absurd (by decide) z)
  walk_at "go"
  refine r_ifD (fun h => ?_) (fun h4 => ?_)
  · subst h
    walk_at "go"
    refine r_setL (xs := iv ps) G7 (ixN_of j0 (by rw [iv_len]; omega)) (by walk_at "u") fun H8 G8 => ?_
    rw [iv_set] at G8
    walk_at "go"
    exact fin (m := m) (st := st) (a := a) (ps := ps.set j.toNat (-1)) (L' := [_, _]) G8 hbl (by simp; omega) lr ll (fun _ OK2 => by
      have := OK2.pp (-1) (List.mem_of_getElem? (i := j.toNat) (by rw [List.getElem?_set_self (by omega)]))
      omega) (fun z => absurd (by decide) z)
  walk_at "go"
  refine r_ifD (fun h => ?_) (fun h5 => ?_)
  · subst h
    walk_at "go"
    have hjn : j.toNat < rs.length := by omega
    obtain ⟨rj, hrj⟩ : ∃ r, rs[j.toNat]? = some r := ⟨_, List.getElem?_eq_getElem hjn⟩
    obtain ⟨bj, hbj⟩ : ∃ r, bs[j.toNat]? = some r := ⟨_, List.getElem?_eq_getElem (by omega)⟩
    have hat : atI (rv bs) j = some (.ref bj) := by
      have : ((j.toNat : Nat) : Int) = j := by omega
      rw [← this]
      exact atI_nat (by rw [List.getElem?_map, hbj]; rfl)
    obtain ⟨q1, q2⟩ := o7 rj (List.mem_of_getElem? hrj)
    refine r_ixL (by walk_at "l") hat ?_
    walk_at "go"
    refine r_lst G7 (by walk_at "sz") fun e H8 G8 => ?_
    walk_at "go"
    refine u_take G8 (fun _ => .tail (.tail (.tail (.tail .head)))) hd6 (by decide) fun q d7 H9 q0 q1' hd7 G9 => ?_
    refine r_ixL (xs := iv [-1, rs.length]) (by walk_at "l") (atI_iv q0 q1') ?_
    walk_at "go"
    refine r_setL (xs := iv rj) G9 (ixN_of l0 (by rw [iv_len]; omega)) (by rw [iv_set]; exact .tail (.tail (.tail (.tail (.tail (rowL_upd hbj hrj)))))) fun H10 G10 => ?_
    generalize hv : [-1, (rs.length : Int)].getD q.toNat 0 = w at *
    have hw : w < 0 ∨ (rs.length : Int) ≤ w := by
      rw [← hv]
      rcases (show q = 0 ∨ q = 1 by omega) with rfl | rfl
      · exact .inl (show (-1 : Int) < 0 by decide)
      · exact .inr (Int.le_refl _)
    have G11 := (G10.front (a := a) (by walk_at "tk")).front (a := b) (by walk_at "tk")
    walk_at "go"
    refine fin (as := bs) (rs := rs.set j.toNat (rj.set l.toNat w)) (L' := [_, _, _]) G11 (by rw [List.length_set]; exact hbl) lp (by rw [List.length_set]; exact lr) (fun r hr => ?_) (fun _ OK2 => ?_) (fun z => absurd (by decide) z)
    · rcases List.mem_or_eq_of_mem_set hr with z | z
      · exact ll r z
      · rw [z, List.length_set]; omega
    · have e1 := OK2.rr (rj.set l.toNat w) (List.mem_of_getElem? (i := j.toNat) (by rw [List.getElem?_set_self hjn]))
      have e2 := e1.2 w (List.mem_of_getElem? (i := l.toNat) (by rw [List.getElem?_set_self (by omega)]))
      rw [List.length_set] at e2
      omega
  walk_at "go"
  refine r_ifD (fun h => ?_) (fun h6 => ?_)
  · subst h
    have hjn : j.toNat < rs.length := by omega
    obtain ⟨rj, hrj⟩ : ∃ r, rs[j.toNat]? = some r := ⟨_, List.getElem?_eq_getElem hjn⟩
    obtain ⟨bj, hbj⟩ : ∃ r, bs[j.toNat]? = some r := ⟨_, List.getElem?_eq_getElem (by omega)⟩
    have hat : atI (rv bs) j = some (.ref bj) := by
      have : ((j.toNat : Nat) : Int) = j := by omega
      rw [← this]
      exact atI_nat (by rw [List.getElem?_map, hbj]; rfl)
    obtain ⟨q1, q2⟩ := o7 rj (List.mem_of_getElem? hrj)
    walk_at "go"
    refine r_ixL (by walk_at "l") hat ?_
    walk_at "go"
    refine r_lst G7 (by walk_at "sz") fun e H8 G8 => ?_
    have me : (bj, HO.lst (iv rj)) ∈ rowL bs rs := (rowL_upd (r' := []) hbj hrj).mem
    refine r_cat (ys := [.int 0]) G8 (List.Mem.tail _ (.tail _ (.tail _ (.tail _ (.tail _ me))))) (by walk_at "m") (sz (by rw [iv_len]; simp; omega)) fun n9 H9 G9 => ?_
    rw [show iv rj ++ [V.int 0] = iv (rj ++ [0]) from by simp] at G9
    walk_at "go"
    refine r_setL (xs := rv bs) G9 (ixN_of j0 (by rw [rv_len]; omega)) (by walk_at "u") fun H10 G10 => ?_
    rw [show (rv bs).set j.toNat (.ref n9) = rv (bs.set j.toNat n9) from by simp [List.map_set]] at G10
    have G11 := ((G10.front (a := n9) (by walk_at "tk")).front (a := a) (by walk_at "tk")).front (a := b) (by walk_at "tk")
    -- the old row falls out of the rows, the new one stands in its place
    obtain ⟨F1, s1, f1, G12⟩ := St.frzs (L1 := (b, .lst (rv (bs.set j.toNat n9))) :: (a, .lst (iv ps)) :: (n9, .lst (iv (rj ++ [0]))) :: rowL bs rs) (L2 := [_, _, _]) (G11.perm (List.Perm.cons _ (List.Perm.cons _ (List.Perm.cons _ (List.perm_append_comm (l₂ := [_, _, _]))))))
    have hR : Rows K F1 true (bs.set j.toNat n9) (rs.set j.toNat (rj ++ [0])) := (rowL_rows hbl fun x hx => f1 x (by simp [hx])).set (show SqL K F1 n9 (iv (rj ++ [0])) from SqL.of (f1 (n9, .lst (iv (rj ++ [0]))) (by walk_at "m")))
    walk_at "go"
    refine law_tail (sp := 6) T G12 (SqL.of (f1 (a, .lst (iv ps)) (by walk_at "m"))) (SqL.of (f1 (b, .lst (rv (bs.set j.toNat n9))) (by walk_at "m"))) hR lp (by rw [List.length_set]; exact lr) (fun r hr => ?_) (fun _ OK2 => ?_) (fun z => absurd (by decide) z) k
    · rcases List.mem_or_eq_of_mem_set hr with z | z
      · exact ll r z
      · rw [z]; simp; omega
    · have e1 := (OK2.rr (rj ++ [0]) (List.mem_of_getElem? (i := j.toNat) (by rw [List.getElem?_set_self hjn]))).1
      simp at e1
      omega
  walk_at "go"
  refine r_ifD (fun h => ?_) (fun h7 => ?_)
  · subst h
    walk_at "go"
    refine r_lst G7 (by walk_at "sz") fun e H8 G8 => ?_
    refine r_cat (xs := iv ps) (ys := [.int 0]) G8 (by walk_at "m") (by walk_at "m") (sz (by rw [iv_len]; simp; omega)) fun a2 H9 G9 => ?_
    rw [show iv ps ++ [V.int 0] = iv (ps ++ [0]) from by simp] at G9
    walk_at "go"
    have G11 := G9.front (a := b) (by walk_at "tk")
    exact fin (a := a2) (ps := ps ++ [0]) (L' := [_, _, _, _]) G11 hbl (by simp; omega) lr ll (fun _ OK2 => by have := OK2.pl; simp at this; omega) (fun z => absurd (by decide) z)
  walk_at "go"
  exact fin (L' := [_, _]) G7 hbl lp lr ll (fun z => by omega) (fun _ => OK)
end

def top (i : Nat) : Stmt := PySem.Challenge.pw_promiseplay_k22_parity_automaton.main.body.getD i (.Pass ⟨0, 0, 0, 0⟩)
abbrev s_ParityAutomaton_init : Stmt := (inClass (top 4) 0)
abbrev s_complement_parity : Stmt := (top 5)
abbrev s__law_draws : Stmt := (top 7)
abbrev s__law_take : Stmt := (top 8)
abbrev s__law_is_integer : Stmt := (top 9)
abbrev s__law_integers : Stmt := (top 10)
abbrev s__law_flat : Stmt := (top 11)
abbrev s__law_parity : Stmt := (top 12)
abbrev s__law_is_parity : Stmt := (top 13)
abbrev s__law_outcome : Stmt := (top 14)
abbrev s__law_fields : Stmt := (top 15)
abbrev s_law : Stmt := (top 16)
theorem sc_ParityAutomaton_init : FnScope ["self", "letters", "start", "priorities", "rows", "row"] ["self", "letters", "start", "priorities", "rows"] (defScope s_ParityAutomaton_init) := ⟨rfl, rfl, rfl, by decide +kernel, rfl, by decide +kernel, by decide +kernel⟩
theorem sc_complement_parity : FnScope ["parity", "priority", "priorities"] ["parity"] (defScope s_complement_parity) := ⟨rfl, rfl, rfl, by decide +kernel, rfl, by decide +kernel, by decide +kernel⟩
theorem sc__law_draws : FnScope ["script", "count", "cells", "found", "mixed", "k", "j", "cell", "again"] ["script", "count"] (defScope s__law_draws) := ⟨rfl, rfl, rfl, by decide +kernel, rfl, by decide +kernel, by decide +kernel⟩
theorem sc__law_take : FnScope ["draws", "limit"] ["draws", "limit"] (defScope s__law_take) := ⟨rfl, rfl, rfl, by decide +kernel, rfl, by decide +kernel, by decide +kernel⟩
theorem sc__law_is_integer : FnScope ["actual"] ["actual"] (defScope s__law_is_integer) := ⟨rfl, rfl, rfl, by decide +kernel, rfl, by decide +kernel, by decide +kernel⟩
theorem sc__law_integers : FnScope ["actual", "low", "high", "item"] ["actual", "low", "high"] (defScope s__law_integers) := ⟨rfl, rfl, rfl, by decide +kernel, rfl, by decide +kernel, by decide +kernel⟩
theorem sc__law_flat : FnScope ["rows", "row"] ["rows"] (defScope s__law_flat) := ⟨rfl, rfl, rfl, by decide +kernel, rfl, by decide +kernel, by decide +kernel⟩
theorem sc__law_parity : FnScope ["draws", "letters", "most", "count", "top", "state", "priorities", "rows", "letter"] ["draws", "letters", "most"] (defScope s__law_parity) := ⟨rfl, rfl, rfl, by decide +kernel, rfl, by decide +kernel, by decide +kernel⟩
theorem sc__law_is_parity : FnScope ["actual", "letters", "count", "priority", "row"] ["actual", "letters"] (defScope s__law_is_parity) := ⟨rfl, rfl, rfl, by decide +kernel, rfl, by decide +kernel, by decide +kernel⟩
theorem sc__law_outcome : FnScope ["letters", "start", "priorities", "rows", "found"] ["letters", "start", "priorities", "rows"] (defScope s__law_outcome) := ⟨rfl, rfl, rfl, by decide +kernel, rfl, by decide +kernel, by decide +kernel⟩
theorem sc__law_fields : FnScope ["automaton", "row"] ["automaton"] (defScope s__law_fields) := ⟨rfl, rfl, rfl, by decide +kernel, rfl, by decide +kernel, by decide +kernel⟩
theorem sc_law : FnScope ["script", "draws", "letters", "start", "priorities", "rows", "count", "spoilt", "state", "letter", "row", "passed", "found", "other", "priority", "raised"] ["script"] (defScope s_law) := ⟨rfl, rfl, rfl, by decide +kernel, rfl, by decide +kernel, by decide +kernel⟩
structure Txt (K : PySem.W.Frag) (mg : Str → Option Value) (A : Ads) : Prop where
  cl : Cl K A
  F_ParityAutomaton_init : Fun K "__init__" "ParityAutomaton.__init__" s_ParityAutomaton_init A.a_ParityAutomaton_init A.fd_ParityAutomaton_init
  b_ParityAutomaton_init : Binds K A.fd_ParityAutomaton_init ["self", "letters", "start", "priorities", "rows"] []
  mt_ParityAutomaton_init : Meth K A.C_ParityAutomaton "__init__" A.a_ParityAutomaton_init
  F_complement_parity : Fun K "complement_parity" "complement_parity" s_complement_parity A.a_complement_parity A.fd_complement_parity
  b_complement_parity : Binds K A.fd_complement_parity ["parity"] []
  g_complement_parity : mg "complement_parity" = some (.ref A.a_complement_parity)
  k_complement_parity : PySem.W.keepIn K (.ref A.a_complement_parity) = true
  F__law_draws : Fun K "_law_draws" "_law_draws" s__law_draws A.a__law_draws A.fd__law_draws
  b__law_draws : Binds K A.fd__law_draws ["script", "count"] []
  g__law_draws : mg "_law_draws" = some (.ref A.a__law_draws)
  k__law_draws : PySem.W.keepIn K (.ref A.a__law_draws) = true
  F__law_take : Fun K "_law_take" "_law_take" s__law_take A.a__law_take A.fd__law_take
  b__law_take : Binds K A.fd__law_take ["draws", "limit"] []
  g__law_take : mg "_law_take" = some (.ref A.a__law_take)
  k__law_take : PySem.W.keepIn K (.ref A.a__law_take) = true
  F__law_is_integer : Fun K "_law_is_integer" "_law_is_integer" s__law_is_integer A.a__law_is_integer A.fd__law_is_integer
  b__law_is_integer : Binds K A.fd__law_is_integer ["actual"] []
  g__law_is_integer : mg "_law_is_integer" = some (.ref A.a__law_is_integer)
  k__law_is_integer : PySem.W.keepIn K (.ref A.a__law_is_integer) = true
  F__law_integers : Fun K "_law_integers" "_law_integers" s__law_integers A.a__law_integers A.fd__law_integers
  b__law_integers : Binds K A.fd__law_integers ["actual", "low", "high"] []
  g__law_integers : mg "_law_integers" = some (.ref A.a__law_integers)
  k__law_integers : PySem.W.keepIn K (.ref A.a__law_integers) = true
  F__law_flat : Fun K "_law_flat" "_law_flat" s__law_flat A.a__law_flat A.fd__law_flat
  b__law_flat : Binds K A.fd__law_flat ["rows"] []
  g__law_flat : mg "_law_flat" = some (.ref A.a__law_flat)
  k__law_flat : PySem.W.keepIn K (.ref A.a__law_flat) = true
  F__law_parity : Fun K "_law_parity" "_law_parity" s__law_parity A.a__law_parity A.fd__law_parity
  b__law_parity : Binds K A.fd__law_parity ["draws", "letters", "most"] []
  g__law_parity : mg "_law_parity" = some (.ref A.a__law_parity)
  k__law_parity : PySem.W.keepIn K (.ref A.a__law_parity) = true
  F__law_is_parity : Fun K "_law_is_parity" "_law_is_parity" s__law_is_parity A.a__law_is_parity A.fd__law_is_parity
  b__law_is_parity : Binds K A.fd__law_is_parity ["actual", "letters"] []
  g__law_is_parity : mg "_law_is_parity" = some (.ref A.a__law_is_parity)
  k__law_is_parity : PySem.W.keepIn K (.ref A.a__law_is_parity) = true
  F__law_outcome : Fun K "_law_outcome" "_law_outcome" s__law_outcome A.a__law_outcome A.fd__law_outcome
  b__law_outcome : Binds K A.fd__law_outcome ["letters", "start", "priorities", "rows"] []
  g__law_outcome : mg "_law_outcome" = some (.ref A.a__law_outcome)
  k__law_outcome : PySem.W.keepIn K (.ref A.a__law_outcome) = true
  F__law_fields : Fun K "_law_fields" "_law_fields" s__law_fields A.a__law_fields A.fd__law_fields
  b__law_fields : Binds K A.fd__law_fields ["automaton"] []
  g__law_fields : mg "_law_fields" = some (.ref A.a__law_fields)
  k__law_fields : PySem.W.keepIn K (.ref A.a__law_fields) = true
  F_law : Fun K "law" "law" s_law A.a_law A.fd_law
  b_law : Binds K A.fd_law ["script"] []
  g_law : mg "law" = some (.ref A.a_law)
  k_law : PySem.W.keepIn K (.ref A.a_law) = true
  g_ParityAutomaton : mg "ParityAutomaton" = some (.ref A.C_ParityAutomaton)
  cl_ParityAutomaton : Cls K A.C_ParityAutomaton
  M_ParityAutomaton : Mk K A.C_ParityAutomaton A.a_ParityAutomaton_init
  g_InvalidAutomaton : mg "InvalidAutomaton" = some (.ref A.C_InvalidAutomaton)
  k_InvalidAutomaton : PySem.W.keepIn K (.ref A.C_InvalidAutomaton) = true
  x_InvalidAutomaton : PySem.W.excIn K A.C_InvalidAutomaton [.type "ValueError", .type "Exception", .type "BaseException", .type "object"] "ValueError.__new__" = true
  s_InvalidAutomaton : PySem.W.subIn K (.ref A.C_InvalidAutomaton) (.type "BaseException") = some true
  t_InvalidAutomaton : PySem.W.typeIn K (.ref A.C_InvalidAutomaton) = some (.type "type")
  z_bool : mg "bool" = none
  z_int : mg "int" = none
  z_isinstance : mg "isinstance" = none
  z_len : mg "len" = none
  z_list : mg "list" = none
  z_max : mg "max" = none
  z_min : mg "min" = none
  z_range : mg "range" = none
  z_tuple : mg "tuple" = none
section
variable {P : Program} {w : World} {K : PySem.W.Frag} {mg : Str → Option Value} {base : Heap} {A : Ads}
theorem ok_ParityAutomaton_init (T : Txt K mg A) : FnOk P w K mg base (L2.CX P w) 1 A.a_ParityAutomaton_init A.fd_ParityAutomaton_init ["self", "letters", "start", "priorities", "rows"] (sp_ParityAutomaton_init K A) :=
  T.F_ParityAutomaton_init.okX sc_ParityAutomaton_init (fun vs H Q E h => by obtain ⟨_, _, _, _, _, _, _, _, _, _, _, _, rfl, _⟩ := h; rfl) (fun cdv Ar outer s H vs Q E hr h => ⟨t_ParityAutomaton_init K A E, by exact (pss_cons (ps_if (PW.pt (pw_or (pt_cmpR op_lt (pv 1) pe_int (nomark _)) (pw_or (pt_cmpR op_eq (pe_callB call_len_seq (by rfl) T.z_len (by decide +kernel) (pa_cons (pv 4) pa_nil)) pe_int (nomark _)) (pw_or1 (pt_cmpR op_ne (pe_callB call_len_seq (by rfl) T.z_len (by decide +kernel) (pa_cons (pv 3) pa_nil)) (pe_callB call_len_seq (by rfl) T.z_len (by decide +kernel) (pa_cons (pv 4) pa_nil)) (nomark _)))))) (pss_one (ps_raise rfl (takes_of rfl rfl rfl rfl) (pmk_own PySem.F.excBase_ValueError T.x_InvalidAutomaton T.g_InvalidAutomaton T.k_InvalidAutomaton (raises_own T.s_InvalidAutomaton T.t_InvalidAutomaton) (by exact rfl)))) pss_nil)
 (pss_cons (ps_if (PW.pt (pw_or (pt_cmpR op_lt (pv 2) pe_int (nomark _)) (pw_or (pt_cmpR op_ge (pv 2) (pe_callB call_len_seq (by rfl) T.z_len (by decide +kernel) (pa_cons (pv 4) pa_nil)) (nomark _)) (pw_or1 (pt_cmpR op_lt (pe_callB (cB_min rfl) (by rfl) T.z_min (by decide +kernel) (pa_cons (pv 3) pa_nil)) pe_int (nomark _)))))) (pss_one (ps_raise rfl (takes_of rfl rfl rfl rfl) (pmk_own PySem.F.excBase_ValueError T.x_InvalidAutomaton T.g_InvalidAutomaton T.k_InvalidAutomaton (raises_own T.s_InvalidAutomaton T.t_InvalidAutomaton) (by exact rfl)))) pss_nil)
 (pss_cons (ps_for (passes_of rfl) rfl (pi_seq (pv 4)) (pg_name (i := 5) sc_ParityAutomaton_init.nd rfl (Or.inl rfl)) (pss_one (ps_if (PW.pt (pw_or (pt_cmpR op_ne (pe_callB call_len_seq (by rfl) T.z_len (by decide +kernel) (pa_cons (pv 5) pa_nil)) (pv 1) (nomark _)) (pw_or (pt_cmpR op_lt (pe_callB (cB_min rfl) (by rfl) T.z_min (by decide +kernel) (pa_cons (pv 5) pa_nil)) pe_int (nomark _)) (pw_or1 (pt_cmpR op_ge (pe_callB (cB_max rfl) (by rfl) T.z_max (by decide +kernel) (pa_cons (pv 5) pa_nil)) (pe_callB call_len_seq (by rfl) T.z_len (by decide +kernel) (pa_cons (pv 4) pa_nil)) (nomark _)))))) (pss_one (ps_raise rfl (takes_of rfl rfl rfl rfl) (pmk_own PySem.F.excBase_ValueError T.x_InvalidAutomaton T.g_InvalidAutomaton T.k_InvalidAutomaton (raises_own T.s_InvalidAutomaton T.t_InvalidAutomaton) (by exact rfl)))) pss_nil)))
 (pss_cons (ps_fld (pv 0) (pv 1) rfl)
 (pss_cons (ps_fld (pv 0) (pv 2) rfl)
 (pss_cons (ps_fld (pv 0) (pe_callTy call_tuple_of (by rfl) T.z_tuple (by decide +kernel) (pa_cons (pv 3) pa_nil)) rfl)
 (pss_one (ps_fld (pv 0) (pe_callTy call_tuple_of (by rfl) T.z_tuple (by decide +kernel) (pa_cons (pe_lc (own := [("row", 5)]) rfl sc_ParityAutomaton_init.nd (pi_seq (pv 4)) (blkOk_by (N := ["self", "letters", "start", "priorities", "rows", "row"]) (sc := defScope s_ParityAutomaton_init) (own := [("row", 5)]) (by decide +kernel)) (fun _ _ _ _ _ => (pg_name (i := 5) sc_ParityAutomaton_init.nd rfl (Or.inl rfl))) (fun _ _ _ _ _ => pts_nil) (fun _ _ _ _ _ => (pe_callTy call_tuple_of (by rfl) T.z_tuple (by decide +kernel) (pa_cons (pv 5) pa_nil)))) pa_nil)) rfl)))))))), p_ParityAutomaton_init T.cl h⟩)
theorem ok__law_draws (T : Txt K mg A) : FnOk P w K mg base CX0 1 A.a__law_draws A.fd__law_draws ["script", "count"] (sp__law_draws K A) :=
  T.F__law_draws.ok sc__law_draws (fun vs H Q E h => by obtain ⟨_, _, _, rfl, _⟩ := h; rfl) (fun cdv Ar outer s H vs Q E hr h => ⟨t__law_draws K A E, by exact (pss_cons (ps_set (i := 2) sc__law_draws.nd rfl (Or.inl rfl) (pe_callTy call_list_of (by rfl) T.z_list (by decide +kernel) (pa_cons (pv 0) pa_nil)))
 (pss_cons (ps_if (pt_cmpR op_eq (pe_callB call_len_seq (by rfl) T.z_len (by decide +kernel) (pa_cons (pv 2) pa_nil)) pe_int (nomark _)) (pss_one (ps_set (i := 2) sc__law_draws.nd rfl (Or.inl rfl) (pe_lst (pa_cons pe_int pa_nil)))) pss_nil)
 (pss_cons (ps_set (i := 3) sc__law_draws.nd rfl (Or.inl rfl) (pe_lst pa_nil))
 (pss_cons (ps_set (i := 4) sc__law_draws.nd rfl (Or.inl rfl) pe_int)
 (pss_cons (ps_for PassesOwn.never rfl (pi_range1 rfl T.z_range (pa_cons (pv 1) pa_nil)) (pg_name (i := 5) sc__law_draws.nd rfl (Or.inl rfl)) (pss_cons (ps_set (i := 6) sc__law_draws.nd rfl (Or.inl rfl) (pe_op op_mod (pv 5) (pe_callB call_len_seq (by rfl) T.z_len (by decide +kernel) (pa_cons (pv 2) pa_nil))))
 (pss_cons (ps_set (i := 7) sc__law_draws.nd rfl (Or.inl rfl) (pe_ix ix_list (pv 2) (pv 6) (fun _ _ => rfl)))
 (pss_cons (ps_set (i := 4) sc__law_draws.nd rfl (Or.inl rfl) (pe_op op_mod (pe_callTy call_int1 (by rfl) T.z_int (by decide +kernel) (pa_cons (pe_op op_add (pe_op op_add (pe_op op_add (pe_op op_mulW (pv 4) pe_int) (pe_op op_mulW (pe_op op_mod (pe_callTy call_int1 (by rfl) T.z_int (by decide +kernel) (pa_cons (pv 7) pa_nil)) pe_int) pe_int)) (pe_op op_mulW (pv 5) pe_int)) pe_int) pa_nil)) pe_int))
 (pss_cons (ps_set (i := 8) sc__law_draws.nd rfl (Or.inl rfl) (pe_op op_mod (pe_callTy call_int1 (by rfl) T.z_int (by decide +kernel) (pa_cons (pe_op op_add (pe_op op_add (pe_op op_mulW (pv 4) (pv 4)) (pe_op op_mulW pe_int (pv 4))) (pv 5)) pa_nil)) pe_int))
 (pss_one (ps_if (pt_cmpR op_ge (pv 7) (pe_op op_pow pe_int pe_int) (nomark _)) (pss_cons (ps_expr (pe_bm PySem.F.plainAttrs_list PySem.F.slot_list_append PySem.F.type_list_append mt_append (pv 3) (pa_cons (pe_op op_mod (pe_callTy call_int1 (by rfl) T.z_int (by decide +kernel) (pa_cons (pv 7) pa_nil)) pe_int) pa_nil)))
 (pss_one (ps_asg (pe_op op_fdivW (pv 7) pe_int) (pg_sub (pv 2) (pv 6) set_list)))) (pss_one (ps_expr (pe_bm PySem.F.plainAttrs_list PySem.F.slot_list_append PySem.F.type_list_append mt_append (pv 3) (pa_cons (pe_op op_mod (pe_callTy call_int1 (by rfl) T.z_int (by decide +kernel) (pa_cons (pv 8) pa_nil)) pe_int) pa_nil)))))))))))
 (pss_cons (ps_expr (pe_bm0 PySem.F.plainAttrs_list PySem.F.slot_list_reverse PySem.F.type_list_reverse mt_reverse (pv 3)))
 (pss_one (ps_ret (pv 3))))))))), p__law_draws T.cl h⟩)
theorem ok__law_take (T : Txt K mg A) : FnOk P w K mg base CX0 1 A.a__law_take A.fd__law_take ["draws", "limit"] (sp__law_take K A) :=
  T.F__law_take.ok sc__law_take (fun vs H Q E h => by obtain ⟨_, _, _, rfl, _⟩ := h; rfl) (fun cdv Ar outer s H vs Q E hr h => ⟨t__law_take K A E, by exact (pss_cons (ps_if (pt_cmpR op_eq (pe_callB call_len_seq (by rfl) T.z_len (by decide +kernel) (pa_cons (pv 0) pa_nil)) pe_int (nomark _)) (pss_one (ps_ret pe_int)) pss_nil)
 (pss_one (ps_ret (pe_op op_mod (pe_callTy call_int1 (by rfl) T.z_int (by decide +kernel) (pa_cons (pe_bm0 PySem.F.plainAttrs_list PySem.F.slot_list_pop PySem.F.type_list_pop mt_pop (pv 0)) pa_nil)) (pv 1))))), p__law_take T.cl h⟩)
theorem ok__law_is_integer (T : Txt K mg A) : FnOk P w K mg base CX0 1 A.a__law_is_integer A.fd__law_is_integer ["actual"] (sp__law_is_integer K A) :=
  T.F__law_is_integer.ok sc__law_is_integer (fun vs H Q E h => by obtain ⟨_, rfl, _⟩ := h; rfl) (fun cdv Ar outer s H vs Q E hr h => ⟨t__law_is_integer K A E, by exact (pss_one (ps_ret (pe_and (pe_callB call_isi (by rfl) T.z_isinstance (by decide +kernel) (pa_cons (pv 0) (pa_cons (pe_bltn (v := .ty "int") (by rfl) T.z_int (by decide +kernel) rfl) pa_nil))) (pe_one (pe_not (pe_callB call_isi (by rfl) T.z_isinstance (by decide +kernel) (pa_cons (pv 0) (pa_cons (pe_bltn (v := .ty "bool") (by rfl) T.z_bool (by decide +kernel) rfl) pa_nil)))))))), p__law_is_integer T.cl h⟩)
theorem ok__law_flat (T : Txt K mg A) : FnOk P w K mg base CX0 1 A.a__law_flat A.fd__law_flat ["rows"] (sp__law_flat K A) :=
  T.F__law_flat.ok sc__law_flat (fun vs H Q E h => by obtain ⟨_, _, _, rfl, _⟩ := h; rfl) (fun cdv Ar outer s H vs Q E hr h => ⟨t__law_flat K A E, by exact (pss_one (ps_ret (pe_lc (own := [("row", 1)]) rfl sc__law_flat.nd (pi_list (pv 0)) (blkOk_by (N := ["rows", "row"]) (sc := defScope s__law_flat) (own := [("row", 1)]) (by decide +kernel)) (fun _ _ _ _ _ => (pg_name (i := 1) sc__law_flat.nd rfl (Or.inl rfl))) (fun _ _ _ _ _ => pts_nil) (fun _ _ _ _ _ => (pe_callTy call_list_of (by rfl) T.z_list (by decide +kernel) (pa_cons (pv 1) pa_nil)))))), p__law_flat T.cl h⟩)
theorem ok__law_fields (T : Txt K mg A) : FnOk P w K mg base CX0 1 A.a__law_fields A.fd__law_fields ["automaton"] (sp__law_fields K A) :=
  T.F__law_fields.ok sc__law_fields (fun vs H Q E h => by obtain ⟨_, _, _, _, _, rfl, _⟩ := h; rfl) (fun cdv Ar outer s H vs Q E hr h => ⟨t__law_fields K A E, by exact (pss_one (ps_ret (pe_tup (pa_cons (pe_fld (pv 0) rfl) (pa_cons (pe_fld (pv 0) rfl) (pa_cons (pe_callTy call_list_of (by rfl) T.z_list (by decide +kernel) (pa_cons (pe_fld (pv 0) rfl) pa_nil)) (pa_cons (pe_lc (own := [("row", 1)]) rfl sc__law_fields.nd (pi_tup (pe_fld (pv 0) rfl)) (blkOk_by (N := ["automaton", "row"]) (sc := defScope s__law_fields) (own := [("row", 1)]) (by decide +kernel)) (fun _ _ _ _ _ => (pg_name (i := 1) sc__law_fields.nd rfl (Or.inl rfl))) (fun _ _ _ _ _ => pts_nil) (fun _ _ _ _ _ => (pe_callTy call_list_of (by rfl) T.z_list (by decide +kernel) (pa_cons (pv 1) pa_nil)))) pa_nil))))))), p__law_fields T.cl h⟩)
theorem ok__law_integers (T : Txt K mg A) : FnOk P w K mg base CX0 2 A.a__law_integers A.fd__law_integers ["actual", "low", "high"] (sp__law_integers K A) :=
  T.F__law_integers.ok sc__law_integers (fun vs H Q E h => by obtain ⟨_, _, _, _, rfl, _⟩ := h; rfl) (fun cdv Ar outer s H vs Q E hr h => ⟨t__law_integers K A E, by exact (pss_cons (ps_if (pt_not (pt_val (pe_callB call_isi (by rfl) T.z_isinstance (by decide +kernel) (pa_cons (pv 0) (pa_cons (pe_bltn (v := .ty "tuple") (by rfl) T.z_tuple (by decide +kernel) rfl) pa_nil))))) (pss_one (ps_ret pe_bl)) pss_nil)
 (pss_cons (ps_for PassesOwn.never rfl (pi_tup (pv 0)) (pg_name (i := 3) sc__law_integers.nd rfl (Or.inl rfl)) (pss_one (ps_if (PW.pt (pw_or (pt_not (pt_val (pe_call (ok__law_is_integer T) (hr.mono (by decide)) rfl T.g__law_is_integer T.k__law_is_integer T.b__law_is_integer .nil pass0 (pa_cons (pv 3) pa_nil)))) (pw_or (pt_cmpR op_lt (pv 3) (pv 1) (nomark _)) (pw_or1 (pt_cmpR op_ge (pv 3) (pv 2) (nomark _)))))) (pss_one (ps_ret pe_bl)) pss_nil)))
 (pss_one (ps_ret pe_bl)))), p__law_integers T.cl h⟩)
theorem ok__law_parity (T : Txt K mg A) : FnOk P w K mg base CX0 2 A.a__law_parity A.fd__law_parity ["draws", "letters", "most"] (sp__law_parity K A) :=
  T.F__law_parity.ok sc__law_parity (fun vs H Q E h => by obtain ⟨_, _, _, _, rfl, _⟩ := h; rfl) (fun cdv Ar outer s H vs Q E hr h => ⟨t__law_parity K A E, by exact (pss_cons (ps_set (i := 3) sc__law_parity.nd rfl (Or.inr rfl) (pe_op op_add pe_int (pe_call (ok__law_take T) (hr.mono (by decide)) rfl T.g__law_take T.k__law_take T.b__law_take .nil pass0 (pa_cons (pv 0) (pa_cons (pv 2) pa_nil)))))
 (pss_cons (ps_set (i := 4) sc__law_parity.nd rfl (Or.inr rfl) (pe_op op_add pe_int (pe_call (ok__law_take T) (hr.mono (by decide)) rfl T.g__law_take T.k__law_take T.b__law_take .nil pass0 (pa_cons (pv 0) (pa_cons pe_int pa_nil)))))
 (pss_cons (ps_setLc (i := 6) (own := [("state", 5)]) rfl sc__law_parity.nd rfl rfl (sw_true rfl rfl rfl (by decide +kernel)) (pi_range1 rfl T.z_range (pa_cons (pv 3) pa_nil)) (blkOk_by (N := ["draws", "letters", "most", "count", "top", "state", "priorities", "rows", "letter"]) (sc := defScope s__law_parity) (own := [("state", 5)]) (by decide +kernel)) (fun _ _ _ _ _ => (pg_name (i := 5) sc__law_parity.nd rfl (Or.inl rfl))) (fun _ _ _ _ _ => pts_nil) (fun _ _ _ _ _ => (pe_call (ok__law_take T) (hr.mono (by decide)) rfl T.g__law_take T.k__law_take T.b__law_take .nil pass0 (pa_cons (pv 0) (pa_cons (pv 4) pa_nil)))))
 (pss_cons (ps_set (i := 7) sc__law_parity.nd rfl (Or.inl rfl) (pe_lst pa_nil))
 (pss_cons (ps_for PassesOwn.never rfl (pi_range1 rfl T.z_range (pa_cons (pv 3) pa_nil)) (pg_name (i := 5) sc__law_parity.nd rfl (Or.inl rfl)) (pss_one (ps_expr (pe_bm PySem.F.plainAttrs_list PySem.F.slot_list_append PySem.F.type_list_append mt_append (pv 7) (pa_cons (pe_lc (own := [("letter", 8)]) rfl sc__law_parity.nd (pi_range1 rfl T.z_range (pa_cons (pv 1) pa_nil)) (blkOk_by (N := ["draws", "letters", "most", "count", "top", "state", "priorities", "rows", "letter"]) (sc := defScope s__law_parity) (own := [("letter", 8)]) (by decide +kernel)) (fun _ _ _ _ _ => (pg_name (i := 8) sc__law_parity.nd rfl (Or.inl rfl))) (fun _ _ _ _ _ => pts_nil) (fun _ _ _ _ _ => (pe_call (ok__law_take T) (hr.mono (by decide)) rfl T.g__law_take T.k__law_take T.b__law_take .nil pass0 (pa_cons (pv 0) (pa_cons (pv 3) pa_nil))))) pa_nil)))))
 (pss_one (ps_ret (pe_tup (pa_cons (pe_call (ok__law_take T) (hr.mono (by decide)) rfl T.g__law_take T.k__law_take T.b__law_take .nil pass0 (pa_cons (pv 0) (pa_cons (pv 3) pa_nil))) (pa_cons (pv 6) (pa_cons (pv 7) pa_nil))))))))))), p__law_parity T.cl h⟩)
theorem ok_complement_parity (T : Txt K mg A) : FnOk P w K mg base CX0 3 A.a_complement_parity A.fd_complement_parity ["parity"] (sp_complement_parity K A) :=
  T.F_complement_parity.ok sc_complement_parity (fun vs H Q E h => by obtain ⟨_, _, _, _, _, _, rfl, _⟩ := h; rfl) (fun cdv Ar outer s H vs Q E hr h => ⟨t_complement_parity K A E, by exact (pss_cons (ps_setLc (i := 2) (own := [("priority", 1)]) rfl sc_complement_parity.nd rfl rfl (sw_true rfl rfl rfl (by decide +kernel)) (pi_tup (pe_fld (pv 0) rfl)) (blkOk_by (N := ["parity", "priority", "priorities"]) (sc := defScope s_complement_parity) (own := [("priority", 1)]) (by decide +kernel)) (fun _ _ _ _ _ => (pg_name (i := 1) sc_complement_parity.nd rfl (Or.inl rfl))) (fun _ _ _ _ _ => pts_nil) (fun _ _ _ _ _ => (pe_op op_add (pv 1) pe_int)))
 (pss_one (ps_ret (pe_make T.M_ParityAutomaton (ok_ParityAutomaton_init T) (hr.mono (by decide)) rfl T.g_ParityAutomaton T.b_ParityAutomaton_init .nil passL (pa_cons (pe_fld (pv 0) rfl) (pa_cons (pe_fld (pv 0) rfl) (pa_cons (pv 2) (pa_cons (pe_fld (pv 0) rfl) pa_nil)))))))), p_complement_parity T.cl h⟩)
theorem ok__law_is_parity (T : Txt K mg A) : FnOk P w K mg base CX0 3 A.a__law_is_parity A.fd__law_is_parity ["actual", "letters"] (sp__law_is_parity K A) :=
  T.F__law_is_parity.ok sc__law_is_parity (fun vs H Q E h => by obtain ⟨_, _, _, _, _, rfl, _⟩ := h; rfl) (fun cdv Ar outer s H vs Q E hr h => ⟨t__law_is_parity K A E, by exact (pss_cons (ps_if (PW.pt (pw_or (pt_not (pt_val (pe_call (ok__law_is_integer T) (hr.mono (by decide)) rfl T.g__law_is_integer T.k__law_is_integer T.b__law_is_integer .nil pass0 (pa_cons (pe_fld (pv 0) rfl) pa_nil)))) (pw_or1 (pt_cmpR op_ne (pe_fld (pv 0) rfl) (pv 1) (nomark _))))) (pss_one (ps_ret pe_bl)) pss_nil)
 (pss_cons (ps_if (PW.pt (pw_or (pt_not (pt_val (pe_callB call_isi (by rfl) T.z_isinstance (by decide +kernel) (pa_cons (pe_fld (pv 0) rfl) (pa_cons (pe_bltn (v := .ty "tuple") (by rfl) T.z_tuple (by decide +kernel) rfl) pa_nil))))) (pw_or1 (pt_cmpR op_eq (pe_callB call_len_seq (by rfl) T.z_len (by decide +kernel) (pa_cons (pe_fld (pv 0) rfl) pa_nil)) pe_int (nomark _))))) (pss_one (ps_ret pe_bl)) pss_nil)
 (pss_cons (ps_set (i := 2) sc__law_is_parity.nd rfl (Or.inl rfl) (pe_callB call_len_seq (by rfl) T.z_len (by decide +kernel) (pa_cons (pe_fld (pv 0) rfl) pa_nil)))
 (pss_cons (ps_if (PW.pt (pw_or (pt_not (pt_val (pe_call (ok__law_is_integer T) (hr.mono (by decide)) rfl T.g__law_is_integer T.k__law_is_integer T.b__law_is_integer .nil pass0 (pa_cons (pe_fld (pv 0) rfl) pa_nil)))) (pw_or (pt_cmpR op_lt (pe_fld (pv 0) rfl) pe_int (nomark _)) (pw_or1 (pt_cmpR op_ge (pe_fld (pv 0) rfl) (pv 2) (nomark _)))))) (pss_one (ps_ret pe_bl)) pss_nil)
 (pss_cons (ps_if (PW.pt (pw_or (pt_not (pt_val (pe_callB call_isi (by rfl) T.z_isinstance (by decide +kernel) (pa_cons (pe_fld (pv 0) rfl) (pa_cons (pe_bltn (v := .ty "tuple") (by rfl) T.z_tuple (by decide +kernel) rfl) pa_nil))))) (pw_or1 (pt_cmpR op_ne (pe_callB call_len_seq (by rfl) T.z_len (by decide +kernel) (pa_cons (pe_fld (pv 0) rfl) pa_nil)) (pv 2) (nomark _))))) (pss_one (ps_ret pe_bl)) pss_nil)
 (pss_cons (ps_for PassesOwn.never rfl (pi_tup (pe_fld (pv 0) rfl)) (pg_name (i := 3) sc__law_is_parity.nd rfl (Or.inl rfl)) (pss_one (ps_if (PW.pt (pw_or (pt_not (pt_val (pe_call (ok__law_is_integer T) (hr.mono (by decide)) rfl T.g__law_is_integer T.k__law_is_integer T.b__law_is_integer .nil pass0 (pa_cons (pv 3) pa_nil)))) (pw_or1 (pt_cmpR op_lt (pv 3) pe_int (nomark _))))) (pss_one (ps_ret pe_bl)) pss_nil)))
 (pss_cons (ps_for PassesOwn.never rfl (pi_tup (pe_fld (pv 0) rfl)) (pg_name (i := 4) sc__law_is_parity.nd rfl (Or.inl rfl)) (pss_one (ps_if (PW.pt (pw_or (pt_not (pt_val (pe_call (ok__law_integers T) (hr.mono (by decide)) rfl T.g__law_integers T.k__law_integers T.b__law_integers .nil pass0 (pa_cons (pv 4) (pa_cons pe_int (pa_cons (pv 2) pa_nil)))))) (pw_or1 (pt_cmpR op_ne (pe_callB call_len_seq (by rfl) T.z_len (by decide +kernel) (pa_cons (pv 4) pa_nil)) (pv 1) (nomark _))))) (pss_one (ps_ret pe_bl)) pss_nil)))
 (pss_one (ps_ret pe_bl))))))))), p__law_is_parity T.cl h⟩)
theorem ok__law_outcome (T : Txt K mg A) : FnOk P w K mg base CX0 3 A.a__law_outcome A.fd__law_outcome ["letters", "start", "priorities", "rows"] (sp__law_outcome K A) :=
  T.F__law_outcome.ok sc__law_outcome (fun vs H Q E h => by obtain ⟨_, _, _, _, _, _, _, _, rfl, _⟩ := h; rfl) (fun cdv Ar outer s H vs Q E hr h => ⟨t__law_outcome K A E, by exact (pss_cons (ps_try_many (tb := fun W => (tAsg (tMake A.C_ParityAutomaton (sp_ParityAutomaton_init K A) [] (wAll W) (tCons (tVar 0) (tCons (tVar 1) (tCons (tVar 2) (tCons (tVar 3) tNil))))) (gName 4))) (l := [(.ref A.C_InvalidAutomaton, fun a cls d => (tRet (tC .non)))]) (Wout := fun _ _ _ _ => False) rfl rfl takes0 (fun W pn xe tk po => (pss_one (ps_set (i := 4) sc__law_outcome.nd rfl (Or.inl rfl) (pe_make T.M_ParityAutomaton (ok_ParityAutomaton_init T) (hr.mono (by decide)) rfl T.g_ParityAutomaton T.b_ParityAutomaton_init .nil (passes_all tk) (pa_cons (pv 0) (pa_cons (pv 1) (pa_cons (pv 2) (pa_cons (pv 3) pa_nil)))))))) (HdsOk.cons (c := .ref A.C_InvalidAutomaton) ⟨rfl, by decide, .inl T.g_InvalidAutomaton⟩ (fun a oe cls d pn hz hf => (pss_one (ps_ret pe_non))) HdsOk.nil))
 (pss_one (ps_ret (pe_ifExp (pt_cmpR op_isN (pv 4) pe_non (nomark _)) pe_str (pv 4))))), p__law_outcome T.cl h⟩)
theorem ok_law (T : Txt K mg A) : FnOk P w K mg base CX0 4 A.a_law A.fd_law ["script"] (sp_law K A) :=
  T.F_law.ok sc_law (fun vs H Q E h => by obtain ⟨_, _, rfl, _⟩ := h; rfl) (fun cdv Ar outer s H vs Q E hr h => ⟨t_law K A E, by exact (pss_cons (ps_set (i := 1) sc_law.nd rfl (Or.inl rfl) (pe_call (ok__law_draws T) (hr.mono (by decide)) rfl T.g__law_draws T.k__law_draws T.b__law_draws .nil pass0 (pa_cons (pv 0) (pa_cons pe_int pa_nil))))
 (pss_cons (ps_set (i := 2) sc_law.nd rfl (Or.inl rfl) (pe_op op_add pe_int (pe_call (ok__law_take T) (hr.mono (by decide)) rfl T.g__law_take T.k__law_take T.b__law_take .nil pass0 (pa_cons (pv 1) (pa_cons pe_int pa_nil)))))
 (pss_cons (ps_asg (pe_call (ok__law_parity T) (hr.mono (by decide)) rfl T.g__law_parity T.k__law_parity T.b__law_parity .nil pass0 (pa_cons (pv 1) (pa_cons (pv 2) (pa_cons pe_int pa_nil)))) (pg_tup (by rfl) (pgs_cons (pg_name (i := 3) sc_law.nd rfl (Or.inl rfl)) (pgs_cons (pg_name (i := 4) sc_law.nd rfl (Or.inl rfl)) (pgs_cons (pg_name (i := 5) sc_law.nd rfl (Or.inl rfl)) pgs_nil)))))
 (pss_cons (ps_set (i := 6) sc_law.nd rfl (Or.inl rfl) (pe_callB call_len_seq (by rfl) T.z_len (by decide +kernel) (pa_cons (pv 5) pa_nil)))
 (pss_cons (ps_set (i := 7) sc_law.nd rfl (Or.inl rfl) (pe_call (ok__law_take T) (hr.mono (by decide)) rfl T.g__law_take T.k__law_take T.b__law_take .nil pass0 (pa_cons (pv 1) (pa_cons pe_int pa_nil))))
 (pss_cons (ps_set (i := 8) sc_law.nd rfl (Or.inl rfl) (pe_call (ok__law_take T) (hr.mono (by decide)) rfl T.g__law_take T.k__law_take T.b__law_take .nil pass0 (pa_cons (pv 1) (pa_cons (pv 6) pa_nil))))
 (pss_cons (ps_set (i := 9) sc_law.nd rfl (Or.inl rfl) (pe_call (ok__law_take T) (hr.mono (by decide)) rfl T.g__law_take T.k__law_take T.b__law_take .nil pass0 (pa_cons (pv 1) (pa_cons (pv 2) pa_nil))))
 (pss_cons (ps_if (pt_cmpR op_eq (pv 7) pe_int (nomark _)) (pss_one (ps_set (i := 2) sc_law.nd rfl (Or.inl rfl) (pe_ix ix_list (pe_lst (pa_cons pe_int (pa_cons (pe_un un_neg pe_int) (pa_cons (pe_op op_add (pv 2) pe_int) pa_nil)))) (pe_call (ok__law_take T) (hr.mono (by decide)) rfl T.g__law_take T.k__law_take T.b__law_take .nil pass0 (pa_cons (pv 1) (pa_cons pe_int pa_nil))) (fun _ _ => rfl)))) pss_nil)
 (pss_cons (ps_if (pt_cmpR op_eq (pv 7) pe_int (nomark _)) (pss_cons (ps_set (i := 5) sc_law.nd rfl (Or.inl rfl) (pe_lst pa_nil))
 (pss_one (ps_set (i := 4) sc_law.nd rfl (Or.inl rfl) (pe_lst pa_nil)))) pss_nil)
 (pss_cons (ps_if (pt_cmpR op_eq (pv 7) pe_int (nomark _)) (pss_one (ps_set (i := 3) sc_law.nd rfl (Or.inl rfl) (pe_ix ix_list (pe_lst (pa_cons (pe_un un_neg pe_int) (pa_cons (pv 6) (pa_cons (pe_op op_add (pv 6) pe_int) pa_nil)))) (pe_call (ok__law_take T) (hr.mono (by decide)) rfl T.g__law_take T.k__law_take T.b__law_take .nil pass0 (pa_cons (pv 1) (pa_cons pe_int pa_nil))) (fun _ _ => rfl)))) pss_nil)
 (pss_cons (ps_if (pt_cmpR op_eq (pv 7) pe_int (nomark _)) (pss_one (ps_set (i := 4) sc_law.nd rfl (Or.inl rfl) (pe_slice sl_list (pv 4) (po_some pe_int) po_none))) pss_nil)
 (pss_cons (ps_if (pt_cmpR op_eq (pv 7) pe_int (nomark _)) (pss_one (ps_asg (pe_un un_neg pe_int) (pg_sub (pv 4) (pv 8) set_list))) pss_nil)
 (pss_cons (ps_if (pt_cmpR op_eq (pv 7) pe_int (nomark _)) (pss_cons (ps_set (i := 10) sc_law.nd rfl (Or.inl rfl) (pe_ix ix_list (pv 5) (pv 8) (fun _ _ => rfl)))
 (pss_one (ps_asg (pe_ix ix_list (pe_lst (pa_cons (pe_un un_neg pe_int) (pa_cons (pv 6) pa_nil))) (pe_call (ok__law_take T) (hr.mono (by decide)) rfl T.g__law_take T.k__law_take T.b__law_take .nil pass0 (pa_cons (pv 1) (pa_cons pe_int pa_nil))) (fun _ _ => rfl)) (pg_sub (pv 10) (pv 9) set_list)))) pss_nil)
 (pss_cons (ps_if (pt_cmpR op_eq (pv 7) pe_int (nomark _)) (pss_one (ps_asg (pe_op op_cat (pe_ix ix_list (pv 5) (pv 8) (fun _ _ => rfl)) (pe_lst (pa_cons pe_int pa_nil))) (pg_sub (pv 5) (pv 8) set_list))) pss_nil)
 (pss_cons (ps_if (pt_cmpR op_eq (pv 7) pe_int (nomark _)) (pss_one (ps_set (i := 4) sc_law.nd rfl (Or.inl rfl) (pe_op op_cat (pv 4) (pe_lst (pa_cons pe_int pa_nil))))) pss_nil)
 (pss_cons (ps_set (i := 11) sc_law.nd rfl (Or.inl rfl) (pe_lst (pa_cons (pe_callTy call_list_of (by rfl) T.z_list (by decide +kernel) (pa_cons (pv 4) pa_nil)) (pa_cons (pe_call (ok__law_flat T) (hr.mono (by decide)) rfl T.g__law_flat T.k__law_flat T.b__law_flat .nil pass0 (pa_cons (pv 5) pa_nil)) pa_nil))))
 (pss_cons (ps_set (i := 12) sc_law.nd rfl (Or.inl rfl) (pe_call (ok__law_outcome T) (hr.mono (by decide)) rfl T.g__law_outcome T.k__law_outcome T.b__law_outcome .nil pass0 (pa_cons (pv 2) (pa_cons (pv 3) (pa_cons (pe_ix ix_list (pv 11) pe_int (fun _ _ => rfl)) (pa_cons (pe_ix ix_list (pv 11) pe_int (fun _ _ => rfl)) pa_nil))))))
 (pss_cons (ps_if (pt_cmpR (op_neD hr.units) (pv 11) (pe_lst (pa_cons (pv 4) (pa_cons (pv 5) pa_nil))) (nomark _)) (pss_one (ps_ret pe_bl)) pss_nil)
 (pss_cons (ps_if (pt_cmpR op_lt (pv 7) pe_int (nomark _)) (pss_one (ps_ret (pe_cmpR op_isN (pv 12) pe_non (nomark _)))) pss_nil)
 (pss_cons (ps_if (PW.pt (pw_or (pt_cmpR op_isN (pv 12) pe_non (nomark _)) (pw_or1 (pt_not (pt_val (pe_call (ok__law_is_parity T) (hr.mono (by decide)) rfl T.g__law_is_parity T.k__law_is_parity T.b__law_is_parity .nil pass0 (pa_cons (pv 12) (pa_cons (pv 2) pa_nil)))))))) (pss_one (ps_ret pe_bl)) pss_nil)
 (pss_cons (ps_expr (pe_bm PySem.F.plainAttrs_list PySem.F.slot_list_append PySem.F.type_list_append mt_append (pe_ix ix_list (pv 11) pe_int (fun _ _ => rfl)) (pa_cons pe_int pa_nil)))
 (pss_cons (ps_for PassesOwn.never rfl (pi_list (pe_ix ix_list (pv 11) pe_int (fun _ _ => rfl))) (pg_name (i := 10) sc_law.nd rfl (Or.inl rfl)) (pss_one (ps_expr (pe_bm PySem.F.plainAttrs_list PySem.F.slot_list_append PySem.F.type_list_append mt_append (pv 10) (pa_cons pe_int pa_nil)))))
 (pss_cons (ps_if (pt_cmpR (op_neD hr.units) (pe_call (ok__law_fields T) (hr.mono (by decide)) rfl T.g__law_fields T.k__law_fields T.b__law_fields .nil pass0 (pa_cons (pv 12) pa_nil)) (pe_tup (pa_cons (pv 2) (pa_cons (pv 3) (pa_cons (pv 4) (pa_cons (pv 5) pa_nil))))) (nomark _)) (pss_one (ps_ret pe_bl)) pss_nil)
 (pss_cons (ps_set (i := 13) sc_law.nd rfl (Or.inl rfl) (pe_call (ok_complement_parity T) (hr.mono (by decide)) rfl T.g_complement_parity T.k_complement_parity T.b_complement_parity .nil pass0 (pa_cons (pv 12) pa_nil)))
 (pss_cons (ps_setLc (i := 15) (own := [("priority", 14)]) rfl sc_law.nd rfl rfl (sw_true rfl rfl rfl (by decide +kernel)) (pi_list (pv 4)) (blkOk_by (N := ["script", "draws", "letters", "start", "priorities", "rows", "count", "spoilt", "state", "letter", "row", "passed", "found", "other", "priority", "raised"]) (sc := defScope s_law) (own := [("priority", 14)]) (by decide +kernel)) (fun _ _ _ _ _ => (pg_name (i := 14) sc_law.nd rfl (Or.inl rfl))) (fun _ _ _ _ _ => pts_nil) (fun _ _ _ _ _ => (pe_op op_add (pv 14) pe_int)))
 (pss_cons (ps_if (PW.pt (pw_or (pt_not (pt_val (pe_call (ok__law_is_parity T) (hr.mono (by decide)) rfl T.g__law_is_parity T.k__law_is_parity T.b__law_is_parity .nil pass0 (pa_cons (pv 13) (pa_cons (pv 2) pa_nil))))) (pw_or1 (pt_cmpR (op_neD hr.units) (pe_call (ok__law_fields T) (hr.mono (by decide)) rfl T.g__law_fields T.k__law_fields T.b__law_fields .nil pass0 (pa_cons (pv 13) pa_nil)) (pe_tup (pa_cons (pv 2) (pa_cons (pv 3) (pa_cons (pv 15) (pa_cons (pv 5) pa_nil))))) (nomark _))))) (pss_one (ps_ret pe_bl)) pss_nil)
 (pss_one (ps_ret (pe_cmpR (op_eqD hr.units) (pe_call (ok__law_fields T) (hr.mono (by decide)) rfl T.g__law_fields T.k__law_fields T.b__law_fields .nil pass0 (pa_cons (pv 12) pa_nil)) (pe_tup (pa_cons (pv 2) (pa_cons (pv 3) (pa_cons (pv 4) (pa_cons (pv 5) pa_nil))))) (nomark _)))))))))))))))))))))))))))))), p_law T.cl h⟩)
end
theorem all_mk {l : PySem.W.OpenLaw} {w : World} {K : PySem.W.Frag} {h : Heap} {mg : Str → Option Value} {fa : Addr} (X : K.In h) (G : h.Ns mainGlobals mg) (hfa : mg "law" = some (.ref fa))
    {f_ParityAutomaton_init : Addr} {od_ParityAutomaton_init an_ParityAutomaton_init : Option Addr} {sl_ParityAutomaton_init : Array (Option Value)} {oc_ParityAutomaton_init kV_ParityAutomaton_init dc_ParityAutomaton_init pm_ParityAutomaton_init cd_ParityAutomaton_init ct_ParityAutomaton_init : Value}
    {f_complement_parity : Addr} {od_complement_parity an_complement_parity : Option Addr} {sl_complement_parity : Array (Option Value)} {oc_complement_parity kV_complement_parity dc_complement_parity pm_complement_parity cd_complement_parity ct_complement_parity : Value}
    {f__law_draws : Addr} {od__law_draws an__law_draws : Option Addr} {sl__law_draws : Array (Option Value)} {oc__law_draws kV__law_draws dc__law_draws pm__law_draws cd__law_draws ct__law_draws : Value}
    {f__law_take : Addr} {od__law_take an__law_take : Option Addr} {sl__law_take : Array (Option Value)} {oc__law_take kV__law_take dc__law_take pm__law_take cd__law_take ct__law_take : Value}
    {f__law_is_integer : Addr} {od__law_is_integer an__law_is_integer : Option Addr} {sl__law_is_integer : Array (Option Value)} {oc__law_is_integer kV__law_is_integer dc__law_is_integer pm__law_is_integer cd__law_is_integer ct__law_is_integer : Value}
    {f__law_integers : Addr} {od__law_integers an__law_integers : Option Addr} {sl__law_integers : Array (Option Value)} {oc__law_integers kV__law_integers dc__law_integers pm__law_integers cd__law_integers ct__law_integers : Value}
    {f__law_flat : Addr} {od__law_flat an__law_flat : Option Addr} {sl__law_flat : Array (Option Value)} {oc__law_flat kV__law_flat dc__law_flat pm__law_flat cd__law_flat ct__law_flat : Value}
    {f__law_parity : Addr} {od__law_parity an__law_parity : Option Addr} {sl__law_parity : Array (Option Value)} {oc__law_parity kV__law_parity dc__law_parity pm__law_parity cd__law_parity ct__law_parity : Value}
    {f__law_is_parity : Addr} {od__law_is_parity an__law_is_parity : Option Addr} {sl__law_is_parity : Array (Option Value)} {oc__law_is_parity kV__law_is_parity dc__law_is_parity pm__law_is_parity cd__law_is_parity ct__law_is_parity : Value}
    {f__law_outcome : Addr} {od__law_outcome an__law_outcome : Option Addr} {sl__law_outcome : Array (Option Value)} {oc__law_outcome kV__law_outcome dc__law_outcome pm__law_outcome cd__law_outcome ct__law_outcome : Value}
    {f__law_fields : Addr} {od__law_fields an__law_fields : Option Addr} {sl__law_fields : Array (Option Value)} {oc__law_fields kV__law_fields dc__law_fields pm__law_fields cd__law_fields ct__law_fields : Value}
    {f_law : Addr} {od_law an_law : Option Addr} {sl_law : Array (Option Value)} {oc_law kV_law dc_law pm_law cd_law ct_law : Value}
    {C_SynthError : Addr}
    {C_InvalidAutomaton : Addr}
    {C_ParityAutomaton : Addr}
    (ha_ParityAutomaton_init : PySem.W.findIn K (.ref C_ParityAutomaton) "__init__" = some (some (.ref f_ParityAutomaton_init)))
    (hi_ParityAutomaton_init : PySem.W.isFn K (.ref f_ParityAutomaton_init) = true)
    (hl_ParityAutomaton_init : K.lookup f_ParityAutomaton_init = some ⟨oc_ParityAutomaton_init, od_ParityAutomaton_init, .func (PySem.W.fnOf "__init__" "ParityAutomaton.__init__" (defArgs s_ParityAutomaton_init) (defBody s_ParityAutomaton_init) (defScope s_ParityAutomaton_init) .none kV_ParityAutomaton_init dc_ParityAutomaton_init pm_ParityAutomaton_init an_ParityAutomaton_init cd_ParityAutomaton_init ct_ParityAutomaton_init), sl_ParityAutomaton_init⟩)
    (hc_ParityAutomaton_init : PySem.W.codeIn K cd_ParityAutomaton_init "ParityAutomaton.__init__" = true)
    (hk_ParityAutomaton_init : PySem.W.keepIn K (.ref f_ParityAutomaton_init) = true)
    (ha_complement_parity : PySem.W.nsIn K mainGlobals "complement_parity" = some (some (.ref f_complement_parity)))
    (hl_complement_parity : K.lookup f_complement_parity = some ⟨oc_complement_parity, od_complement_parity, .func (PySem.W.fnOf "complement_parity" "complement_parity" (defArgs s_complement_parity) (defBody s_complement_parity) (defScope s_complement_parity) .none kV_complement_parity dc_complement_parity pm_complement_parity an_complement_parity cd_complement_parity ct_complement_parity), sl_complement_parity⟩)
    (hc_complement_parity : PySem.W.codeIn K cd_complement_parity "complement_parity" = true)
    (hk_complement_parity : PySem.W.keepIn K (.ref f_complement_parity) = true)
    (ha__law_draws : PySem.W.nsIn K mainGlobals "_law_draws" = some (some (.ref f__law_draws)))
    (hl__law_draws : K.lookup f__law_draws = some ⟨oc__law_draws, od__law_draws, .func (PySem.W.fnOf "_law_draws" "_law_draws" (defArgs s__law_draws) (defBody s__law_draws) (defScope s__law_draws) .none kV__law_draws dc__law_draws pm__law_draws an__law_draws cd__law_draws ct__law_draws), sl__law_draws⟩)
    (hc__law_draws : PySem.W.codeIn K cd__law_draws "_law_draws" = true)
    (hk__law_draws : PySem.W.keepIn K (.ref f__law_draws) = true)
    (ha__law_take : PySem.W.nsIn K mainGlobals "_law_take" = some (some (.ref f__law_take)))
    (hl__law_take : K.lookup f__law_take = some ⟨oc__law_take, od__law_take, .func (PySem.W.fnOf "_law_take" "_law_take" (defArgs s__law_take) (defBody s__law_take) (defScope s__law_take) .none kV__law_take dc__law_take pm__law_take an__law_take cd__law_take ct__law_take), sl__law_take⟩)
    (hc__law_take : PySem.W.codeIn K cd__law_take "_law_take" = true)
    (hk__law_take : PySem.W.keepIn K (.ref f__law_take) = true)
    (ha__law_is_integer : PySem.W.nsIn K mainGlobals "_law_is_integer" = some (some (.ref f__law_is_integer)))
    (hl__law_is_integer : K.lookup f__law_is_integer = some ⟨oc__law_is_integer, od__law_is_integer, .func (PySem.W.fnOf "_law_is_integer" "_law_is_integer" (defArgs s__law_is_integer) (defBody s__law_is_integer) (defScope s__law_is_integer) .none kV__law_is_integer dc__law_is_integer pm__law_is_integer an__law_is_integer cd__law_is_integer ct__law_is_integer), sl__law_is_integer⟩)
    (hc__law_is_integer : PySem.W.codeIn K cd__law_is_integer "_law_is_integer" = true)
    (hk__law_is_integer : PySem.W.keepIn K (.ref f__law_is_integer) = true)
    (ha__law_integers : PySem.W.nsIn K mainGlobals "_law_integers" = some (some (.ref f__law_integers)))
    (hl__law_integers : K.lookup f__law_integers = some ⟨oc__law_integers, od__law_integers, .func (PySem.W.fnOf "_law_integers" "_law_integers" (defArgs s__law_integers) (defBody s__law_integers) (defScope s__law_integers) .none kV__law_integers dc__law_integers pm__law_integers an__law_integers cd__law_integers ct__law_integers), sl__law_integers⟩)
    (hc__law_integers : PySem.W.codeIn K cd__law_integers "_law_integers" = true)
    (hk__law_integers : PySem.W.keepIn K (.ref f__law_integers) = true)
    (ha__law_flat : PySem.W.nsIn K mainGlobals "_law_flat" = some (some (.ref f__law_flat)))
    (hl__law_flat : K.lookup f__law_flat = some ⟨oc__law_flat, od__law_flat, .func (PySem.W.fnOf "_law_flat" "_law_flat" (defArgs s__law_flat) (defBody s__law_flat) (defScope s__law_flat) .none kV__law_flat dc__law_flat pm__law_flat an__law_flat cd__law_flat ct__law_flat), sl__law_flat⟩)
    (hc__law_flat : PySem.W.codeIn K cd__law_flat "_law_flat" = true)
    (hk__law_flat : PySem.W.keepIn K (.ref f__law_flat) = true)
    (ha__law_parity : PySem.W.nsIn K mainGlobals "_law_parity" = some (some (.ref f__law_parity)))
    (hl__law_parity : K.lookup f__law_parity = some ⟨oc__law_parity, od__law_parity, .func (PySem.W.fnOf "_law_parity" "_law_parity" (defArgs s__law_parity) (defBody s__law_parity) (defScope s__law_parity) .none kV__law_parity dc__law_parity pm__law_parity an__law_parity cd__law_parity ct__law_parity), sl__law_parity⟩)
    (hc__law_parity : PySem.W.codeIn K cd__law_parity "_law_parity" = true)
    (hk__law_parity : PySem.W.keepIn K (.ref f__law_parity) = true)
    (ha__law_is_parity : PySem.W.nsIn K mainGlobals "_law_is_parity" = some (some (.ref f__law_is_parity)))
    (hl__law_is_parity : K.lookup f__law_is_parity = some ⟨oc__law_is_parity, od__law_is_parity, .func (PySem.W.fnOf "_law_is_parity" "_law_is_parity" (defArgs s__law_is_parity) (defBody s__law_is_parity) (defScope s__law_is_parity) .none kV__law_is_parity dc__law_is_parity pm__law_is_parity an__law_is_parity cd__law_is_parity ct__law_is_parity), sl__law_is_parity⟩)
    (hc__law_is_parity : PySem.W.codeIn K cd__law_is_parity "_law_is_parity" = true)
    (hk__law_is_parity : PySem.W.keepIn K (.ref f__law_is_parity) = true)
    (ha__law_outcome : PySem.W.nsIn K mainGlobals "_law_outcome" = some (some (.ref f__law_outcome)))
    (hl__law_outcome : K.lookup f__law_outcome = some ⟨oc__law_outcome, od__law_outcome, .func (PySem.W.fnOf "_law_outcome" "_law_outcome" (defArgs s__law_outcome) (defBody s__law_outcome) (defScope s__law_outcome) .none kV__law_outcome dc__law_outcome pm__law_outcome an__law_outcome cd__law_outcome ct__law_outcome), sl__law_outcome⟩)
    (hc__law_outcome : PySem.W.codeIn K cd__law_outcome "_law_outcome" = true)
    (hk__law_outcome : PySem.W.keepIn K (.ref f__law_outcome) = true)
    (ha__law_fields : PySem.W.nsIn K mainGlobals "_law_fields" = some (some (.ref f__law_fields)))
    (hl__law_fields : K.lookup f__law_fields = some ⟨oc__law_fields, od__law_fields, .func (PySem.W.fnOf "_law_fields" "_law_fields" (defArgs s__law_fields) (defBody s__law_fields) (defScope s__law_fields) .none kV__law_fields dc__law_fields pm__law_fields an__law_fields cd__law_fields ct__law_fields), sl__law_fields⟩)
    (hc__law_fields : PySem.W.codeIn K cd__law_fields "_law_fields" = true)
    (hk__law_fields : PySem.W.keepIn K (.ref f__law_fields) = true)
    (ha_law : PySem.W.nsIn K mainGlobals "law" = some (some (.ref f_law)))
    (hl_law : K.lookup f_law = some ⟨oc_law, od_law, .func (PySem.W.fnOf "law" "law" (defArgs s_law) (defBody s_law) (defScope s_law) .none kV_law dc_law pm_law an_law cd_law ct_law), sl_law⟩)
    (hc_law : PySem.W.codeIn K cd_law "law" = true)
    (hk_law : PySem.W.keepIn K (.ref f_law) = true)
    (hn_SynthError : PySem.W.nsIn K mainGlobals "SynthError" = some (some (.ref C_SynthError)))
    (hn_InvalidAutomaton : PySem.W.nsIn K mainGlobals "InvalidAutomaton" = some (some (.ref C_InvalidAutomaton)))
    (hn_ParityAutomaton : PySem.W.nsIn K mainGlobals "ParityAutomaton" = some (some (.ref C_ParityAutomaton)))
    (hpg_ParityAutomaton : PySem.W.plainGet K C_ParityAutomaton Str.empty = true)
    (hhd_ParityAutomaton : PySem.W.hasDictIn K C_ParityAutomaton = true)
    (hpo_ParityAutomaton : PySem.W.plainOver K C_ParityAutomaton = true)
    (hsa_ParityAutomaton : PySem.W.findIn K (.ref C_ParityAutomaton) "__setattr__" = some (some (.builtin "object.__setattr__")))
    (hmk_ParityAutomaton : PySem.W.makesIn K C_ParityAutomaton = true)
    (hkc_ParityAutomaton : PySem.W.keepIn K (.ref C_ParityAutomaton) = true)
    (hna_ParityAutomaton_letters : PySem.W.findIn K (.ref C_ParityAutomaton) "letters" = some none)
    (hna_ParityAutomaton_start : PySem.W.findIn K (.ref C_ParityAutomaton) "start" = some none)
    (hna_ParityAutomaton_priorities : PySem.W.findIn K (.ref C_ParityAutomaton) "priorities" = some none)
    (hna_ParityAutomaton_rows : PySem.W.findIn K (.ref C_ParityAutomaton) "rows" = some none)
    (ht1_ParityAutomaton : PySem.W.findIn K (.ref C_ParityAutomaton) "__class__" = some (some (.builtin "object.__class__")))
    (ht4_ParityAutomaton : PySem.W.mroIn K C_ParityAutomaton (.type "object") = some true)
    (ht2 : PySem.W.specialIn K (.builtin "object.__class__") "__get__" = some (some (.builtin "getset_descriptor.__get__")))
    (ht3 : PySem.W.takesIn K (.builtin "object.__class__") = some true)
    (hk_InvalidAutomaton : PySem.W.keepIn K (.ref C_InvalidAutomaton) = true)
    (hx_InvalidAutomaton : PySem.W.excIn K C_InvalidAutomaton [.type "ValueError", .type "Exception", .type "BaseException", .type "object"] "ValueError.__new__" = true)
    (hs_InvalidAutomaton : PySem.W.subIn K (.ref C_InvalidAutomaton) (.type "BaseException") = some true)
    (ht_InvalidAutomaton : PySem.W.typeIn K (.ref C_InvalidAutomaton) = some (.type "type"))
    (hhd_InvalidAutomaton : PySem.W.hasDictIn K C_InvalidAutomaton = true)
    (he_InvalidAutomaton_InvalidAutomaton : PySem.W.subIn K (.ref C_InvalidAutomaton) (.ref C_InvalidAutomaton) = some true)
    (hz_bool : PySem.W.nsIn K mainGlobals "bool" = some none)
    (hz_int : PySem.W.nsIn K mainGlobals "int" = some none)
    (hz_isinstance : PySem.W.nsIn K mainGlobals "isinstance" = some none)
    (hz_len : PySem.W.nsIn K mainGlobals "len" = some none)
    (hz_list : PySem.W.nsIn K mainGlobals "list" = some none)
    (hz_max : PySem.W.nsIn K mainGlobals "max" = some none)
    (hz_min : PySem.W.nsIn K mainGlobals "min" = some none)
    (hz_range : PySem.W.nsIn K mainGlobals "range" = some none)
    (hz_tuple : PySem.W.nsIn K mainGlobals "tuple" = some none)
    : ∃ fd : FuncData, (∀ (s : Shared) (v : Value), BindsTo s fd ⟨[v], []⟩ [("script", v)]) ∧ ∀ base : Heap, K.In base → base.Ns mainGlobals mg → FnOk l.prog w K mg base CX0 4 fa fd ["script"] (spL K) := by
  have e : fa = f_law := by
    have e := hfa.symm.trans (PySem.W.mg_of X G ha_law)
    cases e
    rfl
  rw [e]
  have C : Cl K { a_ParityAutomaton_init := f_ParityAutomaton_init, fd_ParityAutomaton_init := PySem.W.fnOf "__init__" "ParityAutomaton.__init__" (defArgs s_ParityAutomaton_init) (defBody s_ParityAutomaton_init) (defScope s_ParityAutomaton_init) .none kV_ParityAutomaton_init dc_ParityAutomaton_init pm_ParityAutomaton_init an_ParityAutomaton_init cd_ParityAutomaton_init ct_ParityAutomaton_init, a_complement_parity := f_complement_parity, fd_complement_parity := PySem.W.fnOf "complement_parity" "complement_parity" (defArgs s_complement_parity) (defBody s_complement_parity) (defScope s_complement_parity) .none kV_complement_parity dc_complement_parity pm_complement_parity an_complement_parity cd_complement_parity ct_complement_parity, a__law_draws := f__law_draws, fd__law_draws := PySem.W.fnOf "_law_draws" "_law_draws" (defArgs s__law_draws) (defBody s__law_draws) (defScope s__law_draws) .none kV__law_draws dc__law_draws pm__law_draws an__law_draws cd__law_draws ct__law_draws, a__law_take := f__law_take, fd__law_take := PySem.W.fnOf "_law_take" "_law_take" (defArgs s__law_take) (defBody s__law_take) (defScope s__law_take) .none kV__law_take dc__law_take pm__law_take an__law_take cd__law_take ct__law_take, a__law_is_integer := f__law_is_integer, fd__law_is_integer := PySem.W.fnOf "_law_is_integer" "_law_is_integer" (defArgs s__law_is_integer) (defBody s__law_is_integer) (defScope s__law_is_integer) .none kV__law_is_integer dc__law_is_integer pm__law_is_integer an__law_is_integer cd__law_is_integer ct__law_is_integer, a__law_integers := f__law_integers, fd__law_integers := PySem.W.fnOf "_law_integers" "_law_integers" (defArgs s__law_integers) (defBody s__law_integers) (defScope s__law_integers) .none kV__law_integers dc__law_integers pm__law_integers an__law_integers cd__law_integers ct__law_integers, a__law_flat := f__law_flat, fd__law_flat := PySem.W.fnOf "_law_flat" "_law_flat" (defArgs s__law_flat) (defBody s__law_flat) (defScope s__law_flat) .none kV__law_flat dc__law_flat pm__law_flat an__law_flat cd__law_flat ct__law_flat, a__law_parity := f__law_parity, fd__law_parity := PySem.W.fnOf "_law_parity" "_law_parity" (defArgs s__law_parity) (defBody s__law_parity) (defScope s__law_parity) .none kV__law_parity dc__law_parity pm__law_parity an__law_parity cd__law_parity ct__law_parity, a__law_is_parity := f__law_is_parity, fd__law_is_parity := PySem.W.fnOf "_law_is_parity" "_law_is_parity" (defArgs s__law_is_parity) (defBody s__law_is_parity) (defScope s__law_is_parity) .none kV__law_is_parity dc__law_is_parity pm__law_is_parity an__law_is_parity cd__law_is_parity ct__law_is_parity, a__law_outcome := f__law_outcome, fd__law_outcome := PySem.W.fnOf "_law_outcome" "_law_outcome" (defArgs s__law_outcome) (defBody s__law_outcome) (defScope s__law_outcome) .none kV__law_outcome dc__law_outcome pm__law_outcome an__law_outcome cd__law_outcome ct__law_outcome, a__law_fields := f__law_fields, fd__law_fields := PySem.W.fnOf "_law_fields" "_law_fields" (defArgs s__law_fields) (defBody s__law_fields) (defScope s__law_fields) .none kV__law_fields dc__law_fields pm__law_fields an__law_fields cd__law_fields ct__law_fields, a_law := f_law, fd_law := PySem.W.fnOf "law" "law" (defArgs s_law) (defBody s_law) (defScope s_law) .none kV_law dc_law pm_law an_law cd_law ct_law, C_SynthError := C_SynthError, C_InvalidAutomaton := C_InvalidAutomaton, C_ParityAutomaton := C_ParityAutomaton : Ads } := {
    cl_ParityAutomaton := ⟨hpg_ParityAutomaton, hhd_ParityAutomaton, hpo_ParityAutomaton, hsa_ParityAutomaton⟩,
    na_ParityAutomaton_letters := hna_ParityAutomaton_letters,
    na_ParityAutomaton_start := hna_ParityAutomaton_start,
    na_ParityAutomaton_priorities := hna_ParityAutomaton_priorities,
    na_ParityAutomaton_rows := hna_ParityAutomaton_rows,
    ty_ParityAutomaton := fun e => .base (.ins e ⟨hpg_ParityAutomaton, hhd_ParityAutomaton, hpo_ParityAutomaton, hsa_ParityAutomaton⟩ ht1_ParityAutomaton ht2 ht3 ht4_ParityAutomaton),
    em_InvalidAutomaton_InvalidAutomaton := PySem.W.exm_ref hs_InvalidAutomaton hhd_InvalidAutomaton ht_InvalidAutomaton he_InvalidAutomaton_InvalidAutomaton }
  have F_ParityAutomaton_init := fun_mk (st := s_ParityAutomaton_init) hl_ParityAutomaton_init hc_ParityAutomaton_init hk_ParityAutomaton_init
  have F_complement_parity := fun_mk (st := s_complement_parity) hl_complement_parity hc_complement_parity hk_complement_parity
  have F__law_draws := fun_mk (st := s__law_draws) hl__law_draws hc__law_draws hk__law_draws
  have F__law_take := fun_mk (st := s__law_take) hl__law_take hc__law_take hk__law_take
  have F__law_is_integer := fun_mk (st := s__law_is_integer) hl__law_is_integer hc__law_is_integer hk__law_is_integer
  have F__law_integers := fun_mk (st := s__law_integers) hl__law_integers hc__law_integers hk__law_integers
  have F__law_flat := fun_mk (st := s__law_flat) hl__law_flat hc__law_flat hk__law_flat
  have F__law_parity := fun_mk (st := s__law_parity) hl__law_parity hc__law_parity hk__law_parity
  have F__law_is_parity := fun_mk (st := s__law_is_parity) hl__law_is_parity hc__law_is_parity hk__law_is_parity
  have F__law_outcome := fun_mk (st := s__law_outcome) hl__law_outcome hc__law_outcome hk__law_outcome
  have F__law_fields := fun_mk (st := s__law_fields) hl__law_fields hc__law_fields hk__law_fields
  have F_law := fun_mk (st := s_law) hl_law hc_law hk_law
  have T : Txt K mg _ := {
    cl := C,
    F_ParityAutomaton_init := F_ParityAutomaton_init,
    b_ParityAutomaton_init := F_ParityAutomaton_init.binds (ps := ["self", "letters", "start", "priorities", "rows"]) fun _ _ _ _ _ _ us hl => match us, hl with | [_, _, _, _, _], _ => rfl,
    mt_ParityAutomaton_init := ⟨ha_ParityAutomaton_init, hi_ParityAutomaton_init, hk_ParityAutomaton_init⟩,
    F_complement_parity := F_complement_parity,
    b_complement_parity := F_complement_parity.binds (ps := ["parity"]) fun _ _ _ _ _ _ us hl => match us, hl with | [_], _ => rfl,
    g_complement_parity := PySem.W.mg_of X G ha_complement_parity,
    k_complement_parity := hk_complement_parity,
    F__law_draws := F__law_draws,
    b__law_draws := F__law_draws.binds (ps := ["script", "count"]) fun _ _ _ _ _ _ us hl => match us, hl with | [_, _], _ => rfl,
    g__law_draws := PySem.W.mg_of X G ha__law_draws,
    k__law_draws := hk__law_draws,
    F__law_take := F__law_take,
    b__law_take := F__law_take.binds (ps := ["draws", "limit"]) fun _ _ _ _ _ _ us hl => match us, hl with | [_, _], _ => rfl,
    g__law_take := PySem.W.mg_of X G ha__law_take,
    k__law_take := hk__law_take,
    F__law_is_integer := F__law_is_integer,
    b__law_is_integer := F__law_is_integer.binds (ps := ["actual"]) fun _ _ _ _ _ _ us hl => match us, hl with | [_], _ => rfl,
    g__law_is_integer := PySem.W.mg_of X G ha__law_is_integer,
    k__law_is_integer := hk__law_is_integer,
    F__law_integers := F__law_integers,
    b__law_integers := F__law_integers.binds (ps := ["actual", "low", "high"]) fun _ _ _ _ _ _ us hl => match us, hl with | [_, _, _], _ => rfl,
    g__law_integers := PySem.W.mg_of X G ha__law_integers,
    k__law_integers := hk__law_integers,
    F__law_flat := F__law_flat,
    b__law_flat := F__law_flat.binds (ps := ["rows"]) fun _ _ _ _ _ _ us hl => match us, hl with | [_], _ => rfl,
    g__law_flat := PySem.W.mg_of X G ha__law_flat,
    k__law_flat := hk__law_flat,
    F__law_parity := F__law_parity,
    b__law_parity := F__law_parity.binds (ps := ["draws", "letters", "most"]) fun _ _ _ _ _ _ us hl => match us, hl with | [_, _, _], _ => rfl,
    g__law_parity := PySem.W.mg_of X G ha__law_parity,
    k__law_parity := hk__law_parity,
    F__law_is_parity := F__law_is_parity,
    b__law_is_parity := F__law_is_parity.binds (ps := ["actual", "letters"]) fun _ _ _ _ _ _ us hl => match us, hl with | [_, _], _ => rfl,
    g__law_is_parity := PySem.W.mg_of X G ha__law_is_parity,
    k__law_is_parity := hk__law_is_parity,
    F__law_outcome := F__law_outcome,
    b__law_outcome := F__law_outcome.binds (ps := ["letters", "start", "priorities", "rows"]) fun _ _ _ _ _ _ us hl => match us, hl with | [_, _, _, _], _ => rfl,
    g__law_outcome := PySem.W.mg_of X G ha__law_outcome,
    k__law_outcome := hk__law_outcome,
    F__law_fields := F__law_fields,
    b__law_fields := F__law_fields.binds (ps := ["automaton"]) fun _ _ _ _ _ _ us hl => match us, hl with | [_], _ => rfl,
    g__law_fields := PySem.W.mg_of X G ha__law_fields,
    k__law_fields := hk__law_fields,
    F_law := F_law,
    b_law := F_law.binds (ps := ["script"]) fun _ _ _ _ _ _ us hl => match us, hl with | [_], _ => rfl,
    g_law := PySem.W.mg_of X G ha_law,
    k_law := hk_law,
    g_ParityAutomaton := PySem.W.mg_of X G hn_ParityAutomaton,
    cl_ParityAutomaton := C.cl_ParityAutomaton,
    M_ParityAutomaton := ⟨hmk_ParityAutomaton, ha_ParityAutomaton_init, hi_ParityAutomaton_init, hkc_ParityAutomaton⟩,
    g_InvalidAutomaton := PySem.W.mg_of X G hn_InvalidAutomaton,
    k_InvalidAutomaton := hk_InvalidAutomaton, x_InvalidAutomaton := hx_InvalidAutomaton, s_InvalidAutomaton := hs_InvalidAutomaton, t_InvalidAutomaton := ht_InvalidAutomaton,
    z_bool := PySem.W.mg_none_of X G hz_bool,
    z_int := PySem.W.mg_none_of X G hz_int,
    z_isinstance := PySem.W.mg_none_of X G hz_isinstance,
    z_len := PySem.W.mg_none_of X G hz_len,
    z_list := PySem.W.mg_none_of X G hz_list,
    z_max := PySem.W.mg_none_of X G hz_max,
    z_min := PySem.W.mg_none_of X G hz_min,
    z_range := PySem.W.mg_none_of X G hz_range,
    z_tuple := PySem.W.mg_none_of X G hz_tuple }
  exact ⟨PySem.W.fnOf "law" "law" (defArgs s_law) (defBody s_law) (defScope s_law) .none kV_law dc_law pm_law an_law cd_law ct_law, fun s v => .of_eq rfl, fun base _ _ => ok_law T⟩
theorem walk {l : PySem.W.OpenLaw} {q : Program} {loose : List Str} {XP : (Str → Option Value) → Heap → Prop} {YP : World → Heap → Prop} {d : DefRec} {K : Params → PySem.W.Frag} (hn : l.most = some 63) (hdf : d.params.defaults = [])
    (hY : ∀ (w : World) (h : Heap), YP w h → (K w.params).In h)
    (F : ∀ (w : World) (mg : Str → Option Value) (fa : Addr) (h : Heap), (K w.params).In h → h.Ns mainGlobals mg → mg d.name = some (.ref fa) →
      ∃ fd : FuncData, (∀ (s : Shared) (u : Value), BindsTo s fd ⟨[u], []⟩ [("script", u)]) ∧ ∀ base : Heap, (K w.params).In base → base.Ns mainGlobals mg → FnOk l.prog w (K w.params) mg base CX0 4 fa fd ["script"] (spL (K w.params))) :
    PySem.W.WalkO q loose XP YP l.row.toRowW d [] (fun f vs => PySem.call f vs) :=
  L2.walk_of (n := 63) (k := 4) (x := "script") (CX := fun _ => CX0) (sp := fun w => spL (K w.params)) hn (by decide) hdf ⟨rfl, by decide, by decide⟩ hY F (fun _ _ a ns hl _ hS => ⟨a, ns, rfl, hS, hl, fun _ => rfl⟩) fun _ _ _ _ _ z => z
end LW
open PySem PySem.W PyProof.Rows in
set_option maxRecDepth 100000 in
set_option maxHeartbeats 0 in
theorem PySem.Challenge.cw_promiseplay_k22_parity_automaton_holds : PySem.Challenge.rw_promiseplay_k22_parity_automaton.Holds := by
  w_on; o_law; k_head; (case hw => w_witness2)
  k_fill
  refine LW.walk (l := PySem.Challenge.rw_promiseplay_k22_parity_automaton) rfl rfl (fun w h Y => PySem.W.kIn_of Y) ?F
  case F =>
    intro w mg fa h KX G hmg
    refine' LW.all_mk KX G hmg ?ha_ParityAutomaton_init ?hi_ParityAutomaton_init ?hl_ParityAutomaton_init ?hc_ParityAutomaton_init ?hk_ParityAutomaton_init ?ha_complement_parity ?hl_complement_parity ?hc_complement_parity ?hk_complement_parity ?ha__law_draws ?hl__law_draws ?hc__law_draws ?hk__law_draws ?ha__law_take ?hl__law_take ?hc__law_take ?hk__law_take ?ha__law_is_integer ?hl__law_is_integer ?hc__law_is_integer ?hk__law_is_integer ?ha__law_integers ?hl__law_integers ?hc__law_integers ?hk__law_integers ?ha__law_flat ?hl__law_flat ?hc__law_flat ?hk__law_flat ?ha__law_parity ?hl__law_parity ?hc__law_parity ?hk__law_parity ?ha__law_is_parity ?hl__law_is_parity ?hc__law_is_parity ?hk__law_is_parity ?ha__law_outcome ?hl__law_outcome ?hc__law_outcome ?hk__law_outcome ?ha__law_fields ?hl__law_fields ?hc__law_fields ?hk__law_fields ?ha_law ?hl_law ?hc_law ?hk_law ?hn_SynthError ?hn_InvalidAutomaton ?hn_ParityAutomaton ?hpg_ParityAutomaton ?hhd_ParityAutomaton ?hpo_ParityAutomaton ?hsa_ParityAutomaton ?hmk_ParityAutomaton ?hkc_ParityAutomaton ?hna_ParityAutomaton_letters ?hna_ParityAutomaton_start ?hna_ParityAutomaton_priorities ?hna_ParityAutomaton_rows ?ht1_ParityAutomaton ?ht4_ParityAutomaton ?ht2 ?ht3 ?hk_InvalidAutomaton ?hx_InvalidAutomaton ?hs_InvalidAutomaton ?ht_InvalidAutomaton ?hhd_InvalidAutomaton ?he_InvalidAutomaton_InvalidAutomaton ?hz_bool ?hz_int ?hz_isinstance ?hz_len ?hz_list ?hz_max ?hz_min ?hz_range ?hz_tuple
    (case hn_SynthError => k_is)
    (case hn_InvalidAutomaton => k_is)
    (case hn_ParityAutomaton => k_is)
    (case ha_ParityAutomaton_init => k_is)
    (case ha_complement_parity => k_is)
    (case ha__law_draws => k_is)
    (case ha__law_take => k_is)
    (case ha__law_is_integer => k_is)
    (case ha__law_integers => k_is)
    (case ha__law_flat => k_is)
    (case ha__law_parity => k_is)
    (case ha__law_is_parity => k_is)
    (case ha__law_outcome => k_is)
    (case ha__law_fields => k_is)
    (case ha_law => k_is)
    (case hl_ParityAutomaton_init => k_is)
    (case hl_complement_parity => k_is)
    (case hl__law_draws => k_is)
    (case hl__law_take => k_is)
    (case hl__law_is_integer => k_is)
    (case hl__law_integers => k_is)
    (case hl__law_flat => k_is)
    (case hl__law_parity => k_is)
    (case hl__law_is_parity => k_is)
    (case hl__law_outcome => k_is)
    (case hl__law_fields => k_is)
    (case hl_law => k_is)
    (case hi_ParityAutomaton_init => k_is)
    (case hc_ParityAutomaton_init => k_is)
    (case hk_ParityAutomaton_init => k_is)
    (case hc_complement_parity => k_is)
    (case hk_complement_parity => k_is)
    (case hc__law_draws => k_is)
    (case hk__law_draws => k_is)
    (case hc__law_take => k_is)
    (case hk__law_take => k_is)
    (case hc__law_is_integer => k_is)
    (case hk__law_is_integer => k_is)
    (case hc__law_integers => k_is)
    (case hk__law_integers => k_is)
    (case hc__law_flat => k_is)
    (case hk__law_flat => k_is)
    (case hc__law_parity => k_is)
    (case hk__law_parity => k_is)
    (case hc__law_is_parity => k_is)
    (case hk__law_is_parity => k_is)
    (case hc__law_outcome => k_is)
    (case hk__law_outcome => k_is)
    (case hc__law_fields => k_is)
    (case hk__law_fields => k_is)
    (case hc_law => k_is)
    (case hk_law => k_is)
    (case hpg_ParityAutomaton => k_is)
    (case hhd_ParityAutomaton => k_is)
    (case hpo_ParityAutomaton => k_is)
    (case hsa_ParityAutomaton => k_is)
    (case hmk_ParityAutomaton => k_is)
    (case hkc_ParityAutomaton => k_is)
    (case hna_ParityAutomaton_letters => k_is)
    (case hna_ParityAutomaton_start => k_is)
    (case hna_ParityAutomaton_priorities => k_is)
    (case hna_ParityAutomaton_rows => k_is)
    (case ht1_ParityAutomaton => k_is)
    (case ht4_ParityAutomaton => k_is)
    (case ht2 => k_is)
    (case ht3 => k_is)
    (case hk_InvalidAutomaton => k_is)
    (case hx_InvalidAutomaton => k_exc)
    (case hs_InvalidAutomaton => k_is)
    (case ht_InvalidAutomaton => k_is)
    (case hhd_InvalidAutomaton => k_is)
    (case he_InvalidAutomaton_InvalidAutomaton => first | rfl | k_is)
    (case hz_bool => k_is)
    (case hz_int => k_is)
    (case hz_isinstance => k_is)
    (case hz_len => k_is)
    (case hz_list => k_is)
    (case hz_max => k_is)
    (case hz_min => k_is)
    (case hz_range => k_is)
    (case hz_tuple => k_is)
