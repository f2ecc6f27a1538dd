import PyProof.Rows.All
import Wide.All
import OpenK.AllK
import Wide.FinOn
import HandS.ForMost
import HandS.ForExc
import HandS.Wide
import HandS.IsInst
import HandS.TupAny
import HandS.WideBits
import HandS.TryMany
import HandS.ExcIs
import KE.KMinKey
import HandS.SortKw
import PySem.Challenge.RW_promiseplay_k16_automaton
set_option Elab.async false
set_option linter.all false
set_option maxRecDepth 100000
set_option maxHeartbeats 4000000
namespace SL
open PySem L2

/-! ## heaps: frozen part, owned objects -/
abbrev Led := List (Addr × HO)
def SameB (p : Addr) (H H' : Hp) : Prop := ∀ b o, b ≠ p → H b = some o → H' b = some o
def del (H : Hp) (p : Addr) : Hp := fun b => if b = p then none else H b
theorem del_self {H : Hp} {p : Addr} : del H p p = none := by unfold del; rw [if_pos rfl]
theorem del_ne {H : Hp} {p b : Addr} (h : b ≠ p) : del H p b = H b := by unfold del; rw [if_neg h]
theorem del_some {H : Hp} {p b : Addr} {o : HO} (h : del H p b = some o) : b ≠ p ∧ H b = some o := by
  by_cases e : b = p
  · rw [e, del_self] at h; cases h
  · rw [del_ne e] at h; exact ⟨e, h⟩
theorem same_new {H : Hp} {p : Addr} {o : HO} (h : H p = none) : Same H (upd H p o) := fun b u e => by
  rw [upd_ne (ne_of_none e h)]; exact e
structure En where
  F : Hp
  H : Hp
structure St (E : En) (F H : Hp) (L : Led) : Prop where
  bh : Same E.H H
  fh : Same F H
  ff : Same E.F F
  pr : ∀ a, F a ≠ none → E.F a ≠ none ∨ E.H a = none
  own : ∀ x ∈ L, H x.1 = some x.2 ∧ F x.1 = none ∧ E.H x.1 = none
  nd : (L.map (·.1)).Nodup
/-- what a call leaves that changes nothing -/
structure Gr (F H F' H' : Hp) : Prop where
  ff : Same F F'
  fh : Same F' H'
  hh : Same H H'
  pr : ∀ a, F' a ≠ none → F a ≠ none ∨ H a = none
/-- .. that changes p alone -/
structure GrB (p : Addr) (F H F' H' : Hp) : Prop where
  ff : Same F F'
  fh : Same F' H'
  hh : SameB p H H'
  pr : ∀ a, F' a ≠ none → F a ≠ none ∨ H a = none
inductive Upd : Led → Addr → HO → HO → Led → Prop
  | head {a o o' L} : Upd ((a, o) :: L) a o o' ((a, o') :: L)
  | tail {a o o' L L' x} : Upd L a o o' L' → Upd (x :: L) a o o' (x :: L')
inductive Tak : Led → Addr → HO → Led → Prop
  | head {a o L} : Tak ((a, o) :: L) a o L
  | tail {a o L L' x} : Tak L a o L' → Tak (x :: L) a o (x :: L')
theorem Upd.mem {L L' : Led} {a : Addr} {o o' : HO} (u : Upd L a o o' L') : (a, o) ∈ L := by
  induction u with
  | head => exact List.mem_cons_self
  | tail _ ih => exact List.mem_cons_of_mem _ ih
theorem Upd.fst {L L' : Led} {a : Addr} {o o' : HO} (u : Upd L a o o' L') : L'.map (·.1) = L.map (·.1) := by
  induction u with
  | head => rfl
  | tail _ ih => rw [List.map_cons, List.map_cons, ih]
theorem Upd.of {L L' : Led} {a : Addr} {o o' : HO} (u : Upd L a o o' L') : ∀ x ∈ L', x = (a, o') ∨ x ∈ L := by
  induction u with
  | head =>
    intro x hx
    rcases List.mem_cons.mp hx with e | e
    · exact .inl e
    · exact .inr (List.mem_cons_of_mem _ e)
  | tail _ ih =>
    intro x hx
    rcases List.mem_cons.mp hx with e | e
    · exact .inr (e ▸ List.mem_cons_self)
    · rcases ih x e with q | q
      · exact .inl q
      · exact .inr (List.mem_cons_of_mem _ q)
theorem Upd.new {L L' : Led} {a : Addr} {o o' : HO} (u : Upd L a o o' L') : (a, o') ∈ L' := by
  induction u with
  | head => exact List.mem_cons_self
  | tail _ ih => exact List.mem_cons_of_mem _ ih
theorem nd_one : ∀ {L : Led} {a : Addr} {o : HO} {x : Addr × HO}, (L.map (·.1)).Nodup → x ∈ L → (a, o) ∈ L → x.1 = a → x = (a, o)
  | [], _, _, _, _, h, _, _ => nomatch h
  | y :: r, a, o, x, n, h1, h2, c => by
    rw [List.map_cons, List.nodup_cons] at n
    rcases List.mem_cons.mp h1 with q | q <;> rcases List.mem_cons.mp h2 with z | z
    · rw [q, z]
    · exact absurd (List.mem_map.mpr ⟨_, z, (by rw [← q]; exact c.symm)⟩) n.1
    · exact absurd (List.mem_map.mpr ⟨_, q, (by rw [← z]; exact c)⟩) n.1
    · exact nd_one n.2 q z c
theorem Tak.mem {L L' : Led} {a : Addr} {o : HO} (u : Tak L a o L') : (a, o) ∈ L := by
  induction u with
  | head => exact List.mem_cons_self
  | tail _ ih => exact List.mem_cons_of_mem _ ih
theorem Tak.sub {L L' : Led} {a : Addr} {o : HO} (u : Tak L a o L') : ∀ x ∈ L', x ∈ L := by
  induction u with
  | head => exact fun x h => List.mem_cons_of_mem _ h
  | tail _ ih =>
    intro x hx
    rcases List.mem_cons.mp hx with e | e
    · exact e ▸ List.mem_cons_self
    · exact List.mem_cons_of_mem _ (ih x e)
theorem Tak.nd {L L' : Led} {a : Addr} {o : HO} (u : Tak L a o L') (n : (L.map (·.1)).Nodup) : (L'.map (·.1)).Nodup ∧ ∀ x ∈ L', x.1 ≠ a := by
  induction u with
  | head =>
    rw [List.map_cons, List.nodup_cons] at n
    exact ⟨n.2, fun x hx e => n.1 (List.mem_map.mpr ⟨x, hx, e⟩)⟩
  | @tail a o L L' x u ih =>
    rw [List.map_cons, List.nodup_cons] at n
    obtain ⟨h1, h2⟩ := ih n.2
    refine ⟨?_, fun y hy => ?_⟩
    · rw [List.map_cons, List.nodup_cons]
      refine ⟨fun hm => n.1 ?_, h1⟩
      obtain ⟨z, hz, e⟩ := List.mem_map.mp hm
      exact List.mem_map.mpr ⟨z, u.sub z hz, e⟩
    · rcases List.mem_cons.mp hy with e | e
      · intro q
        apply n.1
        rw [← e, q]
        exact List.mem_map.mpr ⟨(a, o), u.mem, rfl⟩
      · exact h2 y e
section
variable {E : En} {F H F' H' : Hp} {L L' : Led} {a p : Addr} {o o' : HO} {K : PySem.W.Frag}
theorem St.init (h : Same F H) : St ⟨F, H⟩ F H [] :=
  ⟨Same.refl _, h, Same.refl _, fun _ h => .inl h, (fun _ h => nomatch h), List.nodup_nil⟩
theorem St.init1 (h : Same F H) (hp : H p = some o) (hf : F p = none) : St ⟨F, del H p⟩ F H [(p, o)] := by
  refine ⟨fun b u e => (del_some e).2, h, Same.refl _, fun _ h => .inl h, fun x hx => ?_, ?_⟩
  · rcases List.mem_cons.mp hx with e | e
    · subst e; exact ⟨hp, hf, del_self⟩
    · exact nomatch e
  · exact List.nodup_cons.mpr ⟨fun h => (nomatch h), List.nodup_nil⟩
theorem free_of (e : Same H H') (h : H' p = none) : H p = none := Same.free e h
theorem St.get (G : St E F H L) (m : (a, o) ∈ L) : H a = some o := (G.own _ m).1
theorem St.ne (G : St E F H L) (m : (a, o) ∈ L) (hp : H p = none) : a ≠ p := ne_of_none (G.get m) hp
/-- the heap grew, p is new -/
theorem St.add (G : St E F H L) (e : Same H H') (hn : H p = none) (hp : H' p = some o) : St E F H' ((p, o) :: L) := by
  refine ⟨G.bh.trans e, G.fh.trans e, G.ff, G.pr, fun x hx => ?_, ?_⟩
  · rcases List.mem_cons.mp hx with q | q
    · subst q
      exact ⟨hp, free_of G.fh hn, free_of G.bh hn⟩
    · obtain ⟨h1, h2, h3⟩ := G.own x q
      exact ⟨e _ _ h1, h2, h3⟩
  · rw [List.map_cons, List.nodup_cons]
    refine ⟨fun hm => ?_, G.nd⟩
    obtain ⟨z, hz, q⟩ := List.mem_map.mp hm
    have h1 := (G.own z hz).1
    rw [q, hn] at h1
    cases h1
theorem St.new (G : St E F H L) (hn : H p = none) : St E F (upd H p o) ((p, o) :: L) := G.add (same_new hn) hn upd_same
theorem St.grow (G : St E F H L) (e : Same H H') : St E F H' L :=
  ⟨G.bh.trans e, G.fh.trans e, G.ff, G.pr, fun x hx => ⟨e _ _ (G.own x hx).1, (G.own x hx).2⟩, G.nd⟩
theorem St.putB (G : St E F H L) (u : Upd L a o o' L') (e : SameB a H H') (ha : H' a = some o') : St E F H' L' := by
  obtain ⟨_, hf, hb⟩ := G.own _ u.mem
  have nF : ∀ b u, F b = some u → b ≠ a := fun b u h => ne_of_none h hf
  have nB : ∀ b u, E.H b = some u → b ≠ a := fun b u h => ne_of_none h hb
  refine ⟨fun b u h => e b u (nB b u h) (G.bh b u h), fun b u h => e b u (nF b u h) (G.fh b u h), G.ff, G.pr, fun x hx => ?_, ?_⟩
  · rcases u.of x hx with q | q
    · subst q; exact ⟨ha, hf, hb⟩
    · obtain ⟨h1, h2, h3⟩ := G.own x q
      refine ⟨?_, h2, h3⟩
      by_cases c : x.1 = a
      · have n' : (L'.map (·.1)).Nodup := by rw [u.fst]; exact G.nd
        rw [nd_one n' hx u.new c]; exact ha
      · exact e _ _ c h1
  · rw [u.fst]; exact G.nd
theorem St.put (G : St E F H L) (u : Upd L a o o' L') : St E F (upd H a o') L' :=
  G.putB u (fun b w h e => by rw [upd_ne h]; exact e) upd_same
/-- a call that changes nothing has come back -/
theorem St.call (G : St E F H L) (g : Gr F H F' H') : St E F' H' L := by
  refine ⟨G.bh.trans g.hh, g.fh, G.ff.trans g.ff, fun a h => ?_, fun x hx => ?_, G.nd⟩
  · rcases g.pr a h with q | q
    · exact G.pr a q
    · exact .inr (free_of G.bh q)
  · obtain ⟨h1, h2, h3⟩ := G.own x hx
    refine ⟨g.hh _ _ h1, ?_, h3⟩
    cases c : F' x.1 with
    | none => rfl
    | some w =>
      rcases g.pr x.1 (by rw [c]; exact fun z => nomatch z) with q | q
      · exact absurd h2 q
      · rw [q] at h1; cases h1
theorem St.callB (G : St E F H L) (u : Upd L p o o' L') (g : GrB p F H F' H') (hp : H' p = some o') : St E F' H' L' := by
  have G1 : St E F H' L' := G.putB u g.hh hp
  refine ⟨G1.bh, g.fh, G.ff.trans g.ff, fun a h => ?_, fun x hx => ?_, G1.nd⟩
  · rcases g.pr a h with q | q
    · exact G.pr a q
    · exact .inr (free_of G.bh q)
  · obtain ⟨h1, h2, h3⟩ := G1.own x hx
    refine ⟨h1, ?_, h3⟩
    cases c : F' x.1 with
    | none => rfl
    | some w =>
      rcases g.pr x.1 (by rw [c]; exact fun z => nomatch z) with q | q
      · exact absurd h2 q
      · exfalso
        rcases u.of x hx with z | z
        · subst z
          have := (G.own _ u.mem).1
          rw [q] at this; cases this
        · have := (G.own _ z).1
          rw [q] at this; cases this
/-- the end of a def that changes nothing -/
theorem St.gr (G : St ⟨F, H⟩ F' H' L) : Gr F H F' H' := ⟨G.ff, G.fh, G.bh, G.pr⟩
theorem St.grB (G : St ⟨F, del H p⟩ F' H' L) (m : (p, o) ∈ L) : GrB p F H F' H' := by
  refine ⟨G.ff, G.fh, fun b u h e => G.bh b u (by rw [show (En.mk F (del H p)).H = del H p from rfl, del_ne h]; exact e), fun a h => ?_⟩
  rcases G.pr a h with q | q
  · exact .inl q
  · by_cases c : a = p
    · subst c
      exact absurd (G.own _ m).2.1 h
    · exact .inr (by rw [show (En.mk F (del H p)).H = del H p from rfl, del_ne c] at q; exact q)
theorem Gr.refl (h : Same F H) : Gr F H F H := ⟨Same.refl _, h, Same.refl _, fun _ h => .inl h⟩
/-- an owned object is frozen -/
theorem St.frz (G : St E F H L) (t : Tak L a o L') : ∃ F', Same F F' ∧ F' a = some o ∧ St E F' H L' := by
  obtain ⟨h1, h2, h3⟩ := G.own _ t.mem
  obtain ⟨n1, n2⟩ := t.nd G.nd
  refine ⟨upd F a o, same_new h2, upd_same, ⟨G.bh, fun b u e => ?_, G.ff.trans (same_new h2), fun b hb => ?_, fun x hx => ?_, n1⟩⟩
  · by_cases c : b = a
    · rw [c, upd_same] at e; cases e; rw [c]; exact h1
    · rw [upd_ne c] at e; exact G.fh b u e
  · by_cases c : b = a
    · rw [c]; exact .inr h3
    · rw [upd_ne c] at hb; exact G.pr b hb
  · obtain ⟨q1, q2, q3⟩ := G.own x (t.sub x hx)
    exact ⟨q1, by rw [upd_ne (n2 x hx)]; exact q2, q3⟩
theorem St.drop (G : St E F H L) (t : Tak L a o L') : St E F H L' :=
  ⟨G.bh, G.fh, G.ff, G.pr, fun x hx => G.own x (t.sub x hx), (t.nd G.nd).1⟩

/-! ## what stands at an address, under growth -/
theorem rdS (e : Same H H') (h : Rd H a o) : Rd H' a o := by
  rcases h with h | ⟨z, h⟩
  · exact .inl (e _ _ h)
  · exact .inr ⟨z, e _ _ h⟩
theorem lS {xs : List V} (e : Same H H') (h : SqL K H a xs) : SqL K H' a xs := by
  rcases h with h | h
  · exact .inl (rdS e h)
  · exact .inr h
theorem tS {xs : List V} (e : Same H H') (h : SqT K H a xs) : SqT K H' a xs := by
  rcases h with h | h
  · exact .inl (rdS e h)
  · exact .inr h
mutual
theorem dpS (e : Same H H') : ∀ (d : PyData) (v : V), Dp K H v d → Dp K H' v d
  | .none, _, h => by cases h; exact .non
  | .bool b, _, h => by cases h; exact .bl b
  | .int i, _, h => by cases h; exact .int i
  | .str x, _, h => by cases h; exact .str x
  | .list ds, _, h => by cases h with | lst hs ha => exact .lst (lS e hs) (dpaS e ds _ ha)
  | .tuple ds, _, h => by cases h with | tup hs ha => exact .tup (tS e hs) (dpaS e ds _ ha)
  | .dict _, _, h => nomatch h
theorem dpaS (e : Same H H') : ∀ (ds : List PyData) (vs : List V), DpAll K H vs ds → DpAll K H' vs ds
  | [], _, h => by cases h; exact .nil
  | d :: ds, _, h => by cases h with | cons h1 h2 => exact .cons (dpS e d _ h1) (dpaS e ds _ h2)
end
theorem Dpx.mono {v : V} {d : PyData} (e : Same H H') (h : Dp K H v d) : Dp K H' v d := dpS e d v h
end
theorem sz {n : Nat} (h : n ≤ 1000000) : n ≤ sizeLine := Nat.le_trans h (by decide)
theorem szl {n : Nat} (h : n ≤ 1000000) : n < sizeLine := Nat.lt_of_le_of_lt h (by decide)
end SL

set_option Elab.async false
set_option linter.all false
set_option maxRecDepth 100000
set_option maxHeartbeats 4000000
namespace SL
open PySem L2
def RIf (k : Bool) (A B : Prop) : Prop := if k = true then A else B
def RB (x : V) (H : Hp) (Q : Bool → Hp → Prop) : Prop := ∃ k, x = .bl k ∧ Q k H
def RTup (Q : VK) (xs : List V) (H : Hp) : Prop := xs.length ≤ sizeLine ∧ ∀ p, H p = none → Q (.ref p) (upd H p (.tup xs))
def RLst (Q : VK) (xs : List V) (H : Hp) : Prop := xs.length ≤ sizeLine ∧ ∀ p, H p = none → Q (.ref p) (upd H p (.lst xs))
def RTy (K : PySem.W.Frag) (T : String) (x : V) (H : Hp) (A : Prop) : Prop := tyV K T x H ∧ A
def RPart (x : V) (H : Hp) (Q : Option Int → Hp → Prop) : Prop := ∃ i, x = .int i ∧ Q (some i) H
def RIL (K : PySem.W.Frag) (x : V) (H : Hp) (R : It → Hp → Prop) : Prop := ∃ a, x = .ref a ∧ (∃ xs, SqL K H a xs) ∧ R (Itl K a) H
def RIT (K : PySem.W.Frag) (x : V) (H : Hp) (R : It → Hp → Prop) : Prop := ∃ a, x = .ref a ∧ (∃ xs, SqT K H a xs) ∧ R (Itt K a) H
def RI1 (vs : List V) (H : Hp) (R : It → Hp → Prop) : Prop := ∃ j : Int, vs = [.int j] ∧ -(2 ^ 62) ≤ j ∧ j < 2 ^ 62 ∧ R (Itr 0 j.toNat) H
def RI2 (vs : List V) (H : Hp) (R : It → Hp → Prop) : Prop := ∃ i j : Int, vs = [.int i, .int j] ∧ (-(2 ^ 62) ≤ i ∧ i < 2 ^ 62 ∧ -(2 ^ 62) ≤ j ∧ j < 2 ^ 62) ∧ R (Itr i (j - i).toNat) H
def RFor (J : It) (g : TG) (tb : TS) (D : Ends) (σ : L2.St) (H1 : Hp) : Prop := ∃ W : Nat → Nat → L2.St → Hp → Prop, (∃ m, W 0 m σ H1) ∧ ∀ i m σ H, W i m σ H →
  (J.stop i H ∧ D.nx σ H) ∨ (J.go i H ∧ ∃ N : L2.St → Hp → Prop, (∀ σ' H', N σ' H' → ∃ m', m' < m ∧ W (i + 1) m' σ' H') ∧ ∀ x H', J.yld i H x H' → g x σ H' fun σ2 H2 => tb { D with nx := N, ct := N, bk := D.nx } σ2 H2)
-- calls by values
def rLen (K : PySem.W.Frag) : List V → Hp → VK → Prop := fun xs H Q => ∃ p ys, xs = [V.ref p] ∧ (SqL K H p ys ∨ SqT K H p ys) ∧ Q (V.int ys.length) H
section
variable {n b c : L2.St → Hp → Prop} {r : VK} {σ : L2.St} {H : Hp} {Q : VK} {QB : Bool → Hp → Prop} {t u : TS} {te ta tb : TE} {tc td : TT} {x y v : V} {K : PySem.W.Frag}
theorem w_seq (h : t ⟨u ⟨n, r, b, c⟩, r, b, c⟩ σ H) : tSeq t u ⟨n, r, b, c⟩ σ H := h
theorem w_asg {i : Nat} (h : te σ H fun v H1 => n (σ.set i (some v)) H1) : tAsg te (gName i) ⟨n, r, b, c⟩ σ H := h
theorem w_ret (h : te σ H r) : tRet te ⟨n, r, b, c⟩ σ H := h
theorem w_retN (h : r .non H) : tRetN ⟨n, r, b, c⟩ σ H := h
theorem w_drop (h : te σ H fun _ H1 => n σ H1) : tDrop te ⟨n, r, b, c⟩ σ H := h
theorem w_next (h : n σ H) : tNext ⟨n, r, b, c⟩ σ H := h
theorem w_break (h : b σ H) : tBreak ⟨n, r, b, c⟩ σ H := h
theorem w_cont (h : c σ H) : tCont ⟨n, r, b, c⟩ σ H := h
theorem w_if (h : tc σ H fun k H1 => RIf k (t ⟨n, r, b, c⟩ σ H1) (u ⟨n, r, b, c⟩ σ H1)) : tIfS tc t u ⟨n, r, b, c⟩ σ H := h
theorem w_var {i : Nat} (h : σ[i]? = some (some v)) (q : Q v H) : tVar i σ H Q := ⟨v, h, q⟩
theorem w_c (q : Q v H) : tC v σ H Q := q
theorem w_op {R : R2} (h : ta σ H fun x H1 => tb σ H1 fun y H2 => R x y H2 Q) : tOp R ta tb σ H Q := h
theorem w_un {R : V → Hp → VK → Prop} (h : ta σ H fun x H1 => R x H1 Q) : tUn R ta σ H Q := h
theorem w_test (h : te σ H fun x H1 => RB x H1 QB) : tTest te σ H QB := h
theorem w_tB (h : te σ H fun x H1 => RB x H1 QB) : tB te σ H QB := h
theorem w_and (h : tc σ H fun k H1 => RIf k (td σ H1 QB) (QB false H1)) : tAnd tc td σ H QB := h
theorem w_or (h : tc σ H fun k H1 => RIf k (QB true H1) (td σ H1 QB)) : tOr tc td σ H QB := h
theorem w_not (h : tc σ H fun k H1 => QB (!k) H1) : tNot tc σ H QB := h
theorem w_andV (h : ta σ H fun x H1 => RB x H1 fun k H1 => RIf k (tb σ H1 Q) (Q (.bl false) H1)) : tAndV ta tb σ H Q := h
theorem w_orV (h : ta σ H fun x H1 => RB x H1 fun k H1 => RIf k (Q (.bl true) H1) (tb σ H1 Q)) : tOrV ta tb σ H Q := h
theorem w_notV (h : ta σ H fun x H1 => RB x H1 fun k H1 => Q (.bl (!k)) H1) : tNotV ta σ H Q := h
theorem w_ifE (h : tc σ H fun k H1 => RIf k (ta σ H1 Q) (tb σ H1 Q)) : tIf tc ta tb σ H Q := h
theorem w_nil {QA : List V → Hp → Prop} (q : QA [] H) : tNil σ H QA := q
theorem w_cons {QA : List V → Hp → Prop} {tr : TA} (h : ta σ H fun x H1 => tr σ H1 fun xs H2 => QA (x :: xs) H2) : tCons ta tr σ H QA := h
theorem w_tup {tr : TA} (h : tr σ H fun xs H1 => RTup Q xs H1) : tTup tr σ H Q := h
theorem w_lst {tr : TA} (h : tr σ H fun xs H1 => RLst Q xs H1) : tLst tr σ H Q := h
theorem w_cb {R : List V → Hp → VK → Prop} {tr : TA} (h : tr σ H fun vs H1 => R vs H1 Q) : tCB R tr σ H Q := h
theorem w_call {sp : Sp} {E : XK} {tr : TA} (h : tr σ H fun vs H1 => sp vs H1 Q E) : tCall sp [] E tr σ H Q := by
  show tr σ H fun vs H1 => sp (vs ++ []) H1 Q E
  simpa only [List.append_nil] using h
theorem w_calld {sp : Sp} {dvs : List V} {E : XK} {tr : TA} (h : tr σ H fun vs H1 => sp (vs ++ dvs) H1 Q E) : tCall sp dvs E tr σ H Q := h
theorem w_callS {sp : Sp} {E : L2.St → XK} {tr : TA} (h : tr σ H fun vs H1 => sp vs H1 Q (E σ)) : tCallS sp E tr σ H Q := h
theorem w_bm {T : String} {R : V → List V → Hp → VK → Prop} {tr : TA} (h : te σ H fun x H1 => RTy K T x H1 (tr σ H1 fun xs H2 => R x xs H2 Q)) : tBM K T R te tr σ H Q := h
theorem w_bm0 {T : String} {R : V → List V → Hp → VK → Prop} (h : te σ H fun x H1 => RTy K T x H1 (R x [] H1 Q)) : tBM0 K T R te σ H Q := h
theorem w_sl {R : V → Option Int → Option Int → Hp → VK → Prop} {tl th : TO} (h : te σ H fun x H1 => tl σ H1 fun l H2 => th σ H2 fun u H3 => R x l u H3 Q) : tSl R te tl th σ H Q := h
theorem w_part {QO : Option Int → Hp → Prop} (h : te σ H fun x H1 => RPart x H1 QO) : tPart te σ H QO := h
theorem w_nopart {QO : Option Int → Hp → Prop} (h : QO none H) : tNoPart σ H QO := h
theorem w_for {wi : TI} {g : TG} (h : wi σ H fun J H1 => RFor J g t ⟨n, r, b, c⟩ σ H1) : tFor wi g t ⟨n, r, b, c⟩ σ H := h
theorem w_iL {R : It → Hp → Prop} (h : te σ H fun x H1 => RIL K x H1 R) : iList K te σ H R := h
theorem w_iT {R : It → Hp → Prop} (h : te σ H fun x H1 => RIT K x H1 R) : iTup K te σ H R := h
theorem w_i1 {R : It → Hp → Prop} {tr : TA} (h : tr σ H fun x H1 => RI1 x H1 R) : iRng1 tr σ H R := h
theorem w_i2 {R : It → Hp → Prop} {tr : TA} (h : tr σ H fun x H1 => RI2 x H1 R) : iRng2 tr σ H R := h
theorem w_aug {i : Nat} {ti : TIp} (h : σ[i]? = some (some x)) (q : te σ H fun y H1 => ti x y H1 fun z H2 => n (σ.set i (some z)) H2) : tAug i te ti ⟨n, r, b, c⟩ σ H := ⟨x, h, q⟩
theorem w_par {i j : Nat} {tr : TA} (h : tr σ H fun vs H1 => ∃ v w, vs = [v, w] ∧ n ((σ.set i (some v)).set j (some w)) H1) : tPar i j tr ⟨n, r, b, c⟩ σ H := h
-- values
theorem r_ifT {A B : Prop} (h : A) : RIf true A B := by unfold RIf; rw [if_pos rfl]; exact h
theorem r_ifF {A B : Prop} (h : B) : RIf false A B := by unfold RIf; rw [if_neg Bool.false_ne_true]; exact h
theorem r_ifNt {A B : Prop} (h : B) : RIf (!true) A B := r_ifF h
theorem r_ifNf {A B : Prop} (h : A) : RIf (!false) A B := r_ifT h
theorem r_ifRN {a : Addr} {A B : Prop} (h : B) : RIf (decide (V.ref a = V.non)) A B := by rw [decide_eq_false (fun z => nomatch z)]; exact r_ifF h
theorem r_ifNRN {a : Addr} {A B : Prop} (h : A) : RIf (!decide (V.ref a = V.non)) A B := by rw [decide_eq_false (fun z => nomatch z)]; exact r_ifT h
theorem r_ifNN {A B : Prop} (h : A) : RIf (decide (V.non = V.non)) A B := by rw [decide_eq_true rfl]; exact r_ifT h
theorem r_ifNNN {A B : Prop} (h : B) : RIf (!decide (V.non = V.non)) A B := by rw [decide_eq_true rfl]; exact r_ifF h
theorem r_if {k : Bool} {A B : Prop} (h1 : k = true → A) (h2 : k = false → B) : RIf k A B := by
  cases k with
  | true => exact r_ifT (h1 rfl)
  | false => exact r_ifF (h2 rfl)
theorem r_ifD {p : Prop} [Decidable p] {A B : Prop} (h1 : p → A) (h2 : ¬ p → B) : RIf (decide p) A B := r_if (fun h => h1 (of_decide_eq_true h)) fun h => h2 (of_decide_eq_false h)
theorem r_ifN {p : Prop} [Decidable p] {A B : Prop} (h1 : ¬ p → A) (h2 : p → B) : RIf (!decide p) A B := by
  by_cases h : p
  · rw [decide_eq_true h]; exact r_ifF (h2 h)
  · rw [decide_eq_false h]; exact r_ifT (h1 h)
theorem r_ifDT {p : Prop} [Decidable p] {A B : Prop} (h : p) (q : A) : RIf (decide p) A B := by rw [decide_eq_true h]; exact r_ifT q
theorem r_ifDF {p : Prop} [Decidable p] {A B : Prop} (h : ¬ p) (q : B) : RIf (decide p) A B := by rw [decide_eq_false h]; exact r_ifF q
theorem r_ifNT {p : Prop} [Decidable p] {A B : Prop} (h : ¬ p) (q : A) : RIf (!decide p) A B := by rw [decide_eq_false h]; exact r_ifT q
theorem r_ifNF {p : Prop} [Decidable p] {A B : Prop} (h : p) (q : B) : RIf (!decide p) A B := by rw [decide_eq_true h]; exact r_ifF q
theorem r_b {k : Bool} (q : QB k H) : RB (.bl k) H QB := ⟨k, rfl, q⟩
theorem r_I0 {g : Int → Int → V} {i j : Int} (q : Q (g i j) H) : rI0 g (.int i) (.int j) H Q := ⟨i, j, rfl, rfl, q⟩
theorem r_I {C : Int → Int → Prop} {g : Int → Int → V} {i j : Int} (h : C i j) (q : Q (g i j) H) : rI C g (.int i) (.int j) H Q := ⟨i, j, rfl, rfl, h, q⟩
theorem r_U {g : Int → V} {i : Int} (q : Q (g i) H) : rU g (.int i) H Q := ⟨i, rfl, q⟩
theorem decV {i j : Int} : decide (V.int i = V.int j) = decide (i = j) := by
  by_cases h : i = j
  · subst h; rw [decide_eq_true rfl, decide_eq_true rfl]
  · rw [decide_eq_false h, decide_eq_false (fun q => h (V.int.inj q))]
theorem decS {i j : Str} : decide (V.str i = V.str j) = decide (i = j) := by
  by_cases h : i = j
  · subst h; rw [decide_eq_true rfl, decide_eq_true rfl]
  · rw [decide_eq_false h, decide_eq_false (fun q => h (V.str.inj q))]
theorem decB {i j : Bool} : decide (V.bl i = V.bl j) = decide (i = j) := by
  cases i <;> cases j <;> rfl
theorem r_eqI {i j : Int} (q : Q (.bl (decide (i = j))) H) : rEq (.int i) (.int j) H Q := ⟨rfl, by rw [decV]; exact q⟩
theorem r_neI {i j : Int} (q : Q (.bl (!decide (i = j))) H) : rNe (.int i) (.int j) H Q := ⟨rfl, by rw [decV]; exact q⟩
theorem r_eqS {i j : Str} (q : Q (.bl (decide (i = j))) H) : rEq (.str i) (.str j) H Q := ⟨rfl, by rw [decS]; exact q⟩
theorem r_neS {i j : Str} (q : Q (.bl (!decide (i = j))) H) : rNe (.str i) (.str j) H Q := ⟨rfl, by rw [decS]; exact q⟩
theorem r_eqB {i j : Bool} (q : Q (.bl (decide (i = j))) H) : rEq (.bl i) (.bl j) H Q := ⟨rfl, by rw [decB]; exact q⟩
theorem r_neB {i j : Bool} (q : Q (.bl (!decide (i = j))) H) : rNe (.bl i) (.bl j) H Q := ⟨rfl, by rw [decB]; exact q⟩
theorem r_len {p : Addr} {xs : List V} (h : SqL K H p xs ∨ SqT K H p xs) (q : Q (.int xs.length) H) : rLen K [.ref p] H Q := ⟨p, xs, rfl, h, q⟩
theorem r_ixL {p : Addr} {xs : List V} {i : Int} (h : SqL K H p xs) (ha : atI xs i = some v) (q : Q v H) : rIxL K (.ref p) (.int i) H Q := ⟨p, xs, i, v, rfl, rfl, h, ha, q⟩
theorem r_ixT {p : Addr} {xs : List V} {i : Int} (h : SqT K H p xs) (ha : atI xs i = some v) (q : Q v H) : rIxT K (.ref p) (.int i) H Q := ⟨p, xs, i, v, rfl, rfl, h, ha, q⟩
theorem r_tyL {p : Addr} {xs : List V} {A : Prop} (h : SqL K H p xs) (q : A) : RTy K "list" (.ref p) H A := ⟨Or.inl ⟨rfl, _, h⟩, q⟩
theorem r_part {i : Int} {QO : Option Int → Hp → Prop} (q : QO (some i) H) : RPart (.int i) H QO := ⟨i, rfl, q⟩
variable {E : En} {F H' : Hp} {L L' : Led} {p : Addr} {xs : List V}
theorem r_tup (G : St E F H L) (hs : xs.length ≤ sizeLine) (q : ∀ p H', St E F H' ((p, .tup xs) :: L) → Q (.ref p) H') : RTup Q xs H := ⟨hs, fun p hp => q p _ (G.new hp)⟩
theorem r_lst (G : St E F H L) (hs : xs.length ≤ sizeLine) (q : ∀ p H', St E F H' ((p, .lst xs) :: L) → Q (.ref p) H') : RLst Q xs H := ⟨hs, fun p hp => q p _ (G.new hp)⟩
theorem r_tupS (G : St E F H L) (hs : xs.length ≤ sizeLine) (q : ∀ p H', Same H H' → St E F H' ((p, .tup xs) :: L) → Q (.ref p) H') : RTup Q xs H := ⟨hs, fun p hp => q p _ (same_new hp) (G.new hp)⟩
theorem r_lstS (G : St E F H L) (hs : xs.length ≤ sizeLine) (q : ∀ p H', Same H H' → St E F H' ((p, .lst xs) :: L) → Q (.ref p) H') : RLst Q xs H := ⟨hs, fun p hp => q p _ (same_new hp) (G.new hp)⟩
theorem r_append (G : St E F H L) (u : Upd L p (.lst xs) (.lst (xs ++ [v])) L') (hs : xs.length < sizeLine) (q : ∀ H', St E F H' L' → Q .non H') : rAppend (.ref p) [v] H Q :=
  ⟨p, xs, v, rfl, rfl, G.get u.mem, hs, q _ (G.put u)⟩
theorem r_pop (G : St E F H L) (u : Upd L p (.lst (xs ++ [v])) (.lst xs) L') (q : ∀ H', St E F H' L' → Q v H') : rPop (.ref p) [] H Q :=
  ⟨p, xs ++ [v], v, rfl, rfl, G.get u.mem, by simp, by rw [List.dropLast_concat]; exact q _ (G.put u)⟩
theorem r_reverse (G : St E F H L) (u : Upd L p (.lst xs) (.lst xs.reverse) L') (q : ∀ H', St E F H' L' → Q .non H') : rReverse (.ref p) [] H Q :=
  ⟨p, xs, rfl, rfl, G.get u.mem, q _ (G.put u)⟩
theorem r_setL {k : Int} {j : Nat} {QH : Hp → Prop} (G : St E F H L) (hj : ixN xs.length k = some j) (u : Upd L p (.lst xs) (.lst (xs.set j v)) L') (q : ∀ H', St E F H' L' → QH H') : rSetL (.ref p) (.int k) v H QH :=
  ⟨p, xs, k, j, rfl, rfl, G.get u.mem, hj, q _ (G.put u)⟩
theorem r_slL {lo hi : Option Int} (G : St E F H L) (h : SqL K H p xs) (q : ∀ p' H', St E F H' ((p', .lst (cutV xs lo hi)) :: L) → Q (.ref p') H') : rSlL K (.ref p) lo hi H Q :=
  ⟨p, xs, rfl, h, fun p' hp => q p' _ (G.new hp)⟩
theorem r_cat {p2 : Addr} {ys : List V} (G : St E F H L) (m1 : (p, HO.lst xs) ∈ L) (m2 : (p2, HO.lst ys) ∈ L) (hs : xs.length + ys.length ≤ sizeLine) (q : ∀ p' H', St E F H' ((p', .lst (xs ++ ys)) :: L) → Q (.ref p') H') : rCat (.ref p) (.ref p2) H Q :=
  ⟨p, p2, xs, ys, rfl, rfl, G.get m1, G.get m2, hs, fun p' hp => q p' _ (G.new hp)⟩
-- walks
theorem r_il {a : Addr} {R : It → Hp → Prop} (h : SqL K H a xs) (q : R (Itl K a) H) : RIL K (.ref a) H R := ⟨a, rfl, ⟨xs, h⟩, q⟩
theorem r_it {a : Addr} {R : It → Hp → Prop} (h : SqT K H a xs) (q : R (Itt K a) H) : RIT K (.ref a) H R := ⟨a, rfl, ⟨xs, h⟩, q⟩
theorem r_i1 {j : Int} {R : It → Hp → Prop} (h : -(2 ^ 62) ≤ j ∧ j < 2 ^ 62) (q : R (Itr 0 j.toNat) H) : RI1 [.int j] H R := ⟨j, rfl, h.1, h.2, q⟩
theorem r_i2 {i j : Int} {R : It → Hp → Prop} (h : -(2 ^ 62) ≤ i ∧ i < 2 ^ 62 ∧ -(2 ^ 62) ≤ j ∧ j < 2 ^ 62) (q : R (Itr i (j - i).toNat) H) : RI2 [.int i, .int j] H R := ⟨i, j, rfl, h, q⟩
theorem r_forL {a : Addr} {i0 : Nat} (Pv : Nat → L2.St → Hp → Prop) (h0 : Pv 0 σ H) (hl : ∀ i σ H, i ≤ xs.length → Pv i σ H → SqL K H a xs)
    (hs : ∀ i x σ H, xs[i]? = some x → Pv i σ H → t ⟨Pv (i + 1), r, n, Pv (i + 1)⟩ (σ.set i0 (some x)) H) (hd : ∀ σ H, Pv xs.length σ H → n σ H) : RFor (Itl K a) (gName i0) t ⟨n, r, b, c⟩ σ H :=
  for_list (D := ⟨n, r, b, c⟩) Pv h0 hl hs hd
theorem r_forT {a : Addr} {i0 : Nat} (Pv : Nat → L2.St → Hp → Prop) (h0 : Pv 0 σ H) (hl : ∀ i σ H, i ≤ xs.length → Pv i σ H → SqT K H a xs)
    (hs : ∀ i x σ H, xs[i]? = some x → Pv i σ H → t ⟨Pv (i + 1), r, n, Pv (i + 1)⟩ (σ.set i0 (some x)) H) (hd : ∀ σ H, Pv xs.length σ H → n σ H) : RFor (Itt K a) (gName i0) t ⟨n, r, b, c⟩ σ H :=
  for_tup (D := ⟨n, r, b, c⟩) Pv h0 hl hs hd
theorem r_forR {lo : Int} {m i0 : Nat} (Pv : Nat → L2.St → Hp → Prop) (h0 : Pv 0 σ H)
    (hs : ∀ i σ H, i < m → Pv i σ H → t ⟨Pv (i + 1), r, n, Pv (i + 1)⟩ (σ.set i0 (some (.int (lo + i)))) H) (hd : ∀ σ H, Pv m σ H → n σ H) : RFor (Itr lo m) (gName i0) t ⟨n, r, b, c⟩ σ H :=
  for_range (D := ⟨n, r, b, c⟩) Pv h0 hs hd
end
/-! ## the steps by themselves -/
section
set_option hygiene false
local macro_rules | `(tactic| walk_at "g1") => `(tactic| first
  | with_reducible refine w_seq ?_ | with_reducible refine w_asg ?_ | with_reducible refine w_var rfl ?_ | with_reducible refine w_c ?_ | with_reducible refine w_op ?_
  | with_reducible refine r_I0 ?_ | with_reducible refine w_test ?_ | with_reducible refine r_b ?_ | with_reducible refine w_if ?_ | with_reducible refine w_cons ?_ | with_reducible refine w_nil ?_
  | with_reducible refine w_ret ?_)
end
end SL

set_option Elab.async false
set_option linter.all false
set_option maxRecDepth 100000
set_option maxHeartbeats 4000000
namespace SL
open PySem L2
abbrev rAddI : R2 := rI0 fun i j => .int (i + j)
abbrev rSubI : R2 := rI0 fun i j => .int (i - j)
abbrev rMulI : R2 := rI CMulW fun i j => .int (i * j)
abbrev rDivI : R2 := rI CDivW fun i j => .int (i / j)
abbrev rModI : R2 := rI (fun _ j => 0 < j) fun i j => .int (i % j)
abbrev rPowI : R2 := rI CPow fun i j => .int (i ^ j.toNat)
abbrev rShlI : R2 := rI CShl fun i j => .int (i * 2 ^ j.toNat)
abbrev rShrI : R2 := rI (fun _ j => 0 ≤ j) fun i j => .int (i / 2 ^ j.toNat)
abbrev rAndI : R2 := rI0 fun i j => .int (Builtin.bitAnd i j)
abbrev rOrI : R2 := rI0 fun i j => .int (Builtin.bitOr i j)
abbrev rXorI : R2 := rI0 fun i j => .int (Builtin.bitXor i j)
abbrev rNegI : V → Hp → VK → Prop := rU fun i => .int (-i)
abbrev rLtI : R2 := rI0 fun i j => .bl (decide (i < j))
abbrev rLeI : R2 := rI0 fun i j => .bl (decide (i ≤ j))
abbrev rGtI : R2 := rI0 fun i j => .bl (decide (j < i))
abbrev rGeI : R2 := rI0 fun i j => .bl (decide (j ≤ i))
def rIsNone : R2 := fun x y H Q => y = .non ∧ Q (.bl (decide (x = .non))) H
def rNotNone : R2 := fun x y H Q => y = .non ∧ Q (.bl (!decide (x = .non))) H
def rInt1 : List V → Hp → VK → Prop := fun xs H Q => (∃ i, xs = [.int i] ∧ Q (.int i) H) ∨ ∃ k, xs = [.bl k] ∧ Q (.int (if k then 1 else 0)) H
def rListOf (K : PySem.W.Frag) : List V → Hp → VK → Prop := fun xs H Q => ∃ p ys, xs = [.ref p] ∧ (SqL K H p ys ∨ SqT K H p ys) ∧ ∀ l, H l = none → Q (.ref l) (upd H l (.lst ys))
def rTupOf (K : PySem.W.Frag) : List V → Hp → VK → Prop := fun xs H Q => ∃ p ys, xs = [.ref p] ∧ ((SqL K H p ys ∧ ∀ l, H l = none → Q (.ref l) (upd H l (.tup ys))) ∨ (SqT K H p ys ∧ Q (.ref p) H))
def rMax2 : List V → Hp → VK → Prop := fun xs H Q => ∃ i j, xs = [.int i, .int j] ∧ Q (.int (if j > i then j else i)) H
def rMin2 : List V → Hp → VK → Prop := fun xs H Q => ∃ i j, xs = [.int i, .int j] ∧ Q (.int (if j < i then j else i)) H
def rLenStr : List V → Hp → VK → Prop := fun xs H Q => ∃ z, xs = [.str z] ∧ z.length ≤ sizeLine ∧ Q (.int z.length) H
def rAddS : R2 := fun x y H Q => ∃ i j, x = .str i ∧ y = .str j ∧ i.length + j.length ≤ sizeLine ∧ Q (.str (i ++ j)) H
abbrev iAddI : TIp := ipI fun i j => i + j
abbrev iSubI : TIp := ipI fun i j => i - j
def tTru (K : PySem.W.Frag) (ta : TE) : TT := fun σ H Q => ta σ H fun x H' => ∃ k, TruV K x H' k ∧ Q k H'
def tRs (C : Addr) (E : XK) : TS := fun _ _ H => E (.ref C) none H
/-- what holds of an error wherever it was raised in the suite -/
def wAll (W : WX) : XK := fun cls d H => ∀ σ, W cls d σ H
theorem passes_all {X : Cx} {W : WX} (tk : Takes X W) : Passes (L2.CX X.prog X.w) X (wAll W) := passes_call tk fun _ _ σ _ h => h σ
section
variable {n b c : L2.St → Hp → Prop} {r : VK} {σ : L2.St} {H H' : Hp} {Q : VK} {x y v : V} {K : PySem.W.Frag} {E : En} {F : Hp} {L L' : Led} {p : Addr} {xs : List V}
theorem r_mul {i j : Int} {m k : Nat} (hi : i.natAbs < 2 ^ m) (hj : j.natAbs < 2 ^ k) (q : Q (.int (i * j)) H) (hm : 0 < m := by decide) (hk : 0 < k := by decide) (hs : m + k ≤ 1000000 := by decide) : rI CMulW (fun i j => .int (i * j)) (.int i) (.int j) H Q :=
  r_I (wide_mul hi hj hm hk hs) q
theorem r_div {i j : Int} (hj : 0 < j) (hb : j.natAbs < 2 ^ 200) (q : Q (.int (i / j)) H) : rI CDivW (fun i j => .int (i / j)) (.int i) (.int j) H Q :=
  r_I (wide_div hj hb (by decide) (by decide)) q
theorem r_isnone (q : Q (.bl (decide (x = .non))) H) : rIsNone x .non H Q := ⟨rfl, q⟩
theorem r_notnone (q : Q (.bl (!decide (x = .non))) H) : rNotNone x .non H Q := ⟨rfl, q⟩
theorem r_int1 {i : Int} (q : Q (.int i) H) : rInt1 [.int i] H Q := .inl ⟨i, rfl, q⟩
theorem r_int1b {k : Bool} (q : Q (.int (if k then 1 else 0)) H) : rInt1 [.bl k] H Q := .inr ⟨k, rfl, q⟩
theorem r_listof (G : St E F H L) (h : SqL K H p xs ∨ SqT K H p xs) (q : ∀ p' H', St E F H' ((p', .lst xs) :: L) → Q (.ref p') H') : rListOf K [.ref p] H Q :=
  ⟨p, xs, rfl, h, fun p' hp => q p' _ (G.new hp)⟩
theorem r_tupofL (G : St E F H L) (h : SqL K H p xs) (q : ∀ p' H', St E F H' ((p', .tup xs) :: L) → Q (.ref p') H') : rTupOf K [.ref p] H Q :=
  ⟨p, xs, rfl, .inl ⟨h, fun p' hp => q p' _ (G.new hp)⟩⟩
theorem r_tupofT (h : SqT K H p xs) (q : Q (.ref p) H) : rTupOf K [.ref p] H Q := ⟨p, xs, rfl, .inr ⟨h, q⟩⟩
theorem r_max2 {i j : Int} (q : Q (.int (if j > i then j else i)) H) : rMax2 [.int i, .int j] H Q := ⟨i, j, rfl, q⟩
theorem r_min2 {i j : Int} (q : Q (.int (if j < i then j else i)) H) : rMin2 [.int i, .int j] H Q := ⟨i, j, rfl, q⟩
theorem r_ipI {f : Int → Int → Int} {i j : Int} (q : Q (.int (f i j)) H) : ipI f (.int i) (.int j) H Q := ⟨i, j, rfl, rfl, q⟩
theorem w_tru {ta : TE} {QB : Bool → Hp → Prop} (h : ta σ H fun x H' => ∃ k, TruV K x H' k ∧ QB k H') : tTru K ta σ H QB := h
theorem w_rs {C : Addr} {X : XK} (h : X (.ref C) none H) : tRs C X ⟨n, r, b, c⟩ σ H := h
theorem w_gsub {te ti : TE} {t : TSet} {v : V} {QN : L2.St → Hp → Prop} (h : te σ H fun o H1 => ti σ H1 fun i H2 => t o i v H2 fun H3 => QN σ H3) : gSub te ti t v σ H QN := h
theorem w_asgG {te : TE} {g : TG} (h : te σ H fun v H1 => g v σ H1 n) : tAsg te g ⟨n, r, b, c⟩ σ H := h
end
/-! ## lists of ints, the draws -/
abbrev iv (ns : List Int) : List V := ns.map V.int
theorem iv_len {ns : List Int} : (iv ns).length = ns.length := List.length_map ..
theorem iv_get {ns : List Int} {i : Nat} {x : V} (h : (iv ns)[i]? = some x) : ∃ z, ns[i]? = some z ∧ x = .int z := by
  rw [List.getElem?_map] at h
  cases e : ns[i]? with
  | none => rw [e] at h; cases h
  | some z => rw [e] at h; exact ⟨z, rfl, (Option.some.inj h).symm⟩
theorem atI_iv {ns : List Int} {i : Int} (h0 : 0 ≤ i) (h1 : i < ns.length) : atI (iv ns) i = some (.int (ns.getD i.toNat 0)) := by
  have e : ((i.toNat : Nat) : Int) = i := by omega
  have hlt : i.toNat < ns.length := by omega
  have g : (iv ns)[i.toNat]? = some (.int (ns.getD i.toNat 0)) := by
    rw [List.getElem?_map, List.getElem?_eq_getElem hlt, List.getD_eq_getElem?_getD, List.getElem?_eq_getElem hlt]; rfl
  have q := atI_nat g
  rw [e] at q
  exact q
theorem ixN_of {n : Nat} {i : Int} (h0 : 0 ≤ i) (h1 : i < n) : ixN n i = some i.toNat := by
  unfold ixN; rw [if_pos h0, if_pos h1]
structure Dok (ds : List Int) : Prop where
  len : ds.length ≤ 1000
  rng : ∀ d ∈ ds, 0 ≤ d ∧ d < 1000
end SL

set_option Elab.async false
set_option linter.all false
set_option maxRecDepth 100000
set_option maxHeartbeats 4000000
namespace SL
open PySem L2
section

set_option hygiene false
local macro_rules | `(tactic| walk_at "m") => `(tactic| first | exact List.Mem.head _ | (refine List.Mem.tail _ ?_; walk_at "m"))
local macro_rules | `(tactic| walk_at "u") => `(tactic| first | exact Upd.head | (apply Upd.tail; walk_at "u"))
local macro_rules | `(tactic| walk_at "tk") => `(tactic| first | exact Tak.head | (apply Tak.tail; walk_at "tk"))
local macro_rules | `(tactic| walk_at "l") => `(tactic| first | assumption | exact lS (St.fh (by assumption)) (by assumption) | exact SqL.of (St.get (by assumption) (by walk_at "m")))
local macro_rules | `(tactic| walk_at "t") => `(tactic| first | assumption | exact tS (St.fh (by assumption)) (by assumption) | exact SqT.of (St.get (by assumption) (by walk_at "m")))
local macro_rules | `(tactic| walk_at "lt") => `(tactic| first | exact .inl (by walk_at "l") | exact .inr (by walk_at "t"))
local macro_rules | `(tactic| walk_at "sz") => `(tactic| first | (show _ ≤ sizeLine; decide) | exact sz (by simp) | exact szl (by simp) | exact sz (by omega) | exact szl (by omega) | exact sz (by simp; omega) | exact szl (by simp; omega))
local macro_rules | `(tactic| walk_at "c") => `(tactic| first | assumption | decide | omega)
local macro_rules | `(tactic| walk_at "g1") => `(tactic| with_reducible first
  | refine w_seq ?_ | refine w_asg ?_ | refine w_c ?_ | refine w_op ?_
  | refine r_I0 ?_ | refine w_test ?_ | refine r_b ?_ | refine w_if ?_ | refine w_cons ?_ | refine w_nil ?_
  | refine w_ret ?_ | refine w_drop ?_ | refine w_cb ?_ | refine w_call ?_ | refine w_next ?_ | refine w_tup ?_ | refine w_lst ?_ | refine w_bm ?_ | refine w_bm0 ?_
  | refine w_and ?_ | refine w_or ?_ | refine w_not ?_ | refine w_andV ?_ | refine w_orV ?_ | refine w_notV ?_ | refine w_tB ?_ | refine w_un ?_ | refine r_U ?_
  | refine w_for ?_ | refine w_iL ?_ | refine w_iT ?_ | refine w_i1 ?_ | refine w_i2 ?_ | refine w_sl ?_ | refine w_part ?_ | refine w_nopart ?_ | refine r_part ?_
  | refine r_eqI ?_ | refine r_neI ?_ | refine r_eqS ?_ | refine r_neS ?_ | refine r_eqB ?_ | refine r_neB ?_ | refine r_ifT ?_ | refine r_ifF ?_ | refine r_ifNt ?_ | refine r_ifNf ?_ | refine r_ifRN ?_ | refine r_ifNRN ?_ | refine r_ifNN ?_ | refine r_ifNNN ?_
  | refine w_ifE ?_ | refine r_int1 ?_ | refine r_int1b ?_ | refine r_isnone ?_ | refine r_notnone ?_ | refine r_max2 ?_ | refine r_min2 ?_ | refine r_ipI ?_ | refine w_tru ?_ | refine w_rs ?_
  | refine w_retN ?_ | refine w_break ?_ | refine w_cont ?_ | refine w_callS ?_ | refine w_asgG ?_ | refine w_gsub ?_)
local macro_rules | `(tactic| walk_at "g2") => `(tactic| first
  | ((with_reducible refine' w_var ?hv ?_); (case hv => rfl)) | ((with_reducible refine' w_aug ?hv ?_); (case hv => rfl))
  | ((with_reducible show rLen _ _ _ _); refine r_len (by walk_at "lt") ?_)
  | (with_reducible refine r_I ?cnd ?_; (case cnd => first | decide | omega | assumption | (unfold CPow; decide)))
  | ((with_reducible show RTy _ _ _ _ _); refine r_tyL (by walk_at "l") ?_)
  | (with_reducible refine r_ifDT (by walk_at "c") ?_) | (with_reducible refine r_ifDF (by walk_at "c") ?_)
  | (with_reducible refine r_ifNT (by walk_at "c") ?_) | (with_reducible refine r_ifNF (by walk_at "c") ?_))
local macro_rules | `(tactic| walk_at "go") => `(tactic| repeat (first | walk_at "g1" | walk_at "g2"))

abbrev F2 : L2.St → Hp → Prop := fun _ _ => False
abbrev D0 (Q : VK) : Ends := ⟨fun _ H' => Q .non H', Q, F2, F2⟩
/-! ### take -/
def cp_take (K : PySem.W.Frag) : Sp := fun vs H Q E => ∃ (p : Addr) (ds : List Int) (l : Int), vs = [.ref p, .int l] ∧
  (H p = some (.lst (iv ds)) ∧ Dok ds ∧ 0 < l ∧ ∀ i H' ds', 0 ≤ i → i < l → Dok ds' → SameB p H H' → H' p = some (.lst (iv ds')) → Q (.int i) H')
def ct_take (K : PySem.W.Frag) : TS := (tSeq (tIfS (tTest (tOp rEq (tCB (rLen K) (tCons (tVar 0) tNil)) (tC (.int (0))))) (tRet (tC (.int (0)))) tNext)
 (tRet (tOp rModI (tCB rInt1 (tCons (tBM0 K "list" rPop (tVar 0)) tNil)) (tVar 1))))
theorem cv_take {K : PySem.W.Frag} {vs : List V} {H : Hp} {Q : VK} {E : XK} (h : cp_take K vs H Q E) : ct_take K (D0 Q) (start ["draws", "limit"] vs) H := by
  obtain ⟨p, ds, l, rfl, hp, hd, hl, k⟩ := h
  have G := St.init1 (F := fun _ => none) (fun _ _ e => nomatch e) hp rfl
  unfold ct_take
  show tSeq _ _ (D0 Q) [some (.ref p), some (.int l)] H
  unfold D0
  walk_at "go"
  rw [iv_len]
  refine r_ifD (fun h => ?_) (fun h => ?_)
  · walk_at "go"
    exact k 0 H ds (by omega) hl hd (fun _ _ _ e => e) hp
  · have hne : ds ≠ [] := fun e => h (by rw [e]; rfl)
    obtain ⟨d1, z, rfl⟩ : ∃ d1 z, ds = d1 ++ [z] := ⟨ds.dropLast, ds.getLast hne, (List.dropLast_concat_getLast hne).symm⟩
    rw [show iv (d1 ++ [z]) = iv d1 ++ [.int z] from by simp] at G
    walk_at "go"
    refine r_pop G (by walk_at "u") fun H' G' => ?_
    walk_at "go"
    have hd' : Dok d1 := ⟨by have := hd.len; simp at this; omega, fun d m => hd.rng d (List.mem_append_left _ m)⟩
    exact k _ H' d1 (Int.emod_nonneg _ (by omega)) (Int.emod_lt_of_pos _ hl) hd' (G'.grB (by walk_at "m")).hh (G'.get (by walk_at "m"))
theorem u_take {K : PySem.W.Frag} {H F : Hp} {Q : VK} {X : XK} {E : En} {L : Led} {L' : List Int → Led} {p : Addr} {ds : List Int} {l : Int} (G : St E F H L) (u : ∀ ds', Upd L p (.lst (iv ds)) (.lst (iv ds')) (L' ds')) (hd : Dok ds) (hl : 0 < l)
    (q : ∀ i ds' H', 0 ≤ i → i < l → Dok ds' → St E F H' (L' ds') → Q (.int i) H') : cp_take K [.ref p, .int l] H Q X :=
  ⟨p, ds, l, rfl, G.get (u ds).mem, hd, hl, fun i H' ds' h0 h1 hd' hs hp => q i ds' H' h0 h1 hd' (G.putB (u ds') hs hp)⟩
/-! ### draws -/
def cp_draws (K : PySem.W.Frag) : Sp := fun vs H Q E => ∃ (a : Addr) (ns : List Int) (c : Int), vs = [.ref a, .int c] ∧
  (SqL K H a (iv ns) ∧ ns.length ≤ 63 ∧ 0 ≤ c ∧ c ≤ 1000 ∧ ∀ p H' ds, H p = none → Same H H' → H' p = some (.lst (iv ds)) → Dok ds → Q (.ref p) H')
def ct_draws (K : PySem.W.Frag) : TS := (tSeq (tAsg (tCB (rListOf K) (tCons (tVar 0) tNil)) (gName 2))
 (tSeq (tIfS (tTest (tOp rEq (tCB (rLen K) (tCons (tVar 2) tNil)) (tC (.int (0))))) (tAsg (tLst (tCons (tC (.int (7))) tNil)) (gName 2)) tNext)
 (tSeq (tAsg (tLst tNil) (gName 3))
 (tSeq (tAsg (tC (.int (12345))) (gName 4))
 (tSeq (tFor (iRng1 (tCons (tVar 1) tNil)) (gName 5) (tSeq (tAsg (tOp rModI (tVar 5) (tCB (rLen K) (tCons (tVar 2) tNil))) (gName 6))
 (tSeq (tAsg (tOp (rIxL K) (tVar 2) (tVar 6)) (gName 7))
 (tSeq (tAsg (tOp rModI (tCB rInt1 (tCons (tOp rAddI (tOp rAddI (tOp rAddI (tOp rMulI (tVar 4) (tC (.int (48271)))) (tOp rMulI (tOp rModI (tCB rInt1 (tCons (tVar 7) tNil)) (tC (.int (1000003)))) (tC (.int (69621))))) (tOp rMulI (tVar 5) (tC (.int (7919))))) (tC (.int (11)))) tNil)) (tC (.int (2147483647)))) (gName 4))
 (tSeq (tAsg (tOp rModI (tCB rInt1 (tCons (tOp rAddI (tOp rAddI (tOp rMulI (tVar 4) (tVar 4)) (tOp rMulI (tC (.int (31))) (tVar 4))) (tVar 5)) tNil)) (tC (.int (1000003)))) (gName 8))
 (tIfS (tTest (tOp rGeI (tVar 7) (tOp rPowI (tC (.int (10))) (tC (.int (18)))))) (tSeq (tDrop (tBM K "list" rAppend (tVar 3) (tCons (tOp rModI (tCB rInt1 (tCons (tVar 7) tNil)) (tC (.int (1000)))) tNil)))
 (tAsg (tOp rDivI (tVar 7) (tC (.int (1000)))) (gSub (tVar 2) (tVar 6) rSetL))) (tDrop (tBM K "list" rAppend (tVar 3) (tCons (tOp rModI (tCB rInt1 (tCons (tVar 8) tNil)) (tC (.int (1000)))) tNil)))))))))
 (tSeq (tDrop (tBM0 K "list" rReverse (tVar 3)))
 (tRet (tVar 3))))))))
theorem nab {i : Int} (h0 : 0 ≤ i) (h1 : i < 4294967296) : i.natAbs < 2 ^ 32 := by
  have : (2 : Nat) ^ 32 = 4294967296 := by decide
  omega
theorem iv_snoc {ns : List Int} {z : Int} : iv ns ++ [.int z] = iv (ns ++ [z]) := by simp
theorem iv_set {ns : List Int} {j : Nat} {z : Int} : (iv ns).set j (.int z) = iv (ns.set j z) := by simp [List.map_set]
theorem cv_draws {K : PySem.W.Frag} {vs : List V} {H : Hp} {Q : VK} {E : XK} (h : cp_draws K vs H Q E) : ct_draws K (D0 Q) (start ["script", "count", "cells", "found", "mixed", "k", "j", "cell", "again"] vs) H := by
  obtain ⟨a, ns, c, rfl, ha, hn, hc0, hc1, k⟩ := h
  have G := St.init (Same.refl H)
  unfold ct_draws
  show tSeq _ _ (D0 Q) [some (.ref a), some (.int c), none, none, none, none, none, none, none] H
  unfold D0
  walk_at "go"
  refine r_listof G (.inl ha) fun p1 H1 G1 => ?_
  walk_at "go"
  -- from here on: some list of ints at p1 that is not empty
  suffices S : ∀ (p1 : Addr) (cs : List Int) (H1 : Hp) (L : Led), St ⟨H, H⟩ H H1 ((p1, .lst (iv cs)) :: L) → 0 < cs.length → cs.length ≤ 63 →
      tSeq (tAsg (tLst tNil) (gName 3)) (tSeq (tAsg (tC (.int 12345)) (gName 4)) _) ⟨fun _ H' => Q .non H', Q, F2, F2⟩ [some (.ref a), some (.int c), some (.ref p1), none, none, none, none, none, none] H1 from by
    rw [iv_len]
    refine r_ifD (fun h => ?_) (fun h => ?_)
    · walk_at "go"
      refine r_lst G1 (by walk_at "sz") fun p2 H2 G2 => ?_
      exact S p2 [7] H2 _ G2 (by decide) (by decide)
    · walk_at "g1"
      exact S p1 ns H1 [] G1 (by omega) hn
  intro p1 cs H1 L G1 hc hc63
  walk_at "go"
  refine r_lst G1 (by walk_at "sz") fun p2 H2 G2 => ?_
  walk_at "go"
  refine r_i1 (by omega) ?_
  refine r_forR (fun i σ H' => ∃ (cs' ds : List Int) (m : Int) (v5 v6 v7 v8 : Option V), σ = [some (.ref a), some (.int c), some (.ref p1), some (.ref p2), some (.int m), v5, v6, v7, v8] ∧
      St ⟨H, H⟩ H H' ((p2, .lst (iv ds)) :: (p1, .lst (iv cs')) :: L) ∧ cs'.length = cs.length ∧ ds.length = i ∧ (∀ d ∈ ds, 0 ≤ d ∧ d < 1000) ∧ 0 ≤ m ∧ m < 2147483647)
    ⟨cs, [], 12345, none, none, none, none, rfl, G2, rfl, rfl, (fun _ h => nomatch h), by omega, by omega⟩ ?_ ?_
  · rintro i σ H' hi ⟨cs', ds, m, v5, v6, v7, v8, rfl, G3, hl, hdl, hr, hm0, hm1⟩
    have hi' : (i : Int) < 1000 := by omega
    have hcl : (0 : Int) < (iv cs').length := by rw [iv_len]; omega
    walk_at "go"
    generalize hj : (0 + (i : Int)) % ((iv cs').length : Int) = j
    have hj0 : 0 ≤ j := by rw [← hj]; exact Int.emod_nonneg _ (by omega)
    have hj1 : j < (cs'.length : Int) := by rw [← hj, iv_len]; rw [iv_len] at hcl; exact Int.emod_lt_of_pos _ hcl
    refine r_ixL (by walk_at "l") (atI_iv hj0 hj1) ?_
    generalize cs'.getD j.toNat 0 = z
    walk_at "go"
    refine r_mul (m := 32) (k := 32) (nab hm0 (by omega)) (by decide) ?_
    walk_at "go"
    have hz0 : 0 ≤ z % 1000003 := Int.emod_nonneg _ (by decide)
    have hz1 : z % 1000003 < 1000003 := Int.emod_lt_of_pos _ (by decide)
    refine r_mul (m := 32) (k := 32) (nab hz0 (by omega)) (by decide) ?_
    walk_at "go"
    refine r_mul (m := 32) (k := 32) (nab (by omega) (by omega)) (by decide) ?_
    walk_at "go"
    generalize hM : (m * 48271 + z % 1000003 * 69621 + (0 + (i : Int)) * 7919 + 11) % 2147483647 = m'
    have hm0' : 0 ≤ m' := by rw [← hM]; exact Int.emod_nonneg _ (by decide)
    have hm1' : m' < 2147483647 := by rw [← hM]; exact Int.emod_lt_of_pos _ (by decide)
    refine r_mul (m := 32) (k := 32) (nab hm0' (by omega)) (nab hm0' (by omega)) ?_
    walk_at "go"
    refine r_mul (m := 32) (k := 32) (by decide) (nab hm0' (by omega)) ?_
    walk_at "go"
    generalize (m' * m' + 31 * m' + (0 + (i : Int))) % 1000003 = w
    refine r_ifD (fun h => ?_) (fun h => ?_)
    · walk_at "go"
      refine r_append G3 (by walk_at "u") (szl (by rw [iv_len]; omega)) fun H4 G4 => ?_
      walk_at "go"
      refine r_div (by decide) (by decide) ?_
      walk_at "go"
      refine r_setL (xs := iv cs') G4 (ixN_of hj0 (by rw [iv_len]; exact hj1)) (by walk_at "u") fun H5 G5 => ?_
      rw [iv_snoc, iv_set] at G5
      refine ⟨_, _, m', _, _, _, _, rfl, G5, by rw [List.length_set]; exact hl, by simp [hdl], ?_, hm0', hm1'⟩
      intro d hd
      rcases List.mem_append.mp hd with q | q
      · exact hr d q
      · rw [List.mem_singleton.mp q]
        exact ⟨Int.emod_nonneg _ (by decide), Int.emod_lt_of_pos _ (by decide)⟩
    · walk_at "go"
      refine r_append G3 (by walk_at "u") (szl (by rw [iv_len]; omega)) fun H4 G4 => ?_
      rw [iv_snoc] at G4
      refine ⟨_, _, m', _, _, _, _, rfl, G4, hl, by simp [hdl], ?_, hm0', hm1'⟩
      intro d hd
      rcases List.mem_append.mp hd with q | q
      · exact hr d q
      · rw [List.mem_singleton.mp q]
        exact ⟨Int.emod_nonneg _ (by decide), Int.emod_lt_of_pos _ (by decide)⟩
  · rintro σ H' ⟨cs', ds, m, v5, v6, v7, v8, rfl, G3, hl, hdl, hr, hm0, hm1⟩
    walk_at "go"
    refine r_reverse G3 (by walk_at "u") fun H4 G4 => ?_
    walk_at "go"
    rw [show (iv ds).reverse = iv ds.reverse from by simp] at G4
    refine k p2 H4 ds.reverse ?_ G4.bh (G4.get (by walk_at "m")) ⟨by rw [List.length_reverse]; omega, fun d hd => hr d (List.mem_reverse.mp hd)⟩
    exact (G4.own _ (by walk_at "m")).2.2
theorem u_draws {K : PySem.W.Frag} {H F : Hp} {Q : VK} {X : XK} {E : En} {L : Led} {a : Addr} {ns : List Int} {c : Int} (G : St E F H L) (ha : SqL K H a (iv ns)) (hn : ns.length ≤ 63) (h0 : 0 ≤ c) (h1 : c ≤ 1000)
    (q : ∀ p ds H', Dok ds → St E F H' ((p, .lst (iv ds)) :: L) → Q (.ref p) H') : cp_draws K [.ref a, .int c] H Q X :=
  ⟨a, ns, c, rfl, ha, hn, h0, h1, fun p H' ds hn hs hp hd => q p ds H' hd (G.add hs hn hp)⟩
end
end SL

set_option Elab.async false
set_option linter.all false
set_option maxRecDepth 100000
set_option maxHeartbeats 4000000
namespace L2
open PySem PySem.Spec PyProof.Rows
/-! ## a list or a tuple is walked -/
def SqB (K : PySem.W.Frag) (H : Hp) (a : Addr) (xs : List V) : Bool → Prop
  | true => SqL K H a xs
  | false => SqT K H a xs
def Itb (K : PySem.W.Frag) (a : Addr) : Bool → It
  | true => Itl K a
  | false => Itt K a
def RISq (K : PySem.W.Frag) (x : V) (H : Hp) (R : It → Hp → Prop) : Prop := ∃ (a : Addr) (b : Bool) (xs : List V), x = .ref a ∧ SqB K H a xs b ∧ R (Itb K a b) H
def iSeq (K : PySem.W.Frag) (tl : TE) : TI := fun σ H R => tl σ H fun x H1 => RISq K x H1 R
section
variable {X : Cx} {tg : Expr}
theorem pi_seq {l : Expr} {tl : TE} (hl : PE X l tl) : PI X tg l (iSeq X.K tl) := by
  refine ⟨fun pins s σ H R I h => thn (hl.run pins s σ H _ I h) fun v s1 hq => ?_⟩
  obtain ⟨x, H1, I1, rx, a, b, xs, e, sq, q⟩ := hq
  subst e
  obtain rfl : v = Value.ref a := rx
  have fp : ∀ c ∈ [s1.heap.objs.size], FpOk X pins H1 c := fun c hc => by
    rw [List.mem_singleton.mp hc]
    exact I1.fpOk (Nat.le_refl _) (I1.hok.fresh (Nat.le_refl _))
  have old : ∀ (o : Obj), Inv X pins σ H1 { s1 with heap := s1.heap.push o } := fun o => I1.kept (t' := s1.toks) fun _ _ z => Heap.get?_push_of_some _ z
  cases b with
  | true =>
    obtain ⟨its, _, p, _⟩ := I1.list (show SqL X.K H1 a xs from sq)
    exact wpAny_pyIter_list p.isList ⟨_, [s1.heap.objs.size], _, Itl X.K a, H1, rfl, old _, turn_list a _, ⟨_, Heap.get?_push_size _ rfl, rfl, rfl⟩, fp, q⟩
  | false =>
    obtain ⟨its, _, p, _⟩ := I1.tuple (show SqT X.K H1 a xs from sq)
    exact wpAny_pyIter_tuple (show s1.heap.IsTuple a its.toArray from p) ⟨_, [s1.heap.objs.size], _, Itt X.K a, H1, rfl, old _, turn_tuple a _, ⟨_, Heap.get?_push_size _ rfl, rfl, rfl⟩, fp, q⟩
end
end L2
namespace SL
open PySem L2
section

set_option hygiene false
local macro_rules | `(tactic| walk_at "m") => `(tactic| first | exact List.Mem.head _ | (refine List.Mem.tail _ ?_; walk_at "m"))
local macro_rules | `(tactic| walk_at "u") => `(tactic| first | exact Upd.head | (apply Upd.tail; walk_at "u"))
local macro_rules | `(tactic| walk_at "tk") => `(tactic| first | exact Tak.head | (apply Tak.tail; walk_at "tk"))
local macro_rules | `(tactic| walk_at "l") => `(tactic| first | assumption | exact lS (St.fh (by assumption)) (by assumption) | exact SqL.of (St.get (by assumption) (by walk_at "m")))
local macro_rules | `(tactic| walk_at "t") => `(tactic| first | assumption | exact tS (St.fh (by assumption)) (by assumption) | exact SqT.of (St.get (by assumption) (by walk_at "m")))
local macro_rules | `(tactic| walk_at "lt") => `(tactic| first | exact .inl (by walk_at "l") | exact .inr (by walk_at "t"))
local macro_rules | `(tactic| walk_at "sz") => `(tactic| first | (show _ ≤ sizeLine; decide) | exact sz (by simp) | exact szl (by simp) | exact sz (by omega) | exact szl (by omega) | exact sz (by simp; omega) | exact szl (by simp; omega))
local macro_rules | `(tactic| walk_at "c") => `(tactic| first | assumption | decide | omega)
local macro_rules | `(tactic| walk_at "g1") => `(tactic| with_reducible first
  | refine w_seq ?_ | refine w_asg ?_ | refine w_c ?_ | refine w_op ?_
  | refine r_I0 ?_ | refine w_test ?_ | refine r_b ?_ | refine w_if ?_ | refine w_cons ?_ | refine w_nil ?_
  | refine w_ret ?_ | refine w_drop ?_ | refine w_cb ?_ | refine w_call ?_ | refine w_next ?_ | refine w_tup ?_ | refine w_lst ?_ | refine w_bm ?_ | refine w_bm0 ?_
  | refine w_and ?_ | refine w_or ?_ | refine w_not ?_ | refine w_andV ?_ | refine w_orV ?_ | refine w_notV ?_ | refine w_tB ?_ | refine w_un ?_ | refine r_U ?_
  | refine w_for ?_ | refine w_iL ?_ | refine w_iT ?_ | refine w_i1 ?_ | refine w_i2 ?_ | refine w_sl ?_ | refine w_part ?_ | refine w_nopart ?_ | refine r_part ?_
  | refine r_eqI ?_ | refine r_neI ?_ | refine r_eqS ?_ | refine r_neS ?_ | refine r_eqB ?_ | refine r_neB ?_ | refine r_ifT ?_ | refine r_ifF ?_ | refine r_ifNt ?_ | refine r_ifNf ?_ | refine r_ifRN ?_ | refine r_ifNRN ?_ | refine r_ifNN ?_ | refine r_ifNNN ?_
  | refine w_ifE ?_ | refine r_int1 ?_ | refine r_int1b ?_ | refine r_isnone ?_ | refine r_notnone ?_ | refine r_max2 ?_ | refine r_min2 ?_ | refine r_ipI ?_ | refine w_tru ?_ | refine w_rs ?_
  | refine w_retN ?_ | refine w_break ?_ | refine w_cont ?_ | refine w_callS ?_ | refine w_asgG ?_ | refine w_gsub ?_)
local macro_rules | `(tactic| walk_at "g2") => `(tactic| first
  | ((with_reducible refine' w_var ?hv ?_); (case hv => rfl)) | ((with_reducible refine' w_aug ?hv ?_); (case hv => rfl))
  | ((with_reducible show rLen _ _ _ _); refine r_len (by walk_at "lt") ?_)
  | (with_reducible refine r_I ?cnd ?_; (case cnd => first | decide | omega | assumption | (unfold CPow; decide)))
  | ((with_reducible show RTy _ _ _ _ _); refine r_tyL (by walk_at "l") ?_)
  | (with_reducible refine r_ifDT (by walk_at "c") ?_) | (with_reducible refine r_ifDF (by walk_at "c") ?_)
  | (with_reducible refine r_ifNT (by walk_at "c") ?_) | (with_reducible refine r_ifNF (by walk_at "c") ?_))
local macro_rules | `(tactic| walk_at "go") => `(tactic| repeat (first | walk_at "g1" | walk_at "g2"))

variable {n b c : L2.St → Hp → Prop} {r : VK} {σ : L2.St} {H H' : Hp} {Q : VK} {t : TS} {te : TE} {x y v : V} {K : PySem.W.Frag} {E : En} {F : Hp} {L L' : Led} {p a : Addr} {xs : List V} {k : Bool}
theorem qS (e : Same H H') (h : SqB K H a xs k) : SqB K H' a xs k := by
  cases k with
  | true => exact lS e h
  | false => exact tS e h
theorem qor (h : SqB K H a xs k) : SqL K H a xs ∨ SqT K H a xs := by
  cases k with
  | true => exact .inl h
  | false => exact .inr h
theorem w_iSq {R : It → Hp → Prop} (h : te σ H fun x H1 => RISq K x H1 R) : iSeq K te σ H R := h
theorem r_isq {R : It → Hp → Prop} (h : SqB K H a xs k) (q : R (Itb K a k) H) : RISq K (.ref a) H R := ⟨a, k, xs, rfl, h, q⟩
theorem r_forB {i0 : Nat} (Pv : Nat → L2.St → Hp → Prop) (h0 : Pv 0 σ H) (hl : ∀ i σ H, i ≤ xs.length → Pv i σ H → SqB K H a xs k)
    (hs : ∀ i x σ H, xs[i]? = some x → Pv i σ H → t ⟨Pv (i + 1), r, n, Pv (i + 1)⟩ (σ.set i0 (some x)) H) (hd : ∀ σ H, Pv xs.length σ H → n σ H) : RFor (Itb K a k) (gName i0) t ⟨n, r, b, c⟩ σ H := by
  cases k with
  | true => exact r_forL Pv h0 hl hs hd
  | false => exact r_forT Pv h0 hl hs hd
/-! ## comprehensions -/
def RApp (D : Addr) (y : V) (H : Hp) (P : Hp → Prop) : Prop := ∃ acc, H D = some (.lst acc) ∧ acc.length < sizeLine ∧ P (upd H D (.lst (acc ++ [y])))
def RLc (J : It) (g : TG) (tt : TT) (te : TE) (vs : List Nat) (σ : L2.St) (Q : VK) (H1 : Hp) : Prop := ∀ D, H1 D = none → ∃ W : Nat → Nat → Hp → Prop, (∃ m, W 0 m (upd H1 D (.lst []))) ∧ ∀ i m H, W i m H →
  (J.stop i H ∧ Q (.ref D) H) ∨ (J.go i H ∧ ∃ Nx : Hp → Prop, (∀ H', Nx H' → ∃ m', m' < m ∧ W (i + 1) m' H') ∧ ∀ x H', J.yld i H x H' → g x (wipe σ vs) H' fun σ2 H2 => wipe σ2 vs = wipe σ vs ∧ tt σ2 H2 fun b H3 =>
    if b = true then te σ2 H3 fun y H4 => RApp D y H4 Nx else Nx H3)
theorem w_lc {wi : TI} {g : TG} {tt : TT} {vs : List Nat} (h : wi σ H fun J H1 => RLc J g tt te vs σ Q H1) : tLc wi g tt te vs σ H Q := h
theorem r_app {P : Hp → Prop} {acc : List V} (G : St E F H L) (u : Upd L p (.lst acc) (.lst (acc ++ [y])) L') (hs : acc.length < sizeLine) (q : ∀ H', St E F H' L' → P H') : RApp p y H P :=
  ⟨acc, G.get u.mem, hs, q _ (G.put u)⟩
theorem wipe_set1 {σ : L2.St} {i : Nat} {v : Option V} : wipe ((wipe σ [i]).set i v) [i] = wipe σ [i] := by
  show ((σ.set i none).set i v).set i none = σ.set i none
  rw [List.set_set, List.set_set]
theorem yes_of {σ : L2.St} {H : Hp} {A B : Hp → Prop} (h : A H) : tYes σ H fun b H3 => if b = true then A H3 else B H3 := by
  show (if true = true then A H else B H)
  rw [if_pos rfl]
  exact h
/-- over a list or a tuple, no test -/
theorem r_lcB {i0 : Nat} (G : St E F H L) (Pv : Addr → Nat → Hp → Prop) (h0 : ∀ D H', St E F H' ((D, .lst []) :: L) → Pv D 0 H') (hl : ∀ D i H', i ≤ xs.length → Pv D i H' → SqB K H' a xs k)
    (hs : ∀ D i x H', xs[i]? = some x → Pv D i H' → te ((wipe σ [i0]).set i0 (some x)) H' fun y H4 => RApp D y H4 (Pv D (i + 1))) (hd : ∀ D H', Pv D xs.length H' → Q (.ref D) H') : RLc (Itb K a k) (gName i0) tYes te [i0] σ Q H := by
  intro D hD
  have h0' := h0 D _ (G.new hD)
  cases k with
  | true => exact lc_list (K := K) (a := a) (xs := xs) (Qd := fun H' => Q (.ref D) H') (Pv D) h0' (hl D) (fun i x H' hi p => ⟨wipe_set1, yes_of (hs D i x H' hi p)⟩) (hd D)
  | false => exact lc_tup (K := K) (a := a) (xs := xs) (Qd := fun H' => Q (.ref D) H') (Pv D) h0' (hl D) (fun i x H' hi p => ⟨wipe_set1, yes_of (hs D i x H' hi p)⟩) (hd D)
theorem r_lcR {lo : Int} {m i0 : Nat} (G : St E F H L) (Pv : Addr → Nat → Hp → Prop) (h0 : ∀ D H', St E F H' ((D, .lst []) :: L) → Pv D 0 H')
    (hs : ∀ D i H', i < m → Pv D i H' → te ((wipe σ [i0]).set i0 (some (.int (lo + i)))) H' fun y H4 => RApp D y H4 (Pv D (i + 1))) (hd : ∀ D H', Pv D m H' → Q (.ref D) H') : RLc (Itr lo m) (gName i0) tYes te [i0] σ Q H := by
  intro D hD
  exact lc_range (Qd := fun H' => Q (.ref D) H') (Pv D) (h0 D _ (G.new hD)) (fun i H' hi p => ⟨wipe_set1, yes_of (hs D i H' hi p)⟩) (hd D)
/-- .. with a test -/
theorem r_lcBT {i0 : Nat} {tt : TT} (G : St E F H L) (Pv : Addr → Nat → Hp → Prop) (h0 : ∀ D H', St E F H' ((D, .lst []) :: L) → Pv D 0 H') (hl : ∀ D i H', i ≤ xs.length → Pv D i H' → SqB K H' a xs k)
    (hs : ∀ D i x H', xs[i]? = some x → Pv D i H' → tt ((wipe σ [i0]).set i0 (some x)) H' fun b H3 => RIf b (te ((wipe σ [i0]).set i0 (some x)) H3 fun y H4 => RApp D y H4 (Pv D (i + 1))) (Pv D (i + 1) H3)) (hd : ∀ D H', Pv D xs.length H' → Q (.ref D) H') : RLc (Itb K a k) (gName i0) tt te [i0] σ Q H := by
  intro D hD
  have h0' := h0 D _ (G.new hD)
  cases k with
  | true => exact lc_list (K := K) (a := a) (xs := xs) (Qd := fun H' => Q (.ref D) H') (Pv D) h0' (hl D) (fun i x H' hi p => ⟨wipe_set1, hs D i x H' hi p⟩) (hd D)
  | false => exact lc_tup (K := K) (a := a) (xs := xs) (Qd := fun H' => Q (.ref D) H') (Pv D) h0' (hl D) (fun i x H' hi p => ⟨wipe_set1, hs D i x H' hi p⟩) (hd D)
theorem r_lcRT {lo : Int} {m i0 : Nat} {tt : TT} (G : St E F H L) (Pv : Addr → Nat → Hp → Prop) (h0 : ∀ D H', St E F H' ((D, .lst []) :: L) → Pv D 0 H')
    (hs : ∀ D i H', i < m → Pv D i H' → tt ((wipe σ [i0]).set i0 (some (.int (lo + i)))) H' fun b H3 => RIf b (te ((wipe σ [i0]).set i0 (some (.int (lo + i)))) H3 fun y H4 => RApp D y H4 (Pv D (i + 1))) (Pv D (i + 1) H3)) (hd : ∀ D H', Pv D m H' → Q (.ref D) H') : RLc (Itr lo m) (gName i0) tt te [i0] σ Q H := by
  intro D hD
  exact lc_range (Qd := fun H' => Q (.ref D) H') (Pv D) (h0 D _ (G.new hD)) (fun i H' hi p => ⟨wipe_set1, hs D i H' hi p⟩) (hd D)
theorem take_snoc {α : Type} : ∀ {l : List α} {i : Nat} {x : α}, l[i]? = some x → l.take (i + 1) = l.take i ++ [x]
  | [], i, x, h => by simp at h
  | y :: l, 0, x, h => by
    have e : y = x := Option.some.inj h
    rw [e]; rfl
  | y :: l, i + 1, x, h => by
    have ih := take_snoc (l := l) (i := i) (x := x) h
    rw [List.take_succ_cons, ih]; rfl
/-- each item on its own, nothing else happens -/
theorem r_lcM {i0 : Nat} (f : V → V) (hsz : xs.length ≤ 1000000) (G : St E F H L) (hx : SqB K H a xs k)
    (hs : ∀ D (i : Nat) x acc H' (Q' : VK), xs[i]? = some x → Same H H' → St E F H' ((D, .lst acc) :: L) → Q' (f x) H' → te ((wipe σ [i0]).set i0 (some x)) H' Q')
    (q : ∀ D H', Same H H' → St E F H' ((D, .lst (xs.map f)) :: L) → Q (.ref D) H') : RLc (Itb K a k) (gName i0) tYes te [i0] σ Q H := by
  intro D0 hD0
  have G0 := St.init (Same.refl H)
  refine r_lcB (L := []) G0 (fun D i H' => H D = none ∧ Same H H' ∧ H' D = some (.lst ((xs.take i).map f))) (fun D H' G' => ⟨(G'.own _ (by walk_at "m")).2.2, G'.bh, G'.get (by walk_at "m")⟩) (fun D i H' _ h => qS h.2.1 hx) (fun D i x H' hi h => ?_) (fun D H' h => ?_) D0 hD0
  · have G' : St E F H' ((D, .lst ((xs.take i).map f)) :: L) := G.add h.2.1 h.1 h.2.2
    refine hs D i x _ H' _ hi h.2.1 G' ⟨_, h.2.2, szl (by rw [List.length_map, List.length_take]; omega), h.1, fun b o e => ?_, ?_⟩
    · rw [upd_ne (ne_of_none e h.1)]; exact h.2.1 b o e
    · rw [upd_same, take_snoc hi, List.map_append]; rfl
  · refine q D H' h.2.1 ?_
    have := G.add h.2.1 h.1 h.2.2
    rw [List.take_length] at this
    exact this
end
end SL

set_option Elab.async false
set_option linter.all false
set_option maxRecDepth 100000
set_option maxHeartbeats 4000000

namespace PySem
open Sem (wp)
section
variable {prog : Program} {w : World} {A : Around} {E : Value → Shared → Prop} {RR : Result → Shared → Prop} {J : Addr} {fo wo : List Addr} {sz : Nat} {PP : Nat → Value → Prop} {ST : Nat → Heap → Prop} {kw : List (Str × Value)}
/-- the rest of max, from the second item on; whatever default was given -/
theorem mm_max_rest (Wk : Walks prog w A.in1 J fo wo sz PP ST) (bt : Nat → Nat → Bool) (cm : CmpOf prog w A.in1 .Gt PP bt) (B : Addr) (nB : B ∉ fo) :
    ∀ (d j : Nat) (s : Shared) (u : Value) (c : Nat), sz - (j + 1) = d → j + 1 ≤ sz → ST (j + 1) s.heap → PP (argBest bt j) u →
    s.heap.get? B = some { cls := .type "list", dict := none, data := .seq #[u, u] c, slots := #[] } →
    (∀ v h1 t1, PP (argBest bt (sz - 1)) v → (∀ b o, b ∉ wo → b ≠ B → s.heap.get? b = some o → h1.get? b = some o) → RR (.ok (.ret v)) { s with heap := h1, toks := t1 }) →
    codeAny (model prog w) A (.builtin "max.loop" ⟨[.ref J, .none, .ref B], kw⟩) RR s := by
  have nBw : B ∉ wo := fun h => nB (Wk.sub _ h)
  have nm : (toString "max" ++ toString ".loop" : String) = "max.loop" := by decide
  intro d
  induction d with
  | zero =>
    intro j s u c e1 e2 e3 e4 e5 fin
    have last : j + 1 = sz := by omega
    refine codeAny_builtin F.entry_max_loop ?_
    rw [Around.under_plainId F.plain_max_loop _]
    show wpAny _ A.in1 (seqItems? (.ref B) >>= _) _ _ s
    refine wpAny_bind (wpAny_seqItems e5 rfl ?_)
    show wpAny _ A.in1 (tryCatch (pyNext (.ref J)) _ >>= _) _ _ s
    refine wpAny_bind (wpAny_tryCatch (Wk.done s _ _ (last ▸ e3) fun h1 t1 kp => ?_))
    have e6 := kp B _ nBw e5
    show wpAny _ A.in1 (updateSeq B (fun _ => #[]) >>= _) _ _ _
    refine wpAny_bind ?_
    refine wpAny_updateSeq e6 rfl (wpAny_bind (wpAny_letGo (wpAny_pure ?_)))
    exact fin u _ t1 (by rw [← last]; exact e4) fun b o q1 q2 q3 => (Heap.get?_update_other _ _ (Ne.symm q2)).trans (kp b o q1 q3)
  | succ d ih =>
    intro j s u c e1 e2 e3 e4 e5 fin
    have more : j + 1 < sz := by omega
    refine codeAny_builtin F.entry_max_loop ?_
    rw [Around.under_plainId F.plain_max_loop _]
    show wpAny _ A.in1 (seqItems? (.ref B) >>= _) _ _ s
    refine wpAny_bind (wpAny_seqItems e5 rfl ?_)
    show wpAny _ A.in1 (tryCatch (pyNext (.ref J)) _ >>= _) _ _ s
    refine wpAny_bind (wpAny_tryCatch (Wk.item (j + 1) s _ _ more e3 fun v h1 t1 pv s1 kp => ?_))
    have e6 := kp B _ nBw e5
    show wpAny _ A.in1 (tryCatch (holding [v, v] (richCompare .Gt v u >>= _)) _ >>= _) _ _ _
    refine wpAny_bind (wpAny_tryCatch (wpAny_holding (wpAny_bind (cm (j + 1) (argBest bt j) v u _ _ _ pv e4 ?_))))
    refine wpAny_bind (wpAny_holding (wpAny_truthy_bool ?_))
    refine wpAny_bind (wpAny_letGo (wpAny_pure ?_))
    cases better : bt (j + 1) (argBest bt j) with
    | true =>
      simp only [if_true]
      refine wpAny_bind ?_
      refine wpAny_updateSeq e6 rfl (wpAny_bind (wpAny_letGo ?_))
      rw [nm]
      refine wpAny_pure ⟨plainId_quiet F.plain_max_loop _, ih (j + 1) _ v _ (by omega) more (Wk.frame _ _ _ s1 fun b q o z => ?_) (by simp only [argBest, better, if_true]; exact pv) (Heap.get?_update_self _ e6 rfl) fun v1 h2 t2 q1 q2 => ?_⟩
      · exact (Heap.get?_update_other _ _ (fun z : B = b => nB (by rw [z]; exact q))).trans z
      · exact fin v1 h2 t2 q1 fun b o z1 z2 z3 => q2 b o z1 z2 ((Heap.get?_update_other _ _ (Ne.symm z2)).trans (kp b o z1 z3))
    | false =>
      simp only [Bool.false_eq_true, if_false]
      refine wpAny_bind (wpAny_letGo ?_)
      rw [nm]
      refine wpAny_pure ⟨plainId_quiet F.plain_max_loop _, ih (j + 1) _ u c (by omega) more s1 (by simp only [argBest, better, Bool.false_eq_true, if_false]; exact e4) e6 fun v1 h2 t2 q1 q2 => ?_⟩
      exact fin v1 h2 t2 q1 fun b o z1 z2 z3 => q2 b o z1 z2 (kp b o z1 z3)
theorem mm_max_all (Wk : Walks prog w A.in1 J fo wo sz PP ST) (bt : Nat → Nat → Bool) (cm : CmpOf prog w A.in1 .Gt PP bt) (B : Addr) (nB : B ∉ fo) {s : Shared} {c : Nat} (e3 : ST 0 s.heap)
    (e5 : s.heap.get? B = some { cls := .type "list", dict := none, data := .seq #[] c, slots := #[] }) {dv : Value} (hkw : sz = 0 → kw = [(Str.ofString "default", dv)])
    (fin : ∀ v h1 t1, (0 < sz → PP (argBest bt (sz - 1)) v) → (sz = 0 → v = dv) → (∀ b o, b ∉ wo → b ≠ B → s.heap.get? b = some o → h1.get? b = some o) → RR (.ok (.ret v)) { s with heap := h1, toks := t1 }) :
    codeAny (model prog w) A (.builtin "max.loop" ⟨[.ref J, .none, .ref B], kw⟩) RR s := by
  have nBw : B ∉ wo := fun h => nB (Wk.sub _ h)
  have nm : (toString "max" ++ toString ".loop" : String) = "max.loop" := by decide
  refine codeAny_builtin F.entry_max_loop ?_
  rw [Around.under_plainId F.plain_max_loop _]
  show wpAny _ A.in1 (seqItems? (.ref B) >>= _) _ _ s
  refine wpAny_bind (wpAny_seqItems e5 rfl ?_)
  show wpAny _ A.in1 (tryCatch (pyNext (.ref J)) _ >>= _) _ _ s
  by_cases none : sz = 0
  · have hk := hkw none
    subst hk
    refine wpAny_bind (wpAny_tryCatch (Wk.done s _ _ (by rw [none]; exact e3) fun h1 t1 kp => ?_))
    show wpAny _ A.in1 (rule (toString "max" ++ toString ".default") >>= _) _ _ _
    refine wpAny_bind (wpAny_rule ?_)
    exact wpAny_pure (fin dv h1 t1 (fun z => absurd z (by omega)) (fun _ => rfl) fun b o q1 q2 q3 => kp b o q1 q3)
  · have some0 : 0 < sz := by omega
    refine wpAny_bind (wpAny_tryCatch (Wk.item 0 s _ _ some0 e3 fun v h1 t1 pv s1 kp => ?_))
    have e6 := kp B _ nBw e5
    show wpAny _ A.in1 (updateSeq B (fun _ => #[v, v]) >>= _) _ _ _
    refine wpAny_bind ?_
    refine wpAny_updateSeq e6 rfl ?_
    rw [nm]
    refine wpAny_pure ⟨plainId_quiet F.plain_max_loop _, mm_max_rest Wk bt cm B nB _ 0 _ v _ rfl some0 (Wk.frame _ _ _ s1 fun b q o z => ?_) pv (Heap.get?_update_self _ e6 rfl) fun v1 h2 t2 q1 q2 => ?_⟩
    · exact (Heap.get?_update_other _ _ (fun z : B = b => nB (by rw [z]; exact q))).trans z
    · exact fin v1 h2 t2 (fun _ => q1) (fun z => absurd z none) fun b o z1 z2 z3 => q2 b o z1 z2 ((Heap.get?_update_other _ _ (Ne.symm z2)).trans (kp b o z1 z3))
theorem F.mm_max_d (a v : Value) : argsOk "max" ⟨[a], [(Str.ofString "default", v)]⟩ := by unfold argsOk; kernel_rfl
/-- max(x), max(x, default=d) -/
theorem mm_max {s : Shared} {x : Value} {Q : Value → Shared → Prop} {kw : List (Str × Value)} {dv : Value} (hkw : kw = [] ∨ kw = [(Str.ofString "default", dv)])
    (h : wpAny (model prog w) A.in1 (pyIter x) (fun it s2 => ∃ J fo wo sz PP ST bt, it = .ref J ∧ Walks prog w A.in1 J fo wo sz PP ST ∧ ST 0 s2.heap ∧ (∀ b ∈ fo, b < s2.heap.objs.size) ∧ (sz = 0 → kw = [(Str.ofString "default", dv)]) ∧ CmpOf prog w A.in1 .Gt PP bt ∧
      ∀ v h1 t1, (0 < sz → PP (argBest bt (sz - 1)) v) → (sz = 0 → v = dv) → (∀ b o, b ∉ wo → s2.heap.get? b = some o → h1.get? b = some o) → Q v { s2 with heap := h1, toks := t1 }) E s) :
    wpAny (model prog w) A (call (.builtin "max") [x] kw) Q E s := by
  have nm : (toString "max" ++ toString ".loop" : String) = "max.loop" := by decide
  have go : ∀ (it : Value) (s2 : Shared), (∃ J fo wo sz PP ST bt, it = .ref J ∧ Walks prog w A.in1 J fo wo sz PP ST ∧ ST 0 s2.heap ∧ (∀ b ∈ fo, b < s2.heap.objs.size) ∧ (sz = 0 → kw = [(Str.ofString "default", dv)]) ∧ CmpOf prog w A.in1 .Gt PP bt ∧
      ∀ v h1 t1, (0 < sz → PP (argBest bt (sz - 1)) v) → (sz = 0 → v = dv) → (∀ b o, b ∉ wo → s2.heap.get? b = some o → h1.get? b = some o) → Q v { s2 with heap := h1, toks := t1 }) →
      codeAny (model prog w) A (.builtin "max.loop" ⟨[it, .none, .ref s2.heap.objs.size], kw⟩) (fun r s' => match r with | .ok (.ret v) => Q v s' | .ok _ => False | .error e => E e s')
        { s2 with heap := s2.heap.push { cls := .type "list", data := .seq #[] } } := by
    rintro it s2 ⟨J, fo, wo, sz, PP, ST, bt, rfl, Wk, st, lt, hd, cm, q⟩
    have nB : s2.heap.objs.size ∉ fo := fun z => Nat.lt_irrefl _ (lt _ z)
    refine mm_max_all (s := { s2 with heap := s2.heap.push { cls := .type "list", data := .seq #[] } }) (dv := dv) Wk bt cm s2.heap.objs.size nB (Wk.frame _ _ _ st fun b _ o e => Heap.get?_push_of_some _ e) (Heap.get?_push_size _ rfl) hd fun v h1 t1 q1 q2 q3 => ?_
    exact q v h1 t1 q1 q2 fun b o z1 z2 => q3 b o z1 (Nat.ne_of_lt (Heap.lt_size z2)) (Heap.get?_push_of_some _ z2)
  rcases hkw with z | z
  · subst z
    refine call_function_tree F.kind_max F.plain_max F.entry_max (F.args_max1 _) ?_
    show wpAny _ A.in1 (Builtin.Builtins.bindParams "max" ["key", "default"] 0 ⟨[], []⟩ >>= _) _ _ s
    refine wpAny_bind (wpAny_of_eq (show Builtin.Builtins.bindParams "max" ["key", "default"] 0 ⟨[], []⟩ = pure [none, none] from rfl) ?_)
    refine wpAny_bind (wpAny_pure ?_)
    refine wpAny_bind (wpAny_mono h (fun it s2 hh => ?_) fun _ _ e => e)
    refine wpAny_bind (wpAny_newObj_type ?_)
    rw [nm]
    exact wpAny_pure ⟨plainId_quiet F.plain_max_loop _, go it s2 hh⟩
  · subst z
    refine PyProof.Rows.kmk_tree F.kind_max F.plain_max F.entry_max (F.mm_max_d _ _) ?_
    show wpAny _ A.in1 (Builtin.Builtins.bindParams "max" ["key", "default"] 0 ⟨[], [(Str.ofString "default", dv)]⟩ >>= _) _ _ s
    refine wpAny_bind (wpAny_of_eq (show Builtin.Builtins.bindParams "max" ["key", "default"] 0 ⟨[], [(Str.ofString "default", dv)]⟩ = pure [none, some dv] from rfl) ?_)
    refine wpAny_bind (wpAny_pure ?_)
    refine wpAny_bind (wpAny_mono h (fun it s2 hh => ?_) fun _ _ e => e)
    refine wpAny_bind (wpAny_newObj_type ?_)
    rw [nm]
    exact wpAny_pure ⟨plainId_quiet F.plain_max_loop _, go it s2 hh⟩
end
end PySem

namespace PySem
open Sem (wp)
section
variable {prog : Program} {w : World} {A : Around} {E : Value → Shared → Prop} {RR : Result → Shared → Prop} {J : Addr} {fo wo : List Addr} {sz : Nat} {PP : Nat → Value → Prop} {ST : Nat → Heap → Prop} {kw : List (Str × Value)}
/-- the rest of min, from the second item on; whatever default was given -/
theorem mm_min_rest (Wk : Walks prog w A.in1 J fo wo sz PP ST) (bt : Nat → Nat → Bool) (cm : CmpOf prog w A.in1 .Lt PP bt) (B : Addr) (nB : B ∉ fo) :
    ∀ (d j : Nat) (s : Shared) (u : Value) (c : Nat), sz - (j + 1) = d → j + 1 ≤ sz → ST (j + 1) s.heap → PP (argBest bt j) u →
    s.heap.get? B = some { cls := .type "list", dict := none, data := .seq #[u, u] c, slots := #[] } →
    (∀ v h1 t1, PP (argBest bt (sz - 1)) v → (∀ b o, b ∉ wo → b ≠ B → s.heap.get? b = some o → h1.get? b = some o) → RR (.ok (.ret v)) { s with heap := h1, toks := t1 }) →
    codeAny (model prog w) A (.builtin "min.loop" ⟨[.ref J, .none, .ref B], kw⟩) RR s := by
  have nBw : B ∉ wo := fun h => nB (Wk.sub _ h)
  have nm : (toString "min" ++ toString ".loop" : String) = "min.loop" := by decide
  intro d
  induction d with
  | zero =>
    intro j s u c e1 e2 e3 e4 e5 fin
    have last : j + 1 = sz := by omega
    refine codeAny_builtin F.entry_min_loop ?_
    rw [Around.under_plainId F.plain_min_loop _]
    show wpAny _ A.in1 (seqItems? (.ref B) >>= _) _ _ s
    refine wpAny_bind (wpAny_seqItems e5 rfl ?_)
    show wpAny _ A.in1 (tryCatch (pyNext (.ref J)) _ >>= _) _ _ s
    refine wpAny_bind (wpAny_tryCatch (Wk.done s _ _ (last ▸ e3) fun h1 t1 kp => ?_))
    have e6 := kp B _ nBw e5
    show wpAny _ A.in1 (updateSeq B (fun _ => #[]) >>= _) _ _ _
    refine wpAny_bind ?_
    refine wpAny_updateSeq e6 rfl (wpAny_bind (wpAny_letGo (wpAny_pure ?_)))
    exact fin u _ t1 (by rw [← last]; exact e4) fun b o q1 q2 q3 => (Heap.get?_update_other _ _ (Ne.symm q2)).trans (kp b o q1 q3)
  | succ d ih =>
    intro j s u c e1 e2 e3 e4 e5 fin
    have more : j + 1 < sz := by omega
    refine codeAny_builtin F.entry_min_loop ?_
    rw [Around.under_plainId F.plain_min_loop _]
    show wpAny _ A.in1 (seqItems? (.ref B) >>= _) _ _ s
    refine wpAny_bind (wpAny_seqItems e5 rfl ?_)
    show wpAny _ A.in1 (tryCatch (pyNext (.ref J)) _ >>= _) _ _ s
    refine wpAny_bind (wpAny_tryCatch (Wk.item (j + 1) s _ _ more e3 fun v h1 t1 pv s1 kp => ?_))
    have e6 := kp B _ nBw e5
    show wpAny _ A.in1 (tryCatch (holding [v, v] (richCompare .Lt v u >>= _)) _ >>= _) _ _ _
    refine wpAny_bind (wpAny_tryCatch (wpAny_holding (wpAny_bind (cm (j + 1) (argBest bt j) v u _ _ _ pv e4 ?_))))
    refine wpAny_bind (wpAny_holding (wpAny_truthy_bool ?_))
    refine wpAny_bind (wpAny_letGo (wpAny_pure ?_))
    cases better : bt (j + 1) (argBest bt j) with
    | true =>
      simp only [if_true]
      refine wpAny_bind ?_
      refine wpAny_updateSeq e6 rfl (wpAny_bind (wpAny_letGo ?_))
      rw [nm]
      refine wpAny_pure ⟨plainId_quiet F.plain_min_loop _, ih (j + 1) _ v _ (by omega) more (Wk.frame _ _ _ s1 fun b q o z => ?_) (by simp only [argBest, better, if_true]; exact pv) (Heap.get?_update_self _ e6 rfl) fun v1 h2 t2 q1 q2 => ?_⟩
      · exact (Heap.get?_update_other _ _ (fun z : B = b => nB (by rw [z]; exact q))).trans z
      · exact fin v1 h2 t2 q1 fun b o z1 z2 z3 => q2 b o z1 z2 ((Heap.get?_update_other _ _ (Ne.symm z2)).trans (kp b o z1 z3))
    | false =>
      simp only [Bool.false_eq_true, if_false]
      refine wpAny_bind (wpAny_letGo ?_)
      rw [nm]
      refine wpAny_pure ⟨plainId_quiet F.plain_min_loop _, ih (j + 1) _ u c (by omega) more s1 (by simp only [argBest, better, Bool.false_eq_true, if_false]; exact e4) e6 fun v1 h2 t2 q1 q2 => ?_⟩
      exact fin v1 h2 t2 q1 fun b o z1 z2 z3 => q2 b o z1 z2 (kp b o z1 z3)
theorem mm_min_all (Wk : Walks prog w A.in1 J fo wo sz PP ST) (bt : Nat → Nat → Bool) (cm : CmpOf prog w A.in1 .Lt PP bt) (B : Addr) (nB : B ∉ fo) {s : Shared} {c : Nat} (e3 : ST 0 s.heap)
    (e5 : s.heap.get? B = some { cls := .type "list", dict := none, data := .seq #[] c, slots := #[] }) {dv : Value} (hkw : sz = 0 → kw = [(Str.ofString "default", dv)])
    (fin : ∀ v h1 t1, (0 < sz → PP (argBest bt (sz - 1)) v) → (sz = 0 → v = dv) → (∀ b o, b ∉ wo → b ≠ B → s.heap.get? b = some o → h1.get? b = some o) → RR (.ok (.ret v)) { s with heap := h1, toks := t1 }) :
    codeAny (model prog w) A (.builtin "min.loop" ⟨[.ref J, .none, .ref B], kw⟩) RR s := by
  have nBw : B ∉ wo := fun h => nB (Wk.sub _ h)
  have nm : (toString "min" ++ toString ".loop" : String) = "min.loop" := by decide
  refine codeAny_builtin F.entry_min_loop ?_
  rw [Around.under_plainId F.plain_min_loop _]
  show wpAny _ A.in1 (seqItems? (.ref B) >>= _) _ _ s
  refine wpAny_bind (wpAny_seqItems e5 rfl ?_)
  show wpAny _ A.in1 (tryCatch (pyNext (.ref J)) _ >>= _) _ _ s
  by_cases none : sz = 0
  · have hk := hkw none
    subst hk
    refine wpAny_bind (wpAny_tryCatch (Wk.done s _ _ (by rw [none]; exact e3) fun h1 t1 kp => ?_))
    show wpAny _ A.in1 (rule (toString "min" ++ toString ".default") >>= _) _ _ _
    refine wpAny_bind (wpAny_rule ?_)
    exact wpAny_pure (fin dv h1 t1 (fun z => absurd z (by omega)) (fun _ => rfl) fun b o q1 q2 q3 => kp b o q1 q3)
  · have some0 : 0 < sz := by omega
    refine wpAny_bind (wpAny_tryCatch (Wk.item 0 s _ _ some0 e3 fun v h1 t1 pv s1 kp => ?_))
    have e6 := kp B _ nBw e5
    show wpAny _ A.in1 (updateSeq B (fun _ => #[v, v]) >>= _) _ _ _
    refine wpAny_bind ?_
    refine wpAny_updateSeq e6 rfl ?_
    rw [nm]
    refine wpAny_pure ⟨plainId_quiet F.plain_min_loop _, mm_min_rest Wk bt cm B nB _ 0 _ v _ rfl some0 (Wk.frame _ _ _ s1 fun b q o z => ?_) pv (Heap.get?_update_self _ e6 rfl) fun v1 h2 t2 q1 q2 => ?_⟩
    · exact (Heap.get?_update_other _ _ (fun z : B = b => nB (by rw [z]; exact q))).trans z
    · exact fin v1 h2 t2 (fun _ => q1) (fun z => absurd z none) fun b o z1 z2 z3 => q2 b o z1 z2 ((Heap.get?_update_other _ _ (Ne.symm z2)).trans (kp b o z1 z3))
theorem F.mm_min_d (a v : Value) : argsOk "min" ⟨[a], [(Str.ofString "default", v)]⟩ := by unfold argsOk; kernel_rfl
/-- min(x), min(x, default=d) -/
theorem mm_min {s : Shared} {x : Value} {Q : Value → Shared → Prop} {kw : List (Str × Value)} {dv : Value} (hkw : kw = [] ∨ kw = [(Str.ofString "default", dv)])
    (h : wpAny (model prog w) A.in1 (pyIter x) (fun it s2 => ∃ J fo wo sz PP ST bt, it = .ref J ∧ Walks prog w A.in1 J fo wo sz PP ST ∧ ST 0 s2.heap ∧ (∀ b ∈ fo, b < s2.heap.objs.size) ∧ (sz = 0 → kw = [(Str.ofString "default", dv)]) ∧ CmpOf prog w A.in1 .Lt PP bt ∧
      ∀ v h1 t1, (0 < sz → PP (argBest bt (sz - 1)) v) → (sz = 0 → v = dv) → (∀ b o, b ∉ wo → s2.heap.get? b = some o → h1.get? b = some o) → Q v { s2 with heap := h1, toks := t1 }) E s) :
    wpAny (model prog w) A (call (.builtin "min") [x] kw) Q E s := by
  have nm : (toString "min" ++ toString ".loop" : String) = "min.loop" := by decide
  have go : ∀ (it : Value) (s2 : Shared), (∃ J fo wo sz PP ST bt, it = .ref J ∧ Walks prog w A.in1 J fo wo sz PP ST ∧ ST 0 s2.heap ∧ (∀ b ∈ fo, b < s2.heap.objs.size) ∧ (sz = 0 → kw = [(Str.ofString "default", dv)]) ∧ CmpOf prog w A.in1 .Lt PP bt ∧
      ∀ v h1 t1, (0 < sz → PP (argBest bt (sz - 1)) v) → (sz = 0 → v = dv) → (∀ b o, b ∉ wo → s2.heap.get? b = some o → h1.get? b = some o) → Q v { s2 with heap := h1, toks := t1 }) →
      codeAny (model prog w) A (.builtin "min.loop" ⟨[it, .none, .ref s2.heap.objs.size], kw⟩) (fun r s' => match r with | .ok (.ret v) => Q v s' | .ok _ => False | .error e => E e s')
        { s2 with heap := s2.heap.push { cls := .type "list", data := .seq #[] } } := by
    rintro it s2 ⟨J, fo, wo, sz, PP, ST, bt, rfl, Wk, st, lt, hd, cm, q⟩
    have nB : s2.heap.objs.size ∉ fo := fun z => Nat.lt_irrefl _ (lt _ z)
    refine mm_min_all (s := { s2 with heap := s2.heap.push { cls := .type "list", data := .seq #[] } }) (dv := dv) Wk bt cm s2.heap.objs.size nB (Wk.frame _ _ _ st fun b _ o e => Heap.get?_push_of_some _ e) (Heap.get?_push_size _ rfl) hd fun v h1 t1 q1 q2 q3 => ?_
    exact q v h1 t1 q1 q2 fun b o z1 z2 => q3 b o z1 (Nat.ne_of_lt (Heap.lt_size z2)) (Heap.get?_push_of_some _ z2)
  rcases hkw with z | z
  · subst z
    refine call_function_tree F.kind_min F.plain_min F.entry_min (F.args_min1 _) ?_
    show wpAny _ A.in1 (Builtin.Builtins.bindParams "min" ["key", "default"] 0 ⟨[], []⟩ >>= _) _ _ s
    refine wpAny_bind (wpAny_of_eq (show Builtin.Builtins.bindParams "min" ["key", "default"] 0 ⟨[], []⟩ = pure [none, none] from rfl) ?_)
    refine wpAny_bind (wpAny_pure ?_)
    refine wpAny_bind (wpAny_mono h (fun it s2 hh => ?_) fun _ _ e => e)
    refine wpAny_bind (wpAny_newObj_type ?_)
    rw [nm]
    exact wpAny_pure ⟨plainId_quiet F.plain_min_loop _, go it s2 hh⟩
  · subst z
    refine PyProof.Rows.kmk_tree F.kind_min F.plain_min F.entry_min (F.mm_min_d _ _) ?_
    show wpAny _ A.in1 (Builtin.Builtins.bindParams "min" ["key", "default"] 0 ⟨[], [(Str.ofString "default", dv)]⟩ >>= _) _ _ s
    refine wpAny_bind (wpAny_of_eq (show Builtin.Builtins.bindParams "min" ["key", "default"] 0 ⟨[], [(Str.ofString "default", dv)]⟩ = pure [none, some dv] from rfl) ?_)
    refine wpAny_bind (wpAny_pure ?_)
    refine wpAny_bind (wpAny_mono h (fun it s2 hh => ?_) fun _ _ e => e)
    refine wpAny_bind (wpAny_newObj_type ?_)
    rw [nm]
    exact wpAny_pure ⟨plainId_quiet F.plain_min_loop _, go it s2 hh⟩
end
end PySem

namespace L2
open PySem PySem.Spec PyProof.Rows
section
variable {X : Cx}
/-- max of a list or tuple of ints that is not empty; with a default: of any -/
def rB_max (K : PySem.W.Frag) : List V → Hp → VK → Prop := fun vs H Q => ∃ (a : Addr) (k : Bool) (ns : List Int), vs = [V.ref a] ∧ SqB K H a (ns.map V.int) k ∧ 0 < ns.length ∧ ∀ m, m ∈ ns → (∀ y ∈ ns, y ≤ m) → Q (.int m) H
def rD_max (K : PySem.W.Frag) : List V → List V → Hp → VK → Prop := fun vs zs H Q => ∃ (a : Addr) (k : Bool) (ns : List Int) (d : Int), vs = [V.ref a] ∧ zs = [V.int d] ∧ SqB K H a (ns.map V.int) k ∧
  ∀ m, (ns = [] → m = d) → (ns ≠ [] → m ∈ ns ∧ ∀ y ∈ ns, y ≤ m) → Q (.int m) H
theorem mm_core_max {pins : List (Addr × Obj)} {s : Shared} {σ : L2.St} {H : Hp} {Q : VK} (hc : X.calm = true) (I : Inv X pins σ H s) {a : Addr} {k : Bool} {ns : List Int} {kw : List (Str × Value)} {dv : Value} {d : Int} (hkw : kw = [] ∨ kw = [(Str.ofString "default", dv)])
    (h0 : ns.length = 0 → kw = [(Str.ofString "default", dv)]) (hd : ns.length = 0 → ∃ t, dv = .int d t) (hs : SqB X.K H a (ns.map V.int) k) (q : ∀ m, (ns = [] → m = d) → (ns ≠ [] → m ∈ ns ∧ ∀ y ∈ ns, y ≤ m) → Q (.int m) H) :
    wpAny (model X.prog X.w) X.A (call (.builtin "max") [.ref a] kw) (EP X pins σ Q) X.xe s := by
  have fin : ∀ (its : List Value), Vals (ns.map V.int) its → ∀ (xs : Array (Int × Tok)), its.toArray = intItems xs → ∀ (v : Value) (h1 : Heap) (t1 : Nat), (0 < xs.size → (intItems xs)[argBest (fun i j => decide (numAt xs i > numAt xs j)) (xs.size - 1)]? = some v) → (xs.size = 0 → v = dv) →
      (∀ b o, s.heap.get? b = some o → h1.get? b = some o) → EP X pins σ Q v { s with heap := h1, toks := t1 } := by
    intro its rv xs e v h1 t1 q1 q2 q3
    have hi := rv.ints
    have hn : numsOf (intItems xs).toList = ns := by rw [← e]; exact hi.numsOf
    rw [nums_intItems] at hn
    have hl : ns.length = xs.size := by rw [← hn]; simp
    by_cases z : xs.size = 0
    · obtain ⟨t, et⟩ := hd (by rw [hl]; exact z)
      rw [q2 z, et]
      have ne : ns = [] := List.eq_nil_of_length_eq_zero (by rw [hl]; exact z)
      exact ⟨.int d, H, I.kept q3, ⟨_, rfl⟩, q d (fun _ => rfl) fun w => absurd ne w⟩
    · have hv := q1 (by omega)
      obtain ⟨t, rfl⟩ := intItems_at hv
      obtain ⟨b1, b2⟩ := argBest_gt (numAt xs) (xs.size - 1)
      refine ⟨.int _, H, I.kept q3, ⟨_, rfl⟩, q _ (fun w => absurd (by rw [← hl, w]; rfl) z) fun _ => ⟨?_, fun y hy => ?_⟩⟩
      · rw [← hn, numAt_eq]; exact PySem.getD_mem (by rw [List.length_map, Array.length_toList]; omega)
      · rw [← hn] at hy
        obtain ⟨j, hj, rfl⟩ := mem_getD hy
        rw [List.length_map, Array.length_toList] at hj
        rw [← numAt_eq]; exact b2 j (by omega)
  have hh := I.ok.hd hc
  cases k with
  | true =>
    obtain ⟨its, rv, p, _⟩ := I.list (show SqL X.K H a (ns.map V.int) from hs)
    obtain ⟨xs, e⟩ := rv.ints.allInts.items
    have hl : ns.length = xs.size := by
      have h1 := rv.length
      have h2 : its.toArray.size = xs.size := by rw [e]; simp [intItems]
      simp at h1 h2
      omega
    have p' := p.isList
    rw [e] at p'
    refine mm_max hkw (iter_intList p' fun s₂ e2 st hfp hlI => ?_)
    subst e2
    refine ⟨_, _, _, _, _, _, _, rfl, Walks.list (A := X.A.in1) hh _ a hlI (intItems xs), st, hfp, (fun z => h0 (by rw [hl]; simpa [intItems] using z)), CmpOf.ints_gt (numAt xs) (fun _ _ => intItems_at), fun v h1 t1 q1 q2 q3 => ?_⟩
    exact fin its rv xs e v h1 t1 (fun z => by simpa [intItems] using q1 (by simpa [intItems] using z)) (fun z => q2 (by simpa [intItems] using z)) (old_kept q3)
  | false =>
    obtain ⟨its, rv, p, _⟩ := I.tuple (show SqT X.K H a (ns.map V.int) from hs)
    obtain ⟨xs, e⟩ := rv.ints.allInts.items
    have hl : ns.length = xs.size := by
      have h1 := rv.length
      have h2 : its.toArray.size = xs.size := by rw [e]; simp [intItems]
      simp at h1 h2
      omega
    have p' : s.heap.IsTuple a (intItems xs) := by rw [← e]; exact p
    have hlt : a < s.heap.objs.size := by obtain ⟨_, z, _⟩ := p'; exact Heap.lt_size z
    refine mm_max hkw (wpAny_pyIter_tuple p' ?_)
    refine ⟨s.heap.objs.size, _, _, _, _, _, _, rfl, Walks.tuple (A := X.A.in1) hh _ a (Nat.ne_of_lt hlt) (intItems xs), ⟨⟨_, Heap.get?_push_size _ rfl, rfl, rfl⟩, p'.push _⟩, fun b hb => ?_, (fun z => h0 (by rw [hl]; simpa [intItems] using z)), CmpOf.ints_gt (numAt xs) (fun _ _ => intItems_at), fun v h1 t1 q1 q2 q3 => ?_⟩
    · show b < (s.heap.push _).objs.size
      rw [Heap.size_push]
      rcases List.mem_cons.mp hb with z | z
      · rw [z]; exact Nat.lt_succ_self _
      · rw [List.mem_singleton.mp z]; exact Nat.lt_succ_of_lt hlt
    · refine fin its rv xs e v h1 t1 (fun z => by simpa [intItems] using q1 (by simpa [intItems] using z)) (fun z => q2 (by simpa [intItems] using z)) fun b o z => q3 b o (fun y => ?_) (Heap.get?_push_of_some _ z)
      rw [List.mem_singleton.mp y] at z
      exact absurd (Heap.lt_size z) (Nat.lt_irrefl _)
theorem cB_max (hc : X.calm = true) : CallR X (.builtin "max") (rB_max X.K) := by
  intro pins s σ H vs us Q I r h
  obtain ⟨a, k, ns, rfl, hs, hne, q⟩ := h
  rw [Vals.ref1 r]
  exact mm_core_max (kw := []) (dv := .none) (d := 0) hc I (.inl rfl) (fun z => absurd z (by omega)) (fun z => absurd z (by omega)) hs fun m _ h2 => (h2 (fun z => by rw [z] at hne; cases hne)).elim (q m)
theorem cD_max (hc : X.calm = true) : CallRK X (.builtin "max") [Str.ofString "default"] (rD_max X.K) := by
  intro pins s σ H vs zs us ws Q I r rz h
  obtain ⟨a, k, ns, d, rfl, rfl, hs, q⟩ := h
  rw [Vals.ref1 r]
  cases rz with
  | cons r1 r2 =>
    cases r2
    obtain ⟨t, rfl⟩ := r1
    exact mm_core_max (dv := .int d t) (d := d) hc I (.inr rfl) (fun _ => rfl) (fun _ => ⟨t, rfl⟩) hs q
end
end L2

namespace L2
open PySem PySem.Spec PyProof.Rows
section
variable {X : Cx}
/-- min of a list or tuple of ints that is not empty; with a default: of any -/
def rB_min (K : PySem.W.Frag) : List V → Hp → VK → Prop := fun vs H Q => ∃ (a : Addr) (k : Bool) (ns : List Int), vs = [V.ref a] ∧ SqB K H a (ns.map V.int) k ∧ 0 < ns.length ∧ ∀ m, m ∈ ns → (∀ y ∈ ns, m ≤ y) → Q (.int m) H
def rD_min (K : PySem.W.Frag) : List V → List V → Hp → VK → Prop := fun vs zs H Q => ∃ (a : Addr) (k : Bool) (ns : List Int) (d : Int), vs = [V.ref a] ∧ zs = [V.int d] ∧ SqB K H a (ns.map V.int) k ∧
  ∀ m, (ns = [] → m = d) → (ns ≠ [] → m ∈ ns ∧ ∀ y ∈ ns, m ≤ y) → Q (.int m) H
theorem mm_core_min {pins : List (Addr × Obj)} {s : Shared} {σ : L2.St} {H : Hp} {Q : VK} (hc : X.calm = true) (I : Inv X pins σ H s) {a : Addr} {k : Bool} {ns : List Int} {kw : List (Str × Value)} {dv : Value} {d : Int} (hkw : kw = [] ∨ kw = [(Str.ofString "default", dv)])
    (h0 : ns.length = 0 → kw = [(Str.ofString "default", dv)]) (hd : ns.length = 0 → ∃ t, dv = .int d t) (hs : SqB X.K H a (ns.map V.int) k) (q : ∀ m, (ns = [] → m = d) → (ns ≠ [] → m ∈ ns ∧ ∀ y ∈ ns, m ≤ y) → Q (.int m) H) :
    wpAny (model X.prog X.w) X.A (call (.builtin "min") [.ref a] kw) (EP X pins σ Q) X.xe s := by
  have fin : ∀ (its : List Value), Vals (ns.map V.int) its → ∀ (xs : Array (Int × Tok)), its.toArray = intItems xs → ∀ (v : Value) (h1 : Heap) (t1 : Nat), (0 < xs.size → (intItems xs)[argBest (fun i j => decide (numAt xs i < numAt xs j)) (xs.size - 1)]? = some v) → (xs.size = 0 → v = dv) →
      (∀ b o, s.heap.get? b = some o → h1.get? b = some o) → EP X pins σ Q v { s with heap := h1, toks := t1 } := by
    intro its rv xs e v h1 t1 q1 q2 q3
    have hi := rv.ints
    have hn : numsOf (intItems xs).toList = ns := by rw [← e]; exact hi.numsOf
    rw [nums_intItems] at hn
    have hl : ns.length = xs.size := by rw [← hn]; simp
    by_cases z : xs.size = 0
    · obtain ⟨t, et⟩ := hd (by rw [hl]; exact z)
      rw [q2 z, et]
      have ne : ns = [] := List.eq_nil_of_length_eq_zero (by rw [hl]; exact z)
      exact ⟨.int d, H, I.kept q3, ⟨_, rfl⟩, q d (fun _ => rfl) fun w => absurd ne w⟩
    · have hv := q1 (by omega)
      obtain ⟨t, rfl⟩ := intItems_at hv
      obtain ⟨b1, b2⟩ := argBest_lt (numAt xs) (xs.size - 1)
      refine ⟨.int _, H, I.kept q3, ⟨_, rfl⟩, q _ (fun w => absurd (by rw [← hl, w]; rfl) z) fun _ => ⟨?_, fun y hy => ?_⟩⟩
      · rw [← hn, numAt_eq]; exact PySem.getD_mem (by rw [List.length_map, Array.length_toList]; omega)
      · rw [← hn] at hy
        obtain ⟨j, hj, rfl⟩ := mem_getD hy
        rw [List.length_map, Array.length_toList] at hj
        rw [← numAt_eq]; exact b2 j (by omega)
  have hh := I.ok.hd hc
  cases k with
  | true =>
    obtain ⟨its, rv, p, _⟩ := I.list (show SqL X.K H a (ns.map V.int) from hs)
    obtain ⟨xs, e⟩ := rv.ints.allInts.items
    have hl : ns.length = xs.size := by
      have h1 := rv.length
      have h2 : its.toArray.size = xs.size := by rw [e]; simp [intItems]
      simp at h1 h2
      omega
    have p' := p.isList
    rw [e] at p'
    refine mm_min hkw (iter_intList p' fun s₂ e2 st hfp hlI => ?_)
    subst e2
    refine ⟨_, _, _, _, _, _, _, rfl, Walks.list (A := X.A.in1) hh _ a hlI (intItems xs), st, hfp, (fun z => h0 (by rw [hl]; simpa [intItems] using z)), CmpOf.ints_lt (numAt xs) (fun _ _ => intItems_at), fun v h1 t1 q1 q2 q3 => ?_⟩
    exact fin its rv xs e v h1 t1 (fun z => by simpa [intItems] using q1 (by simpa [intItems] using z)) (fun z => q2 (by simpa [intItems] using z)) (old_kept q3)
  | false =>
    obtain ⟨its, rv, p, _⟩ := I.tuple (show SqT X.K H a (ns.map V.int) from hs)
    obtain ⟨xs, e⟩ := rv.ints.allInts.items
    have hl : ns.length = xs.size := by
      have h1 := rv.length
      have h2 : its.toArray.size = xs.size := by rw [e]; simp [intItems]
      simp at h1 h2
      omega
    have p' : s.heap.IsTuple a (intItems xs) := by rw [← e]; exact p
    have hlt : a < s.heap.objs.size := by obtain ⟨_, z, _⟩ := p'; exact Heap.lt_size z
    refine mm_min hkw (wpAny_pyIter_tuple p' ?_)
    refine ⟨s.heap.objs.size, _, _, _, _, _, _, rfl, Walks.tuple (A := X.A.in1) hh _ a (Nat.ne_of_lt hlt) (intItems xs), ⟨⟨_, Heap.get?_push_size _ rfl, rfl, rfl⟩, p'.push _⟩, fun b hb => ?_, (fun z => h0 (by rw [hl]; simpa [intItems] using z)), CmpOf.ints_lt (numAt xs) (fun _ _ => intItems_at), fun v h1 t1 q1 q2 q3 => ?_⟩
    · show b < (s.heap.push _).objs.size
      rw [Heap.size_push]
      rcases List.mem_cons.mp hb with z | z
      · rw [z]; exact Nat.lt_succ_self _
      · rw [List.mem_singleton.mp z]; exact Nat.lt_succ_of_lt hlt
    · refine fin its rv xs e v h1 t1 (fun z => by simpa [intItems] using q1 (by simpa [intItems] using z)) (fun z => q2 (by simpa [intItems] using z)) fun b o z => q3 b o (fun y => ?_) (Heap.get?_push_of_some _ z)
      rw [List.mem_singleton.mp y] at z
      exact absurd (Heap.lt_size z) (Nat.lt_irrefl _)
theorem cB_min (hc : X.calm = true) : CallR X (.builtin "min") (rB_min X.K) := by
  intro pins s σ H vs us Q I r h
  obtain ⟨a, k, ns, rfl, hs, hne, q⟩ := h
  rw [Vals.ref1 r]
  exact mm_core_min (kw := []) (dv := .none) (d := 0) hc I (.inl rfl) (fun z => absurd z (by omega)) (fun z => absurd z (by omega)) hs fun m _ h2 => (h2 (fun z => by rw [z] at hne; cases hne)).elim (q m)
theorem cD_min (hc : X.calm = true) : CallRK X (.builtin "min") [Str.ofString "default"] (rD_min X.K) := by
  intro pins s σ H vs zs us ws Q I r rz h
  obtain ⟨a, k, ns, d, rfl, rfl, hs, q⟩ := h
  rw [Vals.ref1 r]
  cases rz with
  | cons r1 r2 =>
    cases r2
    obtain ⟨t, rfl⟩ := r1
    exact mm_core_min (dv := .int d t) (d := d) hc I (.inr rfl) (fun _ => rfl) (fun _ => ⟨t, rfl⟩) hs q
end
end L2

set_option Elab.async false
set_option linter.all false
set_option maxRecDepth 100000
set_option maxHeartbeats 4000000
namespace SL
open PySem L2
section

set_option hygiene false
local macro_rules | `(tactic| walk_at "m") => `(tactic| first | exact List.Mem.head _ | (refine List.Mem.tail _ ?_; walk_at "m"))
local macro_rules | `(tactic| walk_at "u") => `(tactic| first | exact Upd.head | (apply Upd.tail; walk_at "u"))
local macro_rules | `(tactic| walk_at "tk") => `(tactic| first | exact Tak.head | (apply Tak.tail; walk_at "tk"))
local macro_rules | `(tactic| walk_at "l") => `(tactic| first | assumption | exact lS (St.fh (by assumption)) (by assumption) | exact SqL.of (St.get (by assumption) (by walk_at "m")))
local macro_rules | `(tactic| walk_at "t") => `(tactic| first | assumption | exact tS (St.fh (by assumption)) (by assumption) | exact SqT.of (St.get (by assumption) (by walk_at "m")))
local macro_rules | `(tactic| walk_at "lt") => `(tactic| first | exact .inl (by walk_at "l") | exact .inr (by walk_at "t"))
local macro_rules | `(tactic| walk_at "sz") => `(tactic| first | (show _ ≤ sizeLine; decide) | exact sz (by simp) | exact szl (by simp) | exact sz (by omega) | exact szl (by omega) | exact sz (by simp; omega) | exact szl (by simp; omega))
local macro_rules | `(tactic| walk_at "c") => `(tactic| first | assumption | decide | omega)
local macro_rules | `(tactic| walk_at "g1") => `(tactic| with_reducible first
  | refine w_seq ?_ | refine w_asg ?_ | refine w_c ?_ | refine w_op ?_
  | refine r_I0 ?_ | refine w_test ?_ | refine r_b ?_ | refine w_if ?_ | refine w_cons ?_ | refine w_nil ?_
  | refine w_ret ?_ | refine w_drop ?_ | refine w_cb ?_ | refine w_call ?_ | refine w_next ?_ | refine w_tup ?_ | refine w_lst ?_ | refine w_bm ?_ | refine w_bm0 ?_
  | refine w_and ?_ | refine w_or ?_ | refine w_not ?_ | refine w_andV ?_ | refine w_orV ?_ | refine w_notV ?_ | refine w_tB ?_ | refine w_un ?_ | refine r_U ?_
  | refine w_for ?_ | refine w_iL ?_ | refine w_iT ?_ | refine w_i1 ?_ | refine w_i2 ?_ | refine w_sl ?_ | refine w_part ?_ | refine w_nopart ?_ | refine r_part ?_
  | refine r_eqI ?_ | refine r_neI ?_ | refine r_eqS ?_ | refine r_neS ?_ | refine r_eqB ?_ | refine r_neB ?_ | refine r_ifT ?_ | refine r_ifF ?_ | refine r_ifNt ?_ | refine r_ifNf ?_ | refine r_ifRN ?_ | refine r_ifNRN ?_ | refine r_ifNN ?_ | refine r_ifNNN ?_
  | refine w_ifE ?_ | refine r_int1 ?_ | refine r_int1b ?_ | refine r_isnone ?_ | refine r_notnone ?_ | refine r_max2 ?_ | refine r_min2 ?_ | refine r_ipI ?_ | refine w_tru ?_ | refine w_rs ?_
  | refine w_retN ?_ | refine w_break ?_ | refine w_cont ?_ | refine w_callS ?_ | refine w_asgG ?_ | refine w_gsub ?_)
local macro_rules | `(tactic| walk_at "g2") => `(tactic| first
  | ((with_reducible refine' w_var ?hv ?_); (case hv => rfl)) | ((with_reducible refine' w_aug ?hv ?_); (case hv => rfl))
  | ((with_reducible show rLen _ _ _ _); refine r_len (by walk_at "lt") ?_)
  | (with_reducible refine r_I ?cnd ?_; (case cnd => first | decide | omega | assumption | (unfold CPow; decide)))
  | ((with_reducible show RTy _ _ _ _ _); refine r_tyL (by walk_at "l") ?_)
  | (with_reducible refine r_ifDT (by walk_at "c") ?_) | (with_reducible refine r_ifDF (by walk_at "c") ?_)
  | (with_reducible refine r_ifNT (by walk_at "c") ?_) | (with_reducible refine r_ifNF (by walk_at "c") ?_))
local macro_rules | `(tactic| walk_at "go") => `(tactic| repeat (first | walk_at "g1" | walk_at "g2"))

variable {n b c : L2.St → Hp → Prop} {r : VK} {σ : L2.St} {H H' : Hp} {Q : VK} {t : TS} {te ta tb : TE} {x y v : V} {K : PySem.W.Frag} {E : En} {F F' : Hp} {L L' L1 L2 : Led} {p a : Addr} {xs ys : List V} {ns ms : List Int} {k : Bool} {QB : Bool → Hp → Prop} {C dx : Addr} {fs : List (Str × V)} {f : Str} {o : HO}
/-! ## min and max -/
theorem r_maxB (hs : SqB K H a (iv ns) k) (hn : 0 < ns.length) (q : ∀ m, m ∈ ns → (∀ y ∈ ns, y ≤ m) → Q (.int m) H) : rB_max K [.ref a] H Q := ⟨a, k, ns, rfl, hs, hn, q⟩
theorem r_minB (hs : SqB K H a (iv ns) k) (hn : 0 < ns.length) (q : ∀ m, m ∈ ns → (∀ y ∈ ns, m ≤ y) → Q (.int m) H) : rB_min K [.ref a] H Q := ⟨a, k, ns, rfl, hs, hn, q⟩
theorem r_maxD {d : Int} (hs : SqB K H a (iv ns) k) (q : ∀ m, (ns = [] → m = d) → (ns ≠ [] → m ∈ ns ∧ ∀ y ∈ ns, y ≤ m) → Q (.int m) H) : rD_max K [.ref a] [.int d] H Q := ⟨a, k, ns, d, rfl, rfl, hs, q⟩
theorem r_minD {d : Int} (hs : SqB K H a (iv ns) k) (q : ∀ m, (ns = [] → m = d) → (ns ≠ [] → m ∈ ns ∧ ∀ y ∈ ns, m ≤ y) → Q (.int m) H) : rD_min K [.ref a] [.int d] H Q := ⟨a, k, ns, d, rfl, rfl, hs, q⟩
theorem w_ckw {R : List V → List V → Hp → VK → Prop} {tr tk : TA} (h : tr σ H fun vs H1 => tk σ H1 fun zs H2 => R vs zs H2 Q) : tCKw R tr tk σ H Q := h
/-! ## isinstance -/
theorem r_isi {a b : String} {r : Bool} (ty : TyX K H x (.type a)) (h : kitB a b = some r) (q : Q (.bl r) H) : rIsi K [x, .ty b] H Q := ⟨x, .ty b, .type a, .type b, r, rfl, .ty b, ty, kit_ty h, q⟩
theorem tyB (h : SqB K H a xs k) : TyX K H (.ref a) (.type (if k then "list" else "tuple")) := by
  cases k with
  | true =>
    rcases (show SqL K H a xs from h) with (h | ⟨o, h⟩) | ⟨o, its, n, e, c, _⟩
    · exact .base (.lst h)
    · exact .base (.frz h)
    · exact .kList e c
  | false =>
    rcases (show SqT K H a xs from h) with (h | ⟨o, h⟩) | ⟨o, its, n, e, c, _⟩
    · exact .base (.tup h)
    · exact .fTuple h
    · exact .kTuple e c
theorem r_isiT (h : SqT K H a xs) (q : Q (.bl true) H) : rIsi K [.ref a, .ty "tuple"] H Q := r_isi (tyB (k := false) h) (by decide +kernel) q
theorem r_isiL (h : SqL K H a xs) (q : Q (.bl true) H) : rIsi K [.ref a, .ty "list"] H Q := r_isi (tyB (k := true) h) (by decide +kernel) q
theorem r_isiI {i : Int} (q : Q (.bl true) H) : rIsi K [.int i, .ty "int"] H Q := r_isi (.base (.int i)) (by decide +kernel) q
theorem r_isiIb {i : Int} (q : Q (.bl false) H) : rIsi K [.int i, .ty "bool"] H Q := r_isi (.base (.int i)) (by decide +kernel) q
theorem r_isiB {i : Bool} (q : Q (.bl true) H) : rIsi K [.bl i, .ty "bool"] H Q := r_isi (.base (.bl i)) (by decide +kernel) q
theorem r_isin_ref (q : Q (.bl false) H) : rIsNone (.ref a) .non H Q := r_isnone (by rw [decide_eq_false (fun z => nomatch z)]; exact q)
theorem r_isin_non (q : Q (.bl true) H) : rIsNone .non .non H Q := r_isnone (by rw [decide_eq_true rfl]; exact q)
theorem r_notn_ref (q : Q (.bl true) H) : rNotNone (.ref a) .non H Q := r_notnone (by rw [decide_eq_false (fun z => nomatch z)]; exact q)
theorem r_notn_non (q : Q (.bl false) H) : rNotNone .non .non H Q := r_notnone (by rw [decide_eq_true rfl]; exact q)
/-! ## fields, instances -/
def RFld (K : PySem.W.Frag) (f : Str) (x : V) (H : Hp) (Q : VK) : Prop := ∃ a C dx fs v, x = .ref a ∧ H a = some (.ins C dx fs) ∧ Cls K C ∧ NoAttr K C f ∧ fs.lookup f = some v ∧ Q v H
theorem w_fld (h : te σ H fun x H1 => RFld K f x H1 Q) : tFld K te f σ H Q := h
theorem r_fld (h : H a = some (.ins C dx fs)) (c : Cls K C) (nf : NoAttr K C f) (e : fs.lookup f = some v) (q : Q v H) : RFld K f (.ref a) H Q := ⟨a, C, dx, fs, v, rfl, h, c, nf, e, q⟩
def RSFld (K : PySem.W.Frag) (f : Str) (x y : V) (H : Hp) (P : Hp → Prop) : Prop := ∃ a C dx fs, x = .ref a ∧ H a = some (.ins C dx fs) ∧ Cls K C ∧ NoAttr K C f ∧ fs.length < 1000 ∧ P (upd H a (.ins C dx (putF f y fs)))
theorem w_sfld (h : tb σ H fun y H1 => ta σ H1 fun x H2 => RSFld K f x y H2 (n σ)) : sFld K ta tb f ⟨n, r, b, c⟩ σ H := h
theorem r_sfld {P : Hp → Prop} {fs' : List (Str × V)} (G : St E F H L) (cl : Cls K C) (nf : NoAttr K C f) (u : Upd L a (.ins C dx fs) (.ins C dx fs') L') (e : putF f y fs = fs') (hl : fs.length < 1000) (q : ∀ H', St E F H' L' → P H') : RSFld K f (.ref a) y H P :=
  ⟨a, C, dx, fs, rfl, G.get u.mem, cl, nf, hl, by rw [e]; exact q _ (G.put u)⟩
def RMk (C : Addr) (sp : Sp) (vs : List V) (H : Hp) (Q : VK) (X : XK) : Prop := ∀ x dx, H x = none → H dx = none → dx ≠ x → sp (.ref x :: vs) (upd (upd H dx (.own x)) x (.ins C dx [])) (fun v H2 => v = .non ∧ Q (.ref x) H2) X
theorem w_mk {sp : Sp} {X : XK} {tr : TA} (h : tr σ H fun vs H1 => RMk C sp vs H1 Q X) : tMake C sp [] X tr σ H Q := by
  have e : ∀ vs H1, RMk C sp vs H1 Q X → RMk C sp (vs ++ []) H1 Q X := fun vs H1 h => by rw [List.append_nil]; exact h
  show tr σ H fun vs H1 => RMk C sp (vs ++ []) H1 Q X
  simpa only [List.append_nil] using h
theorem r_mk {sp : Sp} {X : XK} {vs : List V} (G : St E F H L) (q : ∀ x dx H', St E F H' ((x, .ins C dx []) :: (dx, .own x) :: L) → sp (.ref x :: vs) H' (fun v H2 => v = .non ∧ Q (.ref x) H2) X) : RMk C sp vs H Q X := by
  intro x dx hx hd ne
  have G1 := G.new (o := .own x) hd
  exact q x dx _ (G1.new (by rw [upd_ne (Ne.symm ne)]; exact hx))
/-! ## more of the ledger -/
theorem St.perm (G : St E F H L) (pm : L'.Perm L) : St E F H L' := ⟨G.bh, G.fh, G.ff, G.pr, fun x hx => G.own x (pm.mem_iff.mp hx), (pm.map _).nodup_iff.mpr G.nd⟩
theorem St.frzs : ∀ {L1 : Led} {F : Hp}, St E F H (L1 ++ L2) → ∃ F', Same F F' ∧ (∀ x ∈ L1, F' x.1 = some x.2) ∧ St E F' H L2
  | [], F, G => ⟨F, Same.refl _, (fun _ h => nomatch h), G⟩
  | (a, o) :: r, F, G => by
    obtain ⟨F1, s1, h1, G1⟩ := G.frz (L' := r ++ L2) Tak.head
    obtain ⟨F2, s2, h2, G2⟩ := St.frzs G1
    refine ⟨F2, s1.trans s2, fun x hx => ?_, G2⟩
    rcases List.mem_cons.mp hx with q | q
    · subst q; exact s2 _ _ h1
    · exact h2 x q
theorem Tak.perm (t : Tak L a o L') : ((a, o) :: L').Perm L := by
  induction t with
  | head => exact List.Perm.refl _
  | tail _ ih => exact (List.Perm.swap _ _ _).trans (List.Perm.cons _ ih)
theorem St.front (G : St E F H L) (t : Tak L a o L') : St E F H ((a, o) :: L') := G.perm t.perm
theorem St.toEnd {x : Addr × HO} (G : St E F H (x :: L)) : St E F H (L ++ [x]) := G.perm (List.perm_append_comm (l₂ := [x]))
theorem St.same (G : St E F H L) : Same E.H H := G.bh
/-! ## data -/
abbrev dI (ns : List Int) : List PyData := ns.map PyData.int
theorem dpa_iv : ∀ {ns : List Int}, DpAll K H (iv ns) (dI ns)
  | [] => .nil
  | _ :: _ => .cons (.int _) dpa_iv
theorem dp_ints (h : SqL K H a (iv ns)) : Dp K H (.ref a) (.list (dI ns)) := .lst h dpa_iv
theorem dpT_ints (h : SqT K H a (iv ns)) : Dp K H (.ref a) (.tuple (dI ns)) := .tup h dpa_iv
theorem dpa_map {α : Type} {g : α → V} {d : α → PyData} : ∀ {xs : List α}, (∀ x ∈ xs, Dp K H (g x) (d x)) → DpAll K H (xs.map g) (xs.map d)
  | [], _ => .nil
  | x :: xs, h => .cons (h x List.mem_cons_self) (dpa_map fun y hy => h y (List.mem_cons_of_mem _ hy))
theorem eqvAll_map {α : Type} [DecidableEq α] {d : α → PyData} (h : ∀ x y, PyData.eqv (d x) (d y) = decide (x = y)) : ∀ (xs ys : List α), PyData.eqvAll (xs.map d) (ys.map d) = decide (xs = ys)
  | [], [] => rfl
  | [], _ :: _ => by simp [PyData.eqvAll]
  | _ :: _, [] => by simp [PyData.eqvAll]
  | x :: xs, y :: ys => by
    rw [List.map_cons, List.map_cons, PyData.eqvAll, h, eqvAll_map h xs ys]
    by_cases e : x = y <;> by_cases e2 : xs = ys <;> simp [e, e2]
theorem eqv_int (i j : Int) : PyData.eqv (.int i) (.int j) = decide (i = j) := by simp [PyData.eqv, Bool.beq_eq_decide_eq]
theorem eqvAll_ints (xs ys : List Int) : PyData.eqvAll (dI xs) (dI ys) = decide (xs = ys) := eqvAll_map eqv_int xs ys
theorem eqv_list (xs ys : List PyData) : PyData.eqv (.list xs) (.list ys) = PyData.eqvAll xs ys := by rw [PyData.eqv]
theorem eqv_tuple (xs ys : List PyData) : PyData.eqv (.tuple xs) (.tuple ys) = PyData.eqvAll xs ys := by rw [PyData.eqv]
theorem eqvAll_nil : PyData.eqvAll [] [] = true := rfl
theorem eqvAll_cons (x y : PyData) (xs ys : List PyData) : PyData.eqvAll (x :: xs) (y :: ys) = (PyData.eqv x y && PyData.eqvAll xs ys) := by rw [PyData.eqvAll]
/-- laid and not deep -/
structure Shp (m : Nat) (d : PyData) : Prop where
  lay : d.canLay0 = true
  dep : d.depth ≤ m
theorem Shp.ok {m : Nat} {d : PyData} (h : Shp m d) (hm : m ≤ 64) : SeqAt.shaped d = true := by
  unfold SeqAt.shaped
  rw [h.lay, decide_eq_true (Nat.le_trans h.dep hm)]; rfl
theorem Shp.mono {m m' : Nat} {d : PyData} (h : Shp m d) (hm : m ≤ m') : Shp m' d := ⟨h.lay, Nat.le_trans h.dep hm⟩
theorem eqv_self {m : Nat} {d : PyData} (h : Shp m d) : PyData.eqv d d = true := PySem.SeqAt.eqv_refl d h.lay
theorem shp_int {i : Int} : Shp 0 (.int i) := ⟨rfl, Nat.le_refl _⟩
theorem shp_bool {i : Bool} : Shp 0 (.bool i) := ⟨rfl, Nat.le_refl _⟩
theorem shp_none : Shp 0 .none := ⟨rfl, Nat.le_refl _⟩
structure ShpA (m : Nat) (ds : List PyData) : Prop where
  lay : PyData.canLayAll0 ds = true
  dep : PyData.depthAll ds ≤ m
theorem shpa_nil {m : Nat} : ShpA m [] := ⟨rfl, Nat.zero_le _⟩
theorem shpa_cons {m : Nat} {d : PyData} {ds : List PyData} (h : Shp m d) (h2 : ShpA m ds) : ShpA m (d :: ds) := by
  refine ⟨?_, ?_⟩
  · rw [PyData.canLayAll0, h.lay, h2.lay]; rfl
  · rw [PyData.depthAll]; exact Nat.max_le.mpr ⟨h.dep, h2.dep⟩
theorem shpa_map {α : Type} {m : Nat} {d : α → PyData} : ∀ {xs : List α}, (∀ x ∈ xs, Shp m (d x)) → ShpA m (xs.map d)
  | [], _ => shpa_nil
  | x :: xs, h => shpa_cons (h x List.mem_cons_self) (shpa_map fun y hy => h y (List.mem_cons_of_mem _ hy))
theorem shp_list {m : Nat} {ds : List PyData} (h : ShpA m ds) : Shp (m + 1) (.list ds) := ⟨by rw [PyData.canLay0]; exact h.lay, by rw [PyData.depth]; exact Nat.succ_le_succ h.dep⟩
theorem shp_tuple {m : Nat} {ds : List PyData} (h : ShpA m ds) : Shp (m + 1) (.tuple ds) := ⟨by rw [PyData.canLay0]; exact h.lay, by rw [PyData.depth]; exact Nat.succ_le_succ h.dep⟩
theorem shpa_ints {m : Nat} : ShpA m (dI ns) := shpa_map fun _ _ => shp_int.mono (Nat.zero_le _)
theorem r_eqD {d e : PyData} {m m' : Nat} {k : Bool} (h1 : Dp K H x d) (h2 : Dp K H y e) (s1 : Shp m d) (s2 : Shp m' e) (hk : PyData.eqv d e = k) (q : Q (.bl k) H) (hm : m ≤ 64 := by decide) (hm' : m' ≤ 64 := by decide) : rEqD K x y H Q :=
  ⟨d, e, h1, h2, s1.ok hm, s2.ok hm', by rw [hk]; exact q⟩
theorem r_neD {d e : PyData} {m m' : Nat} {k : Bool} (h1 : Dp K H x d) (h2 : Dp K H y e) (s1 : Shp m d) (s2 : Shp m' e) (hk : PyData.eqv d e = k) (q : Q (.bl (!k)) H) (hm : m ≤ 64 := by decide) (hm' : m' ≤ 64 := by decide) : rNeD K x y H Q :=
  ⟨d, e, h1, h2, s1.ok hm, s2.ok hm', by rw [hk]; exact q⟩
theorem sIx_nat {n d k : Nat} : HT.sIx n d (some (k : Int)) = min k n := by
  unfold HT.sIx
  simp
  omega
theorem cut_from {k : Nat} : cutV xs (some (k : Int)) none = xs.drop k := by
  unfold cutV
  rw [sIx_nat, show HT.sIx xs.length xs.length none = xs.length from rfl]
  by_cases h : k ≤ xs.length
  · rw [Nat.min_eq_left h, List.take_of_length_le (by simp)]
  · rw [Nat.min_eq_right (by omega), List.drop_of_length_le (by omega), List.drop_of_length_le (by omega)]; simp
theorem cut_to {k : Nat} : cutV xs none (some (k : Int)) = xs.take k := by
  unfold cutV
  rw [sIx_nat, show HT.sIx xs.length 0 none = 0 from rfl, List.drop_zero, Nat.sub_zero]
  by_cases h : k ≤ xs.length
  · rw [Nat.min_eq_left h]
  · rw [Nat.min_eq_right (by omega), List.take_of_length_le (by omega), List.take_of_length_le (by omega)]
/-! ## rows: lists of lists of ints -/
inductive Rows (K : PySem.W.Frag) (H : Hp) (k : Bool) : List Addr → List (List Int) → Prop
  | nil : Rows K H k [] []
  | cons {a as ns rs} : SqB K H a (iv ns) k → Rows K H k as rs → Rows K H k (a :: as) (ns :: rs)
theorem Rows.len {as : List Addr} {rs : List (List Int)} (h : Rows K H k as rs) : as.length = rs.length := by
  induction h with
  | nil => rfl
  | cons _ _ ih => rw [List.length_cons, List.length_cons, ih]
theorem Rows.mono {as : List Addr} {rs : List (List Int)} (e : Same H H') (h : Rows K H k as rs) : Rows K H' k as rs := by
  induction h with
  | nil => exact .nil
  | cons h1 _ ih => exact .cons (qS e h1) ih
theorem Rows.at {as : List Addr} {rs : List (List Int)} (h : Rows K H k as rs) : ∀ {i : Nat} {a : Addr}, as[i]? = some a → ∃ ns, rs[i]? = some ns ∧ SqB K H a (iv ns) k := by
  induction h with
  | nil => intro i a e; simp at e
  | cons h1 _ ih =>
    intro i a e
    cases i with
    | zero => rw [List.getElem?_cons_zero] at e; cases e; exact ⟨_, rfl, h1⟩
    | succ i => exact ih (by simpa using e)
theorem Rows.snoc {as : List Addr} {rs : List (List Int)} (h : Rows K H k as rs) (h2 : SqB K H a (iv ns) k) : Rows K H k (as ++ [a]) (rs ++ [ns]) := by
  induction h with
  | nil => exact .cons h2 .nil
  | cons h1 _ ih => exact .cons h1 ih
theorem Rows.set {as : List Addr} {rs : List (List Int)} (h : Rows K H k as rs) (h2 : SqB K H a (iv ns) k) : ∀ {j : Nat}, Rows K H k (as.set j a) (rs.set j ns) := by
  induction h with
  | nil => intro j; exact .nil
  | cons h1 hr ih =>
    intro j
    cases j with
    | zero => exact .cons h2 hr
    | succ j => exact .cons h1 ih
abbrev dRow : Bool → List Int → PyData
  | true, ns => .list (dI ns)
  | false, ns => .tuple (dI ns)
theorem Rows.dp {as : List Addr} {rs : List (List Int)} (h : Rows K H k as rs) : DpAll K H (as.map V.ref) (rs.map (dRow k)) := by
  induction h with
  | nil => exact .nil
  | cons h1 _ ih =>
    refine .cons ?_ ih
    cases k with
    | true => exact dp_ints h1
    | false => exact dpT_ints h1
theorem eqv_row {k : Bool} (xs ys : List Int) : PyData.eqv (dRow k xs) (dRow k ys) = decide (xs = ys) := by
  cases k with
  | true => rw [dRow, dRow, eqv_list, eqvAll_ints]
  | false => rw [dRow, dRow, eqv_tuple, eqvAll_ints]
theorem shp_row {k : Bool} : Shp 1 (dRow k ns) := by
  cases k with
  | true => exact shp_list shpa_ints
  | false => exact shp_tuple shpa_ints
abbrev rv (as : List Addr) : List V := as.map V.ref
theorem rv_len {as : List Addr} : (rv as).length = as.length := List.length_map ..
theorem rv_get {as : List Addr} {i : Nat} {x : V} (h : (rv as)[i]? = some x) : ∃ z, as[i]? = some z ∧ x = .ref z := by
  rw [List.getElem?_map] at h
  cases e : as[i]? with
  | none => rw [e] at h; cases h
  | some z => rw [e] at h; exact ⟨z, rfl, (Option.some.inj h).symm⟩
end
end SL

set_option Elab.async false
set_option linter.all false
set_option maxRecDepth 100000
set_option maxHeartbeats 4000000
namespace SL
open PySem L2
section

set_option hygiene false
local macro_rules | `(tactic| walk_at "m") => `(tactic| first | exact List.Mem.head _ | (refine List.Mem.tail _ ?_; walk_at "m"))
local macro_rules | `(tactic| walk_at "u") => `(tactic| first | exact Upd.head | (apply Upd.tail; walk_at "u"))
local macro_rules | `(tactic| walk_at "tk") => `(tactic| first | exact Tak.head | (apply Tak.tail; walk_at "tk"))
local macro_rules | `(tactic| walk_at "l") => `(tactic| first | assumption | exact lS (St.fh (by assumption)) (by assumption) | exact SqL.of (St.get (by assumption) (by walk_at "m")))
local macro_rules | `(tactic| walk_at "t") => `(tactic| first | assumption | exact tS (St.fh (by assumption)) (by assumption) | exact SqT.of (St.get (by assumption) (by walk_at "m")))
local macro_rules | `(tactic| walk_at "lt") => `(tactic| first | exact .inl (by walk_at "l") | exact .inr (by walk_at "t"))
local macro_rules | `(tactic| walk_at "sz") => `(tactic| first | (show _ ≤ sizeLine; decide) | exact sz (by simp) | exact szl (by simp) | exact sz (by omega) | exact szl (by omega) | exact sz (by simp; omega) | exact szl (by simp; omega))
local macro_rules | `(tactic| walk_at "c") => `(tactic| first | assumption | decide | omega)
local macro_rules | `(tactic| walk_at "g1") => `(tactic| with_reducible first
  | refine w_seq ?_ | refine w_asg ?_ | refine w_c ?_ | refine w_op ?_
  | refine r_I0 ?_ | refine w_test ?_ | refine r_b ?_ | refine w_if ?_ | refine w_cons ?_ | refine w_nil ?_
  | refine w_ret ?_ | refine w_drop ?_ | refine w_cb ?_ | refine w_call ?_ | refine w_next ?_ | refine w_tup ?_ | refine w_lst ?_ | refine w_bm ?_ | refine w_bm0 ?_
  | refine w_and ?_ | refine w_or ?_ | refine w_not ?_ | refine w_andV ?_ | refine w_orV ?_ | refine w_notV ?_ | refine w_tB ?_ | refine w_un ?_ | refine r_U ?_
  | refine w_for ?_ | refine w_iL ?_ | refine w_iT ?_ | refine w_i1 ?_ | refine w_i2 ?_ | refine w_sl ?_ | refine w_part ?_ | refine w_nopart ?_ | refine r_part ?_
  | refine r_eqI ?_ | refine r_neI ?_ | refine r_eqS ?_ | refine r_neS ?_ | refine r_eqB ?_ | refine r_neB ?_ | refine r_ifT ?_ | refine r_ifF ?_ | refine r_ifNt ?_ | refine r_ifNf ?_ | refine r_ifRN ?_ | refine r_ifNRN ?_ | refine r_ifNN ?_ | refine r_ifNNN ?_
  | refine w_ifE ?_ | refine r_int1 ?_ | refine r_int1b ?_ | refine r_isnone ?_ | refine r_notnone ?_ | refine r_max2 ?_ | refine r_min2 ?_ | refine r_ipI ?_ | refine w_tru ?_ | refine w_rs ?_
  | refine w_retN ?_ | refine w_break ?_ | refine w_cont ?_ | refine w_callS ?_ | refine w_asgG ?_ | refine w_gsub ?_)
local macro_rules | `(tactic| walk_at "g2") => `(tactic| first
  | ((with_reducible refine' w_var ?hv ?_); (case hv => rfl)) | ((with_reducible refine' w_aug ?hv ?_); (case hv => rfl))
  | ((with_reducible show rLen _ _ _ _); refine r_len (by walk_at "lt") ?_)
  | (with_reducible refine r_I ?cnd ?_; (case cnd => first | decide | omega | assumption | (unfold CPow; decide)))
  | ((with_reducible show RTy _ _ _ _ _); refine r_tyL (by walk_at "l") ?_)
  | (with_reducible refine r_ifDT (by walk_at "c") ?_) | (with_reducible refine r_ifDF (by walk_at "c") ?_)
  | (with_reducible refine r_ifNT (by walk_at "c") ?_) | (with_reducible refine r_ifNF (by walk_at "c") ?_))
local macro_rules | `(tactic| walk_at "go") => `(tactic| repeat (first | walk_at "g1" | walk_at "g2"))

variable {n b c : L2.St → Hp → Prop} {r : VK} {σ : L2.St} {H H' : Hp} {Q : VK} {t : TS} {te ta tb : TE} {x y v : V} {K : PySem.W.Frag} {E : En} {F F' : Hp} {L L' L1 L2 : Led} {p a : Addr} {xs ys : List V} {ns ms : List Int} {k : Bool} {o o' : HO}
/-! ## the law's promise, calls that hand back what they made -/
def spL (K : PySem.W.Frag) : Sp := fun vs H Q E => ∃ (a : Addr) (ns : List Int), vs = [.ref a] ∧ (SqL K H a (iv ns) ∧ ns.length ≤ 63 ∧ ∀ H', Q (.bl true) H')
structure Own (H H' : Hp) (L : Led) : Prop where
  hh : Same H H'
  own : ∀ x ∈ L, H' x.1 = some x.2 ∧ H x.1 = none
  nd : (L.map (·.1)).Nodup
structure OwnB (p : Addr) (H H' : Hp) (o' : HO) (L : Led) : Prop where
  hh : SameB p H H'
  hp : H' p = some o'
  own : ∀ x ∈ L, H' x.1 = some x.2 ∧ H x.1 = none
  nd : (L.map (·.1)).Nodup
theorem nd_app {L1 L2 : Led} (h1 : (L1.map (·.1)).Nodup) (h2 : (L2.map (·.1)).Nodup) (h : ∀ x ∈ L1, ∀ y ∈ L2, x.1 ≠ y.1) : ((L1 ++ L2).map (·.1)).Nodup := by
  rw [List.map_append, List.nodup_append]
  refine ⟨h1, h2, fun a ha b hb => ?_⟩
  obtain ⟨x, hx, rfl⟩ := List.mem_map.mp ha
  obtain ⟨y, hy, rfl⟩ := List.mem_map.mp hb
  exact h x hx y hy
theorem St.addL (G : St E F H L) (w : Own H H' L1) : St E F H' (L1 ++ L) := by
  have G1 := G.grow w.hh
  refine ⟨G1.bh, G1.fh, G1.ff, G1.pr, fun x hx => ?_, nd_app w.nd G.nd fun x hx y hy e => ?_⟩
  · rcases List.mem_append.mp hx with q | q
    · obtain ⟨h1, h2⟩ := w.own x q
      exact ⟨h1, free_of G.fh h2, free_of G.bh h2⟩
    · exact G1.own x q
  · have h1 := (w.own x hx).2
    rw [e, (G.own y hy).1] at h1
    cases h1
theorem St.addLB (G : St E F H L) (u : Upd L p o o' L') (w : OwnB p H H' o' L1) : St E F H' (L1 ++ L') := by
  have G1 := G.putB u w.hh w.hp
  refine ⟨G1.bh, G1.fh, G1.ff, G1.pr, fun x hx => ?_, nd_app w.nd G1.nd fun x hx y hy e => ?_⟩
  · rcases List.mem_append.mp hx with q | q
    · obtain ⟨h1, h2⟩ := w.own x q
      exact ⟨h1, free_of G.fh h2, free_of G.bh h2⟩
    · exact G1.own x q
  · have h1 := (w.own x hx).2
    have : y.1 ∈ L.map (·.1) := by rw [← u.fst]; exact List.mem_map.mpr ⟨y, hy, rfl⟩
    obtain ⟨z, hz, q⟩ := List.mem_map.mp this
    have q' : z.1 = y.1 := q
    rw [e, ← q', (G.own z hz).1] at h1
    cases h1
theorem St.toOwn (G : St ⟨F, H⟩ F' H' L) : Own H H' L := ⟨G.bh, fun x hx => ⟨(G.own x hx).1, (G.own x hx).2.2⟩, G.nd⟩
theorem St.toOwnB (G : St ⟨F, del H p⟩ F' H' ((p, o') :: L)) : OwnB p H H' o' L := by
  have hn := G.nd
  rw [List.map_cons, List.nodup_cons] at hn
  refine ⟨fun b u h e => G.bh b u (by rw [show (En.mk F (del H p)).H = del H p from rfl, del_ne h]; exact e), G.get List.mem_cons_self, fun x hx => ?_, hn.2⟩
  obtain ⟨h1, _, h3⟩ := G.own x (List.mem_cons_of_mem _ hx)
  have ne : x.1 ≠ p := fun e => hn.1 (List.mem_map.mpr ⟨x, hx, e⟩)
  exact ⟨h1, by rw [show (En.mk F (del H p)).H = del H p from rfl, del_ne ne] at h3; exact h3⟩
theorem St.same1 (G : St ⟨F, del H p⟩ F' H' L) (m : (p, o) ∈ L) (h : H p = some o) : Same H H' := fun b u e => by
  by_cases c : b = p
  · subst c; rw [h] at e; cases e; exact G.get m
  · exact G.bh b u (by rw [show (En.mk F (del H p)).H = del H p from rfl, del_ne c]; exact e)
/-- an instance is no list and no tuple -/
theorem sq_del {C dx : Addr} {fs : List (Str × V)} (h : H p = some (.ins C dx fs)) (s : SqB K H a xs k) : SqB K (del H p) a xs k := by
  cases k with
  | true =>
    rcases s with (s | ⟨z, s⟩) | s
    · exact .inl (.inl (by rw [del_ne (ne_of s h (fun z => nomatch z))]; exact s))
    · exact .inl (.inr ⟨z, by rw [del_ne (ne_of s h (fun z => nomatch z))]; exact s⟩)
    · exact .inr s
  | false =>
    rcases s with (s | ⟨z, s⟩) | s
    · exact .inl (.inl (by rw [del_ne (ne_of s h (fun z => nomatch z))]; exact s))
    · exact .inl (.inr ⟨z, by rw [del_ne (ne_of s h (fun z => nomatch z))]; exact s⟩)
    · exact .inr s
theorem Rows.del {C dx : Addr} {fs : List (Str × V)} {as : List Addr} {rs : List (List Int)} (h : H p = some (.ins C dx fs)) (s : Rows K H k as rs) : Rows K (del H p) k as rs := by
  induction s with
  | nil => exact .nil
  | cons h1 _ ih => exact .cons (sq_del h h1) ih
/-! ## rows that are owned -/
def rowL : List Addr → List (List Int) → Led
  | a :: as, r :: rs => (a, .lst (iv r)) :: rowL as rs
  | _, _ => []
theorem rowL_rows {as : List Addr} {rs : List (List Int)} (hl : as.length = rs.length) (h : ∀ x ∈ rowL as rs, H x.1 = some x.2) : Rows K H true as rs := by
  induction as generalizing rs with
  | nil => cases rs with
    | nil => exact .nil
    | cons _ _ => cases hl
  | cons a as ih => cases rs with
    | nil => cases hl
    | cons r rs => exact .cons (show SqL K H a (iv r) from SqL.of (h _ List.mem_cons_self)) (ih (by simpa using hl) fun x hx => h x (List.mem_cons_of_mem _ hx))
theorem rowL_upd : ∀ {as : List Addr} {rs : List (List Int)} {j : Nat} {a : Addr} {r r' : List Int}, as[j]? = some a → rs[j]? = some r → Upd (rowL as rs) a (.lst (iv r)) (.lst (iv r')) (rowL as (rs.set j r'))
  | [], _, _, _, _, _, h, _ => by simp at h
  | _ :: _, [], _, _, _, _, _, h => by simp at h
  | a :: as, r :: rs, 0, a', r0, r', h1, h2 => by
    simp at h1 h2
    subst h1 h2
    exact .head
  | a :: as, r :: rs, j + 1, a', r0, r', h1, h2 => .tail (rowL_upd (by simpa using h1) (by simpa using h2))
theorem rowL_snoc : ∀ {as : List Addr} {rs : List (List Int)} {a : Addr} {r : List Int}, as.length = rs.length → rowL (as ++ [a]) (rs ++ [r]) = rowL as rs ++ [(a, .lst (iv r))]
  | [], [], _, _, _ => rfl
  | [], _ :: _, _, _, h => by cases h
  | _ :: _, [], _, _, h => by cases h
  | x :: as, y :: rs, a, r, h => by
    show (x, HO.lst (iv y)) :: rowL (as ++ [a]) (rs ++ [r]) = (x, HO.lst (iv y)) :: (rowL as rs ++ [(a, .lst (iv r))])
    rw [rowL_snoc (by simpa using h)]
theorem Upd.app {L0 : Led} (u : Upd L a o o' L') : Upd (L0 ++ L) a o o' (L0 ++ L') := by
  induction L0 with
  | nil => exact u
  | cons x r ih => exact .tail ih
theorem Upd.appL {L0 : Led} (u : Upd L a o o' L') : Upd (L ++ L0) a o o' (L' ++ L0) := by
  induction u with
  | head => exact .head
  | tail _ ih => exact .tail ih
/-! ## integers in a tuple -/
def cp_is_integer (K : PySem.W.Frag) : Sp := fun vs H Q E => ∃ (i : Int), vs = [.int i] ∧ (Q (.bl true) H)
theorem u_isint {K : PySem.W.Frag} {i : Int} {H : Hp} {Q : VK} {X : XK} (q : Q (.bl true) H) : cp_is_integer K [.int i] H Q X := ⟨i, rfl, q⟩
def ct_is_integer (K : PySem.W.Frag) : TS := (tRet (tAndV (tCB (rIsi K) (tCons (tVar 0) (tCons (tC (.ty "int")) tNil))) (tNotV (tCB (rIsi K) (tCons (tVar 0) (tCons (tC (.ty "bool")) tNil))))))
theorem cv_is_integer {K : PySem.W.Frag} {vs : List V} {H : Hp} {Q : VK} {E : XK} (h : cp_is_integer K vs H Q E) : ct_is_integer K (D0 Q) (start ["actual"] vs) H := by
  obtain ⟨i, rfl, q⟩ := h
  unfold ct_is_integer
  show tRet _ (D0 Q) [some (.int i)] H
  unfold D0
  walk_at "go"
  refine r_isiI ?_
  walk_at "go"
  refine r_isiIb ?_
  walk_at "go"
  exact q
def cp_integers (K : PySem.W.Frag) : Sp := fun vs H Q E => ∃ (a : Addr) (ns : List Int) (lo hi : Int), vs = [.ref a, .int lo, .int hi] ∧ (SqT K H a (iv ns) ∧ ((∀ z ∈ ns, lo ≤ z ∧ z < hi) → Q (.bl true) H) ∧ (¬ (∀ z ∈ ns, lo ≤ z ∧ z < hi) → Q (.bl false) H))
def ct_integers (K : PySem.W.Frag) : TS := (tSeq (tIfS (tNot (tB (tCB (rIsi K) (tCons (tVar 0) (tCons (tC (.ty "tuple")) tNil))))) (tRet (tC (.bl false))) tNext)
 (tSeq (tFor (iTup K (tVar 0)) (gName 3) (tIfS (tOr (tNot (tB (tCall (cp_is_integer K) [] E0 (tCons (tVar 3) tNil)))) (tOr (tTest (tOp rLtI (tVar 3) (tVar 1))) (tTest (tOp rGeI (tVar 3) (tVar 2))))) (tRet (tC (.bl false))) tNext))
 (tRet (tC (.bl true)))))
theorem cv_integers {K : PySem.W.Frag} {vs : List V} {H : Hp} {Q : VK} {E : XK} (h : cp_integers K vs H Q E) : ct_integers K (D0 Q) (start ["actual", "low", "high", "item"] vs) H := by
  obtain ⟨a, ns, lo, hi, rfl, ha, q1, q2⟩ := h
  unfold ct_integers
  show tSeq _ _ (D0 Q) [some (.ref a), some (.int lo), some (.int hi), none] H
  unfold D0
  walk_at "go"
  refine r_isiT ha ?_
  walk_at "go"
  refine r_it ha ?_
  refine r_forT (xs := iv ns) (fun i σ H' => H' = H ∧ (∃ v, σ = [some (.ref a), some (.int lo), some (.int hi), v]) ∧ ∀ z ∈ ns.take i, lo ≤ z ∧ z < hi) ⟨rfl, ⟨_, rfl⟩, (fun _ h => by simp at h)⟩ (fun _ _ _ _ h => h.1 ▸ ha) ?_ ?_
  · rintro i x σ H' hi' ⟨rfl, ⟨v, rfl⟩, hz⟩
    obtain ⟨z, hz1, rfl⟩ := iv_get hi'
    walk_at "go"
    refine u_isint ?_
    walk_at "go"
    have hm : z ∈ ns := List.mem_of_getElem? hz1
    refine r_ifD (fun h => ?_) (fun h => ?_)
    · walk_at "go"
      exact q2 fun w => absurd (w z hm).1 (by omega)
    · walk_at "go"
      refine r_ifD (fun h2 => ?_) (fun h2 => ?_)
      · walk_at "go"
        exact q2 fun w => absurd (w z hm).2 (by omega)
      · walk_at "go"
        refine ⟨rfl, ⟨_, rfl⟩, fun y hy => ?_⟩
        rw [take_snoc hz1] at hy
        rcases List.mem_append.mp hy with q | q
        · exact hz y q
        · rw [List.mem_singleton.mp q]; omega
  · rintro σ H' ⟨rfl, ⟨v, rfl⟩, hz⟩
    walk_at "go"
    refine q1 fun z hz' => hz z ?_
    rw [iv_len, List.take_length]; exact hz'
end
end SL

set_option Elab.async false
set_option linter.all false
set_option maxRecDepth 100000
set_option maxHeartbeats 4000000
namespace L2
open PySem PySem.Spec PyProof.Rows
/-! ## an error that has a name -/
def wAllN (n : Nat) (W : WX) : XK := fun cls d H => ∀ σ : St, σ.length = n → W cls d σ H
theorem passes_allN {X : Cx} {W : WX} {n : Nat} (tk : Takes X W) (hn : X.N.length = n) : Passes (L2.CX X.prog X.w) X (wAllN n W) :=
  fun _ σ _ _ e s' I c => tk e s' (XE.of_call I (fun cls d H' h => h σ (I.len.trans hn)) c)
def rIsE' (K : PySem.W.Frag) (a : Addr) (cls : Value) (d : Option Addr) : List V → Hp → VK → Prop := fun xs H Q => ∃ D, cls = .ref D ∧ d = none ∧ ExcC K D ∧ rIsE K D a xs H Q
theorem call_isE' {X : Cx} {a : Addr} {cls : Value} {d : Option Addr} {oe : Obj} {pn : List (Addr × Obj)} (hz : Zc cls d oe) (hf : ∃ vs, oe.data = .fields vs) : CallR (X.suite a ((a, oe) :: pn)) (.builtin "isinstance") (rIsE' X.K a cls d) := by
  intro pins s σ H xs us Q I r h
  obtain ⟨D, rfl, rfl, C, q⟩ := h
  exact call_isE C hz hf pins s σ H xs us Q I r q
theorem kit_true {K : PySem.W.Frag} {R S : Addr} (h1 : PySem.W.hasDictIn K S = true) (ht : PySem.W.typeIn K (.ref S) = some (.type "type")) (h2 : PySem.W.subIn K (.ref R) (.ref S) = some true) : PySem.W.kitOne K (.ref R) (.ref S) = some true := by
  obtain ⟨cd, hc, _⟩ := PySem.W.any_some h1
  have e2 : ((PySem.W.clsIn K S).isSome && PySem.W.typeIn K (.ref S) == some (.type "type")) = true := by rw [hc, ht] <;> rfl
  unfold PySem.W.kitOne
  split
  · rfl
  · show (if ((PySem.W.clsIn K S).isSome && PySem.W.typeIn K (.ref S) == some (.type "type")) = true then PySem.W.subIn K (.ref R) (.ref S) else none) = some true
    rw [if_pos e2]; exact h2
theorem kit_self {K : PySem.W.Frag} {R : Addr} : PySem.W.kitOne K (.ref R) (.ref R) = some true := by
  unfold PySem.W.kitOne
  rw [if_pos (by simp)]
/-! ## a comprehension in a comprehension -/
def relabelS (scope sc : Scope) : Scope :=
  { scope with names := scope.names.map fun (n, k) => if (k == .free && sc.kind == .function && sc.names.lookup n == some .cell) then (n, .cell) else (n, k) }
theorem blk_in {N : List Str} {env : Env} {sc0 scope0 scope : Scope} {cl : List (Str × Addr)} {C : Addr} {own : List (Str × Nat)} (he : env.scope = sc0) (h : blkC N (relabelS scope0 sc0) scope own = true) : BlkOk N (compEnvC scope0 cl C env).scope scope own := by
  subst he
  exact blkOk_by h
end L2
namespace SL
open PySem L2
section

set_option hygiene false
local macro_rules | `(tactic| walk_at "m") => `(tactic| first | exact List.Mem.head _ | (refine List.Mem.tail _ ?_; walk_at "m"))
local macro_rules | `(tactic| walk_at "u") => `(tactic| first | exact Upd.head | (apply Upd.tail; walk_at "u"))
local macro_rules | `(tactic| walk_at "tk") => `(tactic| first | exact Tak.head | (apply Tak.tail; walk_at "tk"))
local macro_rules | `(tactic| walk_at "l") => `(tactic| first | assumption | exact lS (St.fh (by assumption)) (by assumption) | exact SqL.of (St.get (by assumption) (by walk_at "m")))
local macro_rules | `(tactic| walk_at "t") => `(tactic| first | assumption | exact tS (St.fh (by assumption)) (by assumption) | exact SqT.of (St.get (by assumption) (by walk_at "m")))
local macro_rules | `(tactic| walk_at "lt") => `(tactic| first | exact .inl (by walk_at "l") | exact .inr (by walk_at "t"))
local macro_rules | `(tactic| walk_at "sz") => `(tactic| first | (show _ ≤ sizeLine; decide) | exact sz (by simp) | exact szl (by simp) | exact sz (by omega) | exact szl (by omega) | exact sz (by simp; omega) | exact szl (by simp; omega))
local macro_rules | `(tactic| walk_at "c") => `(tactic| first | assumption | decide | omega)
local macro_rules | `(tactic| walk_at "g1") => `(tactic| with_reducible first
  | refine w_seq ?_ | refine w_asg ?_ | refine w_c ?_ | refine w_op ?_
  | refine r_I0 ?_ | refine w_test ?_ | refine r_b ?_ | refine w_if ?_ | refine w_cons ?_ | refine w_nil ?_
  | refine w_ret ?_ | refine w_drop ?_ | refine w_cb ?_ | refine w_call ?_ | refine w_next ?_ | refine w_tup ?_ | refine w_lst ?_ | refine w_bm ?_ | refine w_bm0 ?_
  | refine w_and ?_ | refine w_or ?_ | refine w_not ?_ | refine w_andV ?_ | refine w_orV ?_ | refine w_notV ?_ | refine w_tB ?_ | refine w_un ?_ | refine r_U ?_
  | refine w_for ?_ | refine w_iL ?_ | refine w_iT ?_ | refine w_i1 ?_ | refine w_i2 ?_ | refine w_sl ?_ | refine w_part ?_ | refine w_nopart ?_ | refine r_part ?_
  | refine r_eqI ?_ | refine r_neI ?_ | refine r_eqS ?_ | refine r_neS ?_ | refine r_eqB ?_ | refine r_neB ?_ | refine r_ifT ?_ | refine r_ifF ?_ | refine r_ifNt ?_ | refine r_ifNf ?_ | refine r_ifRN ?_ | refine r_ifNRN ?_ | refine r_ifNN ?_ | refine r_ifNNN ?_
  | refine w_ifE ?_ | refine r_int1 ?_ | refine r_int1b ?_ | refine r_isnone ?_ | refine r_notnone ?_ | refine r_max2 ?_ | refine r_min2 ?_ | refine r_ipI ?_ | refine w_tru ?_ | refine w_rs ?_
  | refine w_retN ?_ | refine w_break ?_ | refine w_cont ?_ | refine w_callS ?_ | refine w_asgG ?_ | refine w_gsub ?_ | refine w_fld ?_ | refine w_sfld ?_ | refine w_mk ?_ | refine w_lc ?_ | refine w_iSq ?_ | refine u_isint ?_ | refine w_dnew ?_ | refine w_dnotin ?_ | refine w_din ?_ | refine w_dget ?_ | refine w_dput ?_ | refine w_ckw ?_)
local macro_rules | `(tactic| walk_at "g2") => `(tactic| first
  | ((with_reducible refine' w_var ?hv ?_); (case hv => rfl)) | ((with_reducible refine' w_aug ?hv ?_); (case hv => rfl))
  | ((with_reducible show rLen _ _ _ _); refine r_len (by walk_at "lt") ?_)
  | (with_reducible refine r_I ?cnd ?_; (case cnd => first | decide | omega | assumption | (unfold CPow; decide)))
  | ((with_reducible show RTy _ _ _ _ _); refine r_tyL (by walk_at "l") ?_)
  | (with_reducible refine r_ifDT (by walk_at "c") ?_) | (with_reducible refine r_ifDF (by walk_at "c") ?_)
  | (with_reducible refine r_ifNT (by walk_at "c") ?_) | (with_reducible refine r_ifNF (by walk_at "c") ?_))
local macro_rules | `(tactic| walk_at "go") => `(tactic| repeat (first | walk_at "g1" | walk_at "g2"))

variable {n b c : L2.St → Hp → Prop} {r : VK} {σ : L2.St} {H H' : Hp} {Q : VK} {t : TS} {te ta tb : TE} {x y v : V} {K : PySem.W.Frag} {E : En} {F F' : Hp} {L L' L1 L2 : Led} {p a : Addr} {xs ys : List V} {ns ms : List Int} {k : Bool} {o o' : HO}
theorem r_isE {D S : Addr} {b : Bool} (C : ExcC K D) (h : PySem.W.kitOne K (.ref D) (.ref S) = some b) (q : Q (.bl b) H) : rIsE' K a (.ref D) none [.ref a, .ref S] H Q := ⟨D, rfl, rfl, C, .ref S, .ref S, b, rfl, fun u r => r, h, q⟩
theorem r_isiC {C : Addr} (ty : TyX K H (.ref a) (.ref C)) (q : Q (.bl true) H) : rIsi K [.ref a, .ref C] H Q := ⟨.ref a, .ref C, .ref C, .ref C, true, rfl, .own C, ty, kit_self, q⟩
theorem r_all {bs : List Bool} (h : SqL K H a (bs.map V.bl)) (q : Q (.bl (bs.all id)) H) : rAll K [.ref a] H Q := ⟨a, bs, rfl, h, q⟩
theorem r_any {bs : List Bool} (h : SqL K H a (bs.map V.bl)) (q : Q (.bl (bs.any id)) H) : rAny K [.ref a] H Q := ⟨a, bs, rfl, h, q⟩
theorem set_slot {i n : Nat} {v : Option V} (h : σ.length = n) (hi : i < n) : (σ.set i v)[i]? = some v := List.getElem?_set_self (by omega)
/-! ## calls that hand back what they own -/
theorem St.join (G : St E F H L) (w : St ⟨F, H⟩ F' H' L1) : St E F' H' (L1 ++ L) := by
  have G1 : St E F' H' L := G.call w.gr
  refine ⟨G1.bh, G1.fh, G1.ff, G1.pr, fun x hx => ?_, nd_app w.nd G.nd fun x hx y hy e => ?_⟩
  · rcases List.mem_append.mp hx with q | q
    · obtain ⟨h1, h2, h3⟩ := w.own x q
      exact ⟨h1, h2, free_of G.bh h3⟩
    · exact G1.own x q
  · have h1 : H x.1 = none := (w.own x hx).2.2
    rw [e, (G.own y hy).1] at h1
    cases h1
theorem St.joinB (G : St E F H L) (u : Upd L p o o' L') (w : St ⟨F, del H p⟩ F' H' ((p, o') :: L1)) : St E F' H' (L1 ++ L') := by
  have G1 : St E F' H' L' := G.callB u (w.grB List.mem_cons_self) (w.get List.mem_cons_self)
  have hn := w.nd
  rw [List.map_cons, List.nodup_cons] at hn
  have hf : ∀ x ∈ L1, H' x.1 = some x.2 ∧ F' x.1 = none ∧ H x.1 = none := fun x q => by
    obtain ⟨h1, h2, h3⟩ := w.own x (List.mem_cons_of_mem _ q)
    have ne : x.1 ≠ p := fun e => hn.1 (List.mem_map.mpr ⟨x, q, e⟩)
    exact ⟨h1, h2, by rw [← del_ne (H := H) ne]; exact h3⟩
  refine ⟨G1.bh, G1.fh, G1.ff, G1.pr, fun x hx => ?_, nd_app hn.2 G1.nd fun x hx y hy e => ?_⟩
  · rcases List.mem_append.mp hx with q | q
    · obtain ⟨h1, h2, h3⟩ := hf x q
      exact ⟨h1, h2, free_of G.bh h3⟩
    · exact G1.own x q
  · have h1 := (hf x hx).2.2
    have : y.1 ∈ L.map (·.1) := by rw [← u.fst]; exact List.mem_map.mpr ⟨y, hy, rfl⟩
    obtain ⟨z, hz, q⟩ := List.mem_map.mp this
    have q' : z.1 = y.1 := q
    rw [e, ← q', (G.own z hz).1] at h1
    cases h1
theorem St.dropL {L1 : Led} (G : St E F H (L1 ++ L)) : St E F H L := ⟨G.bh, G.fh, G.ff, G.pr, fun x hx => G.own x (List.mem_append_right _ hx), by have := G.nd; rw [List.map_append, List.nodup_append] at this; exact this.2.1⟩
/-! ## lists of refs that are owned -/
def rowV : List Addr → List (List V) → Led
  | a :: as, r :: rs => (a, .lst r) :: rowV as rs
  | _, _ => []
theorem rowV_upd : ∀ {as : List Addr} {rs : List (List V)} {j : Nat} {a : Addr} {r r' : List V}, as[j]? = some a → rs[j]? = some r → Upd (rowV as rs) a (.lst r) (.lst r') (rowV as (rs.set j r'))
  | [], _, _, _, _, _, h, _ => by simp at h
  | _ :: _, [], _, _, _, _, _, h => by simp at h
  | a :: as, r :: rs, 0, a', r0, r', h1, h2 => by
    simp at h1 h2
    subst h1 h2
    exact .head
  | a :: as, r :: rs, j + 1, a', r0, r', h1, h2 => .tail (rowV_upd (by simpa using h1) (by simpa using h2))
theorem rowV_snoc : ∀ {as : List Addr} {rs : List (List V)} {a : Addr} {r : List V}, as.length = rs.length → rowV (as ++ [a]) (rs ++ [r]) = rowV as rs ++ [(a, .lst r)]
  | [], [], _, _, _ => rfl
  | [], _ :: _, _, _, h => by cases h
  | _ :: _, [], _, _, h => by cases h
  | x :: as, y :: rs, a, r, h => by
    show (x, HO.lst y) :: rowV (as ++ [a]) (rs ++ [r]) = (x, HO.lst y) :: (rowV as rs ++ [(a, .lst r)])
    rw [rowV_snoc (by simpa using h)]
/-! ## a list in the heap or a tuple in the frozen part -/
def SqX (K : PySem.W.Frag) (F H : Hp) (a : Addr) (xs : List V) : Prop := SqL K H a xs ∨ SqT K F a xs
theorem SqX.mono (e : Same F F') (e2 : Same H H') (h : SqX K F H a xs) : SqX K F' H' a xs := by
  rcases h with h | h
  · exact .inl (lS e2 h)
  · exact .inr (tS e h)
theorem SqX.bb (e : Same F H) (h : SqX K F H a xs) : ∃ k, SqB K H a xs k := by
  rcases h with h | h
  · exact ⟨true, h⟩
  · exact ⟨false, tS e h⟩
theorem SqX.bs (h : SqX K F H a xs) : ∃ k, ∀ H', Same H H' → Same F H' → SqB K H' a xs k := by
  rcases h with h | h
  · exact ⟨true, fun _ e _ => lS e h⟩
  · exact ⟨false, fun _ _ e => tS e h⟩
theorem SqX.or (e : Same F H) (h : SqX K F H a xs) : SqL K H a xs ∨ SqT K H a xs := by
  rcases h with h | h
  · exact .inl h
  · exact .inr (tS e h)
theorem SqX.del {C dx : Addr} {fs : List (Str × V)} (e : H p = some (.ins C dx fs)) (h : SqX K F H a xs) : SqX K F (del H p) a xs := by
  rcases h with h | h
  · exact .inl (sq_del (k := true) e h)
  · exact .inr h
theorem r_tupX (G : St E F H L) (h : SqX K F H a xs) (q : ∀ F' H' t, Same F F' → Same H H' → SqT K F' t xs → St E F' H' L → Q (.ref t) H') : rTupOf K [.ref a] H Q := by
  rcases h with h | h
  · refine ⟨a, xs, rfl, .inl ⟨h, fun p hp => ?_⟩⟩
    obtain ⟨F1, s1, ht, G2⟩ := (G.new (o := .tup xs) hp).frz Tak.head
    exact q F1 _ _ s1 (same_new hp) (SqT.of ht) G2
  · exact r_tupofT (tS G.fh h) (q F H a (Same.refl _) (Same.refl _) h G)
inductive LeafX (K : PySem.W.Frag) (F H : Hp) : List Addr → List (List Int) → Prop
  | nil : LeafX K F H [] []
  | cons {a as ns rs} : SqX K F H a (iv ns) → LeafX K F H as rs → LeafX K F H (a :: as) (ns :: rs)
theorem LeafX.mono {as : List Addr} {rs : List (List Int)} (e : Same F F') (e2 : Same H H') (h : LeafX K F H as rs) : LeafX K F' H' as rs := by
  induction h with
  | nil => exact .nil
  | cons h1 _ ih => exact .cons (h1.mono e e2) ih
theorem LeafX.len {as : List Addr} {rs : List (List Int)} (h : LeafX K F H as rs) : as.length = rs.length := by
  induction h with
  | nil => rfl
  | cons _ _ ih => rw [List.length_cons, List.length_cons, ih]
theorem LeafX.del {C dx : Addr} {fs : List (Str × V)} {as : List Addr} {rs : List (List Int)} (e : H p = some (.ins C dx fs)) (h : LeafX K F H as rs) : LeafX K F (SL.del H p) as rs := by
  induction h with
  | nil => exact .nil
  | cons h1 _ ih => exact .cons (h1.del e) ih
theorem LeafX.at {as : List Addr} {rs : List (List Int)} (h : LeafX K F H as rs) : ∀ {i : Nat} {a : Addr}, as[i]? = some a → ∃ ns, rs[i]? = some ns ∧ SqX K F H a (iv ns) := by
  induction h with
  | nil => intro i a e; simp at e
  | cons h1 _ ih =>
    intro i a e
    cases i with
    | zero => rw [List.getElem?_cons_zero] at e; cases e; exact ⟨_, rfl, h1⟩
    | succ i => exact ih (by simpa using e)
theorem LeafX.ofL {as : List Addr} {rs : List (List Int)} (h : Rows K H true as rs) : LeafX K F H as rs := by
  induction h with
  | nil => exact .nil
  | cons h1 _ ih => exact .cons (.inl h1) ih
theorem LeafX.ofT {as : List Addr} {rs : List (List Int)} (h : Rows K F false as rs) : LeafX K F H as rs := by
  induction h with
  | nil => exact .nil
  | cons h1 _ ih => exact .cons (.inr h1) ih
inductive RowsX (K : PySem.W.Frag) (F H : Hp) : List Addr → List (List (List Int)) → Prop
  | nil : RowsX K F H [] []
  | cons {a as bs r rs} : SqX K F H a (rv bs) → LeafX K F H bs r → RowsX K F H as rs → RowsX K F H (a :: as) (r :: rs)
theorem RowsX.mono {as : List Addr} {rs : List (List (List Int))} (e : Same F F') (e2 : Same H H') (h : RowsX K F H as rs) : RowsX K F' H' as rs := by
  induction h with
  | nil => exact .nil
  | cons h1 h2 _ ih => exact .cons (h1.mono e e2) (h2.mono e e2) ih
theorem RowsX.len {as : List Addr} {rs : List (List (List Int))} (h : RowsX K F H as rs) : as.length = rs.length := by
  induction h with
  | nil => rfl
  | cons _ _ _ ih => rw [List.length_cons, List.length_cons, ih]
theorem RowsX.del {C dx : Addr} {fs : List (Str × V)} {as : List Addr} {rs : List (List (List Int))} (e : H p = some (.ins C dx fs)) (h : RowsX K F H as rs) : RowsX K F (SL.del H p) as rs := by
  induction h with
  | nil => exact .nil
  | cons h1 h2 _ ih => exact .cons (h1.del e) (h2.del e) ih
theorem RowsX.at {as : List Addr} {rs : List (List (List Int))} (h : RowsX K F H as rs) : ∀ {i : Nat} {a : Addr}, as[i]? = some a → ∃ bs r, rs[i]? = some r ∧ SqX K F H a (rv bs) ∧ LeafX K F H bs r := by
  induction h with
  | nil => intro i a e; simp at e
  | cons h1 h2 _ ih =>
    intro i a e
    cases i with
    | zero => rw [List.getElem?_cons_zero] at e; cases e; exact ⟨_, _, rfl, h1, h2⟩
    | succ i => exact ih (by simpa using e)
/-! ## rows of rows, all lists or all tuples -/
inductive Rows2 (K : PySem.W.Frag) (H : Hp) (k : Bool) : List Addr → List (List (List Int)) → Prop
  | nil : Rows2 K H k [] []
  | cons {a as bs r rs} : SqB K H a (rv bs) k → Rows K H k bs r → Rows2 K H k as rs → Rows2 K H k (a :: as) (r :: rs)
theorem Rows2.mono {as : List Addr} {rs : List (List (List Int))} (e : Same H H') (h : Rows2 K H k as rs) : Rows2 K H' k as rs := by
  induction h with
  | nil => exact .nil
  | cons h1 h2 _ ih => exact .cons (qS e h1) (h2.mono e) ih
theorem Rows2.len {as : List Addr} {rs : List (List (List Int))} (h : Rows2 K H k as rs) : as.length = rs.length := by
  induction h with
  | nil => rfl
  | cons _ _ _ ih => rw [List.length_cons, List.length_cons, ih]
theorem Rows2.at {as : List Addr} {rs : List (List (List Int))} (h : Rows2 K H k as rs) : ∀ {i : Nat} {a : Addr}, as[i]? = some a → ∃ bs r, rs[i]? = some r ∧ SqB K H a (rv bs) k ∧ Rows K H k bs r := by
  induction h with
  | nil => intro i a e; simp at e
  | cons h1 h2 _ ih =>
    intro i a e
    cases i with
    | zero => rw [List.getElem?_cons_zero] at e; cases e; exact ⟨_, _, rfl, h1, h2⟩
    | succ i => exact ih (by simpa using e)
theorem Rows2.snoc {as : List Addr} {bs : List Addr} {r : List (List Int)} {rs : List (List (List Int))} (h : Rows2 K H k as rs) (h1 : SqB K H a (rv bs) k) (h2 : Rows K H k bs r) : Rows2 K H k (as ++ [a]) (rs ++ [r]) := by
  induction h with
  | nil => exact .cons h1 h2 .nil
  | cons q1 q2 _ ih => exact .cons q1 q2 ih
theorem Rows2.set {as : List Addr} {bs : List Addr} {r : List (List Int)} {rs : List (List (List Int))} (h : Rows2 K H k as rs) (h1 : SqB K H a (rv bs) k) (h2 : Rows K H k bs r) : ∀ {j : Nat}, Rows2 K H k (as.set j a) (rs.set j r) := by
  induction h with
  | nil => intro j; exact .nil
  | cons q1 q2 hr ih =>
    intro j
    cases j with
    | zero => exact .cons h1 h2 hr
    | succ j => exact .cons q1 q2 ih
theorem _root_.SL.Rows.take {as : List Addr} {rs : List (List Int)} (h : Rows K H k as rs) : ∀ {n : Nat}, Rows K H k (as.take n) (rs.take n) := by
  induction h with
  | nil => intro n; rw [List.take_nil, List.take_nil]; exact .nil
  | cons h1 _ ih =>
    intro n
    cases n with
    | zero => exact .nil
    | succ n => exact .cons h1 ih
theorem Rows2.toX {as : List Addr} {rs : List (List (List Int))} (h : Rows2 K H true as rs) : RowsX K F H as rs := by
  induction h with
  | nil => exact .nil
  | cons h1 h2 _ ih => exact .cons (.inl h1) (.ofL h2) ih
theorem Rows2.toXT {as : List Addr} {rs : List (List (List Int))} (h : Rows2 K F false as rs) : RowsX K F H as rs := by
  induction h with
  | nil => exact .nil
  | cons h1 h2 _ ih => exact .cons (.inr h1) (.ofT h2) ih
abbrev dRow2 (r : List (List Int)) : PyData := .list (r.map (dRow true))
theorem Rows2.dp {as : List Addr} {rs : List (List (List Int))} (h : Rows2 K H true as rs) : DpAll K H (as.map V.ref) (rs.map dRow2) := by
  induction h with
  | nil => exact .nil
  | cons h1 h2 _ ih => exact .cons (.lst h1 h2.dp) ih
theorem shp_row2 {r : List (List Int)} : Shp 2 (dRow2 r) := shp_list (shpa_map fun _ _ => shp_row)
theorem eqv_row2 (xs ys : List (List Int)) : PyData.eqv (dRow2 xs) (dRow2 ys) = decide (xs = ys) := by
  rw [dRow2, dRow2, eqv_list]
  exact eqvAll_map eqv_row xs ys
/-- frozen leaves -/
inductive Leaf (K : PySem.W.Frag) (H : Hp) : List (List Addr) → List (List (List Int)) → Prop
  | nil : Leaf K H [] []
  | cons {bs r bss rs} : Rows K H true bs r → Leaf K H bss rs → Leaf K H (bs :: bss) (r :: rs)
theorem Leaf.mono {bss : List (List Addr)} {rs : List (List (List Int))} (e : Same H H') (h : Leaf K H bss rs) : Leaf K H' bss rs := by
  induction h with
  | nil => exact .nil
  | cons h1 _ ih => exact .cons (h1.mono e) ih
theorem Leaf.len {bss : List (List Addr)} {rs : List (List (List Int))} (h : Leaf K H bss rs) : bss.length = rs.length := by
  induction h with
  | nil => rfl
  | cons _ _ ih => rw [List.length_cons, List.length_cons, ih]
theorem Leaf.snoc {bs : List Addr} {r : List (List Int)} {bss : List (List Addr)} {rs : List (List (List Int))} (h : Leaf K H bss rs) (h1 : Rows K H true bs r) : Leaf K H (bss ++ [bs]) (rs ++ [r]) := by
  induction h with
  | nil => exact .cons h1 .nil
  | cons q1 _ ih => exact .cons q1 ih
theorem Leaf.set {bs : List Addr} {r : List (List Int)} {bss : List (List Addr)} {rs : List (List (List Int))} (h : Leaf K H bss rs) (h1 : Rows K H true bs r) : ∀ {j : Nat}, Leaf K H (bss.set j bs) (rs.set j r) := by
  induction h with
  | nil => intro j; exact .nil
  | cons q1 hr ih =>
    intro j
    cases j with
    | zero => exact .cons h1 hr
    | succ j => exact .cons q1 ih
theorem Leaf.at {bss : List (List Addr)} {rs : List (List (List Int))} (h : Leaf K H bss rs) : ∀ {i : Nat} {r : List (List Int)}, rs[i]? = some r → ∃ bs, bss[i]? = some bs ∧ Rows K H true bs r := by
  induction h with
  | nil => intro i a e; simp at e
  | cons h1 _ ih =>
    intro i a e
    cases i with
    | zero => rw [List.getElem?_cons_zero] at e; cases e; exact ⟨_, rfl, h1⟩
    | succ i => exact ih (by simpa using e)
theorem Rows2.of {as : List Addr} {bss : List (List Addr)} {rs : List (List (List Int))} (h : Leaf K H bss rs) (hl : as.length = bss.length) (hv : ∀ x ∈ rowV as (bss.map rv), H x.1 = some x.2) : Rows2 K H true as rs := by
  induction h generalizing as with
  | nil => cases as with
    | nil => exact .nil
    | cons _ _ => cases hl
  | cons h1 _ ih => cases as with
    | nil => cases hl
    | cons a as => exact .cons (show SqL K H a _ from SqL.of (hv _ List.mem_cons_self)) h1 (ih (by simpa using hl) fun x hx => hv x (List.mem_cons_of_mem _ hx))
/-! ## ascending lists of states -/
def asc (c : Int) : Int → List Int → Bool
  | _, [] => true
  | b, x :: xs => decide (b < x) && decide (x < c) && asc c x xs
theorem asc_iff {c : Int} : ∀ {ns : List Int} {b : Int}, asc c b ns = true ↔ (∀ x ∈ ns, b < x ∧ x < c) ∧ ns.Pairwise (· < ·)
  | [], b => by simp [asc]
  | x :: xs, b => by
    rw [asc, Bool.and_eq_true, Bool.and_eq_true, decide_eq_true_eq, decide_eq_true_eq, asc_iff (ns := xs) (b := x), List.pairwise_cons]
    constructor
    · rintro ⟨⟨h1, h2⟩, h3, h4⟩
      refine ⟨fun y hy => ?_, fun y hy => (h3 y hy).1, h4⟩
      rcases List.mem_cons.mp hy with e | e
      · subst e; exact ⟨h1, h2⟩
      · have := h3 y e; omega
    · rintro ⟨h1, h2, h3⟩
      exact ⟨h1 x List.mem_cons_self, fun y hy => ⟨h2 y hy, (h1 y (List.mem_cons_of_mem _ hy)).2⟩, h3⟩
theorem asc_mono {c c' b : Int} {ns : List Int} (h : asc c b ns = true) (hc : c ≤ c') : asc c' b ns = true := by
  obtain ⟨h1, h2⟩ := asc_iff.mp h
  exact asc_iff.mpr ⟨fun x hx => by have := h1 x hx; omega, h2⟩
theorem asc_snoc {c : Int} {ns : List Int} (h : asc c (-1) ns = true) (hc : 0 ≤ c) : asc (c + 1) (-1) (ns ++ [c]) = true := by
  obtain ⟨h1, h2⟩ := asc_iff.mp h
  refine asc_iff.mpr ⟨fun x hx => ?_, ?_⟩
  · rcases List.mem_append.mp hx with q | q
    · have := h1 x q; omega
    · rw [List.mem_singleton.mp q]; omega
  · rw [List.pairwise_append]
    exact ⟨h2, List.pairwise_singleton _ _, fun x hx y hy => by rw [List.mem_singleton.mp hy]; exact (h1 x hx).2⟩
theorem asc_len {c b : Int} : ∀ {ns : List Int}, asc c b ns = true → b < c → b + ns.length ≤ c - 1 + 0
  | [], _, hb => by simp; omega
  | x :: xs, h, hb => by
    rw [asc, Bool.and_eq_true, Bool.and_eq_true, decide_eq_true_eq, decide_eq_true_eq] at h
    have := asc_len h.2 h.1.2
    rw [List.length_cons]
    omega
theorem asc_get {ns : List Int} (h : ns.Pairwise (· < ·)) {i j : Nat} (hij : i < j) (hj : j < ns.length) : ns.getD i 0 < ns.getD j 0 := by
  have := List.pairwise_iff_getElem.mp h i j (by omega) hj hij
  rw [List.getD_eq_getElem?_getD, List.getD_eq_getElem?_getD, List.getElem?_eq_getElem (by omega), List.getElem?_eq_getElem hj]
  exact this
theorem drop_cons {α : Type} : ∀ {l : List α} {i : Nat} {x : α}, l[i]? = some x → l.drop i = x :: l.drop (i + 1)
  | [], i, x, h => by simp at h
  | y :: l, 0, x, h => by
    have e : y = x := Option.some.inj h
    rw [e]; rfl
  | y :: l, i + 1, x, h => by
    have ih := drop_cons (l := l) (i := i) (x := x) h
    rw [List.drop_succ_cons, ih]; rfl
/-! ## Buchi automata -/
structure Aok (m : Int) (is cs : List Int) (rs : List (List (List Int))) : Prop where
  m1 : 1 ≤ m
  ne : 0 < rs.length
  ai : asc rs.length (-1) is = true
  ac : asc rs.length (-1) cs = true
  rr : ∀ r ∈ rs, (r.length : Int) = m ∧ ∀ x ∈ r, asc rs.length (-1) x = true
def auF (m : Int) (ia ca ra : Addr) : List (Str × V) := [("letters", .int m), ("initial", .ref ia), ("accepting", .ref ca), ("rows", .ref ra)]
structure AuAt (K : PySem.W.Frag) (C : Addr) (F : Hp) (x : Addr) (m : Int) (is cs : List Int) (rs : List (List (List Int))) : Prop where
  ex : ∃ dx ia ca ra as, F x = some (.ins C dx (auF m ia ca ra)) ∧ SqT K F ia (iv is) ∧ SqT K F ca (iv cs) ∧ SqT K F ra (rv as) ∧ Rows2 K F false as rs
theorem AuAt.mono {C x : Addr} {m : Int} {is cs : List Int} {rs : List (List (List Int))} (e : Same F F') (h : AuAt K C F x m is cs rs) : AuAt K C F' x m is cs rs := by
  obtain ⟨dx, ia, ca, ra, as, h1, h2, h3, h4, h5⟩ := h.ex
  exact ⟨⟨dx, ia, ca, ra, as, e _ _ h1, tS e h2, tS e h3, tS e h4, h5.mono e⟩⟩
theorem la_letters {m : Int} {ia ca ra : Addr} : (auF m ia ca ra).lookup ("letters" : Str) = some (.int m) := rfl
theorem la_initial {m : Int} {ia ca ra : Addr} : (auF m ia ca ra).lookup ("initial" : Str) = some (.ref ia) := rfl
theorem la_accepting {m : Int} {ia ca ra : Addr} : (auF m ia ca ra).lookup ("accepting" : Str) = some (.ref ca) := rfl
theorem la_rows {m : Int} {ia ca ra : Addr} : (auF m ia ca ra).lookup ("rows" : Str) = some (.ref ra) := rfl
end
end SL

set_option Elab.async false
set_option linter.all false
set_option maxRecDepth 100000
set_option maxHeartbeats 4000000
namespace LW
open PySem L2 SL

structure Ads where
  a_ascends : Addr
  fd_ascends : FuncData
  a_Automaton_init : Addr
  fd_Automaton_init : FuncData
  a__law_draws : Addr
  fd__law_draws : FuncData
  a__law_take : Addr
  fd__law_take : FuncData
  a__law_is_integer : Addr
  fd__law_is_integer : FuncData
  a__law_integers : Addr
  fd__law_integers : FuncData
  a__law_ascending : Addr
  fd__law_ascending : FuncData
  a__law_automaton : Addr
  fd__law_automaton : FuncData
  a__law_copy : Addr
  fd__law_copy : FuncData
  a__law_states : Addr
  fd__law_states : FuncData
  a__law_is_automaton : Addr
  fd__law_is_automaton : FuncData
  a__law_spoil_list : Addr
  fd__law_spoil_list : FuncData
  a__law_outcome : Addr
  fd__law_outcome : FuncData
  a_law : Addr
  fd_law : FuncData
  C_SynthError : Addr
  C_InvalidAutomaton : Addr
  C_Automaton : Addr
structure Cl (K : PySem.W.Frag) (A : Ads) : Prop where
  cl_Automaton : Cls K A.C_Automaton
  na_Automaton_letters : NoAttr K A.C_Automaton "letters"
  na_Automaton_initial : NoAttr K A.C_Automaton "initial"
  na_Automaton_accepting : NoAttr K A.C_Automaton "accepting"
  na_Automaton_rows : NoAttr K A.C_Automaton "rows"
  ty_Automaton : ∀ {H : Hp} {a dx : Addr} {fs : List (Str × V)}, H a = some (.ins A.C_Automaton dx fs) → TyX K H (.ref a) (.ref A.C_Automaton)
  em_InvalidAutomaton_InvalidAutomaton : PySem.W.exmOne K (.ref A.C_InvalidAutomaton) (.ref A.C_InvalidAutomaton) = some true
  em_InvalidAutomaton_SynthError : PySem.W.exmOne K (.ref A.C_InvalidAutomaton) (.ref A.C_SynthError) = some true
  xc_InvalidAutomaton : ExcC K A.C_InvalidAutomaton
  ki_InvalidAutomaton_SynthError : PySem.W.kitOne K (.ref A.C_InvalidAutomaton) (.ref A.C_SynthError) = some true
def sp_ascends (K : PySem.W.Frag) (A : Ads) : Sp := fun vs H Q E => ∃ (k : Bool) (a : Addr) (ns : List Int) (c : Int), vs = [.ref a, .int c] ∧ (SqB K H a (iv ns) k ∧ Q (.bl (asc c (-1) ns)) H)
def sp_Automaton_init (K : PySem.W.Frag) (A : Ads) : Sp := fun vs H Q E => ∃ (F : Hp) (x dx a b c : Addr) (as : List Addr) (m : Int) (is cs : List Int) (rs : List (List (List Int))), vs = [.ref x, .int m, .ref a, .ref b, .ref c] ∧ (Same F H ∧ F x = none ∧ H x = some (.ins A.C_Automaton dx []) ∧ SqX K F H a (iv is) ∧ SqX K F H b (iv cs) ∧ SqX K F H c (rv as) ∧ RowsX K F H as rs ∧ rs.length ≤ 1000 ∧ (∀ r ∈ rs, r.length ≤ 1000) ∧ (Aok m is cs rs → ∀ F' H' ia ca ra as', GrB x F H F' H' → H' x = some (.ins A.C_Automaton dx (auF m ia ca ra)) → SqT K F' ia (iv is) → SqT K F' ca (iv cs) → SqT K F' ra (rv as') → Rows2 K F' false as' rs → Q .non H') ∧ (¬ Aok m is cs rs → ∀ H', Same H H' → E (.ref A.C_InvalidAutomaton) none H'))
abbrev sp__law_draws (K : PySem.W.Frag) (A : Ads) : Sp := cp_draws K
abbrev sp__law_take (K : PySem.W.Frag) (A : Ads) : Sp := cp_take K
abbrev sp__law_is_integer (K : PySem.W.Frag) (A : Ads) : Sp := cp_is_integer K
abbrev sp__law_integers (K : PySem.W.Frag) (A : Ads) : Sp := cp_integers K
def sp__law_ascending (K : PySem.W.Frag) (A : Ads) : Sp := fun vs H Q E => ∃ (F : Hp) (p : Addr) (ds : List Int) (l s : Int), vs = [.ref p, .int l, .int s] ∧ (Same F H ∧ F p = none ∧ H p = some (.lst (iv ds)) ∧ Dok ds ∧ 0 ≤ l ∧ l ≤ 1000 ∧ ∀ H' ds' a ns, Dok ds' → asc l (-1) ns = true → St ⟨F, del H p⟩ F H' [(p, .lst (iv ds')), (a, .lst (iv ns))] → Q (.ref a) H')
def sp__law_automaton (K : PySem.W.Frag) (A : Ads) : Sp := fun vs H Q E => ∃ (F : Hp) (p : Addr) (ds : List Int) (m mo : Int), vs = [.ref p, .int m, .int mo] ∧ (Same F H ∧ F p = none ∧ H p = some (.lst (iv ds)) ∧ Dok ds ∧ 1 ≤ m ∧ m ≤ 10 ∧ 1 ≤ mo ∧ mo ≤ 10 ∧ ∀ F' H' ds' t a b c as bss is cs rs, Dok ds' → Aok m is cs rs → (rs.length : Int) ≤ mo → as.length = bss.length → F' a = some (.lst (iv is)) → F' b = some (.lst (iv cs)) → Leaf K F' bss rs → St ⟨F, del H p⟩ F' H' ((p, .lst (iv ds')) :: (t, .tup [.ref a, .ref b, .ref c]) :: (c, .lst (rv as)) :: rowV as (bss.map rv)) → Q (.ref t) H')
def sp__law_copy (K : PySem.W.Frag) (A : Ads) : Sp := fun vs H Q E => ∃ (F : Hp) (a : Addr) (as : List Addr) (rs : List (List (List Int))), vs = [.ref a] ∧ (Same F H ∧ SqL K H a (rv as) ∧ Rows2 K H true as rs ∧ rs.length ≤ 1000 ∧ (∀ r ∈ rs, r.length ≤ 1000) ∧ ∀ F' H' t as' bss, as'.length = bss.length → Leaf K F' bss rs → St ⟨F, H⟩ F' H' ((t, .lst (rv as')) :: rowV as' (bss.map rv)) → Q (.ref t) H')
def sp__law_states (K : PySem.W.Frag) (A : Ads) : Sp := fun vs H Q E => ∃ (a : Addr) (ns : List Int) (c : Int), vs = [.ref a, .int c] ∧ (SqT K H a (iv ns) ∧ ns.length ≤ 1000 ∧ asc c (-1) ns = true ∧ Q (.bl true) H)
def sp__law_is_automaton (K : PySem.W.Frag) (A : Ads) : Sp := fun vs H Q E => ∃ (x : Addr) (m : Int) (is cs : List Int) (rs : List (List (List Int))), vs = [.ref x, .int m] ∧ (AuAt K A.C_Automaton H x m is cs rs ∧ Aok m is cs rs ∧ rs.length ≤ 1000 ∧ (∀ r ∈ rs, r.length ≤ 1000) ∧ is.length ≤ 1000 ∧ cs.length ≤ 1000 ∧ Q (.bl true) H)
def sp__law_spoil_list (K : PySem.W.Frag) (A : Ads) : Sp := fun vs H Q E => ∃ (F : Hp) (p a : Addr) (ds ns : List Int) (c : Int), vs = [.ref p, .ref a, .int c] ∧ (Same F H ∧ F p = none ∧ H p = some (.lst (iv ds)) ∧ Dok ds ∧ SqL K F a (iv ns) ∧ ns.length ≤ 1000 ∧ asc c (-1) ns = true ∧ 0 ≤ c ∧ ∀ F' H' ds' b ns', Dok ds' → ns'.length ≤ 2000 → asc c (-1) ns' = false → F' b = some (.lst (iv ns')) → St ⟨F, del H p⟩ F' H' [(p, .lst (iv ds'))] → Q (.ref b) H')
def sp__law_outcome (K : PySem.W.Frag) (A : Ads) : Sp := fun vs H Q E => ∃ (F : Hp) (a b c : Addr) (as : List Addr) (m : Int) (is cs : List Int) (rs : List (List (List Int))), vs = [.int m, .ref a, .ref b, .ref c] ∧ (Same F H ∧ SqL K H a (iv is) ∧ SqL K H b (iv cs) ∧ SqL K H c (rv as) ∧ Rows2 K H true as rs ∧ rs.length ≤ 1000 ∧ (∀ r ∈ rs, r.length ≤ 1000) ∧ (Aok m is cs rs → ∀ F' H' y, Gr F H F' H' → AuAt K A.C_Automaton F' y m is cs rs → Q (.ref y) H') ∧ (¬ Aok m is cs rs → ∀ H', Same H H' → Q .non H'))
abbrev sp_law (K : PySem.W.Frag) (A : Ads) : Sp := spL K
def t_ascends (K : PySem.W.Frag) (A : Ads) (E : XK) : TS := (tSeq (tAsg (tUn rNegI (tC (.int (1)))) (gName 2))
 (tSeq (tFor (iSeq K (tVar 0)) (gName 3) (tSeq (tIfS (tOr (tTest (tOp rLeI (tVar 3) (tVar 2))) (tTest (tOp rGeI (tVar 3) (tVar 1)))) (tRet (tC (.bl false))) tNext)
 (tAsg (tVar 3) (gName 2))))
 (tRet (tC (.bl true)))))
def t_Automaton_init (K : PySem.W.Frag) (A : Ads) (E : XK) : TS := (tSeq (tIfS (tOr (tTest (tOp rLtI (tVar 1) (tC (.int (1))))) (tTest (tOp rEq (tCB (rLen K) (tCons (tVar 4) tNil)) (tC (.int (0)))))) (tRs A.C_InvalidAutomaton E) tNext)
 (tSeq (tIfS (tOr (tNot (tB (tCall (sp_ascends K A) [] E0 (tCons (tVar 2) (tCons (tCB (rLen K) (tCons (tVar 4) tNil)) tNil))))) (tNot (tB (tCall (sp_ascends K A) [] E0 (tCons (tVar 3) (tCons (tCB (rLen K) (tCons (tVar 4) tNil)) tNil)))))) (tRs A.C_InvalidAutomaton E) tNext)
 (tSeq (tFor (iSeq K (tVar 4)) (gName 5) (tSeq (tIfS (tTest (tOp rNe (tCB (rLen K) (tCons (tVar 5) tNil)) (tVar 1))) (tRs A.C_InvalidAutomaton E) tNext)
 (tIfS (tNot (tB (tCB (rAll K) (tCons (tLc (iSeq K (tVar 5)) (gName 6) tYes (tCall (sp_ascends K A) [] E0 (tCons (tVar 6) (tCons (tCB (rLen K) (tCons (tVar 4) tNil)) tNil))) [6]) tNil)))) (tRs A.C_InvalidAutomaton E) tNext)))
 (tSeq (sFld K (tVar 0) (tVar 1) "letters")
 (tSeq (sFld K (tVar 0) (tCB (rTupOf K) (tCons (tVar 2) tNil)) "initial")
 (tSeq (sFld K (tVar 0) (tCB (rTupOf K) (tCons (tVar 3) tNil)) "accepting")
 (sFld K (tVar 0) (tCB (rTupOf K) (tCons (tLc (iSeq K (tVar 4)) (gName 5) tYes (tCB (rTupOf K) (tCons (tLc (iSeq K (tVar 5)) (gName 6) tYes (tCB (rTupOf K) (tCons (tVar 6) tNil)) [6]) tNil)) [5]) tNil)) "rows")))))))
def t__law_draws (K : PySem.W.Frag) (A : Ads) (E : XK) : TS := (tSeq (tAsg (tCB (rListOf K) (tCons (tVar 0) tNil)) (gName 2))
 (tSeq (tIfS (tTest (tOp rEq (tCB (rLen K) (tCons (tVar 2) tNil)) (tC (.int (0))))) (tAsg (tLst (tCons (tC (.int (7))) tNil)) (gName 2)) tNext)
 (tSeq (tAsg (tLst tNil) (gName 3))
 (tSeq (tAsg (tC (.int (12345))) (gName 4))
 (tSeq (tFor (iRng1 (tCons (tVar 1) tNil)) (gName 5) (tSeq (tAsg (tOp rModI (tVar 5) (tCB (rLen K) (tCons (tVar 2) tNil))) (gName 6))
 (tSeq (tAsg (tOp (rIxL K) (tVar 2) (tVar 6)) (gName 7))
 (tSeq (tAsg (tOp rModI (tCB rInt1 (tCons (tOp rAddI (tOp rAddI (tOp rAddI (tOp rMulI (tVar 4) (tC (.int (48271)))) (tOp rMulI (tOp rModI (tCB rInt1 (tCons (tVar 7) tNil)) (tC (.int (1000003)))) (tC (.int (69621))))) (tOp rMulI (tVar 5) (tC (.int (7919))))) (tC (.int (11)))) tNil)) (tC (.int (2147483647)))) (gName 4))
 (tSeq (tAsg (tOp rModI (tCB rInt1 (tCons (tOp rAddI (tOp rAddI (tOp rMulI (tVar 4) (tVar 4)) (tOp rMulI (tC (.int (31))) (tVar 4))) (tVar 5)) tNil)) (tC (.int (1000003)))) (gName 8))
 (tIfS (tTest (tOp rGeI (tVar 7) (tOp rPowI (tC (.int (10))) (tC (.int (18)))))) (tSeq (tDrop (tBM K "list" rAppend (tVar 3) (tCons (tOp rModI (tCB rInt1 (tCons (tVar 7) tNil)) (tC (.int (1000)))) tNil)))
 (tAsg (tOp rDivI (tVar 7) (tC (.int (1000)))) (gSub (tVar 2) (tVar 6) rSetL))) (tDrop (tBM K "list" rAppend (tVar 3) (tCons (tOp rModI (tCB rInt1 (tCons (tVar 8) tNil)) (tC (.int (1000)))) tNil)))))))))
 (tSeq (tDrop (tBM0 K "list" rReverse (tVar 3)))
 (tRet (tVar 3))))))))
def t__law_take (K : PySem.W.Frag) (A : Ads) (E : XK) : TS := (tSeq (tIfS (tTest (tOp rEq (tCB (rLen K) (tCons (tVar 0) tNil)) (tC (.int (0))))) (tRet (tC (.int (0)))) tNext)
 (tRet (tOp rModI (tCB rInt1 (tCons (tBM0 K "list" rPop (tVar 0)) tNil)) (tVar 1))))
def t__law_is_integer (K : PySem.W.Frag) (A : Ads) (E : XK) : TS := (tRet (tAndV (tCB (rIsi K) (tCons (tVar 0) (tCons (tC (.ty "int")) tNil))) (tNotV (tCB (rIsi K) (tCons (tVar 0) (tCons (tC (.ty "bool")) tNil))))))
def t__law_integers (K : PySem.W.Frag) (A : Ads) (E : XK) : TS := (tSeq (tIfS (tNot (tB (tCB (rIsi K) (tCons (tVar 0) (tCons (tC (.ty "tuple")) tNil))))) (tRet (tC (.bl false))) tNext)
 (tSeq (tFor (iTup K (tVar 0)) (gName 3) (tIfS (tOr (tNot (tB (tCall (sp__law_is_integer K A) [] E0 (tCons (tVar 3) tNil)))) (tOr (tTest (tOp rLtI (tVar 3) (tVar 1))) (tTest (tOp rGeI (tVar 3) (tVar 2))))) (tRet (tC (.bl false))) tNext))
 (tRet (tC (.bl true)))))
def t__law_ascending (K : PySem.W.Frag) (A : Ads) (E : XK) : TS := (tRet (tLc (iRng1 (tCons (tVar 1) tNil)) (gName 3) (tTest (tOp rLtI (tCall (sp__law_take K A) [] E0 (tCons (tVar 0) (tCons (tC (.int (10))) tNil))) (tVar 2))) (tVar 3) [3]))
def t__law_automaton_5 (K : PySem.W.Frag) (A : Ads) (E : XK) : TS := (tSeq (tAsg (tLst tNil) (gName 7))
 (tSeq (tFor (iRng1 (tCons (tVar 3) tNil)) (gName 8) (tDrop (tBM K "list" rAppend (tVar 7) (tCons (tLc (iRng1 (tCons (tVar 1) tNil)) (gName 9) tYes (tCall (sp__law_ascending K A) [] E0 (tCons (tVar 0) (tCons (tVar 3) (tCons (tVar 4) tNil)))) [9]) tNil))))
 (tRet (tTup (tCons (tVar 5) (tCons (tVar 6) (tCons (tVar 7) tNil)))))))
def t__law_automaton (K : PySem.W.Frag) (A : Ads) (E : XK) : TS := (tSeq (tAsg (tOp rAddI (tC (.int (1))) (tCall (sp__law_take K A) [] E0 (tCons (tVar 0) (tCons (tVar 2) tNil)))) (gName 3))
 (tSeq (tAsg (tOp rAddI (tC (.int (2))) (tCall (sp__law_take K A) [] E0 (tCons (tVar 0) (tCons (tC (.int (4))) tNil)))) (gName 4))
 (tSeq (tAsg (tCall (sp__law_ascending K A) [] E0 (tCons (tVar 0) (tCons (tVar 3) (tCons (tC (.int (5))) tNil)))) (gName 5))
 (tSeq (tAsg (tCall (sp__law_ascending K A) [] E0 (tCons (tVar 0) (tCons (tVar 3) (tCons (tC (.int (5))) tNil)))) (gName 6))
 (tSeq (tIfS (tAnd (tTest (tOp rEq (tCB (rLen K) (tCons (tVar 5) tNil)) (tC (.int (0))))) (tTest (tOp rGtI (tCall (sp__law_take K A) [] E0 (tCons (tVar 0) (tCons (tC (.int (4))) tNil))) (tC (.int (0)))))) (tAsg (tLst (tCons (tC (.int (0))) tNil)) (gName 5)) tNext)
 (t__law_automaton_5 K A E))))))
def t__law_copy (K : PySem.W.Frag) (A : Ads) (E : XK) : TS := (tRet (tLc (iList K (tVar 0)) (gName 1) tYes (tLc (iList K (tVar 1)) (gName 2) tYes (tCB (rListOf K) (tCons (tVar 2) tNil)) [2]) [1]))
def t__law_states (K : PySem.W.Frag) (A : Ads) (E : XK) : TS := (tSeq (tIfS (tNot (tB (tCall (sp__law_integers K A) [] E0 (tCons (tVar 0) (tCons (tC (.int (0))) (tCons (tVar 1) tNil)))))) (tRet (tC (.bl false))) tNext)
 (tSeq (tFor (iRng2 (tCons (tC (.int (1))) (tCons (tCB (rLen K) (tCons (tVar 0) tNil)) tNil))) (gName 2) (tIfS (tTest (tOp rGeI (tOp (rIxT K) (tVar 0) (tOp rSubI (tVar 2) (tC (.int (1))))) (tOp (rIxT K) (tVar 0) (tVar 2)))) (tRet (tC (.bl false))) tNext))
 (tRet (tC (.bl true)))))
def t__law_is_automaton (K : PySem.W.Frag) (A : Ads) (E : XK) : TS := (tSeq (tIfS (tOr (tNot (tB (tCall (sp__law_is_integer K A) [] E0 (tCons (tFld K (tVar 0) "letters") tNil)))) (tTest (tOp rNe (tFld K (tVar 0) "letters") (tVar 1)))) (tRet (tC (.bl false))) tNext)
 (tSeq (tIfS (tOr (tNot (tB (tCB (rIsi K) (tCons (tFld K (tVar 0) "rows") (tCons (tC (.ty "tuple")) tNil))))) (tTest (tOp rEq (tCB (rLen K) (tCons (tFld K (tVar 0) "rows") tNil)) (tC (.int (0)))))) (tRet (tC (.bl false))) tNext)
 (tSeq (tAsg (tCB (rLen K) (tCons (tFld K (tVar 0) "rows") tNil)) (gName 2))
 (tSeq (tIfS (tOr (tNot (tB (tCall (sp__law_states K A) [] E0 (tCons (tFld K (tVar 0) "initial") (tCons (tVar 2) tNil))))) (tNot (tB (tCall (sp__law_states K A) [] E0 (tCons (tFld K (tVar 0) "accepting") (tCons (tVar 2) tNil)))))) (tRet (tC (.bl false))) tNext)
 (tSeq (tFor (iTup K (tFld K (tVar 0) "rows")) (gName 3) (tSeq (tIfS (tOr (tNot (tB (tCB (rIsi K) (tCons (tVar 3) (tCons (tC (.ty "tuple")) tNil))))) (tTest (tOp rNe (tCB (rLen K) (tCons (tVar 3) tNil)) (tVar 1)))) (tRet (tC (.bl false))) tNext)
 (tFor (iTup K (tVar 3)) (gName 4) (tIfS (tNot (tB (tCall (sp__law_states K A) [] E0 (tCons (tVar 4) (tCons (tVar 2) tNil))))) (tRet (tC (.bl false))) tNext))))
 (tRet (tC (.bl true))))))))
def t__law_spoil_list_4 (K : PySem.W.Frag) (A : Ads) (E : XK) : TS := (tSeq (tIfS (tTest (tOp rGtI (tCB (rLen K) (tCons (tVar 1) tNil)) (tC (.int (1))))) (tSeq (tAsg (tCall (sp__law_take K A) [] E0 (tCons (tVar 0) (tCons (tOp rSubI (tCB (rLen K) (tCons (tVar 1) tNil)) (tC (.int (1)))) tNil))) (gName 4))
 (tRet (tOp rCat (tOp rCat (tCB (rListOf K) (tCons (tSl (rSlL K) (tVar 1) tNoPart (tPart (tVar 4))) tNil)) (tLst (tCons (tOp (rIxL K) (tVar 1) (tOp rAddI (tVar 4) (tC (.int (1))))) (tCons (tOp (rIxL K) (tVar 1) (tVar 4)) tNil)))) (tCB (rListOf K) (tCons (tSl (rSlL K) (tVar 1) (tPart (tOp rAddI (tVar 4) (tC (.int (2))))) tNoPart) tNil))))) tNext)
 (tRet (tOp rCat (tCB (rListOf K) (tCons (tVar 1) tNil)) (tLst (tCons (tVar 2) tNil)))))
def t__law_spoil_list (K : PySem.W.Frag) (A : Ads) (E : XK) : TS := (tSeq (tAsg (tCall (sp__law_take K A) [] E0 (tCons (tVar 0) (tCons (tC (.int (4))) tNil))) (gName 3))
 (tSeq (tIfS (tTest (tOp rEq (tVar 3) (tC (.int (0))))) (tRet (tOp rCat (tCB (rListOf K) (tCons (tVar 1) tNil)) (tLst (tCons (tOp rAddI (tVar 2) (tCall (sp__law_take K A) [] E0 (tCons (tVar 0) (tCons (tC (.int (3))) tNil)))) tNil)))) tNext)
 (tSeq (tIfS (tTest (tOp rEq (tVar 3) (tC (.int (1))))) (tRet (tOp rCat (tLst (tCons (tOp rSubI (tUn rNegI (tC (.int (1)))) (tCall (sp__law_take K A) [] E0 (tCons (tVar 0) (tCons (tC (.int (2))) tNil)))) tNil)) (tCB (rListOf K) (tCons (tVar 1) tNil)))) tNext)
 (tSeq (tIfS (tAnd (tTest (tOp rEq (tVar 3) (tC (.int (2))))) (tTest (tOp rGtI (tCB (rLen K) (tCons (tVar 1) tNil)) (tC (.int (0)))))) (tSeq (tAsg (tCall (sp__law_take K A) [] E0 (tCons (tVar 0) (tCons (tCB (rLen K) (tCons (tVar 1) tNil)) tNil))) (gName 4))
 (tRet (tOp rCat (tCB (rListOf K) (tCons (tSl (rSlL K) (tVar 1) tNoPart (tPart (tOp rAddI (tVar 4) (tC (.int (1)))))) tNil)) (tCB (rListOf K) (tCons (tSl (rSlL K) (tVar 1) (tPart (tVar 4)) tNoPart) tNil))))) tNext)
 (t__law_spoil_list_4 K A E)))))
def t__law_outcome (K : PySem.W.Frag) (A : Ads) (E : XK) : TS := (tSeq (fun D σ H => (fun W : WX => (tRet (tMake A.C_Automaton (sp_Automaton_init K A) [] (wAllN 5 W) (tCons (tVar 0) (tCons (tVar 1) (tCons (tVar 2) (tCons (tVar 3) tNil))))))) (wAs K (.ref A.C_InvalidAutomaton) 4 (fun a cls d => (tIfS (tB (tCB (rIsE' K a cls d) (tCons (tVar 4) (tCons (tC (.ref A.C_SynthError)) tNil)))) (tRet (tC .non)) tNext)) (fun _ _ _ _ => False) D) D σ H)
 (tRet (tC (.int (0)))))
def t_law_19 (K : PySem.W.Frag) (A : Ads) (E : XK) : TS := (tSeq (tDrop (tBM K "list" rAppend (tOp (rIxL K) (tVar 10) (tC (.int (0)))) (tCons (tC (.int (0))) tNil)))
 (tSeq (tDrop (tBM K "list" rAppend (tOp (rIxL K) (tVar 10) (tC (.int (1)))) (tCons (tC (.int (0))) tNil)))
 (tSeq (tAsg (tOp (rIxL K) (tOp (rIxL K) (tVar 10) (tC (.int (2)))) (tVar 8)) (gName 12))
 (tSeq (tAsg (tLst (tCons (tC (.int (0))) (tCons (tC (.int (0))) tNil))) (gSub (tVar 12) (tVar 9) rSetL))
 (tSeq (tAsg (tOp (rIxL K) (tVar 10) (tC (.int (2)))) (gName 13))
 (tSeq (tDrop (tBM K "list" rAppend (tVar 13) (tCons (tLst tNil) tNil)))
 (tSeq (tAsg (tLc (iTup K (tFld K (tVar 11) "rows")) (gName 12) tYes (tLc (iTup K (tVar 12)) (gName 14) tYes (tCB (rListOf K) (tCons (tVar 14) tNil)) [14]) [12]) (gName 15))
 (tRet (tAndV (tOp (rEqD K) (tCB (rListOf K) (tCons (tFld K (tVar 11) "initial") tNil)) (tVar 3)) (tAndV (tOp (rEqD K) (tCB (rListOf K) (tCons (tFld K (tVar 11) "accepting") tNil)) (tVar 4)) (tOp (rEqD K) (tVar 15) (tVar 5))))))))))))
def t_law_14 (K : PySem.W.Frag) (A : Ads) (E : XK) : TS := (tSeq (tAsg (tLst (tCons (tCB (rListOf K) (tCons (tVar 3) tNil)) (tCons (tCB (rListOf K) (tCons (tVar 4) tNil)) (tCons (tCall (sp__law_copy K A) [] E0 (tCons (tVar 5) tNil)) tNil)))) (gName 10))
 (tSeq (tAsg (tCall (sp__law_outcome K A) [] E0 (tCons (tVar 2) (tCons (tOp (rIxL K) (tVar 10) (tC (.int (0)))) (tCons (tOp (rIxL K) (tVar 10) (tC (.int (1)))) (tCons (tOp (rIxL K) (tVar 10) (tC (.int (2)))) tNil))))) (gName 11))
 (tSeq (tIfS (tTest (tOp (rNeD K) (tVar 10) (tLst (tCons (tVar 3) (tCons (tVar 4) (tCons (tVar 5) tNil)))))) (tRet (tC (.bl false))) tNext)
 (tSeq (tIfS (tTest (tOp rLtI (tVar 7) (tC (.int (7))))) (tRet (tOp rIsNone (tVar 11) (tC .non))) tNext)
 (tSeq (tIfS (tOr (tNot (tB (tCB (rIsi K) (tCons (tVar 11) (tCons (tC (.ref A.C_Automaton)) tNil))))) (tNot (tB (tCall (sp__law_is_automaton K A) [] E0 (tCons (tVar 11) (tCons (tVar 2) tNil)))))) (tRet (tC (.bl false))) tNext)
 (t_law_19 K A E))))))
def t_law (K : PySem.W.Frag) (A : Ads) (E : XK) : TS := (tSeq (tAsg (tCall (sp__law_draws K A) [] E0 (tCons (tVar 0) (tCons (tC (.int (150))) tNil))) (gName 1))
 (tSeq (tAsg (tOp rAddI (tC (.int (1))) (tCall (sp__law_take K A) [] E0 (tCons (tVar 1) (tCons (tC (.int (3))) tNil)))) (gName 2))
 (tSeq (tAsg (tCall (sp__law_automaton K A) [] E0 (tCons (tVar 1) (tCons (tVar 2) (tCons (tC (.int (4))) tNil)))) (gTup K 3 (gCons (gName 3) (gCons (gName 4) (gCons (gName 5) gNil)))))
 (tSeq (tAsg (tCB (rLen K) (tCons (tVar 5) tNil)) (gName 6))
 (tSeq (tAsg (tCall (sp__law_take K A) [] E0 (tCons (tVar 1) (tCons (tC (.int (14))) tNil))) (gName 7))
 (tSeq (tAsg (tCall (sp__law_take K A) [] E0 (tCons (tVar 1) (tCons (tVar 6) tNil))) (gName 8))
 (tSeq (tAsg (tCall (sp__law_take K A) [] E0 (tCons (tVar 1) (tCons (tVar 2) tNil))) (gName 9))
 (tSeq (tIfS (tTest (tOp rEq (tVar 7) (tC (.int (0))))) (tAsg (tOp (rIxL K) (tLst (tCons (tC (.int (0))) (tCons (tUn rNegI (tC (.int (1)))) tNil))) (tCall (sp__law_take K A) [] E0 (tCons (tVar 1) (tCons (tC (.int (2))) tNil)))) (gName 2)) tNext)
 (tSeq (tIfS (tTest (tOp rEq (tVar 7) (tC (.int (1))))) (tSeq (tAsg (tLst tNil) (gName 5))
 (tSeq (tAsg (tLst tNil) (gName 3))
 (tAsg (tLst tNil) (gName 4)))) tNext)
 (tSeq (tIfS (tTest (tOp rEq (tVar 7) (tC (.int (2))))) (tAsg (tCall (sp__law_spoil_list K A) [] E0 (tCons (tVar 1) (tCons (tVar 3) (tCons (tVar 6) tNil)))) (gName 3)) tNext)
 (tSeq (tIfS (tTest (tOp rEq (tVar 7) (tC (.int (3))))) (tAsg (tCall (sp__law_spoil_list K A) [] E0 (tCons (tVar 1) (tCons (tVar 4) (tCons (tVar 6) tNil)))) (gName 4)) tNext)
 (tSeq (tIfS (tTest (tOp rEq (tVar 7) (tC (.int (4))))) (tAsg (tCall (sp__law_spoil_list K A) [] E0 (tCons (tVar 1) (tCons (tOp (rIxL K) (tOp (rIxL K) (tVar 5) (tVar 8)) (tVar 9)) (tCons (tVar 6) tNil)))) (gSub (tOp (rIxL K) (tVar 5) (tVar 8)) (tVar 9) rSetL)) tNext)
 (tSeq (tIfS (tTest (tOp rEq (tVar 7) (tC (.int (5))))) (tAsg (tOp rCat (tOp (rIxL K) (tVar 5) (tVar 8)) (tLst (tCons (tLst tNil) tNil))) (gSub (tVar 5) (tVar 8) rSetL)) tNext)
 (tSeq (tIfS (tTest (tOp rEq (tVar 7) (tC (.int (6))))) (tAsg (tSl (rSlL K) (tOp (rIxL K) (tVar 5) (tVar 8)) tNoPart (tPart (tOp rSubI (tVar 2) (tC (.int (1)))))) (gSub (tVar 5) (tVar 8) rSetL)) tNext)
 (t_law_14 K A E)))))))))))))))

section

set_option hygiene false
local macro_rules | `(tactic| walk_at "m") => `(tactic| first | exact List.Mem.head _ | (refine List.Mem.tail _ ?_; walk_at "m"))
local macro_rules | `(tactic| walk_at "u") => `(tactic| first | exact Upd.head | (apply Upd.tail; walk_at "u"))
local macro_rules | `(tactic| walk_at "tk") => `(tactic| first | exact Tak.head | (apply Tak.tail; walk_at "tk"))
local macro_rules | `(tactic| walk_at "l") => `(tactic| first | assumption | exact lS (St.fh (by assumption)) (by assumption) | exact SqL.of (St.get (by assumption) (by walk_at "m")))
local macro_rules | `(tactic| walk_at "t") => `(tactic| first | assumption | exact tS (St.fh (by assumption)) (by assumption) | exact SqT.of (St.get (by assumption) (by walk_at "m")))
local macro_rules | `(tactic| walk_at "lt") => `(tactic| first | exact .inl (by walk_at "l") | exact .inr (by walk_at "t"))
local macro_rules | `(tactic| walk_at "sz") => `(tactic| first | (show _ ≤ sizeLine; decide) | exact sz (by simp) | exact szl (by simp) | exact sz (by omega) | exact szl (by omega) | exact sz (by simp; omega) | exact szl (by simp; omega))
local macro_rules | `(tactic| walk_at "c") => `(tactic| first | assumption | decide | omega)
local macro_rules | `(tactic| walk_at "g1") => `(tactic| with_reducible first
  | refine w_seq ?_ | refine w_asg ?_ | refine w_c ?_ | refine w_op ?_
  | refine r_I0 ?_ | refine w_test ?_ | refine r_b ?_ | refine w_if ?_ | refine w_cons ?_ | refine w_nil ?_
  | refine w_ret ?_ | refine w_drop ?_ | refine w_cb ?_ | refine w_call ?_ | refine w_next ?_ | refine w_tup ?_ | refine w_lst ?_ | refine w_bm ?_ | refine w_bm0 ?_
  | refine w_and ?_ | refine w_or ?_ | refine w_not ?_ | refine w_andV ?_ | refine w_orV ?_ | refine w_notV ?_ | refine w_tB ?_ | refine w_un ?_ | refine r_U ?_
  | refine w_for ?_ | refine w_iL ?_ | refine w_iT ?_ | refine w_i1 ?_ | refine w_i2 ?_ | refine w_sl ?_ | refine w_part ?_ | refine w_nopart ?_ | refine r_part ?_
  | refine r_eqI ?_ | refine r_neI ?_ | refine r_eqS ?_ | refine r_neS ?_ | refine r_eqB ?_ | refine r_neB ?_ | refine r_ifT ?_ | refine r_ifF ?_ | refine r_ifNt ?_ | refine r_ifNf ?_ | refine r_ifRN ?_ | refine r_ifNRN ?_ | refine r_ifNN ?_ | refine r_ifNNN ?_
  | refine w_ifE ?_ | refine r_int1 ?_ | refine r_int1b ?_ | refine r_isnone ?_ | refine r_notnone ?_ | refine r_max2 ?_ | refine r_min2 ?_ | refine r_ipI ?_ | refine w_tru ?_ | refine w_rs ?_
  | refine w_retN ?_ | refine w_break ?_ | refine w_cont ?_ | refine w_callS ?_ | refine w_asgG ?_ | refine w_gsub ?_ | refine w_fld ?_ | refine w_sfld ?_ | refine w_mk ?_ | refine w_lc ?_ | refine w_iSq ?_ | refine u_isint ?_ | refine w_dnew ?_ | refine w_dnotin ?_ | refine w_din ?_ | refine w_dget ?_ | refine w_dput ?_ | refine w_ckw ?_)
local macro_rules | `(tactic| walk_at "g2") => `(tactic| first
  | ((with_reducible refine' w_var ?hv ?_); (case hv => rfl)) | ((with_reducible refine' w_aug ?hv ?_); (case hv => rfl))
  | ((with_reducible show rLen _ _ _ _); refine r_len (by walk_at "lt") ?_)
  | (with_reducible refine r_I ?cnd ?_; (case cnd => first | decide | omega | assumption | (unfold CPow; decide)))
  | ((with_reducible show RTy _ _ _ _ _); refine r_tyL (by walk_at "l") ?_)
  | (with_reducible refine r_ifDT (by walk_at "c") ?_) | (with_reducible refine r_ifDF (by walk_at "c") ?_)
  | (with_reducible refine r_ifNT (by walk_at "c") ?_) | (with_reducible refine r_ifNF (by walk_at "c") ?_))
local macro_rules | `(tactic| walk_at "go") => `(tactic| repeat (first | walk_at "g1" | walk_at "g2"))

variable {vs : List V} {H : Hp} {Q : VK} {E : XK} {K : PySem.W.Frag} {A : Ads}
theorem p__law_draws (T : Cl K A) (h : sp__law_draws K A vs H Q E) : t__law_draws K A E (D0 Q) (start ["script", "count", "cells", "found", "mixed", "k", "j", "cell", "again"] vs) H := cv_draws (E := E) h
theorem p__law_take (T : Cl K A) (h : sp__law_take K A vs H Q E) : t__law_take K A E (D0 Q) (start ["draws", "limit"] vs) H := cv_take (E := E) h
theorem p__law_is_integer (T : Cl K A) (h : sp__law_is_integer K A vs H Q E) : t__law_is_integer K A E (D0 Q) (start ["actual"] vs) H := cv_is_integer (E := E) h
theorem p__law_integers (T : Cl K A) (h : sp__law_integers K A vs H Q E) : t__law_integers K A E (D0 Q) (start ["actual", "low", "high", "item"] vs) H := cv_integers (E := E) h
theorem p_ascends (T : Cl K A) (h : sp_ascends K A vs H Q E) : t_ascends K A E (D0 Q) (start ["numbers", "count", "before", "number"] vs) H := by
  obtain ⟨k, a, ns, c, rfl, ha, q⟩ := h
  unfold t_ascends
  show tSeq _ _ (D0 Q) [some (.ref a), some (.int c), none, none] H
  unfold D0
  walk_at "go"
  refine r_isq ha ?_
  refine r_forB (xs := iv ns) (fun i σ H' => H' = H ∧ ∃ (b : Int) (v : Option V), σ = [some (.ref a), some (.int c), some (.int b), v] ∧ asc c (-1) ns = asc c b (ns.drop i)) ⟨rfl, -1, _, rfl, rfl⟩ (fun _ _ _ _ h => h.1 ▸ ha) ?_ ?_
  · rintro i x σ H' hi ⟨rfl, b, v, rfl, e⟩
    obtain ⟨z, hz, rfl⟩ := iv_get hi
    rw [drop_cons hz, asc] at e
    walk_at "go"
    refine r_ifD (fun h => ?_) (fun h => ?_)
    · walk_at "go"
      rw [show asc c (-1) ns = false from by rw [e, decide_eq_false (show ¬ b < z by omega)]; rfl] at q
      exact q
    · walk_at "go"
      refine r_ifD (fun h2 => ?_) (fun h2 => ?_)
      · walk_at "go"
        rw [show asc c (-1) ns = false from by rw [e, decide_eq_false (show ¬ z < c by omega), Bool.and_false]; rfl] at q
        exact q
      · walk_at "go"
        exact ⟨rfl, z, _, rfl, by rw [e, decide_eq_true (show b < z by omega), decide_eq_true (show z < c by omega)]; rfl⟩
  · rintro σ H' ⟨rfl, b, v, rfl, e⟩
    walk_at "go"
    rw [iv_len, List.drop_length] at e
    rw [show asc c (-1) ns = true from e] at q
    exact q
theorem p_Automaton_init (T : Cl K A) (h : sp_Automaton_init K A vs H Q E) : t_Automaton_init K A E (D0 Q) (start ["self", "letters", "initial", "accepting", "rows", "row", "entry"] vs) H := by
  obtain ⟨F, x, dx, a, b, c, as, m, is, cs, rs, rfl, sF, fx, hx, ha0, hb0, hc0, hr0, lr, ll, k1, k2⟩ := h
  have G := St.init1 sF hx fx
  have ha := ha0.del hx
  have hb := hb0.del hx
  have hc := hc0.del hx
  have hr := hr0.del hx
  have al := hr.len
  unfold t_Automaton_init
  show tSeq _ _ (D0 Q) [some (.ref x), some (.int m), some (.ref a), some (.ref b), some (.ref c), none, none] H
  unfold D0
  have bad : ∀ {F1 H1 : Hp} {L1 : Led}, St ⟨F, del H x⟩ F1 H1 L1 → (x, HO.ins A.C_Automaton dx []) ∈ L1 → ¬ Aok m is cs rs → E (.ref A.C_InvalidAutomaton) none H1 := fun G1 m1 np => k2 np _ (G1.same1 m1 hx)
  walk_at "go"
  refine r_ifD (fun h1 => ?_) (fun h1 => ?_)
  · walk_at "go"
    exact bad G (by walk_at "m") fun p => by have := p.m1; omega
  walk_at "go"
  refine r_len (hc0.or sF) ?_
  rw [rv_len, al]
  walk_at "go"
  refine r_ifD (fun h2 => ?_) (fun h2 => ?_)
  · walk_at "go"
    exact bad G (by walk_at "m") fun p => by have := p.ne; omega
  walk_at "go"
  refine r_len (hc0.or sF) ?_
  rw [rv_len, al]
  walk_at "go"
  obtain ⟨ka, hka⟩ := ha0.bb sF
  refine ⟨ka, a, is, rs.length, rfl, hka, ?_⟩
  walk_at "go"
  refine r_if (fun h3 => ?_) (fun h3 => ?_)
  · walk_at "go"
    exact bad G (by walk_at "m") fun p => by rw [p.ai] at h3; cases h3
  walk_at "go"
  refine r_len (hc0.or sF) ?_
  rw [rv_len, al]
  walk_at "go"
  obtain ⟨kb, hkb⟩ := hb0.bb sF
  refine ⟨kb, b, cs, rs.length, rfl, hkb, ?_⟩
  walk_at "go"
  refine r_if (fun h4 => ?_) (fun h4 => ?_)
  · walk_at "go"
    exact bad G (by walk_at "m") fun p => by rw [p.ac] at h4; cases h4
  walk_at "go"
  obtain ⟨kc, hkc⟩ := hc.bs
  refine r_isq (hkc _ G.bh G.fh) ?_
  refine r_forB (xs := rv as) (fun i σ H' => (∃ v, σ = [some (.ref x), some (.int m), some (.ref a), some (.ref b), some (.ref c), v, none]) ∧ St ⟨F, del H x⟩ F H' [(x, .ins A.C_Automaton dx [])] ∧ ∀ r ∈ rs.take i, (r.length : Int) = m ∧ ∀ y ∈ r, asc rs.length (-1) y = true)
    ⟨⟨_, rfl⟩, G, fun _ h => by simp at h⟩ (fun _ _ _ _ h => hkc _ h.2.1.bh h.2.1.fh) ?_ ?_
  · rintro i y σ H' hi ⟨⟨v, rfl⟩, G1, hok⟩
    obtain ⟨ra, hi1, rfl⟩ := rv_get hi
    obtain ⟨bs, r0, hr1, hs, hlf⟩ := hr.at hi1
    have hm : r0 ∈ rs := List.mem_of_getElem? hr1
    have hl0 := ll r0 hm
    walk_at "go"
    refine r_len ((hs.mono G1.ff G1.bh).or G1.fh) ?_
    rw [rv_len, hlf.len]
    walk_at "go"
    refine r_ifN (fun h7 => ?_) (fun h7 => ?_)
    · walk_at "go"
      exact bad G1 (by walk_at "m") fun p => h7 (p.rr r0 hm).1
    walk_at "go"
    obtain ⟨kr, hkr⟩ := hs.bs
    refine r_isq (hkr _ G1.bh G1.fh) ?_
    refine r_lcB (xs := rv bs) G1 (fun D j H'' => St ⟨F, del H x⟩ F H'' ((D, .lst (((r0.take j).map (asc rs.length (-1))).map V.bl)) :: [(x, .ins A.C_Automaton dx [])])) (fun D H'' G' => G') (fun D j H'' _ h => hkr _ h.bh h.fh) ?_ ?_
    · rintro D j y H'' hj G2
      obtain ⟨e1, he1, rfl⟩ := rv_get hj
      obtain ⟨ns, hn1, hsx⟩ := hlf.at he1
      walk_at "go"
      refine r_len ((hc.mono G2.ff G2.bh).or G2.fh) ?_
      rw [rv_len, al]
      walk_at "go"
      obtain ⟨ke, hke⟩ := hsx.bs
      refine ⟨ke, e1, ns, rs.length, rfl, hke _ G2.bh G2.fh, ?_⟩
      refine r_app G2 Upd.head (szl (by simp only [List.length_map, List.length_take]; omega)) fun H3 G3 => ?_
      rw [take_snoc hn1, List.map_append, List.map_append]
      exact G3
    rintro D H'' G2
    rw [rv_len, hlf.len, List.take_length] at G2
    walk_at "go"
    refine r_all (bs := r0.map (asc rs.length (-1))) (SqL.of (G2.get List.mem_cons_self)) ?_
    have G3 := G2.drop Tak.head
    walk_at "go"
    refine r_if (fun h8 => ?_) (fun h8 => ?_)
    · walk_at "go"
      refine bad G3 (by walk_at "m") fun p => ?_
      have : (r0.map (asc rs.length (-1))).all id = true := by
        rw [List.all_map, List.all_eq_true]
        exact fun y hy => (p.rr r0 hm).2 y hy
      rw [this] at h8; cases h8
    walk_at "go"
    refine ⟨⟨_, rfl⟩, G3, fun r hr' => ?_⟩
    rw [take_snoc hr1] at hr'
    rcases List.mem_append.mp hr' with q | q
    · exact hok r q
    · rw [List.mem_singleton.mp q]
      refine ⟨h7, fun z hz => ?_⟩
      have : (r0.map (asc rs.length (-1))).all id = true := by simpa using h8
      rw [List.all_map, List.all_eq_true] at this
      exact this z hz
  rintro σ H1 ⟨⟨v, rfl⟩, G1, hok⟩
  rw [rv_len, al, List.take_length] at hok
  have OK : Aok m is cs rs := ⟨by omega, by omega, by simpa using h3, by simpa using h4, hok⟩
  walk_at "go"
  refine r_sfld G1 T.cl_Automaton T.na_Automaton_letters (fs' := [("letters", .int m)]) (by walk_at "u") rfl (by show 0 < 1000; decide) fun H2 G2 => ?_
  walk_at "go"
  refine r_tupX G2 (ha.mono G2.ff G2.bh) fun F3 H3 ia s3 _ hia G3 => ?_
  walk_at "go"
  refine r_sfld G3 T.cl_Automaton T.na_Automaton_initial (fs' := [("letters", .int m), ("initial", .ref ia)]) (by walk_at "u") rfl (by show 1 < 1000; decide) fun H4 G4 => ?_
  walk_at "go"
  refine r_tupX G4 (hb.mono G4.ff G4.bh) fun F5 H5 ca s5 _ hca G5 => ?_
  walk_at "go"
  refine r_sfld G5 T.cl_Automaton T.na_Automaton_accepting (fs' := [("letters", .int m), ("initial", .ref ia), ("accepting", .ref ca)]) (by walk_at "u") rfl (by show 2 < 1000; decide) fun H6 G6 => ?_
  walk_at "go"
  walk_at "go"
  refine r_isq (hkc _ G6.bh (G6.ff.trans G6.fh)) ?_
  refine r_lcB (xs := rv as) G6 (fun D i H' => ∃ F' as', Same F5 F' ∧ St ⟨F, del H x⟩ F' H' ((D, .lst (rv as')) :: [(x, .ins A.C_Automaton dx [("letters", .int m), ("initial", .ref ia), ("accepting", .ref ca)])]) ∧ Rows2 K F' false as' (rs.take i) ∧ as'.length ≤ i) (fun D H' G' => ⟨F5, [], Same.refl _, G', .nil, Nat.le_refl _⟩)
    (fun D i H' _ h => by obtain ⟨F', as', _, G', _, _⟩ := h; exact hkc _ G'.bh (G'.ff.trans G'.fh)) ?_ ?_
  · rintro D i y H' hi ⟨F', as', sF', G7, hR, hla⟩
    obtain ⟨ra, hi1, rfl⟩ := rv_get hi
    obtain ⟨bs, r0, hr1, hs, hlf⟩ := hr.at hi1
    have hi2 : i < rs.length := (List.getElem?_eq_some_iff.mp hr1).1
    have hl0 := ll r0 (List.mem_of_getElem? hr1)
    walk_at "go"
    obtain ⟨kr, hkr⟩ := hs.bs
    refine r_isq (hkr _ G7.bh (G7.ff.trans G7.fh)) ?_
    refine r_lcB (xs := rv bs) G7 (fun D2 j H2 => ∃ F2 ts, Same F' F2 ∧ St ⟨F, del H x⟩ F2 H2 ((D2, .lst (rv ts)) :: (D, .lst (rv as')) :: [(x, .ins A.C_Automaton dx [("letters", .int m), ("initial", .ref ia), ("accepting", .ref ca)])]) ∧ Rows K F2 false ts (r0.take j) ∧ ts.length ≤ j) (fun D2 H2 G' => ⟨F', [], Same.refl _, G', .nil, Nat.le_refl _⟩)
      (fun D2 j H2 _ h => by obtain ⟨F2, ts, _, G', _, _⟩ := h; exact hkr _ G'.bh (G'.ff.trans G'.fh)) ?_ ?_
    · rintro D2 j y H2 hj ⟨F2, ts, s2, G8, hR2, hlt⟩
      obtain ⟨e1, he1, rfl⟩ := rv_get hj
      obtain ⟨ns, hn1, hsx⟩ := hlf.at he1
      have hj2 : j < r0.length := (List.getElem?_eq_some_iff.mp hn1).1
      walk_at "go"
      refine r_tupX G8 (hsx.mono G8.ff G8.bh) fun F9 H9 t s9 _ ht G9 => ?_
      refine r_app G9 Upd.head (szl (by rw [rv_len]; omega)) fun H10 G10 => ?_
      refine ⟨F9, ts ++ [t], s2.trans s9, ?_, ?_, by simp; omega⟩
      · rw [show rv (ts ++ [t]) = rv ts ++ [V.ref t] from by simp]; exact G10
      · rw [take_snoc hn1]; exact (hR2.mono s9).snoc (show SqB K F9 t (iv ns) false from ht)
    rintro D2 H2 ⟨F2, ts, s2, G8, hR2, hlt⟩
    rw [rv_len, hlf.len, List.take_length] at hR2
    walk_at "go"
    refine r_tupofL G8 (by walk_at "l") fun rt H9 G9 => ?_
    obtain ⟨F10, s10, hrt, G10⟩ := G9.frz Tak.head
    have G11 := G10.drop Tak.head
    refine r_app G11 Upd.head (szl (by rw [rv_len]; omega)) fun H12 G12 => ?_
    refine ⟨F10, as' ++ [rt], (sF'.trans s2).trans s10, ?_, ?_, by simp; omega⟩
    · rw [show rv (as' ++ [rt]) = rv as' ++ [V.ref rt] from by simp]; exact G12
    · rw [take_snoc hr1]; exact (hR.mono (s2.trans s10)).snoc (show SqT K F10 rt (rv ts) from SqT.of hrt) (hR2.mono s10)
  rintro D H6' ⟨F', as', sF', G7, hR, hla⟩
  rw [rv_len, al, List.take_length] at hR
  walk_at "go"
  refine r_tupofL G7 (by walk_at "l") fun ra H8 G8 => ?_
  walk_at "go"
  refine r_sfld G8 T.cl_Automaton T.na_Automaton_rows (fs' := auF m ia ca ra) (by walk_at "u") rfl (by show 3 < 1000; decide) fun H9 G9 => ?_
  obtain ⟨F2, s2, hra, G10⟩ := G9.frz Tak.head
  exact k1 OK F2 H9 ia ca ra as' (G10.grB (by walk_at "m")) (G10.get (by walk_at "m")) (tS (s5.trans (sF'.trans s2)) hia) (tS (sF'.trans s2) hca) (SqT.of hra) (hR.mono s2)
theorem p__law_ascending (T : Cl K A) (h : sp__law_ascending K A vs H Q E) : t__law_ascending K A E (D0 Q) (start ["draws", "limit", "share", "k"] vs) H := by
  obtain ⟨F, p, ds, l, s, rfl, sF, fp, hp, hd, l0, l1, k⟩ := h
  have G := St.init1 sF hp fp
  unfold t__law_ascending
  show tRet _ (D0 Q) [some (.ref p), some (.int l), some (.int s), none] H
  unfold D0
  walk_at "go"
  walk_at "go"
  refine r_i1 (by omega) ?_
  refine r_lcRT G (fun D i H' => ∃ ds' ns, Dok ds' ∧ asc (i : Int) (-1) ns = true ∧ ns.length ≤ i ∧ St ⟨F, del H p⟩ F H' [(D, .lst (iv ns)), (p, .lst (iv ds'))]) (fun D H' G' => ⟨ds, [], hd, rfl, Nat.le_refl _, G'⟩) ?_ ?_
  · rintro D i H' hi ⟨ds', ns, hd', ha, hl, G1⟩
    have e1 : ((i + 1 : Nat) : Int) = (i : Int) + 1 := by omega
    walk_at "go"
    refine u_take G1 (fun _ => .tail .head) hd' (by decide) fun z d2 H2 z0 z1 hd2 G2 => ?_
    walk_at "go"
    refine r_ifD (fun h => ?_) (fun h => ?_)
    · walk_at "go"
      refine r_app G2 Upd.head (szl (by rw [iv_len]; omega)) fun H3 G3 => ?_
      rw [iv_snoc, Int.zero_add] at G3
      exact ⟨d2, ns ++ [(i : Int)], hd2, by rw [e1]; exact asc_snoc ha (by omega), by simp; omega, G3⟩
    · exact ⟨d2, ns, hd2, asc_mono ha (by omega), by omega, G2⟩
  · rintro D H' ⟨ds', ns, hd', ha, hl, G1⟩
    have e1 : ((l.toNat : Nat) : Int) = l := by omega
    rw [e1] at ha
    exact k H' ds' D ns hd' ha (G1.front (by walk_at "tk"))
theorem automaton_tail (T : Cl K A) {F F5 H5 : Hp} {p a b : Addr} {ds : List Int} {m mo n sh : Int} {is cs : List Int} (G : St ⟨F, del H p⟩ F5 H5 [(p, .lst (iv ds))]) (hd : Dok ds) (fa : F5 a = some (.lst (iv is))) (fb : F5 b = some (.lst (iv cs)))
    (n1 : 1 ≤ n) (n2 : n ≤ mo) (o10 : mo ≤ 10) (m1 : 1 ≤ m) (m10 : m ≤ 10) (hai : asc n (-1) is = true) (hac : asc n (-1) cs = true)
    (k : ∀ F' H' ds' t a b c as bss is cs rs, Dok ds' → Aok m is cs rs → (rs.length : Int) ≤ mo → as.length = bss.length → F' a = some (.lst (iv is)) → F' b = some (.lst (iv cs)) → Leaf K F' bss rs → St ⟨F, del H p⟩ F' H' ((p, .lst (iv ds')) :: (t, .tup [.ref a, .ref b, .ref c]) :: (c, .lst (rv as)) :: rowV as (bss.map rv)) → Q (.ref t) H') :
    t__law_automaton_5 K A E (D0 Q) [some (.ref p), some (.int m), some (.int mo), some (.int n), some (.int sh), some (.ref a), some (.ref b), none, none, none] H5 := by
  unfold t__law_automaton_5 D0
  walk_at "go"
  refine r_lst G (by walk_at "sz") fun c H6 G6 => ?_
  walk_at "go"
  refine r_i1 (by omega) ?_
  refine r_forR (fun i σ H' => ∃ F' ds' as bss rs v w, σ = [some (.ref p), some (.int m), some (.int mo), some (.int n), some (.int sh), some (.ref a), some (.ref b), some (.ref c), v, w] ∧ Same F5 F' ∧ Dok ds' ∧ as.length = i ∧ as.length = bss.length ∧ Leaf K F' bss rs ∧ (∀ r ∈ rs, (r.length : Int) = m ∧ ∀ x ∈ r, asc n (-1) x = true) ∧
      St ⟨F, del H p⟩ F' H' ((p, .lst (iv ds')) :: (c, .lst (rv as)) :: rowV as (bss.map rv))) ⟨F5, ds, [], [], [], none, none, rfl, Same.refl _, hd, rfl, rfl, .nil, (fun _ h => nomatch h), G6.front (a := p) (by walk_at "tk")⟩ ?_ ?_
  · rintro i σ H' hi ⟨F', ds', as, bss, rs, v, w, rfl, sF, hd', hal, hab, hL, hrs, G7⟩
    walk_at "go"
    refine r_i1 (by omega) ?_
    refine r_lcR G7 (fun D j H'' => ∃ F'' ds'' ts r, Same F' F'' ∧ Dok ds'' ∧ ts.length = j ∧ Rows K F'' true ts r ∧ (∀ x ∈ r, asc n (-1) x = true) ∧ St ⟨F, del H p⟩ F'' H'' ((D, .lst (rv ts)) :: (p, .lst (iv ds'')) :: (c, .lst (rv as)) :: rowV as (bss.map rv))) (fun D H' G' => ⟨F', ds', [], [], Same.refl _, hd', rfl, .nil, (fun _ h => nomatch h), G'⟩) ?_ ?_
    · rintro D j H'' hj ⟨F'', ds'', ts, r, s2, hd2, htl, hR, hra, G8⟩
      walk_at "go"
      refine ⟨F'', p, ds'', n, sh, rfl, G8.fh, (G8.own (p, .lst (iv ds'')) (by walk_at "m")).2.1, G8.get (by walk_at "m"), hd2, by omega, by omega, fun H3 d3 e ns hd3 hns w3 => ?_⟩
      have G9 := G8.joinB (.tail .head) w3
      obtain ⟨F3, s3, fe, G10⟩ := G9.frz Tak.head
      refine r_app G10 Upd.head (szl (by rw [rv_len]; omega)) fun H4 G11 => ?_
      refine ⟨F3, d3, ts ++ [e], r ++ [ns], s2.trans s3, hd3, by simp [htl], (hR.mono s3).snoc (show SqL K F3 e (iv ns) from SqL.of fe), fun x hx => ?_, ?_⟩
      · rcases List.mem_append.mp hx with q | q
        · exact hra x q
        · rw [List.mem_singleton.mp q]; exact hns
      · rw [show rv (ts ++ [e]) = rv ts ++ [V.ref e] from by simp]; exact G11
    rintro D H'' ⟨F'', ds'', ts, r, s2, hd2, htl, hR, hra, G8⟩
    walk_at "go"
    refine r_append G8 (.tail (.tail .head)) (szl (by rw [rv_len]; omega)) fun H9 G9 => ?_
    refine ⟨F'', ds'', as ++ [D], bss ++ [ts], rs ++ [r], _, _, rfl, sF.trans s2, hd2, by simp [hal], by simp [hab], (hL.mono s2).snoc hR, fun x hx => ?_, ?_⟩
    · rcases List.mem_append.mp hx with q | q
      · exact hrs x q
      · rw [List.mem_singleton.mp q]
        have := hR.len
        exact ⟨by omega, hra⟩
    · rw [List.map_append, show [ts].map rv = [rv ts] from rfl, rowV_snoc (by rw [List.length_map]; exact hab), show rv (as ++ [D]) = rv as ++ [V.ref D] from by simp]
      exact G9.toEnd
  rintro σ H' ⟨F', ds', as, bss, rs, v, w, rfl, sF, hd', hal, hab, hL, hrs, G7⟩
  walk_at "go"
  refine r_tup G7 (by walk_at "sz") fun t H8 G8 => ?_
  have e1 := hL.len
  have e2 : (rs.length : Int) = n := by omega
  refine k F' H8 ds' t a b c as bss is cs rs hd' ⟨m1, by omega, by rw [e2]; exact hai, by rw [e2]; exact hac, fun r hr => ?_⟩ (by omega) hab (sF _ _ fa) (sF _ _ fb) hL (G8.front (a := p) (by walk_at "tk"))
  rw [e2]
  exact hrs r hr
theorem p__law_automaton (T : Cl K A) (h : sp__law_automaton K A vs H Q E) : t__law_automaton K A E (D0 Q) (start ["draws", "letters", "most", "count", "share", "initial", "accepting", "rows", "state", "letter"] vs) H := by
  obtain ⟨F, p, ds, m, mo, rfl, sF, fp, hp, hd, m1, m10, o1, o10, k⟩ := h
  have G := St.init1 sF hp fp
  unfold t__law_automaton
  show tSeq _ _ (D0 Q) [some (.ref p), some (.int m), some (.int mo), none, none, none, none, none, none, none] H
  unfold D0
  walk_at "go"
  refine u_take G (fun _ => Upd.head) hd (by omega) fun i1 d1 H1 i10 i11 hd1 G1 => ?_
  walk_at "go"
  refine u_take G1 (fun _ => Upd.head) hd1 (by decide) fun i2 d2 H2 i20 i21 hd2 G2 => ?_
  walk_at "go"
  refine ⟨F, p, d2, 1 + i1, 5, rfl, G2.fh, (G2.own _ (by walk_at "m")).2.1, G2.get (by walk_at "m"), hd2, by omega, by omega, fun H3 d3 a is hd3 hai w3 => ?_⟩
  obtain ⟨F3, s3, fa, G3⟩ := (G2.joinB Upd.head w3).frz Tak.head
  walk_at "go"
  refine ⟨F3, p, d3, 1 + i1, 5, rfl, G3.fh, (G3.own _ (by walk_at "m")).2.1, G3.get (by walk_at "m"), hd3, by omega, by omega, fun H4 d4 b cs hd4 hac w4 => ?_⟩
  obtain ⟨F4, s4, fb, G4⟩ := (G3.joinB Upd.head w4).frz Tak.head
  walk_at "go"
  refine r_len (.inl (SqL.of (G4.fh _ _ (s4 _ _ fa)))) ?_
  rw [iv_len]
  walk_at "go"
  refine r_ifD (fun h => ?_) (fun h => ?_)
  · walk_at "go"
    refine u_take G4 (fun _ => Upd.head) hd4 (by decide) fun i5 d5 H5 i50 i51 hd5 G5 => ?_
    walk_at "go"
    refine r_ifD (fun h2 => ?_) (fun h2 => ?_)
    · walk_at "go"
      refine r_lst G5 (by walk_at "sz") fun a2 H6 G6 => ?_
      obtain ⟨F6, s6, fa2, G7⟩ := G6.frz Tak.head
      exact automaton_tail T G7 hd5 (is := [0]) fa2 (s6 _ _ fb) (by omega) (by omega) o10 m1 m10 (show asc (1 + i1) (-1) [0] = true from asc_iff.mpr ⟨fun x hx => by rw [List.mem_singleton.mp hx]; omega, List.pairwise_singleton _ _⟩) hac k
    · walk_at "go"
      exact automaton_tail T G5 hd5 (s4 _ _ fa) fb (by omega) (by omega) o10 m1 m10 hai hac k
  · walk_at "go"
    exact automaton_tail T G4 hd4 (s4 _ _ fa) fb (by omega) (by omega) o10 m1 m10 hai hac k
theorem p__law_copy (T : Cl K A) (h : sp__law_copy K A vs H Q E) : t__law_copy K A E (D0 Q) (start ["rows", "row", "entry"] vs) H := by
  obtain ⟨F, a, as, rs, rfl, sF, ha, hr, lr, ll, k⟩ := h
  have G := St.init sF
  have al := hr.len
  unfold t__law_copy
  show tRet _ (D0 Q) [some (.ref a), none, none] H
  unfold D0
  walk_at "go"
  walk_at "go"
  refine r_il ha ?_
  refine r_lcB (k := true) (xs := rv as) G (fun D i H' => ∃ F' bs bss, bs.length = i ∧ bs.length = bss.length ∧ Leaf K F' bss (rs.take i) ∧ St ⟨F, H⟩ F' H' ((D, .lst (rv bs)) :: rowV bs (bss.map rv))) (fun D H' G' => ⟨F, [], [], rfl, rfl, .nil, G'⟩) (fun D i H' _ h => by obtain ⟨F', bs, bss, _, _, _, G'⟩ := h; exact lS G'.bh ha) ?_ ?_
  · rintro D i y H' hi ⟨F', bs, bss, hbl, hbb, hL, G1⟩
    obtain ⟨ra, hi1, rfl⟩ := rv_get hi
    obtain ⟨es, r0, hr1, hs, hR⟩ := hr.at hi1
    have hi2 : i < rs.length := (List.getElem?_eq_some_iff.mp hr1).1
    have hl0 := ll r0 (List.mem_of_getElem? hr1)
    have hs' : SqL K H ra (rv es) := hs
    walk_at "go"
    refine r_il (lS G1.bh hs') ?_
    refine r_lcB (k := true) (xs := rv es) G1 (fun D2 j H2 => ∃ F2 ts, Same F' F2 ∧ St ⟨F, H⟩ F2 H2 ((D2, .lst (rv ts)) :: (D, .lst (rv bs)) :: rowV bs (bss.map rv)) ∧ Rows K F2 true ts (r0.take j) ∧ ts.length = j) (fun D2 H2 G' => ⟨F', [], Same.refl _, G', .nil, rfl⟩)
      (fun D2 j H2 _ h => by obtain ⟨F2, ts, _, G', _, _⟩ := h; exact lS G'.bh hs') ?_ ?_
    · rintro D2 j y H2 hj ⟨F2, ts, s2, G8, hR2, hlt⟩
      obtain ⟨e1, he1, rfl⟩ := rv_get hj
      obtain ⟨ns, hn1, hsx⟩ := hR.at he1
      have hj2 : j < r0.length := (List.getElem?_eq_some_iff.mp hn1).1
      walk_at "go"
      refine r_listof G8 (.inl (lS G8.bh hsx)) fun t H9 G9 => ?_
      obtain ⟨F10, s10, ft, G10⟩ := G9.frz Tak.head
      refine r_app G10 Upd.head (szl (by rw [rv_len]; omega)) fun H11 G11 => ?_
      refine ⟨F10, ts ++ [t], s2.trans s10, ?_, ?_, by simp; omega⟩
      · rw [show rv (ts ++ [t]) = rv ts ++ [V.ref t] from by simp]; exact G11
      · rw [take_snoc hn1]; exact (hR2.mono s10).snoc (show SqL K F10 t (iv ns) from SqL.of ft)
    rintro D2 H2 ⟨F2, ts, s2, G8, hR2, hlt⟩
    rw [rv_len, hR.len, List.take_length] at hR2
    refine r_app G8 (.tail .head) (szl (by rw [rv_len]; omega)) fun H3 G3 => ?_
    refine ⟨F2, bs ++ [D2], bss ++ [ts], by simp [hbl], by simp [hbb], ?_, ?_⟩
    · rw [take_snoc hr1]; exact (hL.mono s2).snoc hR2
    · rw [List.map_append, show [ts].map rv = [rv ts] from rfl, rowV_snoc (by rw [List.length_map]; exact hbb), show rv (bs ++ [D2]) = rv bs ++ [V.ref D2] from by simp]
      exact G3.toEnd
  rintro D H' ⟨F', bs, bss, hbl, hbb, hL, G1⟩
  rw [rv_len, al, List.take_length] at hL
  exact k F' H' D bs bss hbb hL G1
theorem p__law_states (T : Cl K A) (h : sp__law_states K A vs H Q E) : t__law_states K A E (D0 Q) (start ["actual", "count", "k"] vs) H := by
  obtain ⟨a, ns, c, rfl, ha, hl, hasc, q⟩ := h
  obtain ⟨h1, h2⟩ := asc_iff.mp hasc
  unfold t__law_states
  show tSeq _ _ (D0 Q) [some (.ref a), some (.int c), none] H
  unfold D0
  walk_at "go"
  refine ⟨a, ns, 0, c, rfl, ha, fun _ => ?_, fun w => absurd (fun z hz => by have := h1 z hz; omega) w⟩
  walk_at "go"
  rw [iv_len]
  refine r_i2 (by omega) ?_
  refine r_forR (fun i σ H' => H' = H ∧ ∃ v, σ = [some (.ref a), some (.int c), v]) ⟨rfl, _, rfl⟩ ?_ ?_
  · rintro i σ H' hi ⟨rfl, v, rfl⟩
    walk_at "go"
    refine r_ixT ha (atI_iv (by omega) (by omega)) ?_
    walk_at "go"
    refine r_ixT ha (atI_iv (by omega) (by omega)) ?_
    walk_at "go"
    have e1 : (1 + (i : Int) - 1).toNat = i := by omega
    have e2 : (1 + (i : Int)).toNat = i + 1 := by omega
    have := asc_get h2 (i := i) (j := i + 1) (by omega) (by omega)
    rw [e1, e2]
    refine r_ifDF (by omega) ?_
    walk_at "go"
    exact ⟨rfl, _, rfl⟩
  · rintro σ H' ⟨rfl, v, rfl⟩
    walk_at "go"
    exact q
theorem p__law_is_automaton (T : Cl K A) (h : sp__law_is_automaton K A vs H Q E) : t__law_is_automaton K A E (D0 Q) (start ["actual", "letters", "count", "row", "entry"] vs) H := by
  obtain ⟨x, m, is, cs, rs, rfl, hP, OK, lr, ll, li, lc, q⟩ := h
  obtain ⟨dx, ia, ca, ra, as, h1, h2, h3, h4, h5⟩ := hP.ex
  have al := h5.len
  obtain ⟨o1, o2, o3, o4, o5⟩ := OK
  unfold t__law_is_automaton
  show tSeq _ _ (D0 Q) [some (.ref x), some (.int m), none, none, none] H
  unfold D0
  walk_at "go"
  refine r_fld h1 T.cl_Automaton T.na_Automaton_letters la_letters ?_
  walk_at "go"
  refine r_fld h1 T.cl_Automaton T.na_Automaton_letters la_letters ?_
  walk_at "go"
  refine r_fld h1 T.cl_Automaton T.na_Automaton_rows la_rows ?_
  walk_at "go"
  refine r_isiT h4 ?_
  walk_at "go"
  refine r_fld h1 T.cl_Automaton T.na_Automaton_rows la_rows ?_
  walk_at "go"
  rw [rv_len, al]
  walk_at "go"
  refine r_fld h1 T.cl_Automaton T.na_Automaton_rows la_rows ?_
  walk_at "go"
  rw [rv_len, al]
  refine r_fld h1 T.cl_Automaton T.na_Automaton_initial la_initial ?_
  walk_at "go"
  refine ⟨ia, is, rs.length, rfl, h2, li, o3, ?_⟩
  walk_at "go"
  refine r_fld h1 T.cl_Automaton T.na_Automaton_accepting la_accepting ?_
  walk_at "go"
  refine ⟨ca, cs, rs.length, rfl, h3, lc, o4, ?_⟩
  walk_at "go"
  refine r_fld h1 T.cl_Automaton T.na_Automaton_rows la_rows ?_
  refine r_it h4 ?_
  refine r_forT (xs := rv as) (fun i σ H' => H' = H ∧ (∃ v w, σ = [some (.ref x), some (.int m), some (.int rs.length), v, w])) ⟨rfl, ⟨_, _, rfl⟩⟩ (fun _ _ _ _ h => h.1 ▸ h4) ?_ ?_
  · rintro i y σ H' hi ⟨rfl, ⟨v, w, rfl⟩⟩
    obtain ⟨e, he, rfl⟩ := rv_get hi
    obtain ⟨bs, r0, hn1, hn2, hn3⟩ := h5.at he
    obtain ⟨q1, q2⟩ := o5 r0 (List.mem_of_getElem? hn1)
    have hl0 := ll r0 (List.mem_of_getElem? hn1)
    have hn4 : SqT K H' e (rv bs) := hn2
    have bl := hn3.len
    walk_at "go"
    refine r_isiT hn4 ?_
    walk_at "go"
    rw [rv_len, bl]
    walk_at "go"
    refine r_it hn4 ?_
    refine r_forT (xs := rv bs) (fun j σ H'' => H'' = H' ∧ (∃ w, σ = [some (.ref x), some (.int m), some (.int rs.length), some (.ref e), w])) ⟨rfl, ⟨_, rfl⟩⟩ (fun _ _ _ _ h => h.1 ▸ hn4) ?_ ?_
    · rintro j y σ H'' hj ⟨rfl, ⟨w, rfl⟩⟩
      obtain ⟨f, hf, rfl⟩ := rv_get hj
      obtain ⟨ns, hf1, hf2⟩ := hn3.at hf
      have hA := q2 ns (List.mem_of_getElem? hf1)
      have hf3 : SqT K H'' f (iv ns) := hf2
      walk_at "go"
      refine ⟨f, ns, rs.length, rfl, hf3, by have := asc_len hA (by omega); omega, hA, ?_⟩
      walk_at "go"
      exact ⟨rfl, ⟨_, rfl⟩⟩
    · rintro σ H'' ⟨rfl, ⟨w, rfl⟩⟩
      exact ⟨rfl, ⟨_, _, rfl⟩⟩
  rintro σ H' ⟨rfl, ⟨v, w, rfl⟩⟩
  walk_at "go"
  exact q
theorem p__law_outcome (T : Cl K A) (h : sp__law_outcome K A vs H Q E) : t__law_outcome K A E (D0 Q) (start ["letters", "initial", "accepting", "rows", "e"] vs) H := by
  obtain ⟨F, a, b, c, as, m, is, cs, rs, rfl, sF, ha, hb, hc, hr, lr, ll, k1, k2⟩ := h
  have G := St.init sF
  unfold t__law_outcome
  show tSeq _ _ (D0 Q) [some (.int m), some (.ref a), some (.ref b), some (.ref c), none] H
  unfold D0
  refine w_seq ?_
  walk_at "go"
  refine r_mk G fun y dy H2 G2 => ?_
  refine ⟨F, y, dy, a, b, c, as, m, is, cs, rs, rfl, G2.fh, (G2.own _ (by walk_at "m")).2.1, G2.get (by walk_at "m"), .inl (lS G2.bh ha), .inl (lS G2.bh hb), .inl (lS G2.bh hc), (hr.mono G2.bh).toX, lr, ll, fun OK F' H' ia ca ra as' gb hy h1 h2 h3 h4 => ⟨rfl, ?_⟩, fun np H' e => ?_⟩
  · have G3 := G2.callB Upd.head gb hy
    obtain ⟨F3, s3, hy3, G4⟩ := G3.frz Tak.head
    walk_at "go"
    exact k1 OK F3 H' y G4.gr ⟨⟨dy, ia, ca, ra, as', hy3, tS s3 h1, tS s3 h2, tS s3 h3, h4.mono s3⟩⟩
  · intro σ hσ
    refine ⟨true, T.em_InvalidAutomaton_InvalidAutomaton, fun _ z hz => ?_, fun z => by cases z⟩
    refine w_if (w_tB (w_cb (w_cons (w_var (set_slot hσ (by decide)) (w_cons (w_c (w_nil ?_)))))))
    refine r_isE T.xc_InvalidAutomaton T.ki_InvalidAutomaton_SynthError ?_
    walk_at "go"
    exact k2 np H' (G2.bh.trans e)
/-- what the spoilt list is -/
theorem sp_no {c : Int} {ns : List Int} (h : asc c (-1) ns = true → False) : asc c (-1) ns = false := by
  cases e : asc c (-1) ns with
  | true => exact absurd e h
  | false => rfl
theorem p__law_spoil_list (T : Cl K A) (h : sp__law_spoil_list K A vs H Q E) : t__law_spoil_list K A E (D0 Q) (start ["draws", "states", "count", "kind", "at"] vs) H := by
  obtain ⟨F, p, a, ds, ns, c, rfl, sF, fp, hp, hd, ha, ln, hasc, c0, k⟩ := h
  obtain ⟨b1, b2⟩ := asc_iff.mp hasc
  have G := St.init1 sF hp fp
  unfold t__law_spoil_list
  show tSeq _ _ (D0 Q) [some (.ref p), some (.ref a), some (.int c), none, none] H
  unfold D0
  have fin : ∀ {F' H' : Hp} {L' : Led} {d : List Int} {b : Addr} {ns' : List Int}, St ⟨F, del H p⟩ F' H' ((b, .lst (iv ns')) :: (L' ++ [(p, .lst (iv d))])) → Dok d → ns'.length ≤ 2000 → asc c (-1) ns' = false → Q (.ref b) H' := by
    intro F' H' L' d b ns' G' hd' hl hn
    obtain ⟨F2, s2, fb, G2⟩ := G'.frz Tak.head
    exact k F2 H' d b ns' hd' hl hn fb G2.dropL
  walk_at "go"
  refine u_take G (fun _ => Upd.head) hd (by decide) fun kd d1 H1 k0 k4 hd1 G1 => ?_
  walk_at "go"
  refine r_ifD (fun h => ?_) (fun h0 => ?_)
  · subst h
    walk_at "go"
    refine r_listof G1 (.inl (lS G1.fh ha)) fun e1 H2 G2 => ?_
    walk_at "go"
    refine u_take G2 (fun _ => .tail .head) hd1 (by decide) fun j d2 H3 j0 j1 hd2 G3 => ?_
    walk_at "go"
    refine r_lst G3 (by walk_at "sz") fun e2 H4 G4 => ?_
    refine r_cat (xs := iv ns) (ys := [.int (c + j)]) G4 (by walk_at "m") (by walk_at "m") (sz (by rw [iv_len]; simp; omega)) fun e3 H5 G5 => ?_
    rw [iv_snoc] at G5
    refine fin (L' := [_, _]) G5 hd2 (by simp; omega) (sp_no fun z => ?_)
    have := (asc_iff.mp z).1 (c + j) (by simp)
    omega
  walk_at "go"
  refine r_ifD (fun h => ?_) (fun h1 => ?_)
  · subst h
    walk_at "go"
    refine u_take G1 (fun _ => .head) hd1 (by decide) fun j d2 H3 j0 j1 hd2 G3 => ?_
    walk_at "go"
    refine r_lst G3 (by walk_at "sz") fun e2 H4 G4 => ?_
    walk_at "go"
    refine r_listof G4 (.inl (lS G4.fh ha)) fun e1 H2 G2 => ?_
    refine r_cat (xs := [.int (-1 - j)]) (ys := iv ns) G2 (by walk_at "m") (by walk_at "m") (sz (by rw [iv_len]; simp; omega)) fun e3 H5 G5 => ?_
    rw [show [V.int (-1 - j)] ++ iv ns = iv ((-1 - j) :: ns) from by simp] at G5
    refine fin (L' := [_, _]) G5 hd2 (by simp; omega) (sp_no fun z => ?_)
    have := (asc_iff.mp z).1 (-1 - j) (by simp)
    omega
  walk_at "go"
  have K2 : ∀ {H' : Hp} {d : List Int}, St ⟨F, del H p⟩ F H' [(p, .lst (iv d))] → Dok d → t__law_spoil_list_4 K A E (D0 Q) [some (.ref p), some (.ref a), some (.int c), some (.int kd), none] H' := by
    intro H' d G hd
    unfold t__law_spoil_list_4 D0
    walk_at "go"
    rw [iv_len]
    walk_at "go"
    refine r_ifD (fun h => ?_) (fun h => ?_)
    · walk_at "go"
      rw [iv_len]
      walk_at "go"
      refine u_take G (fun _ => .head) hd (by omega) fun j d2 H3 j0 j1 hd2 G3 => ?_
      obtain ⟨t, rfl⟩ : ∃ t : Nat, j = t := ⟨j.toNat, by omega⟩
      walk_at "go"
      refine r_slL G3 (lS G3.fh ha) fun e1 H4 G4 => ?_
      rw [cut_to, ← List.map_take] at G4
      walk_at "go"
      refine r_listof G4 (by walk_at "lt") fun e2 H5 G5 => ?_
      walk_at "go"
      refine r_ixL (lS G5.fh ha) (atI_iv (by omega) (by omega)) ?_
      walk_at "go"
      refine r_ixL (lS G5.fh ha) (atI_iv (by omega) (by omega)) ?_
      walk_at "go"
      refine r_lst G5 (by walk_at "sz") fun e3 H6 G6 => ?_
      refine r_cat (xs := iv (ns.take t)) (ys := iv [_, _]) G6 (by walk_at "m") (by walk_at "m") (sz (by rw [iv_len]; simp; omega)) fun e4 H7 G7 => ?_
      rw [← List.map_append] at G7
      walk_at "go"
      refine r_slL G7 (lS G7.fh ha) fun e5 H8 G8 => ?_
      rw [show ((t : Int) + 2) = ((t + 2 : Nat) : Int) from by omega, cut_from, ← List.map_drop] at G8
      walk_at "go"
      refine r_listof G8 (by walk_at "lt") fun e6 H9 G9 => ?_
      refine r_cat (xs := iv (ns.take t ++ [_, _])) (ys := iv (ns.drop (t + 2))) G9 (by walk_at "m") (by walk_at "m") (sz (by rw [iv_len, iv_len]; simp; omega)) fun e7 H10 G10 => ?_
      rw [← List.map_append] at G10
      refine fin (L' := [_, _, _, _, _, _]) G10 hd2 (by simp; omega) (sp_no fun z => ?_)
      have q := (asc_iff.mp z).2
      rw [List.pairwise_append, List.pairwise_append] at q
      have q1 := q.1.2.1
      rw [List.pairwise_cons] at q1
      have q2 := q1.1 _ (List.mem_singleton.mpr rfl)
      have q3 := asc_get b2 (i := t) (j := t + 1) (by omega) (by omega)
      have e1 : ((t : Int) + 1).toNat = t + 1 := by omega
      have e2 : ((t : Int)).toNat = t := by omega
      rw [e1, e2] at q2
      omega
    · walk_at "go"
      refine r_listof G (.inl (lS G.fh ha)) fun e1 H2 G2 => ?_
      walk_at "go"
      refine r_lst G2 (by walk_at "sz") fun e2 H4 G4 => ?_
      refine r_cat (xs := iv ns) (ys := [.int c]) G4 (by walk_at "m") (by walk_at "m") (sz (by rw [iv_len]; simp; omega)) fun e3 H5 G5 => ?_
      rw [iv_snoc] at G5
      refine fin (L' := [_, _]) G5 hd (by simp; omega) (sp_no fun z => ?_)
      have := (asc_iff.mp z).1 c (by simp)
      omega
  refine r_ifD (fun h => ?_) (fun h2 => ?_)
  · subst h
    walk_at "go"
    rw [iv_len]
    walk_at "go"
    refine r_ifD (fun h => ?_) (fun h => ?_)
    · walk_at "go"
      rw [iv_len]
      walk_at "go"
      refine u_take G1 (fun _ => .head) hd1 (by omega) fun j d2 H3 j0 j1 hd2 G3 => ?_
      obtain ⟨t, rfl⟩ : ∃ t : Nat, j = t := ⟨j.toNat, by omega⟩
      walk_at "go"
      refine r_slL G3 (lS G3.fh ha) fun e1 H4 G4 => ?_
      rw [show ((t : Int) + 1) = ((t + 1 : Nat) : Int) from by omega, cut_to, ← List.map_take] at G4
      walk_at "go"
      refine r_listof G4 (by walk_at "lt") fun e2 H5 G5 => ?_
      walk_at "go"
      refine r_slL G5 (lS G5.fh ha) fun e3 H6 G6 => ?_
      rw [cut_from, ← List.map_drop] at G6
      walk_at "go"
      refine r_listof G6 (by walk_at "lt") fun e4 H7 G7 => ?_
      refine r_cat (xs := iv (ns.take (t + 1))) (ys := iv (ns.drop t)) G7 (by walk_at "m") (by walk_at "m") (sz (by rw [iv_len, iv_len]; simp; omega)) fun e5 H8 G8 => ?_
      rw [← List.map_append] at G8
      refine fin (L' := [_, _, _, _]) G8 hd2 (by simp; omega) (sp_no fun z => ?_)
      have q := (asc_iff.mp z).2
      rw [List.pairwise_append] at q
      have hx : ns[t]? = some (ns[t]'(by omega)) := List.getElem?_eq_getElem _
      have q2 := q.2.2 (ns[t]'(by omega)) (by rw [take_snoc hx]; exact List.mem_append_right _ (List.mem_singleton.mpr rfl)) (ns[t]'(by omega)) (by rw [drop_cons hx]; exact List.mem_cons_self)
      omega
    · walk_at "go"
      exact K2 G1 hd1
  · walk_at "go"
    exact K2 G1 hd1
/-- behind the question whether the passed lists are as they were -/
abbrev dL (is cs : List Int) (rs : List (List (List Int))) : PyData := .list [.list (dI is), .list (dI cs), .list (rs.map dRow2)]
theorem dL_dp {H' : Hp} {u a b c : Addr} {as : List Addr} {is cs : List Int} {rs : List (List (List Int))} (h : H' u = some (.lst [.ref a, .ref b, .ref c])) (h1 : SqL K H' a (iv is)) (h2 : SqL K H' b (iv cs)) (h3 : SqL K H' c (rv as)) (h4 : Rows2 K H' true as rs) : Dp K H' (.ref u) (dL is cs rs) :=
  .lst (SqL.of h) (.cons (dp_ints h1) (.cons (dp_ints h2) (.cons (.lst h3 h4.dp) .nil)))
theorem dR_sh {rs : List (List (List Int))} : Shp 3 (.list (rs.map dRow2)) := shp_list (shpa_map fun _ _ => shp_row2)
theorem dI_sh {is : List Int} : Shp 1 (.list (dI is)) := shp_list shpa_ints
theorem dL_sh {is cs : List Int} {rs : List (List (List Int))} : Shp 4 (dL is cs rs) := shp_list (shpa_cons (dI_sh.mono (by decide)) (shpa_cons (dI_sh.mono (by decide)) (shpa_cons dR_sh shpa_nil)))
theorem atI_rv {as : List Addr} {i : Int} {a : Addr} (h0 : 0 ≤ i) (h : as[i.toNat]? = some a) : atI (rv as) i = some (.ref a) := by
  have e : ((i.toNat : Nat) : Int) = i := by omega
  have q := atI_nat (xs := rv as) (j := i.toNat) (v := .ref a) (by rw [List.getElem?_map, h]; rfl)
  rw [e] at q
  exact q
theorem law_last (T : Cl K A) {H0 F H1 : Hp} {L : Led} {x0 v1 v6 v7 : V} {m j l : Int} {a b c y e p0 p1 t : Addr} {as as' : List Addr} {bss : List (List Addr)} {is cs : List Int} {rs : List (List (List Int))}
    (G : St ⟨H0, H0⟩ F H1 ((e, .lst [.ref p0, .ref p1, .ref t]) :: (p0, .lst (iv is)) :: (p1, .lst (iv cs)) :: (t, .lst (rv as')) :: (L ++ rowV as' (bss.map rv))))
    (ha : SqL K F a (iv is)) (hb : SqL K F b (iv cs)) (hc : SqL K F c (rv as)) (hr : Rows2 K F true as rs) (hP : AuAt K A.C_Automaton F y m is cs rs) (OK : Aok m is cs rs) (hab : as'.length = bss.length) (hL : Leaf K F bss rs)
    (lr : rs.length ≤ 1000) (ll : ∀ r ∈ rs, r.length ≤ 1000) (li : is.length ≤ 1000) (lc : cs.length ≤ 1000) (j0 : 0 ≤ j) (j1 : j < rs.length) (l0 : 0 ≤ l) (l1 : l < m) (k : ∀ H', Q (.bl true) H') :
    t_law_19 K A E (D0 Q) [some x0, some v1, some (.int m), some (.ref a), some (.ref b), some (.ref c), some v6, some v7, some (.int j), some (.int l), some (.ref e), some (.ref y), none, none, none, none] H1 := by
  obtain ⟨dx, ia, ca, ra, fs, h1, h2, h3, h4, h5⟩ := hP.ex
  have lL := hL.len
  have fl := h5.len
  unfold t_law_19 D0
  walk_at "go"
  refine r_ixL (by walk_at "l") (atI_nat (j := 0) rfl) ?_
  walk_at "go"
  refine r_append G (by walk_at "u") (szl (by rw [iv_len]; omega)) fun H2 G2 => ?_
  walk_at "go"
  refine r_ixL (by walk_at "l") (atI_nat (j := 1) rfl) ?_
  walk_at "go"
  refine r_append G2 (by walk_at "u") (szl (by rw [iv_len]; omega)) fun H3 G3 => ?_
  walk_at "go"
  refine r_ixL (by walk_at "l") (atI_nat (j := 2) rfl) ?_
  walk_at "go"
  obtain ⟨aj, haj⟩ : ∃ x, as'[j.toNat]? = some x := ⟨_, List.getElem?_eq_getElem (by omega)⟩
  obtain ⟨rj, hrj⟩ : ∃ x, rs[j.toNat]? = some x := ⟨_, List.getElem?_eq_getElem (by omega)⟩
  obtain ⟨bj, hbj, hRj⟩ := hL.at hrj
  have lj : (rj.length : Int) = m := (OK.rr rj (List.mem_of_getElem? hrj)).1
  have lbj := hRj.len
  refine r_ixL (xs := rv as') (by walk_at "l") (atI_rv j0 haj) ?_
  walk_at "go"
  refine r_lst G3 (by walk_at "sz") fun q H4 G4 => ?_
  walk_at "go"
  refine r_setL (xs := rv bj) G4 (ixN_of l0 (by rw [rv_len]; omega)) (.tail (.tail (.tail (.tail (.tail (Upd.app (rowV_upd haj (by rw [List.getElem?_map, hbj]; rfl)))))))) fun H5 G5 => ?_
  walk_at "go"
  refine r_ixL (by walk_at "l") (atI_nat (j := 2) rfl) ?_
  walk_at "go"
  refine r_lst G5 (by walk_at "sz") fun q2 H6 G6 => ?_
  walk_at "go"
  refine r_append G6 (by walk_at "u") (szl (by rw [rv_len]; omega)) fun H7 G7 => ?_
  walk_at "go"
  walk_at "go"
  refine r_fld (G7.fh _ _ h1) T.cl_Automaton T.na_Automaton_rows la_rows ?_
  refine r_it (tS G7.fh h4) ?_
  refine r_lcB (k := false) (xs := rv fs) G7 (fun D i H' => ∃ F' bs, Same F F' ∧ bs.length = i ∧ Rows2 K F' true bs (rs.take i) ∧ St ⟨H0, H0⟩ F' H' ((D, .lst (rv bs)) :: _)) (fun D H' G' => ⟨F, [], Same.refl _, rfl, .nil, G'⟩) (fun D i H' _ h => by obtain ⟨F', bs, s', _, _, G'⟩ := h; exact tS (s'.trans G'.fh) h4) ?_ ?_
  · rintro D i y H' hi ⟨F', bs, sF, hbl, hR2, G1⟩
    obtain ⟨ra, hi1, rfl⟩ := rv_get hi
    obtain ⟨es, r0, hr1, hs, hR⟩ := h5.at hi1
    have hi2 : i < rs.length := (List.getElem?_eq_some_iff.mp hr1).1
    have hl0 := ll r0 (List.mem_of_getElem? hr1)
    have hs' : SqT K F ra (rv es) := hs
    walk_at "go"
    refine r_it (tS (sF.trans G1.fh) hs') ?_
    refine r_lcB (k := false) (xs := rv es) G1 (fun D2 j H2 => ∃ F2 ts, Same F' F2 ∧ St ⟨H0, H0⟩ F2 H2 ((D2, .lst (rv ts)) :: (D, .lst (rv bs)) :: _) ∧ Rows K F2 true ts (r0.take j) ∧ ts.length = j) (fun D2 H2 G' => ⟨F', [], Same.refl _, G', .nil, rfl⟩)
      (fun D2 j H2 _ h => by obtain ⟨F2, ts, s2, G', _, _⟩ := h; exact tS ((sF.trans s2).trans G'.fh) hs') ?_ ?_
    · rintro D2 j y H2 hj ⟨F2, ts, s2, G8, hR3, hlt⟩
      obtain ⟨e1, he1, rfl⟩ := rv_get hj
      obtain ⟨ns, hn1, hsx⟩ := hR.at he1
      have hj2 : j < r0.length := (List.getElem?_eq_some_iff.mp hn1).1
      walk_at "go"
      refine r_listof G8 (.inr (tS ((sF.trans s2).trans G8.fh) hsx)) fun t H9 G9 => ?_
      obtain ⟨F10, s10, ft, G10⟩ := G9.frz Tak.head
      refine r_app G10 Upd.head (szl (by rw [rv_len]; omega)) fun H11 G11 => ?_
      refine ⟨F10, ts ++ [t], s2.trans s10, ?_, ?_, by simp; omega⟩
      · rw [show rv (ts ++ [t]) = rv ts ++ [V.ref t] from by simp]; exact G11
      · rw [take_snoc hn1]; exact (hR3.mono s10).snoc (show SqL K F10 t (iv ns) from SqL.of ft)
    rintro D2 H2 ⟨F2, ts, s2, G8, hR3, hlt⟩
    rw [rv_len, hR.len, List.take_length] at hR3
    obtain ⟨F3, s3, fD, G9⟩ := G8.frz Tak.head
    refine r_app G9 Upd.head (szl (by rw [rv_len]; omega)) fun H3 G10 => ?_
    refine ⟨F3, bs ++ [D2], (sF.trans s2).trans s3, by simp [hbl], ?_, ?_⟩
    · rw [take_snoc hr1]; exact (hR2.mono (s2.trans s3)).snoc (show SqL K F3 D2 (rv ts) from SqL.of fD) (hR3.mono s3)
    · rw [show rv (bs ++ [D2]) = rv bs ++ [V.ref D2] from by simp]; exact G10
  rintro D H8 ⟨F', bs, sF, hbl, hR2, G8⟩
  rw [rv_len, fl, List.take_length] at hR2
  have s8 := sF.trans G8.fh
  walk_at "go"
  refine r_fld (s8 _ _ h1) T.cl_Automaton T.na_Automaton_initial la_initial ?_
  walk_at "go"
  refine r_listof G8 (.inr (tS s8 h2)) fun e1 H9 G9 => ?_
  have s9 := sF.trans G9.fh
  walk_at "go"
  refine r_eqD (k := true) (dp_ints (SqL.of (G9.get (by walk_at "m")))) (dp_ints (lS s9 ha)) dI_sh dI_sh (eqv_self dI_sh) ?_
  walk_at "go"
  refine r_fld (s9 _ _ h1) T.cl_Automaton T.na_Automaton_accepting la_accepting ?_
  walk_at "go"
  refine r_listof G9 (.inr (tS s9 h3)) fun e2 H10 G10 => ?_
  have s10 := sF.trans G10.fh
  walk_at "go"
  refine r_eqD (k := true) (dp_ints (SqL.of (G10.get (by walk_at "m")))) (dp_ints (lS s10 hb)) dI_sh dI_sh (eqv_self dI_sh) ?_
  walk_at "go"
  refine r_eqD (k := true) (.lst (SqL.of (G10.get (List.Mem.tail _ (.tail _ (.head _))))) (hR2.mono G10.fh).dp) (.lst (lS s10 hc) (hr.mono s10).dp) dR_sh dR_sh (eqv_self dR_sh) ?_
  exact k _
theorem law_tail (T : Cl K A) {H0 F H1 : Hp} {x0 v1 v6 : V} {m j l sp : Int} {a b c : Addr} {as : List Addr} {is cs : List Int} {rs : List (List (List Int))} (G : St ⟨H0, H0⟩ F H1 [])
    (ha : SqL K F a (iv is)) (hb : SqL K F b (iv cs)) (hc : SqL K F c (rv as)) (hr : Rows2 K F true as rs) (lr : rs.length ≤ 1000) (ll : ∀ r ∈ rs, r.length ≤ 1000) (h1 : sp < 7 → ¬ Aok m is cs rs) (h2 : ¬ sp < 7 → Aok m is cs rs ∧ 0 ≤ j ∧ j < rs.length ∧ 0 ≤ l ∧ l < m) (k : ∀ H', Q (.bl true) H') :
    t_law_14 K A E (D0 Q) [some x0, some v1, some (.int m), some (.ref a), some (.ref b), some (.ref c), some v6, some (.int sp), some (.int j), some (.int l), none, none, none, none, none, none] H1 := by
  unfold t_law_14 D0
  walk_at "go"
  refine r_listof G (.inl (lS G.fh ha)) fun p0 H2 G2 => ?_
  walk_at "go"
  refine r_listof G2 (.inl (lS G2.fh hb)) fun p1 H3 G3 => ?_
  walk_at "go"
  refine ⟨F, c, as, rs, rfl, G3.fh, lS G3.fh hc, hr.mono G3.fh, lr, ll, fun F4 H4 t as' bss hab hL w => ?_⟩
  have G4 := G3.join w
  walk_at "go"
  refine r_lst G4 (by walk_at "sz") fun e H5 G5' => ?_
  have G5 : St ⟨H0, H0⟩ F4 H5 ((e, .lst [.ref p0, .ref p1, .ref t]) :: (p0, .lst (iv is)) :: (p1, .lst (iv cs)) :: (t, .lst (rv as')) :: ([] ++ rowV as' (bss.map rv))) :=
    G5'.perm (List.Perm.cons _ ((List.perm_append_comm (l₁ := [(p0, HO.lst (iv is)), (p1, HO.lst (iv cs))]) (l₂ := (t, HO.lst (rv as')) :: rowV as' (bss.map rv))).trans (List.Perm.cons _ (List.Perm.append_left _ (List.Perm.swap _ _ _)))))
  clear G5' G4
  have rf : ∀ {F' H' : Hp} {L' : Led}, Same F4 F' → St ⟨H0, H0⟩ F' H' (L' ++ ((e, .lst [.ref p0, .ref p1, .ref t]) :: (p0, .lst (iv is)) :: (p1, .lst (iv cs)) :: (t, .lst (rv as')) :: ([] ++ rowV as' (bss.map rv)))) → Rows2 K H' true as' rs := fun s G => Rows2.of (hL.mono (s.trans G.fh)) hab fun x hx => G.get (by simp [hx])
  have w4 : Same F F4 := w.ff
  walk_at "go"
  refine r_ixL (by walk_at "l") (atI_nat (j := 0) rfl) ?_
  walk_at "go"
  refine r_ixL (by walk_at "l") (atI_nat (j := 1) rfl) ?_
  walk_at "go"
  refine r_ixL (by walk_at "l") (atI_nat (j := 2) rfl) ?_
  walk_at "go"
  refine ⟨F4, p0, p1, t, as', m, is, cs, rs, rfl, G5.fh, SqL.of (G5.get (by walk_at "m")), SqL.of (G5.get (by walk_at "m")), SqL.of (G5.get (by walk_at "m")), rf (L' := []) (Same.refl _) G5, lr, ll, fun OK F6 H6 y g hP => ?_, fun np H6 sm => ?_⟩
  · have G6 := G5.call g
    have w6 := w4.trans g.ff
    have hn : ¬ sp < 7 := fun z => h1 z OK
    obtain ⟨_, j0, j1, l0, l1⟩ := h2 hn
    have li : is.length ≤ 1000 := by have := asc_len OK.ai (by omega); omega
    have lc : cs.length ≤ 1000 := by have := asc_len OK.ac (by omega); omega
    obtain ⟨dx, ia, ca, ra, fs, q1, _⟩ := hP.ex
    walk_at "go"
    refine r_lst G6 (by walk_at "sz") fun f H7 G7 => ?_
    refine r_neD (k := true) (dL_dp (G7.get (by walk_at "m")) (SqL.of (G7.get (by walk_at "m"))) (SqL.of (G7.get (by walk_at "m"))) (SqL.of (G7.get (by walk_at "m"))) (rf (L' := [_]) g.ff G7)) (dL_dp (G7.get (by walk_at "m")) (lS (w6.trans G7.fh) ha) (lS (w6.trans G7.fh) hb) (lS (w6.trans G7.fh) hc) (hr.mono (w6.trans G7.fh))) dL_sh dL_sh (eqv_self dL_sh) ?_
    walk_at "go"
    refine r_isiC (T.ty_Automaton (G7.fh _ _ q1)) ?_
    walk_at "go"
    refine ⟨y, m, is, cs, rs, rfl, hP.mono G7.fh, OK, lr, ll, li, lc, ?_⟩
    walk_at "go"
    exact law_last T (L := []) (G7.drop Tak.head) (lS w6 ha) (lS w6 hb) (lS w6 hc) (hr.mono w6) hP OK hab (hL.mono g.ff) lr ll li lc j0 j1 l0 l1 k
  · have G6 := G5.grow sm
    have hn : sp < 7 := by
      by_cases z : sp < 7
      · exact z
      · exact absurd (h2 z).1 np
    walk_at "go"
    refine r_lst G6 (by walk_at "sz") fun f H7 G7 => ?_
    refine r_neD (k := true) (dL_dp (G7.get (by walk_at "m")) (SqL.of (G7.get (by walk_at "m"))) (SqL.of (G7.get (by walk_at "m"))) (SqL.of (G7.get (by walk_at "m"))) (rf (L' := [_]) (Same.refl _) G7)) (dL_dp (G7.get (by walk_at "m")) (lS (w4.trans G7.fh) ha) (lS (w4.trans G7.fh) hb) (lS (w4.trans G7.fh) hc) (hr.mono (w4.trans G7.fh))) dL_sh dL_sh (eqv_self dL_sh) ?_
    walk_at "go"
    exact k _
theorem p_law (T : Cl K A) (h : sp_law K A vs H Q E) : t_law K A E (D0 Q) (start ["script", "draws", "letters", "initial", "accepting", "rows", "count", "spoilt", "state", "letter", "passed", "found", "row", "entry", "targets", "kept"] vs) H := by
  obtain ⟨s, ns, rfl, hs, hns, k⟩ := h
  have G := St.init (Same.refl H)
  unfold t_law
  show tSeq _ _ (D0 Q) [some (.ref s), none, none, none, none, none, none, none, none, none, none, none, none, none, none, none] H
  unfold D0
  walk_at "go"
  refine u_draws G hs hns (by decide) (by decide) fun p d1 H1 hd1 G1 => ?_
  walk_at "go"
  refine u_take G1 (fun _ => .head) hd1 (by decide) fun m1 d2 H2 m10 m11 hd2 G2 => ?_
  walk_at "go"
  refine ⟨H, p, d2, 1 + m1, 4, rfl, G2.fh, (G2.own _ (by walk_at "m")).2.1, G2.get (by walk_at "m"), hd2, by omega, by omega, by decide, by decide, fun F3 H3 d3 t a b c as bss is cs rs hd3 OK lr4 hab fa fb hL w => ?_⟩
  have G3' := G2.joinB Upd.head w
  have G3 : St ⟨H, H⟩ F3 H3 ((t, .tup [.ref a, .ref b, .ref c]) :: (c, .lst (rv as)) :: (p, .lst (iv d3)) :: rowV as (bss.map rv)) := G3'.perm (List.Perm.cons _ (List.Perm.cons _ (List.perm_append_comm (l₁ := [_]))))
  clear G3' w G2 G1
  obtain ⟨o1, o2, o3, o4, o5⟩ := id OK
  have lL := hL.len
  have lr : rs.length ≤ 1000 := by omega
  generalize hm : 1 + m1 = m at *
  have ll : ∀ r ∈ rs, r.length ≤ 1000 := fun r hr => by have := (o5 r hr).1; omega
  have li : is.length ≤ 1000 := by have := asc_len o3 (by omega); omega
  have lc : cs.length ≤ 1000 := by have := asc_len o4 (by omega); omega
  refine ⟨t, _, rfl, SqT.of (G3.get (by walk_at "m")), rfl, ?_⟩
  refine ⟨_, _, rfl, _, _, rfl, _, _, rfl, rfl, ?_⟩
  show tSeq _ _ _ [some (.ref s), some (.ref p), some (.int m), some (.ref a), some (.ref b), some (.ref c), none, none, none, none, none, none, none, none, none, none] H3
  walk_at "go"
  rw [rv_len, hab, lL]
  refine u_take G3 (fun _ => .tail (.tail .head)) hd3 (by decide) fun sp d4 H4 sp0 sp1 hd4 G4 => ?_
  walk_at "go"
  refine u_take G4 (fun _ => .tail (.tail .head)) hd4 (by omega) fun j d5 H5 j0 j1 hd5 G5 => ?_
  walk_at "go"
  refine u_take G5 (fun _ => .tail (.tail .head)) hd5 (by omega) fun l d6 H6 l0 l1 hd6 G6 => ?_
  have G7 := G6.drop Tak.head
  clear G3 G4 G5 G6
  have fin : ∀ {F' H' : Hp} {L' : Led} {v6 : V} {m : Int} {a b c : Addr} {as : List Addr} {bss : List (List Addr)} {is cs : List Int} {rs : List (List (List Int))}, St ⟨H, H⟩ F' H' ((c, .lst (rv as)) :: (L' ++ rowV as (bss.map rv))) → SqL K F' a (iv is) → SqL K F' b (iv cs) → Leaf K F' bss rs → as.length = bss.length → rs.length ≤ 1000 → (∀ r ∈ rs, r.length ≤ 1000) → (sp < 7 → ¬ Aok m is cs rs) → (¬ sp < 7 → Aok m is cs rs ∧ 0 ≤ j ∧ j < rs.length ∧ 0 ≤ l ∧ l < m) →
      t_law_14 K A E (D0 Q) [some (.ref s), some (.ref p), some (.int m), some (.ref a), some (.ref b), some (.ref c), some v6, some (.int sp), some (.int j), some (.int l), none, none, none, none, none, none] H' := by
    intro F' H' L' v6 m a b c as bss is cs rs G ha hb hL hab lr ll h1 h2
    obtain ⟨F1, s1, f1, G1⟩ := St.frzs (L1 := (c, .lst (rv as)) :: rowV as (bss.map rv)) (L2 := L') (G.perm (List.Perm.cons _ List.perm_append_comm))
    obtain ⟨F2, s2, f2, G2⟩ := St.frzs (L1 := L') (L2 := []) (by rw [List.append_nil]; exact G1)
    exact law_tail T G2 (lS (s1.trans s2) ha) (lS (s1.trans s2) hb) (SqL.of (s2 _ _ (f1 (c, .lst (rv as)) (by walk_at "m")))) (Rows2.of (hL.mono (s1.trans s2)) hab fun x hx => s2 _ _ (f1 x (by simp [hx]))) lr ll h1 h2 k
  -- the row at j
  have hjn : j.toNat < rs.length := by omega
  obtain ⟨aj, haj⟩ : ∃ x, as[j.toNat]? = some x := ⟨_, List.getElem?_eq_getElem (by omega)⟩
  obtain ⟨rj, hrj⟩ : ∃ x, rs[j.toNat]? = some x := ⟨_, List.getElem?_eq_getElem (by omega)⟩
  obtain ⟨bj, hbj, hRj⟩ := hL.at hrj
  have lj : (rj.length : Int) = m := (o5 rj (List.mem_of_getElem? hrj)).1
  have lbj := hRj.len
  have hU : ∀ r', Upd (rowV as (bss.map rv)) aj (.lst (rv bj)) (.lst r') (rowV as ((bss.map rv).set j.toNat r')) := fun r' => rowV_upd haj (by rw [List.getElem?_map, hbj]; rfl)
  have hM : (aj, HO.lst (rv bj)) ∈ rowV as (bss.map rv) := (hU []).mem
  walk_at "go"
  refine r_ifD (fun h => ?_) (fun h0 => ?_)
  · subst h
    walk_at "go"
    refine r_lst G7 (by walk_at "sz") fun e H8 G8 => ?_
    walk_at "go"
    refine u_take G8 (fun _ => .tail (.tail .head)) hd6 (by decide) fun q d7 H9 q0 q1 hd7 G9 => ?_
    refine r_ixL (xs := iv [0, -1]) (by walk_at "l") (atI_iv q0 q1) ?_
    have hq : ∀ z, z = [0, (-1 : Int)].getD q.toNat 0 → ¬ Aok z is cs rs := by
      rintro z rfl OK2
      have e1 := OK2.m1
      rcases (show q = 0 ∨ q = 1 by omega) with rfl | rfl
      · have e3 : (1 : Int) ≤ 0 := e1
        omega
      · have e3 : (1 : Int) ≤ -1 := e1
        omega
    walk_at "go"
    exact fin (L' := [_, _]) (G9.front (a := c) (by walk_at "tk")) (SqL.of fa) (SqL.of fb) hL hab lr ll (fun _ => hq _ rfl) (fun z => absurd (by decide) z)
  walk_at "go"
  refine r_ifD (fun h => ?_) (fun h1 => ?_)
  · subst h
    walk_at "go"
    refine r_lst G7 (by walk_at "sz") fun c2 H8 G8 => ?_
    walk_at "go"
    refine r_lst G8 (by walk_at "sz") fun a2 H9 G9 => ?_
    walk_at "go"
    refine r_lst G9 (by walk_at "sz") fun b2 H10 G10 => ?_
    walk_at "go"
    obtain ⟨F4, s4, fb2, G11⟩ := G10.frz Tak.head
    obtain ⟨F5, s5, fa2, G12⟩ := G11.frz Tak.head
    rw [show rowV as (bss.map rv) = rowV as (bss.map rv) ++ rowV [] (([] : List (List Addr)).map rv) from by simp [rowV]] at G12
    exact fin (c := c2) (as := []) (bss := []) (is := []) (cs := []) (rs := []) (L' := _ :: _ :: rowV as (bss.map rv)) G12 (SqL.of fa2) (SqL.of (s5 _ _ fb2)) .nil rfl (by decide) (fun _ h => nomatch h) (fun _ OK2 => absurd OK2.ne (by decide)) (fun z => absurd (by decide) z)
  walk_at "go"
  refine r_ifD (fun h => ?_) (fun h2 => ?_)
  · subst h
    walk_at "go"
    refine ⟨F3, p, a, d6, is, rs.length, rfl, G7.fh, (G7.own (p, .lst (iv d6)) (by walk_at "m")).2.1, G7.get (by walk_at "m"), hd6, SqL.of fa, li, o3, by omega, fun F8 H8 d7 a2 is2 hd7 hl7 hn7 fa2 w => ?_⟩
    have G8 := G7.joinB (.tail .head) w
    walk_at "go"
    exact fin (L' := [_]) G8 (SqL.of fa2) (SqL.of (w.ff _ _ fb)) (hL.mono w.ff) hab lr ll (fun _ OK2 => by have := OK2.ai; rw [hn7] at this; cases this) (fun z => absurd (by decide) z)
  walk_at "go"
  refine r_ifD (fun h => ?_) (fun h3 => ?_)
  · subst h
    walk_at "go"
    refine ⟨F3, p, b, d6, cs, rs.length, rfl, G7.fh, (G7.own (p, .lst (iv d6)) (by walk_at "m")).2.1, G7.get (by walk_at "m"), hd6, SqL.of fb, lc, o4, by omega, fun F8 H8 d7 a2 is2 hd7 hl7 hn7 fa2 w => ?_⟩
    have G8 := G7.joinB (.tail .head) w
    walk_at "go"
    exact fin (L' := [_]) G8 (SqL.of (w.ff _ _ fa)) (SqL.of fa2) (hL.mono w.ff) hab lr ll (fun _ OK2 => by have := OK2.ac; rw [hn7] at this; cases this) (fun z => absurd (by decide) z)
  walk_at "go"
  refine r_ifD (fun h => ?_) (fun h4 => ?_)
  · subst h
    walk_at "go"
    refine r_ixL (xs := rv as) (by walk_at "l") (atI_rv j0 haj) ?_
    walk_at "go"
    obtain ⟨bl, hbl⟩ : ∃ x, bj[l.toNat]? = some x := ⟨_, List.getElem?_eq_getElem (by omega)⟩
    obtain ⟨xl, hxl, hxs⟩ := hRj.at hbl
    have hxs' : SqL K F3 bl (iv xl) := hxs
    have hxa := (o5 rj (List.mem_of_getElem? hrj)).2 xl (List.mem_of_getElem? hxl)
    refine r_ixL (xs := rv bj) (SqL.of (G7.get (.tail _ (.tail _ hM)))) (atI_rv l0 hbl) ?_
    walk_at "go"
    refine ⟨F3, p, bl, d6, xl, rs.length, rfl, G7.fh, (G7.own (p, .lst (iv d6)) (by walk_at "m")).2.1, G7.get (by walk_at "m"), hd6, hxs', by have := asc_len hxa (by omega); omega, hxa, by omega, fun F8 H8 d7 a2 x2 hd7 hl7 hn7 fa2 w => ?_⟩
    have G8 : St ⟨H, H⟩ F8 H8 ((c, .lst (rv as)) :: (p, .lst (iv d7)) :: rowV as (bss.map rv)) := G7.joinB (.tail .head) w
    walk_at "go"
    refine r_ixL (xs := rv as) (SqL.of (G8.get (by walk_at "m"))) (atI_rv j0 haj) ?_
    walk_at "go"
    refine r_setL (xs := rv bj) G8 (ixN_of l0 (by rw [rv_len]; omega)) (.tail (.tail (hU _))) fun H9 G9 => ?_
    rw [show (rv bj).set l.toNat (.ref a2) = rv (bj.set l.toNat a2) from by simp [List.map_set], ← List.map_set] at G9
    walk_at "go"
    refine fin (L' := [_]) G9 (SqL.of (w.ff _ _ fa)) (SqL.of (w.ff _ _ fb)) ((hL.mono w.ff).set ((hRj.mono w.ff).set (show SqL K F8 a2 (iv x2) from SqL.of fa2))) (by rw [List.length_set]; exact hab) (by rw [List.length_set]; exact lr) (fun r hr => ?_) (fun _ OK2 => ?_) (fun z => absurd (by decide) z)
    · rcases List.mem_or_eq_of_mem_set hr with z | z
      · exact ll r z
      · rw [z, List.length_set]; omega
    · have e1 := (OK2.rr (rj.set l.toNat x2) (List.mem_of_getElem? (i := j.toNat) (by rw [List.getElem?_set_self hjn]))).2 x2 (List.mem_of_getElem? (i := l.toNat) (by rw [List.getElem?_set_self (by omega)]))
      rw [List.length_set, hn7] at e1
      cases e1
  -- a new row stands in the place of the one at j
  have newrow : ∀ {H8 : Hp} {n9 : Addr} {L' : Led} {bn : List Addr} {rn : List (List Int)} {F8 : Hp}, Same F3 F8 → St ⟨H, H⟩ F8 H8 ((c, .lst (rv (as.set j.toNat n9))) :: (n9, .lst (rv bn)) :: (L' ++ rowV as (bss.map rv))) → Rows K F8 true bn rn → rn.length ≤ 1000 → (rn.length : Int) ≠ m → sp < 7 →
      t_law_14 K A E (D0 Q) [some (.ref s), some (.ref p), some (.int m), some (.ref a), some (.ref b), some (.ref c), some (.int rs.length), some (.int sp), some (.int j), some (.int l), none, none, none, none, none, none] H8 := by
    intro H8 n9 L' bn rn F8 s8 G8 hRn hln hne hsp
    obtain ⟨F1, s1, f1, G1⟩ := St.frzs (L1 := (c, .lst (rv (as.set j.toNat n9))) :: (n9, .lst (rv bn)) :: rowV as (bss.map rv)) (L2 := L') (G8.perm (List.Perm.cons _ (List.Perm.cons _ List.perm_append_comm)))
    obtain ⟨F2, s2, f2, G2⟩ := St.frzs (L1 := L') (L2 := []) (by rw [List.append_nil]; exact G1)
    have s12 := s1.trans s2
    have hR2 : Rows2 K F2 true (as.set j.toNat n9) (rs.set j.toNat rn) := (Rows2.of (hL.mono (s8.trans s12)) hab fun x hx => s2 _ _ (f1 x (by simp [hx]))).set (show SqL K F2 n9 (rv bn) from SqL.of (s2 _ _ (f1 (n9, .lst (rv bn)) (by walk_at "m")))) (hRn.mono s12)
    refine law_tail T G2 (SqL.of ((s8.trans s12) _ _ fa)) (SqL.of ((s8.trans s12) _ _ fb)) (SqL.of (s2 _ _ (f1 (c, .lst (rv (as.set j.toNat n9))) (by walk_at "m")))) hR2 (by rw [List.length_set]; exact lr) (fun r hr => ?_) (fun _ OK2 => hne ?_) (fun z => absurd hsp z) k
    · rcases List.mem_or_eq_of_mem_set hr with z | z
      · exact ll r z
      · rw [z]; exact hln
    · exact (OK2.rr rn (List.mem_of_getElem? (i := j.toNat) (by rw [List.getElem?_set_self hjn]))).1
  walk_at "go"
  refine r_ifD (fun h => ?_) (fun h5 => ?_)
  · subst h
    walk_at "go"
    refine r_ixL (xs := rv as) (by walk_at "l") (atI_rv j0 haj) ?_
    walk_at "go"
    refine r_lst G7 (by walk_at "sz") fun e1 H8 G8 => ?_
    walk_at "go"
    refine r_lst G8 (by walk_at "sz") fun e2 H9 G9 => ?_
    refine r_cat (xs := rv bj) (ys := [.ref e1]) G9 (.tail _ (.tail _ (.tail _ (.tail _ hM)))) (by walk_at "m") (sz (by rw [rv_len]; simp; omega)) fun n9 H10 G10 => ?_
    rw [show rv bj ++ [V.ref e1] = rv (bj ++ [e1]) from by simp] at G10
    walk_at "go"
    refine r_setL (xs := rv as) G10 (ixN_of j0 (by rw [rv_len]; omega)) (by walk_at "u") fun H11 G11 => ?_
    rw [show (rv as).set j.toNat (.ref n9) = rv (as.set j.toNat n9) from by simp [List.map_set]] at G11
    walk_at "go"
    obtain ⟨F9, s9, fe1, G12⟩ := G11.frz (a := e1) (by walk_at "tk")
    exact newrow (L' := [_, _]) (rn := rj ++ [[]]) s9 ((G12.front (a := n9) (by walk_at "tk")).front (a := c) (by walk_at "tk")) ((hRj.mono s9).snoc (show SqL K F9 e1 (iv []) from SqL.of fe1)) (by simp; omega) (by simp; omega) (by decide)
  walk_at "go"
  refine r_ifD (fun h => ?_) (fun h6 => ?_)
  · subst h
    walk_at "go"
    refine r_ixL (xs := rv as) (by walk_at "l") (atI_rv j0 haj) ?_
    walk_at "go"
    refine r_slL (xs := rv bj) G7 (SqL.of (G7.get (.tail _ (.tail _ hM)))) fun n9 H8 G8 => ?_
    rw [show m - 1 = (((m - 1).toNat : Nat) : Int) from by omega, cut_to, ← List.map_take] at G8
    walk_at "go"
    refine r_setL (xs := rv as) G8 (ixN_of j0 (by rw [rv_len]; omega)) (by walk_at "u") fun H11 G11 => ?_
    rw [show (rv as).set j.toNat (.ref n9) = rv (as.set j.toNat n9) from by simp [List.map_set]] at G11
    walk_at "go"
    exact newrow (L' := [_]) (rn := rj.take (m - 1).toNat) (Same.refl _) (G11.front (a := c) (by walk_at "tk")) hRj.take (by simp; omega) (by simp; omega) (by decide)
  walk_at "go"
  exact fin (L' := [_]) G7 (SqL.of fa) (SqL.of fb) hL hab lr ll (fun z => by omega) (fun _ => ⟨OK, j0, j1, l0, l1⟩)
end

def top (i : Nat) : Stmt := PySem.Challenge.pw_promiseplay_k16_automaton.main.body.getD i (.Pass ⟨0, 0, 0, 0⟩)
abbrev s_ascends : Stmt := (top 4)
abbrev s_Automaton_init : Stmt := (inClass (top 6) 0)
abbrev s__law_draws : Stmt := (top 8)
abbrev s__law_take : Stmt := (top 9)
abbrev s__law_is_integer : Stmt := (top 10)
abbrev s__law_integers : Stmt := (top 11)
abbrev s__law_ascending : Stmt := (top 12)
abbrev s__law_automaton : Stmt := (top 13)
abbrev s__law_copy : Stmt := (top 14)
abbrev s__law_states : Stmt := (top 15)
abbrev s__law_is_automaton : Stmt := (top 16)
abbrev s__law_spoil_list : Stmt := (top 17)
abbrev s__law_outcome : Stmt := (top 18)
abbrev s_law : Stmt := (top 19)
theorem sc_ascends : FnScope ["numbers", "count", "before", "number"] ["numbers", "count"] (defScope s_ascends) := ⟨rfl, rfl, rfl, by decide +kernel, rfl, by decide +kernel, by decide +kernel⟩
theorem sc_Automaton_init : FnScope ["self", "letters", "initial", "accepting", "rows", "row", "entry"] ["self", "letters", "initial", "accepting", "rows"] (defScope s_Automaton_init) := ⟨rfl, rfl, rfl, by decide +kernel, rfl, by decide +kernel, by decide +kernel⟩
theorem sc__law_draws : FnScope ["script", "count", "cells", "found", "mixed", "k", "j", "cell", "again"] ["script", "count"] (defScope s__law_draws) := ⟨rfl, rfl, rfl, by decide +kernel, rfl, by decide +kernel, by decide +kernel⟩
theorem sc__law_take : FnScope ["draws", "limit"] ["draws", "limit"] (defScope s__law_take) := ⟨rfl, rfl, rfl, by decide +kernel, rfl, by decide +kernel, by decide +kernel⟩
theorem sc__law_is_integer : FnScope ["actual"] ["actual"] (defScope s__law_is_integer) := ⟨rfl, rfl, rfl, by decide +kernel, rfl, by decide +kernel, by decide +kernel⟩
theorem sc__law_integers : FnScope ["actual", "low", "high", "item"] ["actual", "low", "high"] (defScope s__law_integers) := ⟨rfl, rfl, rfl, by decide +kernel, rfl, by decide +kernel, by decide +kernel⟩
theorem sc__law_ascending : FnScope ["draws", "limit", "share", "k"] ["draws", "limit", "share"] (defScope s__law_ascending) := ⟨rfl, rfl, rfl, by decide +kernel, rfl, by decide +kernel, by decide +kernel⟩
theorem sc__law_automaton : FnScope ["draws", "letters", "most", "count", "share", "initial", "accepting", "rows", "state", "letter"] ["draws", "letters", "most"] (defScope s__law_automaton) := ⟨rfl, rfl, rfl, by decide +kernel, rfl, by decide +kernel, by decide +kernel⟩
theorem sc__law_copy : FnScope ["rows", "row", "entry"] ["rows"] (defScope s__law_copy) := ⟨rfl, rfl, rfl, by decide +kernel, rfl, by decide +kernel, by decide +kernel⟩
theorem sc__law_states : FnScope ["actual", "count", "k"] ["actual", "count"] (defScope s__law_states) := ⟨rfl, rfl, rfl, by decide +kernel, rfl, by decide +kernel, by decide +kernel⟩
theorem sc__law_is_automaton : FnScope ["actual", "letters", "count", "row", "entry"] ["actual", "letters"] (defScope s__law_is_automaton) := ⟨rfl, rfl, rfl, by decide +kernel, rfl, by decide +kernel, by decide +kernel⟩
theorem sc__law_spoil_list : FnScope ["draws", "states", "count", "kind", "at"] ["draws", "states", "count"] (defScope s__law_spoil_list) := ⟨rfl, rfl, rfl, by decide +kernel, rfl, by decide +kernel, by decide +kernel⟩
theorem sc__law_outcome : FnScope ["letters", "initial", "accepting", "rows", "e"] ["letters", "initial", "accepting", "rows"] (defScope s__law_outcome) := ⟨rfl, rfl, rfl, by decide +kernel, rfl, by decide +kernel, by decide +kernel⟩
theorem sc_law : FnScope ["script", "draws", "letters", "initial", "accepting", "rows", "count", "spoilt", "state", "letter", "passed", "found", "row", "entry", "targets", "kept"] ["script"] (defScope s_law) := ⟨rfl, rfl, rfl, by decide +kernel, rfl, by decide +kernel, by decide +kernel⟩
structure Txt (K : PySem.W.Frag) (mg : Str → Option Value) (A : Ads) : Prop where
  cl : Cl K A
  F_ascends : Fun K "ascends" "ascends" s_ascends A.a_ascends A.fd_ascends
  b_ascends : Binds K A.fd_ascends ["numbers", "count"] []
  g_ascends : mg "ascends" = some (.ref A.a_ascends)
  k_ascends : PySem.W.keepIn K (.ref A.a_ascends) = true
  F_Automaton_init : Fun K "__init__" "Automaton.__init__" s_Automaton_init A.a_Automaton_init A.fd_Automaton_init
  b_Automaton_init : Binds K A.fd_Automaton_init ["self", "letters", "initial", "accepting", "rows"] []
  mt_Automaton_init : Meth K A.C_Automaton "__init__" A.a_Automaton_init
  F__law_draws : Fun K "_law_draws" "_law_draws" s__law_draws A.a__law_draws A.fd__law_draws
  b__law_draws : Binds K A.fd__law_draws ["script", "count"] []
  g__law_draws : mg "_law_draws" = some (.ref A.a__law_draws)
  k__law_draws : PySem.W.keepIn K (.ref A.a__law_draws) = true
  F__law_take : Fun K "_law_take" "_law_take" s__law_take A.a__law_take A.fd__law_take
  b__law_take : Binds K A.fd__law_take ["draws", "limit"] []
  g__law_take : mg "_law_take" = some (.ref A.a__law_take)
  k__law_take : PySem.W.keepIn K (.ref A.a__law_take) = true
  F__law_is_integer : Fun K "_law_is_integer" "_law_is_integer" s__law_is_integer A.a__law_is_integer A.fd__law_is_integer
  b__law_is_integer : Binds K A.fd__law_is_integer ["actual"] []
  g__law_is_integer : mg "_law_is_integer" = some (.ref A.a__law_is_integer)
  k__law_is_integer : PySem.W.keepIn K (.ref A.a__law_is_integer) = true
  F__law_integers : Fun K "_law_integers" "_law_integers" s__law_integers A.a__law_integers A.fd__law_integers
  b__law_integers : Binds K A.fd__law_integers ["actual", "low", "high"] []
  g__law_integers : mg "_law_integers" = some (.ref A.a__law_integers)
  k__law_integers : PySem.W.keepIn K (.ref A.a__law_integers) = true
  F__law_ascending : Fun K "_law_ascending" "_law_ascending" s__law_ascending A.a__law_ascending A.fd__law_ascending
  b__law_ascending : Binds K A.fd__law_ascending ["draws", "limit", "share"] []
  g__law_ascending : mg "_law_ascending" = some (.ref A.a__law_ascending)
  k__law_ascending : PySem.W.keepIn K (.ref A.a__law_ascending) = true
  F__law_automaton : Fun K "_law_automaton" "_law_automaton" s__law_automaton A.a__law_automaton A.fd__law_automaton
  b__law_automaton : Binds K A.fd__law_automaton ["draws", "letters", "most"] []
  g__law_automaton : mg "_law_automaton" = some (.ref A.a__law_automaton)
  k__law_automaton : PySem.W.keepIn K (.ref A.a__law_automaton) = true
  F__law_copy : Fun K "_law_copy" "_law_copy" s__law_copy A.a__law_copy A.fd__law_copy
  b__law_copy : Binds K A.fd__law_copy ["rows"] []
  g__law_copy : mg "_law_copy" = some (.ref A.a__law_copy)
  k__law_copy : PySem.W.keepIn K (.ref A.a__law_copy) = true
  F__law_states : Fun K "_law_states" "_law_states" s__law_states A.a__law_states A.fd__law_states
  b__law_states : Binds K A.fd__law_states ["actual", "count"] []
  g__law_states : mg "_law_states" = some (.ref A.a__law_states)
  k__law_states : PySem.W.keepIn K (.ref A.a__law_states) = true
  F__law_is_automaton : Fun K "_law_is_automaton" "_law_is_automaton" s__law_is_automaton A.a__law_is_automaton A.fd__law_is_automaton
  b__law_is_automaton : Binds K A.fd__law_is_automaton ["actual", "letters"] []
  g__law_is_automaton : mg "_law_is_automaton" = some (.ref A.a__law_is_automaton)
  k__law_is_automaton : PySem.W.keepIn K (.ref A.a__law_is_automaton) = true
  F__law_spoil_list : Fun K "_law_spoil_list" "_law_spoil_list" s__law_spoil_list A.a__law_spoil_list A.fd__law_spoil_list
  b__law_spoil_list : Binds K A.fd__law_spoil_list ["draws", "states", "count"] []
  g__law_spoil_list : mg "_law_spoil_list" = some (.ref A.a__law_spoil_list)
  k__law_spoil_list : PySem.W.keepIn K (.ref A.a__law_spoil_list) = true
  F__law_outcome : Fun K "_law_outcome" "_law_outcome" s__law_outcome A.a__law_outcome A.fd__law_outcome
  b__law_outcome : Binds K A.fd__law_outcome ["letters", "initial", "accepting", "rows"] []
  g__law_outcome : mg "_law_outcome" = some (.ref A.a__law_outcome)
  k__law_outcome : PySem.W.keepIn K (.ref A.a__law_outcome) = true
  F_law : Fun K "law" "law" s_law A.a_law A.fd_law
  b_law : Binds K A.fd_law ["script"] []
  g_law : mg "law" = some (.ref A.a_law)
  k_law : PySem.W.keepIn K (.ref A.a_law) = true
  g_Automaton : mg "Automaton" = some (.ref A.C_Automaton)
  cl_Automaton : Cls K A.C_Automaton
  M_Automaton : Mk K A.C_Automaton A.a_Automaton_init
  g_InvalidAutomaton : mg "InvalidAutomaton" = some (.ref A.C_InvalidAutomaton)
  g_SynthError : mg "SynthError" = some (.ref A.C_SynthError)
  k_InvalidAutomaton : PySem.W.keepIn K (.ref A.C_InvalidAutomaton) = true
  x_InvalidAutomaton : PySem.W.excIn K A.C_InvalidAutomaton [.type "ValueError", .type "Exception", .type "BaseException", .type "object"] "ValueError.__new__" = true
  s_InvalidAutomaton : PySem.W.subIn K (.ref A.C_InvalidAutomaton) (.type "BaseException") = some true
  t_InvalidAutomaton : PySem.W.typeIn K (.ref A.C_InvalidAutomaton) = some (.type "type")
  z_all : mg "all" = none
  z_bool : mg "bool" = none
  z_int : mg "int" = none
  z_isinstance : mg "isinstance" = none
  z_len : mg "len" = none
  z_list : mg "list" = none
  z_range : mg "range" = none
  z_tuple : mg "tuple" = none
section
variable {P : Program} {w : World} {K : PySem.W.Frag} {mg : Str → Option Value} {base : Heap} {A : Ads}
theorem ok_ascends (T : Txt K mg A) : FnOk P w K mg base CX0 1 A.a_ascends A.fd_ascends ["numbers", "count"] (sp_ascends K A) :=
  T.F_ascends.ok sc_ascends (fun vs H Q E h => by obtain ⟨_, _, _, _, rfl, _⟩ := h; rfl) (fun cdv Ar outer s H vs Q E hr h => ⟨t_ascends K A E, by exact (pss_cons (ps_set (i := 2) sc_ascends.nd rfl (Or.inl rfl) (pe_un un_neg pe_int))
 (pss_cons (ps_for PassesOwn.never rfl (pi_seq (pv 0)) (pg_name (i := 3) sc_ascends.nd rfl (Or.inl rfl)) (pss_cons (ps_if (PW.pt (pw_or (pt_cmpR op_le (pv 3) (pv 2) (nomark _)) (pw_or1 (pt_cmpR op_ge (pv 3) (pv 1) (nomark _))))) (pss_one (ps_ret pe_bl)) pss_nil)
 (pss_one (ps_set (i := 2) sc_ascends.nd rfl (Or.inl rfl) (pv 3)))))
 (pss_one (ps_ret pe_bl)))), p_ascends T.cl h⟩)
theorem ok__law_draws (T : Txt K mg A) : FnOk P w K mg base CX0 1 A.a__law_draws A.fd__law_draws ["script", "count"] (sp__law_draws K A) :=
  T.F__law_draws.ok sc__law_draws (fun vs H Q E h => by obtain ⟨_, _, _, rfl, _⟩ := h; rfl) (fun cdv Ar outer s H vs Q E hr h => ⟨t__law_draws K A E, by exact (pss_cons (ps_set (i := 2) sc__law_draws.nd rfl (Or.inl rfl) (pe_callTy call_list_of (by rfl) T.z_list (by decide +kernel) (pa_cons (pv 0) pa_nil)))
 (pss_cons (ps_if (pt_cmpR op_eq (pe_callB call_len_seq (by rfl) T.z_len (by decide +kernel) (pa_cons (pv 2) pa_nil)) pe_int (nomark _)) (pss_one (ps_set (i := 2) sc__law_draws.nd rfl (Or.inl rfl) (pe_lst (pa_cons pe_int pa_nil)))) pss_nil)
 (pss_cons (ps_set (i := 3) sc__law_draws.nd rfl (Or.inl rfl) (pe_lst pa_nil))
 (pss_cons (ps_set (i := 4) sc__law_draws.nd rfl (Or.inl rfl) pe_int)
 (pss_cons (ps_for PassesOwn.never rfl (pi_range1 rfl T.z_range (pa_cons (pv 1) pa_nil)) (pg_name (i := 5) sc__law_draws.nd rfl (Or.inl rfl)) (pss_cons (ps_set (i := 6) sc__law_draws.nd rfl (Or.inl rfl) (pe_op op_mod (pv 5) (pe_callB call_len_seq (by rfl) T.z_len (by decide +kernel) (pa_cons (pv 2) pa_nil))))
 (pss_cons (ps_set (i := 7) sc__law_draws.nd rfl (Or.inl rfl) (pe_ix ix_list (pv 2) (pv 6) (fun _ _ => rfl)))
 (pss_cons (ps_set (i := 4) sc__law_draws.nd rfl (Or.inl rfl) (pe_op op_mod (pe_callTy call_int1 (by rfl) T.z_int (by decide +kernel) (pa_cons (pe_op op_add (pe_op op_add (pe_op op_add (pe_op op_mulW (pv 4) pe_int) (pe_op op_mulW (pe_op op_mod (pe_callTy call_int1 (by rfl) T.z_int (by decide +kernel) (pa_cons (pv 7) pa_nil)) pe_int) pe_int)) (pe_op op_mulW (pv 5) pe_int)) pe_int) pa_nil)) pe_int))
 (pss_cons (ps_set (i := 8) sc__law_draws.nd rfl (Or.inl rfl) (pe_op op_mod (pe_callTy call_int1 (by rfl) T.z_int (by decide +kernel) (pa_cons (pe_op op_add (pe_op op_add (pe_op op_mulW (pv 4) (pv 4)) (pe_op op_mulW pe_int (pv 4))) (pv 5)) pa_nil)) pe_int))
 (pss_one (ps_if (pt_cmpR op_ge (pv 7) (pe_op op_pow pe_int pe_int) (nomark _)) (pss_cons (ps_expr (pe_bm PySem.F.plainAttrs_list PySem.F.slot_list_append PySem.F.type_list_append mt_append (pv 3) (pa_cons (pe_op op_mod (pe_callTy call_int1 (by rfl) T.z_int (by decide +kernel) (pa_cons (pv 7) pa_nil)) pe_int) pa_nil)))
 (pss_one (ps_asg (pe_op op_fdivW (pv 7) pe_int) (pg_sub (pv 2) (pv 6) set_list)))) (pss_one (ps_expr (pe_bm PySem.F.plainAttrs_list PySem.F.slot_list_append PySem.F.type_list_append mt_append (pv 3) (pa_cons (pe_op op_mod (pe_callTy call_int1 (by rfl) T.z_int (by decide +kernel) (pa_cons (pv 8) pa_nil)) pe_int) pa_nil)))))))))))
 (pss_cons (ps_expr (pe_bm0 PySem.F.plainAttrs_list PySem.F.slot_list_reverse PySem.F.type_list_reverse mt_reverse (pv 3)))
 (pss_one (ps_ret (pv 3))))))))), p__law_draws T.cl h⟩)
theorem ok__law_take (T : Txt K mg A) : FnOk P w K mg base CX0 1 A.a__law_take A.fd__law_take ["draws", "limit"] (sp__law_take K A) :=
  T.F__law_take.ok sc__law_take (fun vs H Q E h => by obtain ⟨_, _, _, rfl, _⟩ := h; rfl) (fun cdv Ar outer s H vs Q E hr h => ⟨t__law_take K A E, by exact (pss_cons (ps_if (pt_cmpR op_eq (pe_callB call_len_seq (by rfl) T.z_len (by decide +kernel) (pa_cons (pv 0) pa_nil)) pe_int (nomark _)) (pss_one (ps_ret pe_int)) pss_nil)
 (pss_one (ps_ret (pe_op op_mod (pe_callTy call_int1 (by rfl) T.z_int (by decide +kernel) (pa_cons (pe_bm0 PySem.F.plainAttrs_list PySem.F.slot_list_pop PySem.F.type_list_pop mt_pop (pv 0)) pa_nil)) (pv 1))))), p__law_take T.cl h⟩)
theorem ok__law_is_integer (T : Txt K mg A) : FnOk P w K mg base CX0 1 A.a__law_is_integer A.fd__law_is_integer ["actual"] (sp__law_is_integer K A) :=
  T.F__law_is_integer.ok sc__law_is_integer (fun vs H Q E h => by obtain ⟨_, rfl, _⟩ := h; rfl) (fun cdv Ar outer s H vs Q E hr h => ⟨t__law_is_integer K A E, by exact (pss_one (ps_ret (pe_and (pe_callB call_isi (by rfl) T.z_isinstance (by decide +kernel) (pa_cons (pv 0) (pa_cons (pe_bltn (v := .ty "int") (by rfl) T.z_int (by decide +kernel) rfl) pa_nil))) (pe_one (pe_not (pe_callB call_isi (by rfl) T.z_isinstance (by decide +kernel) (pa_cons (pv 0) (pa_cons (pe_bltn (v := .ty "bool") (by rfl) T.z_bool (by decide +kernel) rfl) pa_nil)))))))), p__law_is_integer T.cl h⟩)
theorem ok__law_copy (T : Txt K mg A) : FnOk P w K mg base CX0 1 A.a__law_copy A.fd__law_copy ["rows"] (sp__law_copy K A) :=
  T.F__law_copy.ok sc__law_copy (fun vs H Q E h => by obtain ⟨_, _, _, _, rfl, _⟩ := h; rfl) (fun cdv Ar outer s H vs Q E hr h => ⟨t__law_copy K A E, by exact (pss_one (ps_ret (pe_lc (own := [("row", 1)]) rfl sc__law_copy.nd (pi_list (pv 0)) (blkOk_by (N := ["rows", "row", "entry"]) (sc := defScope s__law_copy) (own := [("row", 1)]) (by decide +kernel)) (fun _ _ _ _ _ => (pg_name (i := 1) sc__law_copy.nd rfl (Or.inl rfl))) (fun _ _ _ _ _ => pts_nil) (fun _ _ _ _ _ => (pe_lc (own := [("entry", 2)]) rfl sc__law_copy.nd (pi_list (pv 1)) (blk_in (N := ["rows", "row", "entry"]) (sc0 := defScope s__law_copy) (own := [("entry", 2)]) rfl (by decide +kernel)) (fun _ _ _ _ _ => (pg_name (i := 2) sc__law_copy.nd rfl (Or.inl rfl))) (fun _ _ _ _ _ => pts_nil) (fun _ _ _ _ _ => (pe_callTy call_list_of (by rfl) T.z_list (by decide +kernel) (pa_cons (pv 2) pa_nil)))))))), p__law_copy T.cl h⟩)
theorem ok_Automaton_init (T : Txt K mg A) : FnOk P w K mg base (L2.CX P w) 2 A.a_Automaton_init A.fd_Automaton_init ["self", "letters", "initial", "accepting", "rows"] (sp_Automaton_init K A) :=
  T.F_Automaton_init.okX sc_Automaton_init (fun vs H Q E h => by obtain ⟨_, _, _, _, _, _, _, _, _, _, _, rfl, _⟩ := h; rfl) (fun cdv Ar outer s H vs Q E hr h => ⟨t_Automaton_init K A E, by exact (pss_cons (ps_if (PW.pt (pw_or (pt_cmpR op_lt (pv 1) pe_int (nomark _)) (pw_or1 (pt_cmpR op_eq (pe_callB call_len_seq (by rfl) T.z_len (by decide +kernel) (pa_cons (pv 4) pa_nil)) pe_int (nomark _))))) (pss_one (ps_raise rfl (takes_of rfl rfl rfl rfl) (pmk_own PySem.F.excBase_ValueError T.x_InvalidAutomaton T.g_InvalidAutomaton T.k_InvalidAutomaton (raises_own T.s_InvalidAutomaton T.t_InvalidAutomaton) (by exact rfl)))) pss_nil)
 (pss_cons (ps_if (PW.pt (pw_or (pt_not (pt_val (pe_call (ok_ascends T) (hr.mono (by decide)) rfl T.g_ascends T.k_ascends T.b_ascends .nil pass0 (pa_cons (pv 2) (pa_cons (pe_callB call_len_seq (by rfl) T.z_len (by decide +kernel) (pa_cons (pv 4) pa_nil)) pa_nil))))) (pw_or1 (pt_not (pt_val (pe_call (ok_ascends T) (hr.mono (by decide)) rfl T.g_ascends T.k_ascends T.b_ascends .nil pass0 (pa_cons (pv 3) (pa_cons (pe_callB call_len_seq (by rfl) T.z_len (by decide +kernel) (pa_cons (pv 4) pa_nil)) pa_nil)))))))) (pss_one (ps_raise rfl (takes_of rfl rfl rfl rfl) (pmk_own PySem.F.excBase_ValueError T.x_InvalidAutomaton T.g_InvalidAutomaton T.k_InvalidAutomaton (raises_own T.s_InvalidAutomaton T.t_InvalidAutomaton) (by exact rfl)))) pss_nil)
 (pss_cons (ps_for (passes_of rfl) rfl (pi_seq (pv 4)) (pg_name (i := 5) sc_Automaton_init.nd rfl (Or.inl rfl)) (pss_cons (ps_if (pt_cmpR op_ne (pe_callB call_len_seq (by rfl) T.z_len (by decide +kernel) (pa_cons (pv 5) pa_nil)) (pv 1) (nomark _)) (pss_one (ps_raise rfl (takes_of rfl rfl rfl rfl) (pmk_own PySem.F.excBase_ValueError T.x_InvalidAutomaton T.g_InvalidAutomaton T.k_InvalidAutomaton (raises_own T.s_InvalidAutomaton T.t_InvalidAutomaton) (by exact rfl)))) pss_nil)
 (pss_one (ps_if (pt_not (pt_val (pe_callB (cr_all rfl) (by rfl) T.z_all (by decide +kernel) (pa_cons (pe_lc (own := [("entry", 6)]) rfl sc_Automaton_init.nd (pi_seq (pv 5)) (blkOk_by (N := ["self", "letters", "initial", "accepting", "rows", "row", "entry"]) (sc := defScope s_Automaton_init) (own := [("entry", 6)]) (by decide +kernel)) (fun _ _ _ _ _ => (pg_name (i := 6) sc_Automaton_init.nd rfl (Or.inl rfl))) (fun _ _ _ _ _ => pts_nil) (fun _ _ _ _ _ => (pe_call (ok_ascends T) (hr.mono (by decide)) rfl T.g_ascends T.k_ascends T.b_ascends .nil pass0 (pa_cons (pv 6) (pa_cons (pe_callB call_len_seq (by rfl) T.z_len (by decide +kernel) (pa_cons (pv 4) pa_nil)) pa_nil))))) pa_nil)))) (pss_one (ps_raise rfl (takes_of rfl rfl rfl rfl) (pmk_own PySem.F.excBase_ValueError T.x_InvalidAutomaton T.g_InvalidAutomaton T.k_InvalidAutomaton (raises_own T.s_InvalidAutomaton T.t_InvalidAutomaton) (by exact rfl)))) pss_nil))))
 (pss_cons (ps_fld (pv 0) (pv 1) rfl)
 (pss_cons (ps_fld (pv 0) (pe_callTy call_tuple_of (by rfl) T.z_tuple (by decide +kernel) (pa_cons (pv 2) pa_nil)) rfl)
 (pss_cons (ps_fld (pv 0) (pe_callTy call_tuple_of (by rfl) T.z_tuple (by decide +kernel) (pa_cons (pv 3) pa_nil)) rfl)
 (pss_one (ps_fld (pv 0) (pe_callTy call_tuple_of (by rfl) T.z_tuple (by decide +kernel) (pa_cons (pe_lc (own := [("row", 5)]) rfl sc_Automaton_init.nd (pi_seq (pv 4)) (blkOk_by (N := ["self", "letters", "initial", "accepting", "rows", "row", "entry"]) (sc := defScope s_Automaton_init) (own := [("row", 5)]) (by decide +kernel)) (fun _ _ _ _ _ => (pg_name (i := 5) sc_Automaton_init.nd rfl (Or.inl rfl))) (fun _ _ _ _ _ => pts_nil) (fun _ _ _ _ _ => (pe_callTy call_tuple_of (by rfl) T.z_tuple (by decide +kernel) (pa_cons (pe_lc (own := [("entry", 6)]) rfl sc_Automaton_init.nd (pi_seq (pv 5)) (blk_in (N := ["self", "letters", "initial", "accepting", "rows", "row", "entry"]) (sc0 := defScope s_Automaton_init) (own := [("entry", 6)]) rfl (by decide +kernel)) (fun _ _ _ _ _ => (pg_name (i := 6) sc_Automaton_init.nd rfl (Or.inl rfl))) (fun _ _ _ _ _ => pts_nil) (fun _ _ _ _ _ => (pe_callTy call_tuple_of (by rfl) T.z_tuple (by decide +kernel) (pa_cons (pv 6) pa_nil)))) pa_nil)))) pa_nil)) rfl)))))))), p_Automaton_init T.cl h⟩)
theorem ok__law_integers (T : Txt K mg A) : FnOk P w K mg base CX0 2 A.a__law_integers A.fd__law_integers ["actual", "low", "high"] (sp__law_integers K A) :=
  T.F__law_integers.ok sc__law_integers (fun vs H Q E h => by obtain ⟨_, _, _, _, rfl, _⟩ := h; rfl) (fun cdv Ar outer s H vs Q E hr h => ⟨t__law_integers K A E, by exact (pss_cons (ps_if (pt_not (pt_val (pe_callB call_isi (by rfl) T.z_isinstance (by decide +kernel) (pa_cons (pv 0) (pa_cons (pe_bltn (v := .ty "tuple") (by rfl) T.z_tuple (by decide +kernel) rfl) pa_nil))))) (pss_one (ps_ret pe_bl)) pss_nil)
 (pss_cons (ps_for PassesOwn.never rfl (pi_tup (pv 0)) (pg_name (i := 3) sc__law_integers.nd rfl (Or.inl rfl)) (pss_one (ps_if (PW.pt (pw_or (pt_not (pt_val (pe_call (ok__law_is_integer T) (hr.mono (by decide)) rfl T.g__law_is_integer T.k__law_is_integer T.b__law_is_integer .nil pass0 (pa_cons (pv 3) pa_nil)))) (pw_or (pt_cmpR op_lt (pv 3) (pv 1) (nomark _)) (pw_or1 (pt_cmpR op_ge (pv 3) (pv 2) (nomark _)))))) (pss_one (ps_ret pe_bl)) pss_nil)))
 (pss_one (ps_ret pe_bl)))), p__law_integers T.cl h⟩)
theorem ok__law_ascending (T : Txt K mg A) : FnOk P w K mg base CX0 2 A.a__law_ascending A.fd__law_ascending ["draws", "limit", "share"] (sp__law_ascending K A) :=
  T.F__law_ascending.ok sc__law_ascending (fun vs H Q E h => by obtain ⟨_, _, _, _, _, rfl, _⟩ := h; rfl) (fun cdv Ar outer s H vs Q E hr h => ⟨t__law_ascending K A E, by exact (pss_one (ps_ret (pe_lc (own := [("k", 3)]) rfl sc__law_ascending.nd (pi_range1 rfl T.z_range (pa_cons (pv 1) pa_nil)) (blkOk_by (N := ["draws", "limit", "share", "k"]) (sc := defScope s__law_ascending) (own := [("k", 3)]) (by decide +kernel)) (fun _ _ _ _ _ => (pg_name (i := 3) sc__law_ascending.nd rfl (Or.inl rfl))) (fun _ _ _ _ _ => (pts_one (pt_cmpR op_lt (pe_call (ok__law_take T) (hr.mono (by decide)) rfl T.g__law_take T.k__law_take T.b__law_take .nil pass0 (pa_cons (pv 0) (pa_cons pe_int pa_nil))) (pv 2) (nomark _)))) (fun _ _ _ _ _ => (pv 3))))), p__law_ascending T.cl h⟩)
theorem ok__law_spoil_list (T : Txt K mg A) : FnOk P w K mg base CX0 2 A.a__law_spoil_list A.fd__law_spoil_list ["draws", "states", "count"] (sp__law_spoil_list K A) :=
  T.F__law_spoil_list.ok sc__law_spoil_list (fun vs H Q E h => by obtain ⟨_, _, _, _, _, _, rfl, _⟩ := h; rfl) (fun cdv Ar outer s H vs Q E hr h => ⟨t__law_spoil_list K A E, by exact (pss_cons (ps_set (i := 3) sc__law_spoil_list.nd rfl (Or.inl rfl) (pe_call (ok__law_take T) (hr.mono (by decide)) rfl T.g__law_take T.k__law_take T.b__law_take .nil pass0 (pa_cons (pv 0) (pa_cons pe_int pa_nil))))
 (pss_cons (ps_if (pt_cmpR op_eq (pv 3) pe_int (nomark _)) (pss_one (ps_ret (pe_op op_cat (pe_callTy call_list_of (by rfl) T.z_list (by decide +kernel) (pa_cons (pv 1) pa_nil)) (pe_lst (pa_cons (pe_op op_add (pv 2) (pe_call (ok__law_take T) (hr.mono (by decide)) rfl T.g__law_take T.k__law_take T.b__law_take .nil pass0 (pa_cons (pv 0) (pa_cons pe_int pa_nil)))) pa_nil))))) pss_nil)
 (pss_cons (ps_if (pt_cmpR op_eq (pv 3) pe_int (nomark _)) (pss_one (ps_ret (pe_op op_cat (pe_lst (pa_cons (pe_op op_sub (pe_un un_neg pe_int) (pe_call (ok__law_take T) (hr.mono (by decide)) rfl T.g__law_take T.k__law_take T.b__law_take .nil pass0 (pa_cons (pv 0) (pa_cons pe_int pa_nil)))) pa_nil)) (pe_callTy call_list_of (by rfl) T.z_list (by decide +kernel) (pa_cons (pv 1) pa_nil))))) pss_nil)
 (pss_cons (ps_if (PW.pt (pw_and (pt_cmpR op_eq (pv 3) pe_int (nomark _)) (pw_and1 (pt_cmpR op_gt (pe_callB call_len_seq (by rfl) T.z_len (by decide +kernel) (pa_cons (pv 1) pa_nil)) pe_int (nomark _))))) (pss_cons (ps_set (i := 4) sc__law_spoil_list.nd rfl (Or.inl rfl) (pe_call (ok__law_take T) (hr.mono (by decide)) rfl T.g__law_take T.k__law_take T.b__law_take .nil pass0 (pa_cons (pv 0) (pa_cons (pe_callB call_len_seq (by rfl) T.z_len (by decide +kernel) (pa_cons (pv 1) pa_nil)) pa_nil))))
 (pss_one (ps_ret (pe_op op_cat (pe_callTy call_list_of (by rfl) T.z_list (by decide +kernel) (pa_cons (pe_slice sl_list (pv 1) po_none (po_some (pe_op op_add (pv 4) pe_int))) pa_nil)) (pe_callTy call_list_of (by rfl) T.z_list (by decide +kernel) (pa_cons (pe_slice sl_list (pv 1) (po_some (pv 4)) po_none) pa_nil)))))) pss_nil)
 (pss_cons (ps_if (pt_cmpR op_gt (pe_callB call_len_seq (by rfl) T.z_len (by decide +kernel) (pa_cons (pv 1) pa_nil)) pe_int (nomark _)) (pss_cons (ps_set (i := 4) sc__law_spoil_list.nd rfl (Or.inl rfl) (pe_call (ok__law_take T) (hr.mono (by decide)) rfl T.g__law_take T.k__law_take T.b__law_take .nil pass0 (pa_cons (pv 0) (pa_cons (pe_op op_sub (pe_callB call_len_seq (by rfl) T.z_len (by decide +kernel) (pa_cons (pv 1) pa_nil)) pe_int) pa_nil))))
 (pss_one (ps_ret (pe_op op_cat (pe_op op_cat (pe_callTy call_list_of (by rfl) T.z_list (by decide +kernel) (pa_cons (pe_slice sl_list (pv 1) po_none (po_some (pv 4))) pa_nil)) (pe_lst (pa_cons (pe_ix ix_list (pv 1) (pe_op op_add (pv 4) pe_int) (fun _ _ => rfl)) (pa_cons (pe_ix ix_list (pv 1) (pv 4) (fun _ _ => rfl)) pa_nil)))) (pe_callTy call_list_of (by rfl) T.z_list (by decide +kernel) (pa_cons (pe_slice sl_list (pv 1) (po_some (pe_op op_add (pv 4) pe_int)) po_none) pa_nil)))))) pss_nil)
 (pss_one (ps_ret (pe_op op_cat (pe_callTy call_list_of (by rfl) T.z_list (by decide +kernel) (pa_cons (pv 1) pa_nil)) (pe_lst (pa_cons (pv 2) pa_nil)))))))))), p__law_spoil_list T.cl h⟩)
theorem ok__law_automaton (T : Txt K mg A) : FnOk P w K mg base CX0 3 A.a__law_automaton A.fd__law_automaton ["draws", "letters", "most"] (sp__law_automaton K A) :=
  T.F__law_automaton.ok sc__law_automaton (fun vs H Q E h => by obtain ⟨_, _, _, _, _, rfl, _⟩ := h; rfl) (fun cdv Ar outer s H vs Q E hr h => ⟨t__law_automaton K A E, by exact (pss_cons (ps_set (i := 3) sc__law_automaton.nd rfl (Or.inr rfl) (pe_op op_add pe_int (pe_call (ok__law_take T) (hr.mono (by decide)) rfl T.g__law_take T.k__law_take T.b__law_take .nil pass0 (pa_cons (pv 0) (pa_cons (pv 2) pa_nil)))))
 (pss_cons (ps_set (i := 4) sc__law_automaton.nd rfl (Or.inr rfl) (pe_op op_add pe_int (pe_call (ok__law_take T) (hr.mono (by decide)) rfl T.g__law_take T.k__law_take T.b__law_take .nil pass0 (pa_cons (pv 0) (pa_cons pe_int pa_nil)))))
 (pss_cons (ps_set (i := 5) sc__law_automaton.nd rfl (Or.inl rfl) (pe_call (ok__law_ascending T) (hr.mono (by decide)) rfl T.g__law_ascending T.k__law_ascending T.b__law_ascending .nil pass0 (pa_cons (pv 0) (pa_cons (pv 3) (pa_cons pe_int pa_nil)))))
 (pss_cons (ps_set (i := 6) sc__law_automaton.nd rfl (Or.inl rfl) (pe_call (ok__law_ascending T) (hr.mono (by decide)) rfl T.g__law_ascending T.k__law_ascending T.b__law_ascending .nil pass0 (pa_cons (pv 0) (pa_cons (pv 3) (pa_cons pe_int pa_nil)))))
 (pss_cons (ps_if (PW.pt (pw_and (pt_cmpR op_eq (pe_callB call_len_seq (by rfl) T.z_len (by decide +kernel) (pa_cons (pv 5) pa_nil)) pe_int (nomark _)) (pw_and1 (pt_cmpR op_gt (pe_call (ok__law_take T) (hr.mono (by decide)) rfl T.g__law_take T.k__law_take T.b__law_take .nil pass0 (pa_cons (pv 0) (pa_cons pe_int pa_nil))) pe_int (nomark _))))) (pss_one (ps_set (i := 5) sc__law_automaton.nd rfl (Or.inl rfl) (pe_lst (pa_cons pe_int pa_nil)))) pss_nil)
 (pss_cons (ps_set (i := 7) sc__law_automaton.nd rfl (Or.inl rfl) (pe_lst pa_nil))
 (pss_cons (ps_for PassesOwn.never rfl (pi_range1 rfl T.z_range (pa_cons (pv 3) pa_nil)) (pg_name (i := 8) sc__law_automaton.nd rfl (Or.inl rfl)) (pss_one (ps_expr (pe_bm PySem.F.plainAttrs_list PySem.F.slot_list_append PySem.F.type_list_append mt_append (pv 7) (pa_cons (pe_lc (own := [("letter", 9)]) rfl sc__law_automaton.nd (pi_range1 rfl T.z_range (pa_cons (pv 1) pa_nil)) (blkOk_by (N := ["draws", "letters", "most", "count", "share", "initial", "accepting", "rows", "state", "letter"]) (sc := defScope s__law_automaton) (own := [("letter", 9)]) (by decide +kernel)) (fun _ _ _ _ _ => (pg_name (i := 9) sc__law_automaton.nd rfl (Or.inl rfl))) (fun _ _ _ _ _ => pts_nil) (fun _ _ _ _ _ => (pe_call (ok__law_ascending T) (hr.mono (by decide)) rfl T.g__law_ascending T.k__law_ascending T.b__law_ascending .nil pass0 (pa_cons (pv 0) (pa_cons (pv 3) (pa_cons (pv 4) pa_nil)))))) pa_nil)))))
 (pss_one (ps_ret (pe_tup (pa_cons (pv 5) (pa_cons (pv 6) (pa_cons (pv 7) pa_nil))))))))))))), p__law_automaton T.cl h⟩)
theorem ok__law_states (T : Txt K mg A) : FnOk P w K mg base CX0 3 A.a__law_states A.fd__law_states ["actual", "count"] (sp__law_states K A) :=
  T.F__law_states.ok sc__law_states (fun vs H Q E h => by obtain ⟨_, _, _, rfl, _⟩ := h; rfl) (fun cdv Ar outer s H vs Q E hr h => ⟨t__law_states K A E, by exact (pss_cons (ps_if (pt_not (pt_val (pe_call (ok__law_integers T) (hr.mono (by decide)) rfl T.g__law_integers T.k__law_integers T.b__law_integers .nil pass0 (pa_cons (pv 0) (pa_cons pe_int (pa_cons (pv 1) pa_nil)))))) (pss_one (ps_ret pe_bl)) pss_nil)
 (pss_cons (ps_for PassesOwn.never rfl (pi_range2 rfl T.z_range (pa_cons pe_int (pa_cons (pe_callB call_len_seq (by rfl) T.z_len (by decide +kernel) (pa_cons (pv 0) pa_nil)) pa_nil))) (pg_name (i := 2) sc__law_states.nd rfl (Or.inl rfl)) (pss_one (ps_if (pt_cmpR op_ge (pe_ix ix_tup (pv 0) (pe_op op_sub (pv 2) pe_int) (fun _ _ => rfl)) (pe_ix ix_tup (pv 0) (pv 2) (fun _ _ => rfl)) (nomark _)) (pss_one (ps_ret pe_bl)) pss_nil)))
 (pss_one (ps_ret pe_bl)))), p__law_states T.cl h⟩)
theorem ok__law_is_automaton (T : Txt K mg A) : FnOk P w K mg base CX0 4 A.a__law_is_automaton A.fd__law_is_automaton ["actual", "letters"] (sp__law_is_automaton K A) :=
  T.F__law_is_automaton.ok sc__law_is_automaton (fun vs H Q E h => by obtain ⟨_, _, _, _, _, rfl, _⟩ := h; rfl) (fun cdv Ar outer s H vs Q E hr h => ⟨t__law_is_automaton K A E, by exact (pss_cons (ps_if (PW.pt (pw_or (pt_not (pt_val (pe_call (ok__law_is_integer T) (hr.mono (by decide)) rfl T.g__law_is_integer T.k__law_is_integer T.b__law_is_integer .nil pass0 (pa_cons (pe_fld (pv 0) rfl) pa_nil)))) (pw_or1 (pt_cmpR op_ne (pe_fld (pv 0) rfl) (pv 1) (nomark _))))) (pss_one (ps_ret pe_bl)) pss_nil)
 (pss_cons (ps_if (PW.pt (pw_or (pt_not (pt_val (pe_callB call_isi (by rfl) T.z_isinstance (by decide +kernel) (pa_cons (pe_fld (pv 0) rfl) (pa_cons (pe_bltn (v := .ty "tuple") (by rfl) T.z_tuple (by decide +kernel) rfl) pa_nil))))) (pw_or1 (pt_cmpR op_eq (pe_callB call_len_seq (by rfl) T.z_len (by decide +kernel) (pa_cons (pe_fld (pv 0) rfl) pa_nil)) pe_int (nomark _))))) (pss_one (ps_ret pe_bl)) pss_nil)
 (pss_cons (ps_set (i := 2) sc__law_is_automaton.nd rfl (Or.inl rfl) (pe_callB call_len_seq (by rfl) T.z_len (by decide +kernel) (pa_cons (pe_fld (pv 0) rfl) pa_nil)))
 (pss_cons (ps_if (PW.pt (pw_or (pt_not (pt_val (pe_call (ok__law_states T) (hr.mono (by decide)) rfl T.g__law_states T.k__law_states T.b__law_states .nil pass0 (pa_cons (pe_fld (pv 0) rfl) (pa_cons (pv 2) pa_nil))))) (pw_or1 (pt_not (pt_val (pe_call (ok__law_states T) (hr.mono (by decide)) rfl T.g__law_states T.k__law_states T.b__law_states .nil pass0 (pa_cons (pe_fld (pv 0) rfl) (pa_cons (pv 2) pa_nil)))))))) (pss_one (ps_ret pe_bl)) pss_nil)
 (pss_cons (ps_for PassesOwn.never rfl (pi_tup (pe_fld (pv 0) rfl)) (pg_name (i := 3) sc__law_is_automaton.nd rfl (Or.inl rfl)) (pss_cons (ps_if (PW.pt (pw_or (pt_not (pt_val (pe_callB call_isi (by rfl) T.z_isinstance (by decide +kernel) (pa_cons (pv 3) (pa_cons (pe_bltn (v := .ty "tuple") (by rfl) T.z_tuple (by decide +kernel) rfl) pa_nil))))) (pw_or1 (pt_cmpR op_ne (pe_callB call_len_seq (by rfl) T.z_len (by decide +kernel) (pa_cons (pv 3) pa_nil)) (pv 1) (nomark _))))) (pss_one (ps_ret pe_bl)) pss_nil)
 (pss_one (ps_for PassesOwn.never rfl (pi_tup (pv 3)) (pg_name (i := 4) sc__law_is_automaton.nd rfl (Or.inl rfl)) (pss_one (ps_if (pt_not (pt_val (pe_call (ok__law_states T) (hr.mono (by decide)) rfl T.g__law_states T.k__law_states T.b__law_states .nil pass0 (pa_cons (pv 4) (pa_cons (pv 2) pa_nil))))) (pss_one (ps_ret pe_bl)) pss_nil))))))
 (pss_one (ps_ret pe_bl))))))), p__law_is_automaton T.cl h⟩)
theorem ok__law_outcome (T : Txt K mg A) : FnOk P w K mg base CX0 4 A.a__law_outcome A.fd__law_outcome ["letters", "initial", "accepting", "rows"] (sp__law_outcome K A) :=
  T.F__law_outcome.ok sc__law_outcome (fun vs H Q E h => by obtain ⟨_, _, _, _, _, _, _, _, _, rfl, _⟩ := h; rfl) (fun cdv Ar outer s H vs Q E hr h => ⟨t__law_outcome K A E, by exact (pss_cons (ps_try_as (i := 4) (tb := fun W => (tRet (tMake A.C_Automaton (sp_Automaton_init K A) [] (wAllN 5 W) (tCons (tVar 0) (tCons (tVar 1) (tCons (tVar 2) (tCons (tVar 3) tNil))))))) (ts := fun a cls d => (tIfS (tB (tCB (rIsE' K a cls d) (tCons (tVar 4) (tCons (tC (.ref A.C_SynthError)) tNil)))) (tRet (tC .non)) tNext)) (Wout := fun _ _ _ _ => False) rfl rfl sc__law_outcome.nd rfl rfl ⟨rfl, by decide, Or.inl T.g_InvalidAutomaton⟩ takes0 (fun W pn xe tk po => (pss_one (ps_ret (pe_make T.M_Automaton (ok_Automaton_init T) (hr.mono (by decide)) rfl T.g_Automaton T.b_Automaton_init .nil (passes_allN tk rfl) (pa_cons (pv 0) (pa_cons (pv 1) (pa_cons (pv 2) (pa_cons (pv 3) pa_nil)))))))) (fun a oe cls d pn hz hf => (pss_one (ps_if (pt_val (pe_callB (call_isE' hz hf) (by rfl) T.z_isinstance (by decide +kernel) (pa_cons (pv 4) (pa_cons (pe_glob rfl T.g_SynthError rfl) pa_nil)))) (pss_one (ps_ret pe_non)) pss_nil))))
 (pss_one (ps_ret pe_int))), p__law_outcome T.cl h⟩)
theorem ok_law (T : Txt K mg A) : FnOk P w K mg base CX0 5 A.a_law A.fd_law ["script"] (sp_law K A) :=
  T.F_law.ok sc_law (fun vs H Q E h => by obtain ⟨_, _, rfl, _⟩ := h; rfl) (fun cdv Ar outer s H vs Q E hr h => ⟨t_law K A E, by exact (pss_cons (ps_set (i := 1) sc_law.nd rfl (Or.inl rfl) (pe_call (ok__law_draws T) (hr.mono (by decide)) rfl T.g__law_draws T.k__law_draws T.b__law_draws .nil pass0 (pa_cons (pv 0) (pa_cons pe_int pa_nil))))
 (pss_cons (ps_set (i := 2) sc_law.nd rfl (Or.inl rfl) (pe_op op_add pe_int (pe_call (ok__law_take T) (hr.mono (by decide)) rfl T.g__law_take T.k__law_take T.b__law_take .nil pass0 (pa_cons (pv 1) (pa_cons pe_int pa_nil)))))
 (pss_cons (ps_asg (pe_call (ok__law_automaton T) (hr.mono (by decide)) rfl T.g__law_automaton T.k__law_automaton T.b__law_automaton .nil pass0 (pa_cons (pv 1) (pa_cons (pv 2) (pa_cons pe_int pa_nil)))) (pg_tup (by rfl) (pgs_cons (pg_name (i := 3) sc_law.nd rfl (Or.inl rfl)) (pgs_cons (pg_name (i := 4) sc_law.nd rfl (Or.inl rfl)) (pgs_cons (pg_name (i := 5) sc_law.nd rfl (Or.inl rfl)) pgs_nil)))))
 (pss_cons (ps_set (i := 6) sc_law.nd rfl (Or.inl rfl) (pe_callB call_len_seq (by rfl) T.z_len (by decide +kernel) (pa_cons (pv 5) pa_nil)))
 (pss_cons (ps_set (i := 7) sc_law.nd rfl (Or.inl rfl) (pe_call (ok__law_take T) (hr.mono (by decide)) rfl T.g__law_take T.k__law_take T.b__law_take .nil pass0 (pa_cons (pv 1) (pa_cons pe_int pa_nil))))
 (pss_cons (ps_set (i := 8) sc_law.nd rfl (Or.inl rfl) (pe_call (ok__law_take T) (hr.mono (by decide)) rfl T.g__law_take T.k__law_take T.b__law_take .nil pass0 (pa_cons (pv 1) (pa_cons (pv 6) pa_nil))))
 (pss_cons (ps_set (i := 9) sc_law.nd rfl (Or.inl rfl) (pe_call (ok__law_take T) (hr.mono (by decide)) rfl T.g__law_take T.k__law_take T.b__law_take .nil pass0 (pa_cons (pv 1) (pa_cons (pv 2) pa_nil))))
 (pss_cons (ps_if (pt_cmpR op_eq (pv 7) pe_int (nomark _)) (pss_one (ps_set (i := 2) sc_law.nd rfl (Or.inl rfl) (pe_ix ix_list (pe_lst (pa_cons pe_int (pa_cons (pe_un un_neg pe_int) pa_nil))) (pe_call (ok__law_take T) (hr.mono (by decide)) rfl T.g__law_take T.k__law_take T.b__law_take .nil pass0 (pa_cons (pv 1) (pa_cons pe_int pa_nil))) (fun _ _ => rfl)))) pss_nil)
 (pss_cons (ps_if (pt_cmpR op_eq (pv 7) pe_int (nomark _)) (pss_cons (ps_set (i := 5) sc_law.nd rfl (Or.inl rfl) (pe_lst pa_nil))
 (pss_cons (ps_set (i := 3) sc_law.nd rfl (Or.inl rfl) (pe_lst pa_nil))
 (pss_one (ps_set (i := 4) sc_law.nd rfl (Or.inl rfl) (pe_lst pa_nil))))) pss_nil)
 (pss_cons (ps_if (pt_cmpR op_eq (pv 7) pe_int (nomark _)) (pss_one (ps_set (i := 3) sc_law.nd rfl (Or.inl rfl) (pe_call (ok__law_spoil_list T) (hr.mono (by decide)) rfl T.g__law_spoil_list T.k__law_spoil_list T.b__law_spoil_list .nil pass0 (pa_cons (pv 1) (pa_cons (pv 3) (pa_cons (pv 6) pa_nil)))))) pss_nil)
 (pss_cons (ps_if (pt_cmpR op_eq (pv 7) pe_int (nomark _)) (pss_one (ps_set (i := 4) sc_law.nd rfl (Or.inl rfl) (pe_call (ok__law_spoil_list T) (hr.mono (by decide)) rfl T.g__law_spoil_list T.k__law_spoil_list T.b__law_spoil_list .nil pass0 (pa_cons (pv 1) (pa_cons (pv 4) (pa_cons (pv 6) pa_nil)))))) pss_nil)
 (pss_cons (ps_if (pt_cmpR op_eq (pv 7) pe_int (nomark _)) (pss_one (ps_asg (pe_call (ok__law_spoil_list T) (hr.mono (by decide)) rfl T.g__law_spoil_list T.k__law_spoil_list T.b__law_spoil_list .nil pass0 (pa_cons (pv 1) (pa_cons (pe_ix ix_list (pe_ix ix_list (pv 5) (pv 8) (fun _ _ => rfl)) (pv 9) (fun _ _ => rfl)) (pa_cons (pv 6) pa_nil)))) (pg_sub (pe_ix ix_list (pv 5) (pv 8) (fun _ _ => rfl)) (pv 9) set_list))) pss_nil)
 (pss_cons (ps_if (pt_cmpR op_eq (pv 7) pe_int (nomark _)) (pss_one (ps_asg (pe_op op_cat (pe_ix ix_list (pv 5) (pv 8) (fun _ _ => rfl)) (pe_lst (pa_cons (pe_lst pa_nil) pa_nil))) (pg_sub (pv 5) (pv 8) set_list))) pss_nil)
 (pss_cons (ps_if (pt_cmpR op_eq (pv 7) pe_int (nomark _)) (pss_one (ps_asg (pe_slice sl_list (pe_ix ix_list (pv 5) (pv 8) (fun _ _ => rfl)) po_none (po_some (pe_op op_sub (pv 2) pe_int))) (pg_sub (pv 5) (pv 8) set_list))) pss_nil)
 (pss_cons (ps_set (i := 10) sc_law.nd rfl (Or.inl rfl) (pe_lst (pa_cons (pe_callTy call_list_of (by rfl) T.z_list (by decide +kernel) (pa_cons (pv 3) pa_nil)) (pa_cons (pe_callTy call_list_of (by rfl) T.z_list (by decide +kernel) (pa_cons (pv 4) pa_nil)) (pa_cons (pe_call (ok__law_copy T) (hr.mono (by decide)) rfl T.g__law_copy T.k__law_copy T.b__law_copy .nil pass0 (pa_cons (pv 5) pa_nil)) pa_nil)))))
 (pss_cons (ps_set (i := 11) sc_law.nd rfl (Or.inl rfl) (pe_call (ok__law_outcome T) (hr.mono (by decide)) rfl T.g__law_outcome T.k__law_outcome T.b__law_outcome .nil pass0 (pa_cons (pv 2) (pa_cons (pe_ix ix_list (pv 10) pe_int (fun _ _ => rfl)) (pa_cons (pe_ix ix_list (pv 10) pe_int (fun _ _ => rfl)) (pa_cons (pe_ix ix_list (pv 10) pe_int (fun _ _ => rfl)) pa_nil))))))
 (pss_cons (ps_if (pt_cmpR (op_neD hr.units) (pv 10) (pe_lst (pa_cons (pv 3) (pa_cons (pv 4) (pa_cons (pv 5) pa_nil)))) (nomark _)) (pss_one (ps_ret pe_bl)) pss_nil)
 (pss_cons (ps_if (pt_cmpR op_lt (pv 7) pe_int (nomark _)) (pss_one (ps_ret (pe_cmpR op_isN (pv 11) pe_non (nomark _)))) pss_nil)
 (pss_cons (ps_if (PW.pt (pw_or (pt_not (pt_val (pe_callB call_isi (by rfl) T.z_isinstance (by decide +kernel) (pa_cons (pv 11) (pa_cons (pe_glob rfl T.g_Automaton rfl) pa_nil))))) (pw_or1 (pt_not (pt_val (pe_call (ok__law_is_automaton T) (hr.mono (by decide)) rfl T.g__law_is_automaton T.k__law_is_automaton T.b__law_is_automaton .nil pass0 (pa_cons (pv 11) (pa_cons (pv 2) pa_nil)))))))) (pss_one (ps_ret pe_bl)) pss_nil)
 (pss_cons (ps_expr (pe_bm PySem.F.plainAttrs_list PySem.F.slot_list_append PySem.F.type_list_append mt_append (pe_ix ix_list (pv 10) pe_int (fun _ _ => rfl)) (pa_cons pe_int pa_nil)))
 (pss_cons (ps_expr (pe_bm PySem.F.plainAttrs_list PySem.F.slot_list_append PySem.F.type_list_append mt_append (pe_ix ix_list (pv 10) pe_int (fun _ _ => rfl)) (pa_cons pe_int pa_nil)))
 (pss_cons (ps_set (i := 12) sc_law.nd rfl (Or.inl rfl) (pe_ix ix_list (pe_ix ix_list (pv 10) pe_int (fun _ _ => rfl)) (pv 8) (fun _ _ => rfl)))
 (pss_cons (ps_asg (pe_lst (pa_cons pe_int (pa_cons pe_int pa_nil))) (pg_sub (pv 12) (pv 9) set_list))
 (pss_cons (ps_set (i := 13) sc_law.nd rfl (Or.inl rfl) (pe_ix ix_list (pv 10) pe_int (fun _ _ => rfl)))
 (pss_cons (ps_expr (pe_bm PySem.F.plainAttrs_list PySem.F.slot_list_append PySem.F.type_list_append mt_append (pv 13) (pa_cons (pe_lst pa_nil) pa_nil)))
 (pss_cons (ps_setLc (i := 15) (own := [("row", 12)]) rfl sc_law.nd rfl rfl (sw_true rfl rfl rfl (by decide +kernel)) (pi_tup (pe_fld (pv 11) rfl)) (blkOk_by (N := ["script", "draws", "letters", "initial", "accepting", "rows", "count", "spoilt", "state", "letter", "passed", "found", "row", "entry", "targets", "kept"]) (sc := defScope s_law) (own := [("row", 12)]) (by decide +kernel)) (fun _ _ _ _ _ => (pg_name (i := 12) sc_law.nd rfl (Or.inl rfl))) (fun _ _ _ _ _ => pts_nil) (fun _ _ _ _ _ => (pe_lc (own := [("targets", 14)]) rfl sc_law.nd (pi_tup (pv 12)) (blk_in (N := ["script", "draws", "letters", "initial", "accepting", "rows", "count", "spoilt", "state", "letter", "passed", "found", "row", "entry", "targets", "kept"]) (sc0 := defScope s_law) (own := [("targets", 14)]) rfl (by decide +kernel)) (fun _ _ _ _ _ => (pg_name (i := 14) sc_law.nd rfl (Or.inl rfl))) (fun _ _ _ _ _ => pts_nil) (fun _ _ _ _ _ => (pe_callTy call_list_of (by rfl) T.z_list (by decide +kernel) (pa_cons (pv 14) pa_nil))))))
 (pss_one (ps_ret (pe_and (pe_cmpR (op_eqD hr.units) (pe_callTy call_list_of (by rfl) T.z_list (by decide +kernel) (pa_cons (pe_fld (pv 11) rfl) pa_nil)) (pv 3) (nomark _)) (pe_and (pe_cmpR (op_eqD hr.units) (pe_callTy call_list_of (by rfl) T.z_list (by decide +kernel) (pa_cons (pe_fld (pv 11) rfl) pa_nil)) (pv 4) (nomark _)) (pe_one (pe_cmpR (op_eqD hr.units) (pv 15) (pv 5) (nomark _))))))))))))))))))))))))))))))))), p_law T.cl h⟩)
end
theorem all_mk {l : PySem.W.OpenLaw} {w : World} {K : PySem.W.Frag} {h : Heap} {mg : Str → Option Value} {fa : Addr} (X : K.In h) (G : h.Ns mainGlobals mg) (hfa : mg "law" = some (.ref fa))
    {f_ascends : Addr} {od_ascends an_ascends : Option Addr} {sl_ascends : Array (Option Value)} {oc_ascends kV_ascends dc_ascends pm_ascends cd_ascends ct_ascends : Value}
    {f_Automaton_init : Addr} {od_Automaton_init an_Automaton_init : Option Addr} {sl_Automaton_init : Array (Option Value)} {oc_Automaton_init kV_Automaton_init dc_Automaton_init pm_Automaton_init cd_Automaton_init ct_Automaton_init : Value}
    {f__law_draws : Addr} {od__law_draws an__law_draws : Option Addr} {sl__law_draws : Array (Option Value)} {oc__law_draws kV__law_draws dc__law_draws pm__law_draws cd__law_draws ct__law_draws : Value}
    {f__law_take : Addr} {od__law_take an__law_take : Option Addr} {sl__law_take : Array (Option Value)} {oc__law_take kV__law_take dc__law_take pm__law_take cd__law_take ct__law_take : Value}
    {f__law_is_integer : Addr} {od__law_is_integer an__law_is_integer : Option Addr} {sl__law_is_integer : Array (Option Value)} {oc__law_is_integer kV__law_is_integer dc__law_is_integer pm__law_is_integer cd__law_is_integer ct__law_is_integer : Value}
    {f__law_integers : Addr} {od__law_integers an__law_integers : Option Addr} {sl__law_integers : Array (Option Value)} {oc__law_integers kV__law_integers dc__law_integers pm__law_integers cd__law_integers ct__law_integers : Value}
    {f__law_ascending : Addr} {od__law_ascending an__law_ascending : Option Addr} {sl__law_ascending : Array (Option Value)} {oc__law_ascending kV__law_ascending dc__law_ascending pm__law_ascending cd__law_ascending ct__law_ascending : Value}
    {f__law_automaton : Addr} {od__law_automaton an__law_automaton : Option Addr} {sl__law_automaton : Array (Option Value)} {oc__law_automaton kV__law_automaton dc__law_automaton pm__law_automaton cd__law_automaton ct__law_automaton : Value}
    {f__law_copy : Addr} {od__law_copy an__law_copy : Option Addr} {sl__law_copy : Array (Option Value)} {oc__law_copy kV__law_copy dc__law_copy pm__law_copy cd__law_copy ct__law_copy : Value}
    {f__law_states : Addr} {od__law_states an__law_states : Option Addr} {sl__law_states : Array (Option Value)} {oc__law_states kV__law_states dc__law_states pm__law_states cd__law_states ct__law_states : Value}
    {f__law_is_automaton : Addr} {od__law_is_automaton an__law_is_automaton : Option Addr} {sl__law_is_automaton : Array (Option Value)} {oc__law_is_automaton kV__law_is_automaton dc__law_is_automaton pm__law_is_automaton cd__law_is_automaton ct__law_is_automaton : Value}
    {f__law_spoil_list : Addr} {od__law_spoil_list an__law_spoil_list : Option Addr} {sl__law_spoil_list : Array (Option Value)} {oc__law_spoil_list kV__law_spoil_list dc__law_spoil_list pm__law_spoil_list cd__law_spoil_list ct__law_spoil_list : Value}
    {f__law_outcome : Addr} {od__law_outcome an__law_outcome : Option Addr} {sl__law_outcome : Array (Option Value)} {oc__law_outcome kV__law_outcome dc__law_outcome pm__law_outcome cd__law_outcome ct__law_outcome : Value}
    {f_law : Addr} {od_law an_law : Option Addr} {sl_law : Array (Option Value)} {oc_law kV_law dc_law pm_law cd_law ct_law : Value}
    {C_SynthError : Addr}
    {C_InvalidAutomaton : Addr}
    {C_Automaton : Addr}
    (ha_ascends : PySem.W.nsIn K mainGlobals "ascends" = some (some (.ref f_ascends)))
    (hl_ascends : K.lookup f_ascends = some ⟨oc_ascends, od_ascends, .func (PySem.W.fnOf "ascends" "ascends" (defArgs s_ascends) (defBody s_ascends) (defScope s_ascends) .none kV_ascends dc_ascends pm_ascends an_ascends cd_ascends ct_ascends), sl_ascends⟩)
    (hc_ascends : PySem.W.codeIn K cd_ascends "ascends" = true)
    (hk_ascends : PySem.W.keepIn K (.ref f_ascends) = true)
    (ha_Automaton_init : PySem.W.findIn K (.ref C_Automaton) "__init__" = some (some (.ref f_Automaton_init)))
    (hi_Automaton_init : PySem.W.isFn K (.ref f_Automaton_init) = true)
    (hl_Automaton_init : K.lookup f_Automaton_init = some ⟨oc_Automaton_init, od_Automaton_init, .func (PySem.W.fnOf "__init__" "Automaton.__init__" (defArgs s_Automaton_init) (defBody s_Automaton_init) (defScope s_Automaton_init) .none kV_Automaton_init dc_Automaton_init pm_Automaton_init an_Automaton_init cd_Automaton_init ct_Automaton_init), sl_Automaton_init⟩)
    (hc_Automaton_init : PySem.W.codeIn K cd_Automaton_init "Automaton.__init__" = true)
    (hk_Automaton_init : PySem.W.keepIn K (.ref f_Automaton_init) = true)
    (ha__law_draws : PySem.W.nsIn K mainGlobals "_law_draws" = some (some (.ref f__law_draws)))
    (hl__law_draws : K.lookup f__law_draws = some ⟨oc__law_draws, od__law_draws, .func (PySem.W.fnOf "_law_draws" "_law_draws" (defArgs s__law_draws) (defBody s__law_draws) (defScope s__law_draws) .none kV__law_draws dc__law_draws pm__law_draws an__law_draws cd__law_draws ct__law_draws), sl__law_draws⟩)
    (hc__law_draws : PySem.W.codeIn K cd__law_draws "_law_draws" = true)
    (hk__law_draws : PySem.W.keepIn K (.ref f__law_draws) = true)
    (ha__law_take : PySem.W.nsIn K mainGlobals "_law_take" = some (some (.ref f__law_take)))
    (hl__law_take : K.lookup f__law_take = some ⟨oc__law_take, od__law_take, .func (PySem.W.fnOf "_law_take" "_law_take" (defArgs s__law_take) (defBody s__law_take) (defScope s__law_take) .none kV__law_take dc__law_take pm__law_take an__law_take cd__law_take ct__law_take), sl__law_take⟩)
    (hc__law_take : PySem.W.codeIn K cd__law_take "_law_take" = true)
    (hk__law_take : PySem.W.keepIn K (.ref f__law_take) = true)
    (ha__law_is_integer : PySem.W.nsIn K mainGlobals "_law_is_integer" = some (some (.ref f__law_is_integer)))
    (hl__law_is_integer : K.lookup f__law_is_integer = some ⟨oc__law_is_integer, od__law_is_integer, .func (PySem.W.fnOf "_law_is_integer" "_law_is_integer" (defArgs s__law_is_integer) (defBody s__law_is_integer) (defScope s__law_is_integer) .none kV__law_is_integer dc__law_is_integer pm__law_is_integer an__law_is_integer cd__law_is_integer ct__law_is_integer), sl__law_is_integer⟩)
    (hc__law_is_integer : PySem.W.codeIn K cd__law_is_integer "_law_is_integer" = true)
    (hk__law_is_integer : PySem.W.keepIn K (.ref f__law_is_integer) = true)
    (ha__law_integers : PySem.W.nsIn K mainGlobals "_law_integers" = some (some (.ref f__law_integers)))
    (hl__law_integers : K.lookup f__law_integers = some ⟨oc__law_integers, od__law_integers, .func (PySem.W.fnOf "_law_integers" "_law_integers" (defArgs s__law_integers) (defBody s__law_integers) (defScope s__law_integers) .none kV__law_integers dc__law_integers pm__law_integers an__law_integers cd__law_integers ct__law_integers), sl__law_integers⟩)
    (hc__law_integers : PySem.W.codeIn K cd__law_integers "_law_integers" = true)
    (hk__law_integers : PySem.W.keepIn K (.ref f__law_integers) = true)
    (ha__law_ascending : PySem.W.nsIn K mainGlobals "_law_ascending" = some (some (.ref f__law_ascending)))
    (hl__law_ascending : K.lookup f__law_ascending = some ⟨oc__law_ascending, od__law_ascending, .func (PySem.W.fnOf "_law_ascending" "_law_ascending" (defArgs s__law_ascending) (defBody s__law_ascending) (defScope s__law_ascending) .none kV__law_ascending dc__law_ascending pm__law_ascending an__law_ascending cd__law_ascending ct__law_ascending), sl__law_ascending⟩)
    (hc__law_ascending : PySem.W.codeIn K cd__law_ascending "_law_ascending" = true)
    (hk__law_ascending : PySem.W.keepIn K (.ref f__law_ascending) = true)
    (ha__law_automaton : PySem.W.nsIn K mainGlobals "_law_automaton" = some (some (.ref f__law_automaton)))
    (hl__law_automaton : K.lookup f__law_automaton = some ⟨oc__law_automaton, od__law_automaton, .func (PySem.W.fnOf "_law_automaton" "_law_automaton" (defArgs s__law_automaton) (defBody s__law_automaton) (defScope s__law_automaton) .none kV__law_automaton dc__law_automaton pm__law_automaton an__law_automaton cd__law_automaton ct__law_automaton), sl__law_automaton⟩)
    (hc__law_automaton : PySem.W.codeIn K cd__law_automaton "_law_automaton" = true)
    (hk__law_automaton : PySem.W.keepIn K (.ref f__law_automaton) = true)
    (ha__law_copy : PySem.W.nsIn K mainGlobals "_law_copy" = some (some (.ref f__law_copy)))
    (hl__law_copy : K.lookup f__law_copy = some ⟨oc__law_copy, od__law_copy, .func (PySem.W.fnOf "_law_copy" "_law_copy" (defArgs s__law_copy) (defBody s__law_copy) (defScope s__law_copy) .none kV__law_copy dc__law_copy pm__law_copy an__law_copy cd__law_copy ct__law_copy), sl__law_copy⟩)
    (hc__law_copy : PySem.W.codeIn K cd__law_copy "_law_copy" = true)
    (hk__law_copy : PySem.W.keepIn K (.ref f__law_copy) = true)
    (ha__law_states : PySem.W.nsIn K mainGlobals "_law_states" = some (some (.ref f__law_states)))
    (hl__law_states : K.lookup f__law_states = some ⟨oc__law_states, od__law_states, .func (PySem.W.fnOf "_law_states" "_law_states" (defArgs s__law_states) (defBody s__law_states) (defScope s__law_states) .none kV__law_states dc__law_states pm__law_states an__law_states cd__law_states ct__law_states), sl__law_states⟩)
    (hc__law_states : PySem.W.codeIn K cd__law_states "_law_states" = true)
    (hk__law_states : PySem.W.keepIn K (.ref f__law_states) = true)
    (ha__law_is_automaton : PySem.W.nsIn K mainGlobals "_law_is_automaton" = some (some (.ref f__law_is_automaton)))
    (hl__law_is_automaton : K.lookup f__law_is_automaton = some ⟨oc__law_is_automaton, od__law_is_automaton, .func (PySem.W.fnOf "_law_is_automaton" "_law_is_automaton" (defArgs s__law_is_automaton) (defBody s__law_is_automaton) (defScope s__law_is_automaton) .none kV__law_is_automaton dc__law_is_automaton pm__law_is_automaton an__law_is_automaton cd__law_is_automaton ct__law_is_automaton), sl__law_is_automaton⟩)
    (hc__law_is_automaton : PySem.W.codeIn K cd__law_is_automaton "_law_is_automaton" = true)
    (hk__law_is_automaton : PySem.W.keepIn K (.ref f__law_is_automaton) = true)
    (ha__law_spoil_list : PySem.W.nsIn K mainGlobals "_law_spoil_list" = some (some (.ref f__law_spoil_list)))
    (hl__law_spoil_list : K.lookup f__law_spoil_list = some ⟨oc__law_spoil_list, od__law_spoil_list, .func (PySem.W.fnOf "_law_spoil_list" "_law_spoil_list" (defArgs s__law_spoil_list) (defBody s__law_spoil_list) (defScope s__law_spoil_list) .none kV__law_spoil_list dc__law_spoil_list pm__law_spoil_list an__law_spoil_list cd__law_spoil_list ct__law_spoil_list), sl__law_spoil_list⟩)
    (hc__law_spoil_list : PySem.W.codeIn K cd__law_spoil_list "_law_spoil_list" = true)
    (hk__law_spoil_list : PySem.W.keepIn K (.ref f__law_spoil_list) = true)
    (ha__law_outcome : PySem.W.nsIn K mainGlobals "_law_outcome" = some (some (.ref f__law_outcome)))
    (hl__law_outcome : K.lookup f__law_outcome = some ⟨oc__law_outcome, od__law_outcome, .func (PySem.W.fnOf "_law_outcome" "_law_outcome" (defArgs s__law_outcome) (defBody s__law_outcome) (defScope s__law_outcome) .none kV__law_outcome dc__law_outcome pm__law_outcome an__law_outcome cd__law_outcome ct__law_outcome), sl__law_outcome⟩)
    (hc__law_outcome : PySem.W.codeIn K cd__law_outcome "_law_outcome" = true)
    (hk__law_outcome : PySem.W.keepIn K (.ref f__law_outcome) = true)
    (ha_law : PySem.W.nsIn K mainGlobals "law" = some (some (.ref f_law)))
    (hl_law : K.lookup f_law = some ⟨oc_law, od_law, .func (PySem.W.fnOf "law" "law" (defArgs s_law) (defBody s_law) (defScope s_law) .none kV_law dc_law pm_law an_law cd_law ct_law), sl_law⟩)
    (hc_law : PySem.W.codeIn K cd_law "law" = true)
    (hk_law : PySem.W.keepIn K (.ref f_law) = true)
    (hn_SynthError : PySem.W.nsIn K mainGlobals "SynthError" = some (some (.ref C_SynthError)))
    (hn_InvalidAutomaton : PySem.W.nsIn K mainGlobals "InvalidAutomaton" = some (some (.ref C_InvalidAutomaton)))
    (hn_Automaton : PySem.W.nsIn K mainGlobals "Automaton" = some (some (.ref C_Automaton)))
    (hpg_Automaton : PySem.W.plainGet K C_Automaton Str.empty = true)
    (hhd_Automaton : PySem.W.hasDictIn K C_Automaton = true)
    (hpo_Automaton : PySem.W.plainOver K C_Automaton = true)
    (hsa_Automaton : PySem.W.findIn K (.ref C_Automaton) "__setattr__" = some (some (.builtin "object.__setattr__")))
    (hmk_Automaton : PySem.W.makesIn K C_Automaton = true)
    (hkc_Automaton : PySem.W.keepIn K (.ref C_Automaton) = true)
    (hna_Automaton_letters : PySem.W.findIn K (.ref C_Automaton) "letters" = some none)
    (hna_Automaton_initial : PySem.W.findIn K (.ref C_Automaton) "initial" = some none)
    (hna_Automaton_accepting : PySem.W.findIn K (.ref C_Automaton) "accepting" = some none)
    (hna_Automaton_rows : PySem.W.findIn K (.ref C_Automaton) "rows" = some none)
    (ht1_Automaton : PySem.W.findIn K (.ref C_Automaton) "__class__" = some (some (.builtin "object.__class__")))
    (ht4_Automaton : PySem.W.mroIn K C_Automaton (.type "object") = some true)
    (hga_InvalidAutomaton : PySem.W.findIn K (.ref C_InvalidAutomaton) "__getattribute__" = some (some (.builtin "BaseException.__getattribute__")))
    (hgt_InvalidAutomaton : PySem.W.findIn K (.ref C_InvalidAutomaton) "__getattr__" = some none)
    (hca_InvalidAutomaton : PySem.W.findIn K (.ref C_InvalidAutomaton) "__class__" = some (some (.builtin "object.__class__")))
    (hmo_InvalidAutomaton : PySem.W.mroIn K C_InvalidAutomaton (.type "object") = some true)
    (ht2 : PySem.W.specialIn K (.builtin "object.__class__") "__get__" = some (some (.builtin "getset_descriptor.__get__")))
    (ht3 : PySem.W.takesIn K (.builtin "object.__class__") = some true)
    (hk_InvalidAutomaton : PySem.W.keepIn K (.ref C_InvalidAutomaton) = true)
    (hx_InvalidAutomaton : PySem.W.excIn K C_InvalidAutomaton [.type "ValueError", .type "Exception", .type "BaseException", .type "object"] "ValueError.__new__" = true)
    (hs_InvalidAutomaton : PySem.W.subIn K (.ref C_InvalidAutomaton) (.type "BaseException") = some true)
    (ht_InvalidAutomaton : PySem.W.typeIn K (.ref C_InvalidAutomaton) = some (.type "type"))
    (hs_SynthError : PySem.W.subIn K (.ref C_SynthError) (.type "BaseException") = some true)
    (ht_SynthError : PySem.W.typeIn K (.ref C_SynthError) = some (.type "type"))
    (hhd_InvalidAutomaton : PySem.W.hasDictIn K C_InvalidAutomaton = true)
    (he_InvalidAutomaton_InvalidAutomaton : PySem.W.subIn K (.ref C_InvalidAutomaton) (.ref C_InvalidAutomaton) = some true)
    (hhd_SynthError : PySem.W.hasDictIn K C_SynthError = true)
    (he_InvalidAutomaton_SynthError : PySem.W.subIn K (.ref C_InvalidAutomaton) (.ref C_SynthError) = some true)
    (hz_all : PySem.W.nsIn K mainGlobals "all" = some none)
    (hz_bool : PySem.W.nsIn K mainGlobals "bool" = some none)
    (hz_int : PySem.W.nsIn K mainGlobals "int" = some none)
    (hz_isinstance : PySem.W.nsIn K mainGlobals "isinstance" = some none)
    (hz_len : PySem.W.nsIn K mainGlobals "len" = some none)
    (hz_list : PySem.W.nsIn K mainGlobals "list" = some none)
    (hz_range : PySem.W.nsIn K mainGlobals "range" = some none)
    (hz_tuple : PySem.W.nsIn K mainGlobals "tuple" = some none)
    : ∃ fd : FuncData, (∀ (s : Shared) (v : Value), BindsTo s fd ⟨[v], []⟩ [("script", v)]) ∧ ∀ base : Heap, K.In base → base.Ns mainGlobals mg → FnOk l.prog w K mg base CX0 5 fa fd ["script"] (spL K) := by
  have e : fa = f_law := by
    have e := hfa.symm.trans (PySem.W.mg_of X G ha_law)
    cases e
    rfl
  rw [e]
  have C : Cl K { a_ascends := f_ascends, fd_ascends := PySem.W.fnOf "ascends" "ascends" (defArgs s_ascends) (defBody s_ascends) (defScope s_ascends) .none kV_ascends dc_ascends pm_ascends an_ascends cd_ascends ct_ascends, a_Automaton_init := f_Automaton_init, fd_Automaton_init := PySem.W.fnOf "__init__" "Automaton.__init__" (defArgs s_Automaton_init) (defBody s_Automaton_init) (defScope s_Automaton_init) .none kV_Automaton_init dc_Automaton_init pm_Automaton_init an_Automaton_init cd_Automaton_init ct_Automaton_init, a__law_draws := f__law_draws, fd__law_draws := PySem.W.fnOf "_law_draws" "_law_draws" (defArgs s__law_draws) (defBody s__law_draws) (defScope s__law_draws) .none kV__law_draws dc__law_draws pm__law_draws an__law_draws cd__law_draws ct__law_draws, a__law_take := f__law_take, fd__law_take := PySem.W.fnOf "_law_take" "_law_take" (defArgs s__law_take) (defBody s__law_take) (defScope s__law_take) .none kV__law_take dc__law_take pm__law_take an__law_take cd__law_take ct__law_take, a__law_is_integer := f__law_is_integer, fd__law_is_integer := PySem.W.fnOf "_law_is_integer" "_law_is_integer" (defArgs s__law_is_integer) (defBody s__law_is_integer) (defScope s__law_is_integer) .none kV__law_is_integer dc__law_is_integer pm__law_is_integer an__law_is_integer cd__law_is_integer ct__law_is_integer, a__law_integers := f__law_integers, fd__law_integers := PySem.W.fnOf "_law_integers" "_law_integers" (defArgs s__law_integers) (defBody s__law_integers) (defScope s__law_integers) .none kV__law_integers dc__law_integers pm__law_integers an__law_integers cd__law_integers ct__law_integers, a__law_ascending := f__law_ascending, fd__law_ascending := PySem.W.fnOf "_law_ascending" "_law_ascending" (defArgs s__law_ascending) (defBody s__law_ascending) (defScope s__law_ascending) .none kV__law_ascending dc__law_ascending pm__law_ascending an__law_ascending cd__law_ascending ct__law_ascending, a__law_automaton := f__law_automaton, fd__law_automaton := PySem.W.fnOf "_law_automaton" "_law_automaton" (defArgs s__law_automaton) (defBody s__law_automaton) (defScope s__law_automaton) .none kV__law_automaton dc__law_automaton pm__law_automaton an__law_automaton cd__law_automaton ct__law_automaton, a__law_copy := f__law_copy, fd__law_copy := PySem.W.fnOf "_law_copy" "_law_copy" (defArgs s__law_copy) (defBody s__law_copy) (defScope s__law_copy) .none kV__law_copy dc__law_copy pm__law_copy an__law_copy cd__law_copy ct__law_copy, a__law_states := f__law_states, fd__law_states := PySem.W.fnOf "_law_states" "_law_states" (defArgs s__law_states) (defBody s__law_states) (defScope s__law_states) .none kV__law_states dc__law_states pm__law_states an__law_states cd__law_states ct__law_states, a__law_is_automaton := f__law_is_automaton, fd__law_is_automaton := PySem.W.fnOf "_law_is_automaton" "_law_is_automaton" (defArgs s__law_is_automaton) (defBody s__law_is_automaton) (defScope s__law_is_automaton) .none kV__law_is_automaton dc__law_is_automaton pm__law_is_automaton an__law_is_automaton cd__law_is_automaton ct__law_is_automaton, a__law_spoil_list := f__law_spoil_list, fd__law_spoil_list := PySem.W.fnOf "_law_spoil_list" "_law_spoil_list" (defArgs s__law_spoil_list) (defBody s__law_spoil_list) (defScope s__law_spoil_list) .none kV__law_spoil_list dc__law_spoil_list pm__law_spoil_list an__law_spoil_list cd__law_spoil_list ct__law_spoil_list, a__law_outcome := f__law_outcome, fd__law_outcome := PySem.W.fnOf "_law_outcome" "_law_outcome" (defArgs s__law_outcome) (defBody s__law_outcome) (defScope s__law_outcome) .none kV__law_outcome dc__law_outcome pm__law_outcome an__law_outcome cd__law_outcome ct__law_outcome, a_law := f_law, fd_law := PySem.W.fnOf "law" "law" (defArgs s_law) (defBody s_law) (defScope s_law) .none kV_law dc_law pm_law an_law cd_law ct_law, C_SynthError := C_SynthError, C_InvalidAutomaton := C_InvalidAutomaton, C_Automaton := C_Automaton : Ads } := {
    cl_Automaton := ⟨hpg_Automaton, hhd_Automaton, hpo_Automaton, hsa_Automaton⟩,
    na_Automaton_letters := hna_Automaton_letters,
    na_Automaton_initial := hna_Automaton_initial,
    na_Automaton_accepting := hna_Automaton_accepting,
    na_Automaton_rows := hna_Automaton_rows,
    ty_Automaton := fun e => .base (.ins e ⟨hpg_Automaton, hhd_Automaton, hpo_Automaton, hsa_Automaton⟩ ht1_Automaton ht2 ht3 ht4_Automaton),
    em_InvalidAutomaton_InvalidAutomaton := PySem.W.exm_ref hs_InvalidAutomaton hhd_InvalidAutomaton ht_InvalidAutomaton he_InvalidAutomaton_InvalidAutomaton,
    em_InvalidAutomaton_SynthError := PySem.W.exm_ref hs_SynthError hhd_SynthError ht_SynthError he_InvalidAutomaton_SynthError,
    xc_InvalidAutomaton := ⟨hga_InvalidAutomaton, hgt_InvalidAutomaton, hs_InvalidAutomaton, hhd_InvalidAutomaton, hca_InvalidAutomaton, ht2, ht3, hmo_InvalidAutomaton⟩,
    ki_InvalidAutomaton_SynthError := kit_true hhd_SynthError ht_SynthError he_InvalidAutomaton_SynthError }
  have F_ascends := fun_mk (st := s_ascends) hl_ascends hc_ascends hk_ascends
  have F_Automaton_init := fun_mk (st := s_Automaton_init) hl_Automaton_init hc_Automaton_init hk_Automaton_init
  have F__law_draws := fun_mk (st := s__law_draws) hl__law_draws hc__law_draws hk__law_draws
  have F__law_take := fun_mk (st := s__law_take) hl__law_take hc__law_take hk__law_take
  have F__law_is_integer := fun_mk (st := s__law_is_integer) hl__law_is_integer hc__law_is_integer hk__law_is_integer
  have F__law_integers := fun_mk (st := s__law_integers) hl__law_integers hc__law_integers hk__law_integers
  have F__law_ascending := fun_mk (st := s__law_ascending) hl__law_ascending hc__law_ascending hk__law_ascending
  have F__law_automaton := fun_mk (st := s__law_automaton) hl__law_automaton hc__law_automaton hk__law_automaton
  have F__law_copy := fun_mk (st := s__law_copy) hl__law_copy hc__law_copy hk__law_copy
  have F__law_states := fun_mk (st := s__law_states) hl__law_states hc__law_states hk__law_states
  have F__law_is_automaton := fun_mk (st := s__law_is_automaton) hl__law_is_automaton hc__law_is_automaton hk__law_is_automaton
  have F__law_spoil_list := fun_mk (st := s__law_spoil_list) hl__law_spoil_list hc__law_spoil_list hk__law_spoil_list
  have F__law_outcome := fun_mk (st := s__law_outcome) hl__law_outcome hc__law_outcome hk__law_outcome
  have F_law := fun_mk (st := s_law) hl_law hc_law hk_law
  have T : Txt K mg _ := {
    cl := C,
    F_ascends := F_ascends,
    b_ascends := F_ascends.binds (ps := ["numbers", "count"]) fun _ _ _ _ _ _ us hl => match us, hl with | [_, _], _ => rfl,
    g_ascends := PySem.W.mg_of X G ha_ascends,
    k_ascends := hk_ascends,
    F_Automaton_init := F_Automaton_init,
    b_Automaton_init := F_Automaton_init.binds (ps := ["self", "letters", "initial", "accepting", "rows"]) fun _ _ _ _ _ _ us hl => match us, hl with | [_, _, _, _, _], _ => rfl,
    mt_Automaton_init := ⟨ha_Automaton_init, hi_Automaton_init, hk_Automaton_init⟩,
    F__law_draws := F__law_draws,
    b__law_draws := F__law_draws.binds (ps := ["script", "count"]) fun _ _ _ _ _ _ us hl => match us, hl with | [_, _], _ => rfl,
    g__law_draws := PySem.W.mg_of X G ha__law_draws,
    k__law_draws := hk__law_draws,
    F__law_take := F__law_take,
    b__law_take := F__law_take.binds (ps := ["draws", "limit"]) fun _ _ _ _ _ _ us hl => match us, hl with | [_, _], _ => rfl,
    g__law_take := PySem.W.mg_of X G ha__law_take,
    k__law_take := hk__law_take,
    F__law_is_integer := F__law_is_integer,
    b__law_is_integer := F__law_is_integer.binds (ps := ["actual"]) fun _ _ _ _ _ _ us hl => match us, hl with | [_], _ => rfl,
    g__law_is_integer := PySem.W.mg_of X G ha__law_is_integer,
    k__law_is_integer := hk__law_is_integer,
    F__law_integers := F__law_integers,
    b__law_integers := F__law_integers.binds (ps := ["actual", "low", "high"]) fun _ _ _ _ _ _ us hl => match us, hl with | [_, _, _], _ => rfl,
    g__law_integers := PySem.W.mg_of X G ha__law_integers,
    k__law_integers := hk__law_integers,
    F__law_ascending := F__law_ascending,
    b__law_ascending := F__law_ascending.binds (ps := ["draws", "limit", "share"]) fun _ _ _ _ _ _ us hl => match us, hl with | [_, _, _], _ => rfl,
    g__law_ascending := PySem.W.mg_of X G ha__law_ascending,
    k__law_ascending := hk__law_ascending,
    F__law_automaton := F__law_automaton,
    b__law_automaton := F__law_automaton.binds (ps := ["draws", "letters", "most"]) fun _ _ _ _ _ _ us hl => match us, hl with | [_, _, _], _ => rfl,
    g__law_automaton := PySem.W.mg_of X G ha__law_automaton,
    k__law_automaton := hk__law_automaton,
    F__law_copy := F__law_copy,
    b__law_copy := F__law_copy.binds (ps := ["rows"]) fun _ _ _ _ _ _ us hl => match us, hl with | [_], _ => rfl,
    g__law_copy := PySem.W.mg_of X G ha__law_copy,
    k__law_copy := hk__law_copy,
    F__law_states := F__law_states,
    b__law_states := F__law_states.binds (ps := ["actual", "count"]) fun _ _ _ _ _ _ us hl => match us, hl with | [_, _], _ => rfl,
    g__law_states := PySem.W.mg_of X G ha__law_states,
    k__law_states := hk__law_states,
    F__law_is_automaton := F__law_is_automaton,
    b__law_is_automaton := F__law_is_automaton.binds (ps := ["actual", "letters"]) fun _ _ _ _ _ _ us hl => match us, hl with | [_, _], _ => rfl,
    g__law_is_automaton := PySem.W.mg_of X G ha__law_is_automaton,
    k__law_is_automaton := hk__law_is_automaton,
    F__law_spoil_list := F__law_spoil_list,
    b__law_spoil_list := F__law_spoil_list.binds (ps := ["draws", "states", "count"]) fun _ _ _ _ _ _ us hl => match us, hl with | [_, _, _], _ => rfl,
    g__law_spoil_list := PySem.W.mg_of X G ha__law_spoil_list,
    k__law_spoil_list := hk__law_spoil_list,
    F__law_outcome := F__law_outcome,
    b__law_outcome := F__law_outcome.binds (ps := ["letters", "initial", "accepting", "rows"]) fun _ _ _ _ _ _ us hl => match us, hl with | [_, _, _, _], _ => rfl,
    g__law_outcome := PySem.W.mg_of X G ha__law_outcome,
    k__law_outcome := hk__law_outcome,
    F_law := F_law,
    b_law := F_law.binds (ps := ["script"]) fun _ _ _ _ _ _ us hl => match us, hl with | [_], _ => rfl,
    g_law := PySem.W.mg_of X G ha_law,
    k_law := hk_law,
    g_Automaton := PySem.W.mg_of X G hn_Automaton,
    cl_Automaton := C.cl_Automaton,
    M_Automaton := ⟨hmk_Automaton, ha_Automaton_init, hi_Automaton_init, hkc_Automaton⟩,
    g_InvalidAutomaton := PySem.W.mg_of X G hn_InvalidAutomaton,
    g_SynthError := PySem.W.mg_of X G hn_SynthError,
    k_InvalidAutomaton := hk_InvalidAutomaton, x_InvalidAutomaton := hx_InvalidAutomaton, s_InvalidAutomaton := hs_InvalidAutomaton, t_InvalidAutomaton := ht_InvalidAutomaton,
    z_all := PySem.W.mg_none_of X G hz_all,
    z_bool := PySem.W.mg_none_of X G hz_bool,
    z_int := PySem.W.mg_none_of X G hz_int,
    z_isinstance := PySem.W.mg_none_of X G hz_isinstance,
    z_len := PySem.W.mg_none_of X G hz_len,
    z_list := PySem.W.mg_none_of X G hz_list,
    z_range := PySem.W.mg_none_of X G hz_range,
    z_tuple := PySem.W.mg_none_of X G hz_tuple }
  exact ⟨PySem.W.fnOf "law" "law" (defArgs s_law) (defBody s_law) (defScope s_law) .none kV_law dc_law pm_law an_law cd_law ct_law, fun s v => .of_eq rfl, fun base _ _ => ok_law T⟩
theorem walk {l : PySem.W.OpenLaw} {q : Program} {loose : List Str} {XP : (Str → Option Value) → Heap → Prop} {YP : World → Heap → Prop} {d : DefRec} {K : Params → PySem.W.Frag} (hn : l.most = some 63) (hdf : d.params.defaults = [])
    (hY : ∀ (w : World) (h : Heap), YP w h → (K w.params).In h)
    (F : ∀ (w : World) (mg : Str → Option Value) (fa : Addr) (h : Heap), (K w.params).In h → h.Ns mainGlobals mg → mg d.name = some (.ref fa) →
      ∃ fd : FuncData, (∀ (s : Shared) (u : Value), BindsTo s fd ⟨[u], []⟩ [("script", u)]) ∧ ∀ base : Heap, (K w.params).In base → base.Ns mainGlobals mg → FnOk l.prog w (K w.params) mg base CX0 5 fa fd ["script"] (spL (K w.params))) :
    PySem.W.WalkO q loose XP YP l.row.toRowW d [] (fun f vs => PySem.call f vs) :=
  L2.walk_of (n := 63) (k := 5) (x := "script") (CX := fun _ => CX0) (sp := fun w => spL (K w.params)) hn (by decide) hdf ⟨rfl, by decide, by decide⟩ hY F (fun _ _ a ns hl _ hS => ⟨a, ns, rfl, hS, hl, fun _ => rfl⟩) fun _ _ _ _ _ z => z
end LW
open PySem PySem.W PyProof.Rows in
set_option maxRecDepth 100000 in
set_option maxHeartbeats 0 in
theorem PySem.Challenge.cw_promiseplay_k16_automaton_holds : PySem.Challenge.rw_promiseplay_k16_automaton.Holds := by
  w_on; o_law; k_head; (case hw => w_witness2)
  k_fill
  refine LW.walk (l := PySem.Challenge.rw_promiseplay_k16_automaton) rfl rfl (fun w h Y => PySem.W.kIn_of Y) ?F
  case F =>
    intro w mg fa h KX G hmg
    refine' LW.all_mk KX G hmg ?ha_ascends ?hl_ascends ?hc_ascends ?hk_ascends ?ha_Automaton_init ?hi_Automaton_init ?hl_Automaton_init ?hc_Automaton_init ?hk_Automaton_init ?ha__law_draws ?hl__law_draws ?hc__law_draws ?hk__law_draws ?ha__law_take ?hl__law_take ?hc__law_take ?hk__law_take ?ha__law_is_integer ?hl__law_is_integer ?hc__law_is_integer ?hk__law_is_integer ?ha__law_integers ?hl__law_integers ?hc__law_integers ?hk__law_integers ?ha__law_ascending ?hl__law_ascending ?hc__law_ascending ?hk__law_ascending ?ha__law_automaton ?hl__law_automaton ?hc__law_automaton ?hk__law_automaton ?ha__law_copy ?hl__law_copy ?hc__law_copy ?hk__law_copy ?ha__law_states ?hl__law_states ?hc__law_states ?hk__law_states ?ha__law_is_automaton ?hl__law_is_automaton ?hc__law_is_automaton ?hk__law_is_automaton ?ha__law_spoil_list ?hl__law_spoil_list ?hc__law_spoil_list ?hk__law_spoil_list ?ha__law_outcome ?hl__law_outcome ?hc__law_outcome ?hk__law_outcome ?ha_law ?hl_law ?hc_law ?hk_law ?hn_SynthError ?hn_InvalidAutomaton ?hn_Automaton ?hpg_Automaton ?hhd_Automaton ?hpo_Automaton ?hsa_Automaton ?hmk_Automaton ?hkc_Automaton ?hna_Automaton_letters ?hna_Automaton_initial ?hna_Automaton_accepting ?hna_Automaton_rows ?ht1_Automaton ?ht4_Automaton ?hga_InvalidAutomaton ?hgt_InvalidAutomaton ?hca_InvalidAutomaton ?hmo_InvalidAutomaton ?ht2 ?ht3 ?hk_InvalidAutomaton ?hx_InvalidAutomaton ?hs_InvalidAutomaton ?ht_InvalidAutomaton ?hs_SynthError ?ht_SynthError ?hhd_InvalidAutomaton ?he_InvalidAutomaton_InvalidAutomaton ?hhd_SynthError ?he_InvalidAutomaton_SynthError ?hz_all ?hz_bool ?hz_int ?hz_isinstance ?hz_len ?hz_list ?hz_range ?hz_tuple
    (case hn_SynthError => k_is)
    (case hn_InvalidAutomaton => k_is)
    (case hn_Automaton => k_is)
    (case ha_ascends => k_is)
    (case ha_Automaton_init => k_is)
    (case ha__law_draws => k_is)
    (case ha__law_take => k_is)
    (case ha__law_is_integer => k_is)
    (case ha__law_integers => k_is)
    (case ha__law_ascending => k_is)
    (case ha__law_automaton => k_is)
    (case ha__law_copy => k_is)
    (case ha__law_states => k_is)
    (case ha__law_is_automaton => k_is)
    (case ha__law_spoil_list => k_is)
    (case ha__law_outcome => k_is)
    (case ha_law => k_is)
    (case hl_ascends => k_is)
    (case hl_Automaton_init => k_is)
    (case hl__law_draws => k_is)
    (case hl__law_take => k_is)
    (case hl__law_is_integer => k_is)
    (case hl__law_integers => k_is)
    (case hl__law_ascending => k_is)
    (case hl__law_automaton => k_is)
    (case hl__law_copy => k_is)
    (case hl__law_states => k_is)
    (case hl__law_is_automaton => k_is)
    (case hl__law_spoil_list => k_is)
    (case hl__law_outcome => k_is)
    (case hl_law => k_is)
    (case hc_ascends => k_is)
    (case hk_ascends => k_is)
    (case hi_Automaton_init => k_is)
    (case hc_Automaton_init => k_is)
    (case hk_Automaton_init => k_is)
    (case hc__law_draws => k_is)
    (case hk__law_draws => k_is)
    (case hc__law_take => k_is)
    (case hk__law_take => k_is)
    (case hc__law_is_integer => k_is)
    (case hk__law_is_integer => k_is)
    (case hc__law_integers => k_is)
    (case hk__law_integers => k_is)
    (case hc__law_ascending => k_is)
    (case hk__law_ascending => k_is)
    (case hc__law_automaton => k_is)
    (case hk__law_automaton => k_is)
    (case hc__law_copy => k_is)
    (case hk__law_copy => k_is)
    (case hc__law_states => k_is)
    (case hk__law_states => k_is)
    (case hc__law_is_automaton => k_is)
    (case hk__law_is_automaton => k_is)
    (case hc__law_spoil_list => k_is)
    (case hk__law_spoil_list => k_is)
    (case hc__law_outcome => k_is)
    (case hk__law_outcome => k_is)
    (case hc_law => k_is)
    (case hk_law => k_is)
    (case hpg_Automaton => k_is)
    (case hhd_Automaton => k_is)
    (case hpo_Automaton => k_is)
    (case hsa_Automaton => k_is)
    (case hmk_Automaton => k_is)
    (case hkc_Automaton => k_is)
    (case hna_Automaton_letters => k_is)
    (case hna_Automaton_initial => k_is)
    (case hna_Automaton_accepting => k_is)
    (case hna_Automaton_rows => k_is)
    (case ht1_Automaton => k_is)
    (case ht4_Automaton => k_is)
    (case hga_InvalidAutomaton => k_is)
    (case hgt_InvalidAutomaton => k_is)
    (case hca_InvalidAutomaton => k_is)
    (case hmo_InvalidAutomaton => k_is)
    (case ht2 => k_is)
    (case ht3 => k_is)
    (case hk_InvalidAutomaton => k_is)
    (case hx_InvalidAutomaton => k_exc)
    (case hs_InvalidAutomaton => k_is)
    (case ht_InvalidAutomaton => k_is)
    (case hs_SynthError => k_is)
    (case ht_SynthError => k_is)
    (case hhd_InvalidAutomaton => k_is)
    (case he_InvalidAutomaton_InvalidAutomaton => first | rfl | k_is)
    (case hhd_SynthError => k_is)
    (case he_InvalidAutomaton_SynthError => first | rfl | k_is)
    (case hz_all => k_is)
    (case hz_bool => k_is)
    (case hz_int => k_is)
    (case hz_isinstance => k_is)
    (case hz_len => k_is)
    (case hz_list => k_is)
    (case hz_range => k_is)
    (case hz_tuple => k_is)
