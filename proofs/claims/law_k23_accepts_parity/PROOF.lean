import PyProof.Rows.All
import Wide.All
import OpenK.AllK
import Wide.FinOn
import HandS.ForMost
import HandS.ForExc
import HandS.Wide
import HandS.IsInst
import HandS.TupAny
import HandS.WideBits
import HandS.TryMany
import HandS.ExcIs
import KE.KMinKey
import HandS.SortKw
import PySem.Challenge.RW_promiseplay_k23_accepts_parity
set_option Elab.async false
set_option linter.all false
set_option maxRecDepth 100000
set_option maxHeartbeats 4000000
namespace SL
open PySem L2

/-! ## heaps: frozen part, owned objects -/
abbrev Led := List (Addr × HO)
def SameB (p : Addr) (H H' : Hp) : Prop := ∀ b o, b ≠ p → H b = some o → H' b = some o
def del (H : Hp) (p : Addr) : Hp := fun b => if b = p then none else H b
theorem del_self {H : Hp} {p : Addr} : del H p p = none := by unfold del; rw [if_pos rfl]
theorem del_ne {H : Hp} {p b : Addr} (h : b ≠ p) : del H p b = H b := by unfold del; rw [if_neg h]
theorem del_some {H : Hp} {p b : Addr} {o : HO} (h : del H p b = some o) : b ≠ p ∧ H b = some o := by
  by_cases e : b = p
  · rw [e, del_self] at h; cases h
  · rw [del_ne e] at h; exact ⟨e, h⟩
theorem same_new {H : Hp} {p : Addr} {o : HO} (h : H p = none) : Same H (upd H p o) := fun b u e => by
  rw [upd_ne (ne_of_none e h)]; exact e
structure En where
  F : Hp
  H : Hp
structure St (E : En) (F H : Hp) (L : Led) : Prop where
  bh : Same E.H H
  fh : Same F H
  ff : Same E.F F
  pr : ∀ a, F a ≠ none → E.F a ≠ none ∨ E.H a = none
  own : ∀ x ∈ L, H x.1 = some x.2 ∧ F x.1 = none ∧ E.H x.1 = none
  nd : (L.map (·.1)).Nodup
/-- what a call leaves that changes nothing -/
structure Gr (F H F' H' : Hp) : Prop where
  ff : Same F F'
  fh : Same F' H'
  hh : Same H H'
  pr : ∀ a, F' a ≠ none → F a ≠ none ∨ H a = none
/-- .. that changes p alone -/
structure GrB (p : Addr) (F H F' H' : Hp) : Prop where
  ff : Same F F'
  fh : Same F' H'
  hh : SameB p H H'
  pr : ∀ a, F' a ≠ none → F a ≠ none ∨ H a = none
inductive Upd : Led → Addr → HO → HO → Led → Prop
  | head {a o o' L} : Upd ((a, o) :: L) a o o' ((a, o') :: L)
  | tail {a o o' L L' x} : Upd L a o o' L' → Upd (x :: L) a o o' (x :: L')
inductive Tak : Led → Addr → HO → Led → Prop
  | head {a o L} : Tak ((a, o) :: L) a o L
  | tail {a o L L' x} : Tak L a o L' → Tak (x :: L) a o (x :: L')
theorem Upd.mem {L L' : Led} {a : Addr} {o o' : HO} (u : Upd L a o o' L') : (a, o) ∈ L := by
  induction u with
  | head => exact List.mem_cons_self
  | tail _ ih => exact List.mem_cons_of_mem _ ih
theorem Upd.fst {L L' : Led} {a : Addr} {o o' : HO} (u : Upd L a o o' L') : L'.map (·.1) = L.map (·.1) := by
  induction u with
  | head => rfl
  | tail _ ih => rw [List.map_cons, List.map_cons, ih]
theorem Upd.of {L L' : Led} {a : Addr} {o o' : HO} (u : Upd L a o o' L') : ∀ x ∈ L', x = (a, o') ∨ x ∈ L := by
  induction u with
  | head =>
    intro x hx
    rcases List.mem_cons.mp hx with e | e
    · exact .inl e
    · exact .inr (List.mem_cons_of_mem _ e)
  | tail _ ih =>
    intro x hx
    rcases List.mem_cons.mp hx with e | e
    · exact .inr (e ▸ List.mem_cons_self)
    · rcases ih x e with q | q
      · exact .inl q
      · exact .inr (List.mem_cons_of_mem _ q)
theorem Upd.new {L L' : Led} {a : Addr} {o o' : HO} (u : Upd L a o o' L') : (a, o') ∈ L' := by
  induction u with
  | head => exact List.mem_cons_self
  | tail _ ih => exact List.mem_cons_of_mem _ ih
theorem nd_one : ∀ {L : Led} {a : Addr} {o : HO} {x : Addr × HO}, (L.map (·.1)).Nodup → x ∈ L → (a, o) ∈ L → x.1 = a → x = (a, o)
  | [], _, _, _, _, h, _, _ => nomatch h
  | y :: r, a, o, x, n, h1, h2, c => by
    rw [List.map_cons, List.nodup_cons] at n
    rcases List.mem_cons.mp h1 with q | q <;> rcases List.mem_cons.mp h2 with z | z
    · rw [q, z]
    · exact absurd (List.mem_map.mpr ⟨_, z, (by rw [← q]; exact c.symm)⟩) n.1
    · exact absurd (List.mem_map.mpr ⟨_, q, (by rw [← z]; exact c)⟩) n.1
    · exact nd_one n.2 q z c
theorem Tak.mem {L L' : Led} {a : Addr} {o : HO} (u : Tak L a o L') : (a, o) ∈ L := by
  induction u with
  | head => exact List.mem_cons_self
  | tail _ ih => exact List.mem_cons_of_mem _ ih
theorem Tak.sub {L L' : Led} {a : Addr} {o : HO} (u : Tak L a o L') : ∀ x ∈ L', x ∈ L := by
  induction u with
  | head => exact fun x h => List.mem_cons_of_mem _ h
  | tail _ ih =>
    intro x hx
    rcases List.mem_cons.mp hx with e | e
    · exact e ▸ List.mem_cons_self
    · exact List.mem_cons_of_mem _ (ih x e)
theorem Tak.nd {L L' : Led} {a : Addr} {o : HO} (u : Tak L a o L') (n : (L.map (·.1)).Nodup) : (L'.map (·.1)).Nodup ∧ ∀ x ∈ L', x.1 ≠ a := by
  induction u with
  | head =>
    rw [List.map_cons, List.nodup_cons] at n
    exact ⟨n.2, fun x hx e => n.1 (List.mem_map.mpr ⟨x, hx, e⟩)⟩
  | @tail a o L L' x u ih =>
    rw [List.map_cons, List.nodup_cons] at n
    obtain ⟨h1, h2⟩ := ih n.2
    refine ⟨?_, fun y hy => ?_⟩
    · rw [List.map_cons, List.nodup_cons]
      refine ⟨fun hm => n.1 ?_, h1⟩
      obtain ⟨z, hz, e⟩ := List.mem_map.mp hm
      exact List.mem_map.mpr ⟨z, u.sub z hz, e⟩
    · rcases List.mem_cons.mp hy with e | e
      · intro q
        apply n.1
        rw [← e, q]
        exact List.mem_map.mpr ⟨(a, o), u.mem, rfl⟩
      · exact h2 y e
section
variable {E : En} {F H F' H' : Hp} {L L' : Led} {a p : Addr} {o o' : HO} {K : PySem.W.Frag}
theorem St.init (h : Same F H) : St ⟨F, H⟩ F H [] :=
  ⟨Same.refl _, h, Same.refl _, fun _ h => .inl h, (fun _ h => nomatch h), List.nodup_nil⟩
theorem St.init1 (h : Same F H) (hp : H p = some o) (hf : F p = none) : St ⟨F, del H p⟩ F H [(p, o)] := by
  refine ⟨fun b u e => (del_some e).2, h, Same.refl _, fun _ h => .inl h, fun x hx => ?_, ?_⟩
  · rcases List.mem_cons.mp hx with e | e
    · subst e; exact ⟨hp, hf, del_self⟩
    · exact nomatch e
  · exact List.nodup_cons.mpr ⟨fun h => (nomatch h), List.nodup_nil⟩
theorem free_of (e : Same H H') (h : H' p = none) : H p = none := Same.free e h
theorem St.get (G : St E F H L) (m : (a, o) ∈ L) : H a = some o := (G.own _ m).1
theorem St.ne (G : St E F H L) (m : (a, o) ∈ L) (hp : H p = none) : a ≠ p := ne_of_none (G.get m) hp
/-- the heap grew, p is new -/
theorem St.add (G : St E F H L) (e : Same H H') (hn : H p = none) (hp : H' p = some o) : St E F H' ((p, o) :: L) := by
  refine ⟨G.bh.trans e, G.fh.trans e, G.ff, G.pr, fun x hx => ?_, ?_⟩
  · rcases List.mem_cons.mp hx with q | q
    · subst q
      exact ⟨hp, free_of G.fh hn, free_of G.bh hn⟩
    · obtain ⟨h1, h2, h3⟩ := G.own x q
      exact ⟨e _ _ h1, h2, h3⟩
  · rw [List.map_cons, List.nodup_cons]
    refine ⟨fun hm => ?_, G.nd⟩
    obtain ⟨z, hz, q⟩ := List.mem_map.mp hm
    have h1 := (G.own z hz).1
    rw [q, hn] at h1
    cases h1
theorem St.new (G : St E F H L) (hn : H p = none) : St E F (upd H p o) ((p, o) :: L) := G.add (same_new hn) hn upd_same
theorem St.grow (G : St E F H L) (e : Same H H') : St E F H' L :=
  ⟨G.bh.trans e, G.fh.trans e, G.ff, G.pr, fun x hx => ⟨e _ _ (G.own x hx).1, (G.own x hx).2⟩, G.nd⟩
theorem St.putB (G : St E F H L) (u : Upd L a o o' L') (e : SameB a H H') (ha : H' a = some o') : St E F H' L' := by
  obtain ⟨_, hf, hb⟩ := G.own _ u.mem
  have nF : ∀ b u, F b = some u → b ≠ a := fun b u h => ne_of_none h hf
  have nB : ∀ b u, E.H b = some u → b ≠ a := fun b u h => ne_of_none h hb
  refine ⟨fun b u h => e b u (nB b u h) (G.bh b u h), fun b u h => e b u (nF b u h) (G.fh b u h), G.ff, G.pr, fun x hx => ?_, ?_⟩
  · rcases u.of x hx with q | q
    · subst q; exact ⟨ha, hf, hb⟩
    · obtain ⟨h1, h2, h3⟩ := G.own x q
      refine ⟨?_, h2, h3⟩
      by_cases c : x.1 = a
      · have n' : (L'.map (·.1)).Nodup := by rw [u.fst]; exact G.nd
        rw [nd_one n' hx u.new c]; exact ha
      · exact e _ _ c h1
  · rw [u.fst]; exact G.nd
theorem St.put (G : St E F H L) (u : Upd L a o o' L') : St E F (upd H a o') L' :=
  G.putB u (fun b w h e => by rw [upd_ne h]; exact e) upd_same
/-- a call that changes nothing has come back -/
theorem St.call (G : St E F H L) (g : Gr F H F' H') : St E F' H' L := by
  refine ⟨G.bh.trans g.hh, g.fh, G.ff.trans g.ff, fun a h => ?_, fun x hx => ?_, G.nd⟩
  · rcases g.pr a h with q | q
    · exact G.pr a q
    · exact .inr (free_of G.bh q)
  · obtain ⟨h1, h2, h3⟩ := G.own x hx
    refine ⟨g.hh _ _ h1, ?_, h3⟩
    cases c : F' x.1 with
    | none => rfl
    | some w =>
      rcases g.pr x.1 (by rw [c]; exact fun z => nomatch z) with q | q
      · exact absurd h2 q
      · rw [q] at h1; cases h1
theorem St.callB (G : St E F H L) (u : Upd L p o o' L') (g : GrB p F H F' H') (hp : H' p = some o') : St E F' H' L' := by
  have G1 : St E F H' L' := G.putB u g.hh hp
  refine ⟨G1.bh, g.fh, G.ff.trans g.ff, fun a h => ?_, fun x hx => ?_, G1.nd⟩
  · rcases g.pr a h with q | q
    · exact G.pr a q
    · exact .inr (free_of G.bh q)
  · obtain ⟨h1, h2, h3⟩ := G1.own x hx
    refine ⟨h1, ?_, h3⟩
    cases c : F' x.1 with
    | none => rfl
    | some w =>
      rcases g.pr x.1 (by rw [c]; exact fun z => nomatch z) with q | q
      · exact absurd h2 q
      · exfalso
        rcases u.of x hx with z | z
        · subst z
          have := (G.own _ u.mem).1
          rw [q] at this; cases this
        · have := (G.own _ z).1
          rw [q] at this; cases this
/-- the end of a def that changes nothing -/
theorem St.gr (G : St ⟨F, H⟩ F' H' L) : Gr F H F' H' := ⟨G.ff, G.fh, G.bh, G.pr⟩
theorem St.grB (G : St ⟨F, del H p⟩ F' H' L) (m : (p, o) ∈ L) : GrB p F H F' H' := by
  refine ⟨G.ff, G.fh, fun b u h e => G.bh b u (by rw [show (En.mk F (del H p)).H = del H p from rfl, del_ne h]; exact e), fun a h => ?_⟩
  rcases G.pr a h with q | q
  · exact .inl q
  · by_cases c : a = p
    · subst c
      exact absurd (G.own _ m).2.1 h
    · exact .inr (by rw [show (En.mk F (del H p)).H = del H p from rfl, del_ne c] at q; exact q)
theorem Gr.refl (h : Same F H) : Gr F H F H := ⟨Same.refl _, h, Same.refl _, fun _ h => .inl h⟩
/-- an owned object is frozen -/
theorem St.frz (G : St E F H L) (t : Tak L a o L') : ∃ F', Same F F' ∧ F' a = some o ∧ St E F' H L' := by
  obtain ⟨h1, h2, h3⟩ := G.own _ t.mem
  obtain ⟨n1, n2⟩ := t.nd G.nd
  refine ⟨upd F a o, same_new h2, upd_same, ⟨G.bh, fun b u e => ?_, G.ff.trans (same_new h2), fun b hb => ?_, fun x hx => ?_, n1⟩⟩
  · by_cases c : b = a
    · rw [c, upd_same] at e; cases e; rw [c]; exact h1
    · rw [upd_ne c] at e; exact G.fh b u e
  · by_cases c : b = a
    · rw [c]; exact .inr h3
    · rw [upd_ne c] at hb; exact G.pr b hb
  · obtain ⟨q1, q2, q3⟩ := G.own x (t.sub x hx)
    exact ⟨q1, by rw [upd_ne (n2 x hx)]; exact q2, q3⟩
theorem St.drop (G : St E F H L) (t : Tak L a o L') : St E F H L' :=
  ⟨G.bh, G.fh, G.ff, G.pr, fun x hx => G.own x (t.sub x hx), (t.nd G.nd).1⟩

/-! ## what stands at an address, under growth -/
theorem rdS (e : Same H H') (h : Rd H a o) : Rd H' a o := by
  rcases h with h | ⟨z, h⟩
  · exact .inl (e _ _ h)
  · exact .inr ⟨z, e _ _ h⟩
theorem lS {xs : List V} (e : Same H H') (h : SqL K H a xs) : SqL K H' a xs := by
  rcases h with h | h
  · exact .inl (rdS e h)
  · exact .inr h
theorem tS {xs : List V} (e : Same H H') (h : SqT K H a xs) : SqT K H' a xs := by
  rcases h with h | h
  · exact .inl (rdS e h)
  · exact .inr h
mutual
theorem dpS (e : Same H H') : ∀ (d : PyData) (v : V), Dp K H v d → Dp K H' v d
  | .none, _, h => by cases h; exact .non
  | .bool b, _, h => by cases h; exact .bl b
  | .int i, _, h => by cases h; exact .int i
  | .str x, _, h => by cases h; exact .str x
  | .list ds, _, h => by cases h with | lst hs ha => exact .lst (lS e hs) (dpaS e ds _ ha)
  | .tuple ds, _, h => by cases h with | tup hs ha => exact .tup (tS e hs) (dpaS e ds _ ha)
  | .dict _, _, h => nomatch h
theorem dpaS (e : Same H H') : ∀ (ds : List PyData) (vs : List V), DpAll K H vs ds → DpAll K H' vs ds
  | [], _, h => by cases h; exact .nil
  | d :: ds, _, h => by cases h with | cons h1 h2 => exact .cons (dpS e d _ h1) (dpaS e ds _ h2)
end
theorem Dpx.mono {v : V} {d : PyData} (e : Same H H') (h : Dp K H v d) : Dp K H' v d := dpS e d v h
end
theorem sz {n : Nat} (h : n ≤ 1000000) : n ≤ sizeLine := Nat.le_trans h (by decide)
theorem szl {n : Nat} (h : n ≤ 1000000) : n < sizeLine := Nat.lt_of_le_of_lt h (by decide)
end SL

set_option Elab.async false
set_option linter.all false
set_option maxRecDepth 100000
set_option maxHeartbeats 4000000
namespace SL
open PySem L2
def RIf (k : Bool) (A B : Prop) : Prop := if k = true then A else B
def RB (x : V) (H : Hp) (Q : Bool → Hp → Prop) : Prop := ∃ k, x = .bl k ∧ Q k H
def RTup (Q : VK) (xs : List V) (H : Hp) : Prop := xs.length ≤ sizeLine ∧ ∀ p, H p = none → Q (.ref p) (upd H p (.tup xs))
def RLst (Q : VK) (xs : List V) (H : Hp) : Prop := xs.length ≤ sizeLine ∧ ∀ p, H p = none → Q (.ref p) (upd H p (.lst xs))
def RTy (K : PySem.W.Frag) (T : String) (x : V) (H : Hp) (A : Prop) : Prop := tyV K T x H ∧ A
def RPart (x : V) (H : Hp) (Q : Option Int → Hp → Prop) : Prop := ∃ i, x = .int i ∧ Q (some i) H
def RIL (K : PySem.W.Frag) (x : V) (H : Hp) (R : It → Hp → Prop) : Prop := ∃ a, x = .ref a ∧ (∃ xs, SqL K H a xs) ∧ R (Itl K a) H
def RIT (K : PySem.W.Frag) (x : V) (H : Hp) (R : It → Hp → Prop) : Prop := ∃ a, x = .ref a ∧ (∃ xs, SqT K H a xs) ∧ R (Itt K a) H
def RI1 (vs : List V) (H : Hp) (R : It → Hp → Prop) : Prop := ∃ j : Int, vs = [.int j] ∧ -(2 ^ 62) ≤ j ∧ j < 2 ^ 62 ∧ R (Itr 0 j.toNat) H
def RI2 (vs : List V) (H : Hp) (R : It → Hp → Prop) : Prop := ∃ i j : Int, vs = [.int i, .int j] ∧ (-(2 ^ 62) ≤ i ∧ i < 2 ^ 62 ∧ -(2 ^ 62) ≤ j ∧ j < 2 ^ 62) ∧ R (Itr i (j - i).toNat) H
def RFor (J : It) (g : TG) (tb : TS) (D : Ends) (σ : L2.St) (H1 : Hp) : Prop := ∃ W : Nat → Nat → L2.St → Hp → Prop, (∃ m, W 0 m σ H1) ∧ ∀ i m σ H, W i m σ H →
  (J.stop i H ∧ D.nx σ H) ∨ (J.go i H ∧ ∃ N : L2.St → Hp → Prop, (∀ σ' H', N σ' H' → ∃ m', m' < m ∧ W (i + 1) m' σ' H') ∧ ∀ x H', J.yld i H x H' → g x σ H' fun σ2 H2 => tb { D with nx := N, ct := N, bk := D.nx } σ2 H2)
-- calls by values
def rLen (K : PySem.W.Frag) : List V → Hp → VK → Prop := fun xs H Q => ∃ p ys, xs = [V.ref p] ∧ (SqL K H p ys ∨ SqT K H p ys) ∧ Q (V.int ys.length) H
section
variable {n b c : L2.St → Hp → Prop} {r : VK} {σ : L2.St} {H : Hp} {Q : VK} {QB : Bool → Hp → Prop} {t u : TS} {te ta tb : TE} {tc td : TT} {x y v : V} {K : PySem.W.Frag}
theorem w_seq (h : t ⟨u ⟨n, r, b, c⟩, r, b, c⟩ σ H) : tSeq t u ⟨n, r, b, c⟩ σ H := h
theorem w_asg {i : Nat} (h : te σ H fun v H1 => n (σ.set i (some v)) H1) : tAsg te (gName i) ⟨n, r, b, c⟩ σ H := h
theorem w_ret (h : te σ H r) : tRet te ⟨n, r, b, c⟩ σ H := h
theorem w_retN (h : r .non H) : tRetN ⟨n, r, b, c⟩ σ H := h
theorem w_drop (h : te σ H fun _ H1 => n σ H1) : tDrop te ⟨n, r, b, c⟩ σ H := h
theorem w_next (h : n σ H) : tNext ⟨n, r, b, c⟩ σ H := h
theorem w_break (h : b σ H) : tBreak ⟨n, r, b, c⟩ σ H := h
theorem w_cont (h : c σ H) : tCont ⟨n, r, b, c⟩ σ H := h
theorem w_if (h : tc σ H fun k H1 => RIf k (t ⟨n, r, b, c⟩ σ H1) (u ⟨n, r, b, c⟩ σ H1)) : tIfS tc t u ⟨n, r, b, c⟩ σ H := h
theorem w_var {i : Nat} (h : σ[i]? = some (some v)) (q : Q v H) : tVar i σ H Q := ⟨v, h, q⟩
theorem w_c (q : Q v H) : tC v σ H Q := q
theorem w_op {R : R2} (h : ta σ H fun x H1 => tb σ H1 fun y H2 => R x y H2 Q) : tOp R ta tb σ H Q := h
theorem w_un {R : V → Hp → VK → Prop} (h : ta σ H fun x H1 => R x H1 Q) : tUn R ta σ H Q := h
theorem w_test (h : te σ H fun x H1 => RB x H1 QB) : tTest te σ H QB := h
theorem w_tB (h : te σ H fun x H1 => RB x H1 QB) : tB te σ H QB := h
theorem w_and (h : tc σ H fun k H1 => RIf k (td σ H1 QB) (QB false H1)) : tAnd tc td σ H QB := h
theorem w_or (h : tc σ H fun k H1 => RIf k (QB true H1) (td σ H1 QB)) : tOr tc td σ H QB := h
theorem w_not (h : tc σ H fun k H1 => QB (!k) H1) : tNot tc σ H QB := h
theorem w_andV (h : ta σ H fun x H1 => RB x H1 fun k H1 => RIf k (tb σ H1 Q) (Q (.bl false) H1)) : tAndV ta tb σ H Q := h
theorem w_orV (h : ta σ H fun x H1 => RB x H1 fun k H1 => RIf k (Q (.bl true) H1) (tb σ H1 Q)) : tOrV ta tb σ H Q := h
theorem w_notV (h : ta σ H fun x H1 => RB x H1 fun k H1 => Q (.bl (!k)) H1) : tNotV ta σ H Q := h
theorem w_ifE (h : tc σ H fun k H1 => RIf k (ta σ H1 Q) (tb σ H1 Q)) : tIf tc ta tb σ H Q := h
theorem w_nil {QA : List V → Hp → Prop} (q : QA [] H) : tNil σ H QA := q
theorem w_cons {QA : List V → Hp → Prop} {tr : TA} (h : ta σ H fun x H1 => tr σ H1 fun xs H2 => QA (x :: xs) H2) : tCons ta tr σ H QA := h
theorem w_tup {tr : TA} (h : tr σ H fun xs H1 => RTup Q xs H1) : tTup tr σ H Q := h
theorem w_lst {tr : TA} (h : tr σ H fun xs H1 => RLst Q xs H1) : tLst tr σ H Q := h
theorem w_cb {R : List V → Hp → VK → Prop} {tr : TA} (h : tr σ H fun vs H1 => R vs H1 Q) : tCB R tr σ H Q := h
theorem w_call {sp : Sp} {E : XK} {tr : TA} (h : tr σ H fun vs H1 => sp vs H1 Q E) : tCall sp [] E tr σ H Q := by
  show tr σ H fun vs H1 => sp (vs ++ []) H1 Q E
  simpa only [List.append_nil] using h
theorem w_calld {sp : Sp} {dvs : List V} {E : XK} {tr : TA} (h : tr σ H fun vs H1 => sp (vs ++ dvs) H1 Q E) : tCall sp dvs E tr σ H Q := h
theorem w_callS {sp : Sp} {E : L2.St → XK} {tr : TA} (h : tr σ H fun vs H1 => sp vs H1 Q (E σ)) : tCallS sp E tr σ H Q := h
theorem w_bm {T : String} {R : V → List V → Hp → VK → Prop} {tr : TA} (h : te σ H fun x H1 => RTy K T x H1 (tr σ H1 fun xs H2 => R x xs H2 Q)) : tBM K T R te tr σ H Q := h
theorem w_bm0 {T : String} {R : V → List V → Hp → VK → Prop} (h : te σ H fun x H1 => RTy K T x H1 (R x [] H1 Q)) : tBM0 K T R te σ H Q := h
theorem w_sl {R : V → Option Int → Option Int → Hp → VK → Prop} {tl th : TO} (h : te σ H fun x H1 => tl σ H1 fun l H2 => th σ H2 fun u H3 => R x l u H3 Q) : tSl R te tl th σ H Q := h
theorem w_part {QO : Option Int → Hp → Prop} (h : te σ H fun x H1 => RPart x H1 QO) : tPart te σ H QO := h
theorem w_nopart {QO : Option Int → Hp → Prop} (h : QO none H) : tNoPart σ H QO := h
theorem w_for {wi : TI} {g : TG} (h : wi σ H fun J H1 => RFor J g t ⟨n, r, b, c⟩ σ H1) : tFor wi g t ⟨n, r, b, c⟩ σ H := h
theorem w_iL {R : It → Hp → Prop} (h : te σ H fun x H1 => RIL K x H1 R) : iList K te σ H R := h
theorem w_iT {R : It → Hp → Prop} (h : te σ H fun x H1 => RIT K x H1 R) : iTup K te σ H R := h
theorem w_i1 {R : It → Hp → Prop} {tr : TA} (h : tr σ H fun x H1 => RI1 x H1 R) : iRng1 tr σ H R := h
theorem w_i2 {R : It → Hp → Prop} {tr : TA} (h : tr σ H fun x H1 => RI2 x H1 R) : iRng2 tr σ H R := h
theorem w_aug {i : Nat} {ti : TIp} (h : σ[i]? = some (some x)) (q : te σ H fun y H1 => ti x y H1 fun z H2 => n (σ.set i (some z)) H2) : tAug i te ti ⟨n, r, b, c⟩ σ H := ⟨x, h, q⟩
theorem w_par {i j : Nat} {tr : TA} (h : tr σ H fun vs H1 => ∃ v w, vs = [v, w] ∧ n ((σ.set i (some v)).set j (some w)) H1) : tPar i j tr ⟨n, r, b, c⟩ σ H := h
-- values
theorem r_ifT {A B : Prop} (h : A) : RIf true A B := by unfold RIf; rw [if_pos rfl]; exact h
theorem r_ifF {A B : Prop} (h : B) : RIf false A B := by unfold RIf; rw [if_neg Bool.false_ne_true]; exact h
theorem r_ifNt {A B : Prop} (h : B) : RIf (!true) A B := r_ifF h
theorem r_ifNf {A B : Prop} (h : A) : RIf (!false) A B := r_ifT h
theorem r_ifRN {a : Addr} {A B : Prop} (h : B) : RIf (decide (V.ref a = V.non)) A B := by rw [decide_eq_false (fun z => nomatch z)]; exact r_ifF h
theorem r_ifNRN {a : Addr} {A B : Prop} (h : A) : RIf (!decide (V.ref a = V.non)) A B := by rw [decide_eq_false (fun z => nomatch z)]; exact r_ifT h
theorem r_ifNN {A B : Prop} (h : A) : RIf (decide (V.non = V.non)) A B := by rw [decide_eq_true rfl]; exact r_ifT h
theorem r_ifNNN {A B : Prop} (h : B) : RIf (!decide (V.non = V.non)) A B := by rw [decide_eq_true rfl]; exact r_ifF h
theorem r_if {k : Bool} {A B : Prop} (h1 : k = true → A) (h2 : k = false → B) : RIf k A B := by
  cases k with
  | true => exact r_ifT (h1 rfl)
  | false => exact r_ifF (h2 rfl)
theorem r_ifD {p : Prop} [Decidable p] {A B : Prop} (h1 : p → A) (h2 : ¬ p → B) : RIf (decide p) A B := r_if (fun h => h1 (of_decide_eq_true h)) fun h => h2 (of_decide_eq_false h)
theorem r_ifN {p : Prop} [Decidable p] {A B : Prop} (h1 : ¬ p → A) (h2 : p → B) : RIf (!decide p) A B := by
  by_cases h : p
  · rw [decide_eq_true h]; exact r_ifF (h2 h)
  · rw [decide_eq_false h]; exact r_ifT (h1 h)
theorem r_ifDT {p : Prop} [Decidable p] {A B : Prop} (h : p) (q : A) : RIf (decide p) A B := by rw [decide_eq_true h]; exact r_ifT q
theorem r_ifDF {p : Prop} [Decidable p] {A B : Prop} (h : ¬ p) (q : B) : RIf (decide p) A B := by rw [decide_eq_false h]; exact r_ifF q
theorem r_ifNT {p : Prop} [Decidable p] {A B : Prop} (h : ¬ p) (q : A) : RIf (!decide p) A B := by rw [decide_eq_false h]; exact r_ifT q
theorem r_ifNF {p : Prop} [Decidable p] {A B : Prop} (h : p) (q : B) : RIf (!decide p) A B := by rw [decide_eq_true h]; exact r_ifF q
theorem r_b {k : Bool} (q : QB k H) : RB (.bl k) H QB := ⟨k, rfl, q⟩
theorem r_I0 {g : Int → Int → V} {i j : Int} (q : Q (g i j) H) : rI0 g (.int i) (.int j) H Q := ⟨i, j, rfl, rfl, q⟩
theorem r_I {C : Int → Int → Prop} {g : Int → Int → V} {i j : Int} (h : C i j) (q : Q (g i j) H) : rI C g (.int i) (.int j) H Q := ⟨i, j, rfl, rfl, h, q⟩
theorem r_U {g : Int → V} {i : Int} (q : Q (g i) H) : rU g (.int i) H Q := ⟨i, rfl, q⟩
theorem decV {i j : Int} : decide (V.int i = V.int j) = decide (i = j) := by
  by_cases h : i = j
  · subst h; rw [decide_eq_true rfl, decide_eq_true rfl]
  · rw [decide_eq_false h, decide_eq_false (fun q => h (V.int.inj q))]
theorem decS {i j : Str} : decide (V.str i = V.str j) = decide (i = j) := by
  by_cases h : i = j
  · subst h; rw [decide_eq_true rfl, decide_eq_true rfl]
  · rw [decide_eq_false h, decide_eq_false (fun q => h (V.str.inj q))]
theorem decB {i j : Bool} : decide (V.bl i = V.bl j) = decide (i = j) := by
  cases i <;> cases j <;> rfl
theorem r_eqI {i j : Int} (q : Q (.bl (decide (i = j))) H) : rEq (.int i) (.int j) H Q := ⟨rfl, by rw [decV]; exact q⟩
theorem r_neI {i j : Int} (q : Q (.bl (!decide (i = j))) H) : rNe (.int i) (.int j) H Q := ⟨rfl, by rw [decV]; exact q⟩
theorem r_eqS {i j : Str} (q : Q (.bl (decide (i = j))) H) : rEq (.str i) (.str j) H Q := ⟨rfl, by rw [decS]; exact q⟩
theorem r_neS {i j : Str} (q : Q (.bl (!decide (i = j))) H) : rNe (.str i) (.str j) H Q := ⟨rfl, by rw [decS]; exact q⟩
theorem r_eqB {i j : Bool} (q : Q (.bl (decide (i = j))) H) : rEq (.bl i) (.bl j) H Q := ⟨rfl, by rw [decB]; exact q⟩
theorem r_neB {i j : Bool} (q : Q (.bl (!decide (i = j))) H) : rNe (.bl i) (.bl j) H Q := ⟨rfl, by rw [decB]; exact q⟩
theorem r_len {p : Addr} {xs : List V} (h : SqL K H p xs ∨ SqT K H p xs) (q : Q (.int xs.length) H) : rLen K [.ref p] H Q := ⟨p, xs, rfl, h, q⟩
theorem r_ixL {p : Addr} {xs : List V} {i : Int} (h : SqL K H p xs) (ha : atI xs i = some v) (q : Q v H) : rIxL K (.ref p) (.int i) H Q := ⟨p, xs, i, v, rfl, rfl, h, ha, q⟩
theorem r_ixT {p : Addr} {xs : List V} {i : Int} (h : SqT K H p xs) (ha : atI xs i = some v) (q : Q v H) : rIxT K (.ref p) (.int i) H Q := ⟨p, xs, i, v, rfl, rfl, h, ha, q⟩
theorem r_tyL {p : Addr} {xs : List V} {A : Prop} (h : SqL K H p xs) (q : A) : RTy K "list" (.ref p) H A := ⟨Or.inl ⟨rfl, _, h⟩, q⟩
theorem r_part {i : Int} {QO : Option Int → Hp → Prop} (q : QO (some i) H) : RPart (.int i) H QO := ⟨i, rfl, q⟩
variable {E : En} {F H' : Hp} {L L' : Led} {p : Addr} {xs : List V}
theorem r_tup (G : St E F H L) (hs : xs.length ≤ sizeLine) (q : ∀ p H', St E F H' ((p, .tup xs) :: L) → Q (.ref p) H') : RTup Q xs H := ⟨hs, fun p hp => q p _ (G.new hp)⟩
theorem r_lst (G : St E F H L) (hs : xs.length ≤ sizeLine) (q : ∀ p H', St E F H' ((p, .lst xs) :: L) → Q (.ref p) H') : RLst Q xs H := ⟨hs, fun p hp => q p _ (G.new hp)⟩
theorem r_tupS (G : St E F H L) (hs : xs.length ≤ sizeLine) (q : ∀ p H', Same H H' → St E F H' ((p, .tup xs) :: L) → Q (.ref p) H') : RTup Q xs H := ⟨hs, fun p hp => q p _ (same_new hp) (G.new hp)⟩
theorem r_lstS (G : St E F H L) (hs : xs.length ≤ sizeLine) (q : ∀ p H', Same H H' → St E F H' ((p, .lst xs) :: L) → Q (.ref p) H') : RLst Q xs H := ⟨hs, fun p hp => q p _ (same_new hp) (G.new hp)⟩
theorem r_append (G : St E F H L) (u : Upd L p (.lst xs) (.lst (xs ++ [v])) L') (hs : xs.length < sizeLine) (q : ∀ H', St E F H' L' → Q .non H') : rAppend (.ref p) [v] H Q :=
  ⟨p, xs, v, rfl, rfl, G.get u.mem, hs, q _ (G.put u)⟩
theorem r_pop (G : St E F H L) (u : Upd L p (.lst (xs ++ [v])) (.lst xs) L') (q : ∀ H', St E F H' L' → Q v H') : rPop (.ref p) [] H Q :=
  ⟨p, xs ++ [v], v, rfl, rfl, G.get u.mem, by simp, by rw [List.dropLast_concat]; exact q _ (G.put u)⟩
theorem r_reverse (G : St E F H L) (u : Upd L p (.lst xs) (.lst xs.reverse) L') (q : ∀ H', St E F H' L' → Q .non H') : rReverse (.ref p) [] H Q :=
  ⟨p, xs, rfl, rfl, G.get u.mem, q _ (G.put u)⟩
theorem r_setL {k : Int} {j : Nat} {QH : Hp → Prop} (G : St E F H L) (hj : ixN xs.length k = some j) (u : Upd L p (.lst xs) (.lst (xs.set j v)) L') (q : ∀ H', St E F H' L' → QH H') : rSetL (.ref p) (.int k) v H QH :=
  ⟨p, xs, k, j, rfl, rfl, G.get u.mem, hj, q _ (G.put u)⟩
theorem r_slL {lo hi : Option Int} (G : St E F H L) (h : SqL K H p xs) (q : ∀ p' H', St E F H' ((p', .lst (cutV xs lo hi)) :: L) → Q (.ref p') H') : rSlL K (.ref p) lo hi H Q :=
  ⟨p, xs, rfl, h, fun p' hp => q p' _ (G.new hp)⟩
theorem r_cat {p2 : Addr} {ys : List V} (G : St E F H L) (m1 : (p, HO.lst xs) ∈ L) (m2 : (p2, HO.lst ys) ∈ L) (hs : xs.length + ys.length ≤ sizeLine) (q : ∀ p' H', St E F H' ((p', .lst (xs ++ ys)) :: L) → Q (.ref p') H') : rCat (.ref p) (.ref p2) H Q :=
  ⟨p, p2, xs, ys, rfl, rfl, G.get m1, G.get m2, hs, fun p' hp => q p' _ (G.new hp)⟩
-- walks
theorem r_il {a : Addr} {R : It → Hp → Prop} (h : SqL K H a xs) (q : R (Itl K a) H) : RIL K (.ref a) H R := ⟨a, rfl, ⟨xs, h⟩, q⟩
theorem r_it {a : Addr} {R : It → Hp → Prop} (h : SqT K H a xs) (q : R (Itt K a) H) : RIT K (.ref a) H R := ⟨a, rfl, ⟨xs, h⟩, q⟩
theorem r_i1 {j : Int} {R : It → Hp → Prop} (h : -(2 ^ 62) ≤ j ∧ j < 2 ^ 62) (q : R (Itr 0 j.toNat) H) : RI1 [.int j] H R := ⟨j, rfl, h.1, h.2, q⟩
theorem r_i2 {i j : Int} {R : It → Hp → Prop} (h : -(2 ^ 62) ≤ i ∧ i < 2 ^ 62 ∧ -(2 ^ 62) ≤ j ∧ j < 2 ^ 62) (q : R (Itr i (j - i).toNat) H) : RI2 [.int i, .int j] H R := ⟨i, j, rfl, h, q⟩
theorem r_forL {a : Addr} {i0 : Nat} (Pv : Nat → L2.St → Hp → Prop) (h0 : Pv 0 σ H) (hl : ∀ i σ H, i ≤ xs.length → Pv i σ H → SqL K H a xs)
    (hs : ∀ i x σ H, xs[i]? = some x → Pv i σ H → t ⟨Pv (i + 1), r, n, Pv (i + 1)⟩ (σ.set i0 (some x)) H) (hd : ∀ σ H, Pv xs.length σ H → n σ H) : RFor (Itl K a) (gName i0) t ⟨n, r, b, c⟩ σ H :=
  for_list (D := ⟨n, r, b, c⟩) Pv h0 hl hs hd
theorem r_forT {a : Addr} {i0 : Nat} (Pv : Nat → L2.St → Hp → Prop) (h0 : Pv 0 σ H) (hl : ∀ i σ H, i ≤ xs.length → Pv i σ H → SqT K H a xs)
    (hs : ∀ i x σ H, xs[i]? = some x → Pv i σ H → t ⟨Pv (i + 1), r, n, Pv (i + 1)⟩ (σ.set i0 (some x)) H) (hd : ∀ σ H, Pv xs.length σ H → n σ H) : RFor (Itt K a) (gName i0) t ⟨n, r, b, c⟩ σ H :=
  for_tup (D := ⟨n, r, b, c⟩) Pv h0 hl hs hd
theorem r_forR {lo : Int} {m i0 : Nat} (Pv : Nat → L2.St → Hp → Prop) (h0 : Pv 0 σ H)
    (hs : ∀ i σ H, i < m → Pv i σ H → t ⟨Pv (i + 1), r, n, Pv (i + 1)⟩ (σ.set i0 (some (.int (lo + i)))) H) (hd : ∀ σ H, Pv m σ H → n σ H) : RFor (Itr lo m) (gName i0) t ⟨n, r, b, c⟩ σ H :=
  for_range (D := ⟨n, r, b, c⟩) Pv h0 hs hd
end
/-! ## the steps by themselves -/
section
set_option hygiene false
local macro_rules | `(tactic| walk_at "g1") => `(tactic| first
  | with_reducible refine w_seq ?_ | with_reducible refine w_asg ?_ | with_reducible refine w_var rfl ?_ | with_reducible refine w_c ?_ | with_reducible refine w_op ?_
  | with_reducible refine r_I0 ?_ | with_reducible refine w_test ?_ | with_reducible refine r_b ?_ | with_reducible refine w_if ?_ | with_reducible refine w_cons ?_ | with_reducible refine w_nil ?_
  | with_reducible refine w_ret ?_)
end
end SL

set_option Elab.async false
set_option linter.all false
set_option maxRecDepth 100000
set_option maxHeartbeats 4000000
namespace SL
open PySem L2
abbrev rAddI : R2 := rI0 fun i j => .int (i + j)
abbrev rSubI : R2 := rI0 fun i j => .int (i - j)
abbrev rMulI : R2 := rI CMulW fun i j => .int (i * j)
abbrev rDivI : R2 := rI CDivW fun i j => .int (i / j)
abbrev rModI : R2 := rI (fun _ j => 0 < j) fun i j => .int (i % j)
abbrev rPowI : R2 := rI CPow fun i j => .int (i ^ j.toNat)
abbrev rShlI : R2 := rI CShl fun i j => .int (i * 2 ^ j.toNat)
abbrev rShrI : R2 := rI (fun _ j => 0 ≤ j) fun i j => .int (i / 2 ^ j.toNat)
abbrev rAndI : R2 := rI0 fun i j => .int (Builtin.bitAnd i j)
abbrev rOrI : R2 := rI0 fun i j => .int (Builtin.bitOr i j)
abbrev rXorI : R2 := rI0 fun i j => .int (Builtin.bitXor i j)
abbrev rNegI : V → Hp → VK → Prop := rU fun i => .int (-i)
abbrev rLtI : R2 := rI0 fun i j => .bl (decide (i < j))
abbrev rLeI : R2 := rI0 fun i j => .bl (decide (i ≤ j))
abbrev rGtI : R2 := rI0 fun i j => .bl (decide (j < i))
abbrev rGeI : R2 := rI0 fun i j => .bl (decide (j ≤ i))
def rIsNone : R2 := fun x y H Q => y = .non ∧ Q (.bl (decide (x = .non))) H
def rNotNone : R2 := fun x y H Q => y = .non ∧ Q (.bl (!decide (x = .non))) H
def rInt1 : List V → Hp → VK → Prop := fun xs H Q => (∃ i, xs = [.int i] ∧ Q (.int i) H) ∨ ∃ k, xs = [.bl k] ∧ Q (.int (if k then 1 else 0)) H
def rListOf (K : PySem.W.Frag) : List V → Hp → VK → Prop := fun xs H Q => ∃ p ys, xs = [.ref p] ∧ (SqL K H p ys ∨ SqT K H p ys) ∧ ∀ l, H l = none → Q (.ref l) (upd H l (.lst ys))
def rTupOf (K : PySem.W.Frag) : List V → Hp → VK → Prop := fun xs H Q => ∃ p ys, xs = [.ref p] ∧ ((SqL K H p ys ∧ ∀ l, H l = none → Q (.ref l) (upd H l (.tup ys))) ∨ (SqT K H p ys ∧ Q (.ref p) H))
def rMax2 : List V → Hp → VK → Prop := fun xs H Q => ∃ i j, xs = [.int i, .int j] ∧ Q (.int (if j > i then j else i)) H
def rMin2 : List V → Hp → VK → Prop := fun xs H Q => ∃ i j, xs = [.int i, .int j] ∧ Q (.int (if j < i then j else i)) H
def rLenStr : List V → Hp → VK → Prop := fun xs H Q => ∃ z, xs = [.str z] ∧ z.length ≤ sizeLine ∧ Q (.int z.length) H
def rAddS : R2 := fun x y H Q => ∃ i j, x = .str i ∧ y = .str j ∧ i.length + j.length ≤ sizeLine ∧ Q (.str (i ++ j)) H
abbrev iAddI : TIp := ipI fun i j => i + j
abbrev iSubI : TIp := ipI fun i j => i - j
def tTru (K : PySem.W.Frag) (ta : TE) : TT := fun σ H Q => ta σ H fun x H' => ∃ k, TruV K x H' k ∧ Q k H'
def tRs (C : Addr) (E : XK) : TS := fun _ _ H => E (.ref C) none H
/-- what holds of an error wherever it was raised in the suite -/
def wAll (W : WX) : XK := fun cls d H => ∀ σ, W cls d σ H
theorem passes_all {X : Cx} {W : WX} (tk : Takes X W) : Passes (L2.CX X.prog X.w) X (wAll W) := passes_call tk fun _ _ σ _ h => h σ
section
variable {n b c : L2.St → Hp → Prop} {r : VK} {σ : L2.St} {H H' : Hp} {Q : VK} {x y v : V} {K : PySem.W.Frag} {E : En} {F : Hp} {L L' : Led} {p : Addr} {xs : List V}
theorem r_mul {i j : Int} {m k : Nat} (hi : i.natAbs < 2 ^ m) (hj : j.natAbs < 2 ^ k) (q : Q (.int (i * j)) H) (hm : 0 < m := by decide) (hk : 0 < k := by decide) (hs : m + k ≤ 1000000 := by decide) : rI CMulW (fun i j => .int (i * j)) (.int i) (.int j) H Q :=
  r_I (wide_mul hi hj hm hk hs) q
theorem r_div {i j : Int} (hj : 0 < j) (hb : j.natAbs < 2 ^ 200) (q : Q (.int (i / j)) H) : rI CDivW (fun i j => .int (i / j)) (.int i) (.int j) H Q :=
  r_I (wide_div hj hb (by decide) (by decide)) q
theorem r_isnone (q : Q (.bl (decide (x = .non))) H) : rIsNone x .non H Q := ⟨rfl, q⟩
theorem r_notnone (q : Q (.bl (!decide (x = .non))) H) : rNotNone x .non H Q := ⟨rfl, q⟩
theorem r_int1 {i : Int} (q : Q (.int i) H) : rInt1 [.int i] H Q := .inl ⟨i, rfl, q⟩
theorem r_int1b {k : Bool} (q : Q (.int (if k then 1 else 0)) H) : rInt1 [.bl k] H Q := .inr ⟨k, rfl, q⟩
theorem r_listof (G : St E F H L) (h : SqL K H p xs ∨ SqT K H p xs) (q : ∀ p' H', St E F H' ((p', .lst xs) :: L) → Q (.ref p') H') : rListOf K [.ref p] H Q :=
  ⟨p, xs, rfl, h, fun p' hp => q p' _ (G.new hp)⟩
theorem r_tupofL (G : St E F H L) (h : SqL K H p xs) (q : ∀ p' H', St E F H' ((p', .tup xs) :: L) → Q (.ref p') H') : rTupOf K [.ref p] H Q :=
  ⟨p, xs, rfl, .inl ⟨h, fun p' hp => q p' _ (G.new hp)⟩⟩
theorem r_tupofT (h : SqT K H p xs) (q : Q (.ref p) H) : rTupOf K [.ref p] H Q := ⟨p, xs, rfl, .inr ⟨h, q⟩⟩
theorem r_max2 {i j : Int} (q : Q (.int (if j > i then j else i)) H) : rMax2 [.int i, .int j] H Q := ⟨i, j, rfl, q⟩
theorem r_min2 {i j : Int} (q : Q (.int (if j < i then j else i)) H) : rMin2 [.int i, .int j] H Q := ⟨i, j, rfl, q⟩
theorem r_ipI {f : Int → Int → Int} {i j : Int} (q : Q (.int (f i j)) H) : ipI f (.int i) (.int j) H Q := ⟨i, j, rfl, rfl, q⟩
theorem w_tru {ta : TE} {QB : Bool → Hp → Prop} (h : ta σ H fun x H' => ∃ k, TruV K x H' k ∧ QB k H') : tTru K ta σ H QB := h
theorem w_rs {C : Addr} {X : XK} (h : X (.ref C) none H) : tRs C X ⟨n, r, b, c⟩ σ H := h
theorem w_gsub {te ti : TE} {t : TSet} {v : V} {QN : L2.St → Hp → Prop} (h : te σ H fun o H1 => ti σ H1 fun i H2 => t o i v H2 fun H3 => QN σ H3) : gSub te ti t v σ H QN := h
theorem w_asgG {te : TE} {g : TG} (h : te σ H fun v H1 => g v σ H1 n) : tAsg te g ⟨n, r, b, c⟩ σ H := h
end
/-! ## lists of ints, the draws -/
abbrev iv (ns : List Int) : List V := ns.map V.int
theorem iv_len {ns : List Int} : (iv ns).length = ns.length := List.length_map ..
theorem iv_get {ns : List Int} {i : Nat} {x : V} (h : (iv ns)[i]? = some x) : ∃ z, ns[i]? = some z ∧ x = .int z := by
  rw [List.getElem?_map] at h
  cases e : ns[i]? with
  | none => rw [e] at h; cases h
  | some z => rw [e] at h; exact ⟨z, rfl, (Option.some.inj h).symm⟩
theorem atI_iv {ns : List Int} {i : Int} (h0 : 0 ≤ i) (h1 : i < ns.length) : atI (iv ns) i = some (.int (ns.getD i.toNat 0)) := by
  have e : ((i.toNat : Nat) : Int) = i := by omega
  have hlt : i.toNat < ns.length := by omega
  have g : (iv ns)[i.toNat]? = some (.int (ns.getD i.toNat 0)) := by
    rw [List.getElem?_map, List.getElem?_eq_getElem hlt, List.getD_eq_getElem?_getD, List.getElem?_eq_getElem hlt]; rfl
  have q := atI_nat g
  rw [e] at q
  exact q
theorem ixN_of {n : Nat} {i : Int} (h0 : 0 ≤ i) (h1 : i < n) : ixN n i = some i.toNat := by
  unfold ixN; rw [if_pos h0, if_pos h1]
structure Dok (ds : List Int) : Prop where
  len : ds.length ≤ 1000
  rng : ∀ d ∈ ds, 0 ≤ d ∧ d < 1000
end SL

set_option Elab.async false
set_option linter.all false
set_option maxRecDepth 100000
set_option maxHeartbeats 4000000
namespace SL
open PySem L2
section

set_option hygiene false
local macro_rules | `(tactic| walk_at "m") => `(tactic| first | exact List.Mem.head _ | (refine List.Mem.tail _ ?_; walk_at "m"))
local macro_rules | `(tactic| walk_at "u") => `(tactic| first | exact Upd.head | (apply Upd.tail; walk_at "u"))
local macro_rules | `(tactic| walk_at "tk") => `(tactic| first | exact Tak.head | (apply Tak.tail; walk_at "tk"))
local macro_rules | `(tactic| walk_at "l") => `(tactic| first | assumption | exact lS (St.fh (by assumption)) (by assumption) | exact SqL.of (St.get (by assumption) (by walk_at "m")))
local macro_rules | `(tactic| walk_at "t") => `(tactic| first | assumption | exact tS (St.fh (by assumption)) (by assumption) | exact SqT.of (St.get (by assumption) (by walk_at "m")))
local macro_rules | `(tactic| walk_at "lt") => `(tactic| first | exact .inl (by walk_at "l") | exact .inr (by walk_at "t"))
local macro_rules | `(tactic| walk_at "sz") => `(tactic| first | (show _ ≤ sizeLine; decide) | exact sz (by simp) | exact szl (by simp) | exact sz (by omega) | exact szl (by omega) | exact sz (by simp; omega) | exact szl (by simp; omega))
local macro_rules | `(tactic| walk_at "c") => `(tactic| first | assumption | decide | omega)
local macro_rules | `(tactic| walk_at "g1") => `(tactic| with_reducible first
  | refine w_seq ?_ | refine w_asg ?_ | refine w_c ?_ | refine w_op ?_
  | refine r_I0 ?_ | refine w_test ?_ | refine r_b ?_ | refine w_if ?_ | refine w_cons ?_ | refine w_nil ?_
  | refine w_ret ?_ | refine w_drop ?_ | refine w_cb ?_ | refine w_call ?_ | refine w_next ?_ | refine w_tup ?_ | refine w_lst ?_ | refine w_bm ?_ | refine w_bm0 ?_
  | refine w_and ?_ | refine w_or ?_ | refine w_not ?_ | refine w_andV ?_ | refine w_orV ?_ | refine w_notV ?_ | refine w_tB ?_ | refine w_un ?_ | refine r_U ?_
  | refine w_for ?_ | refine w_iL ?_ | refine w_iT ?_ | refine w_i1 ?_ | refine w_i2 ?_ | refine w_sl ?_ | refine w_part ?_ | refine w_nopart ?_ | refine r_part ?_
  | refine r_eqI ?_ | refine r_neI ?_ | refine r_eqS ?_ | refine r_neS ?_ | refine r_eqB ?_ | refine r_neB ?_ | refine r_ifT ?_ | refine r_ifF ?_ | refine r_ifNt ?_ | refine r_ifNf ?_ | refine r_ifRN ?_ | refine r_ifNRN ?_ | refine r_ifNN ?_ | refine r_ifNNN ?_
  | refine w_ifE ?_ | refine r_int1 ?_ | refine r_int1b ?_ | refine r_isnone ?_ | refine r_notnone ?_ | refine r_max2 ?_ | refine r_min2 ?_ | refine r_ipI ?_ | refine w_tru ?_ | refine w_rs ?_
  | refine w_retN ?_ | refine w_break ?_ | refine w_cont ?_ | refine w_callS ?_ | refine w_asgG ?_ | refine w_gsub ?_)
local macro_rules | `(tactic| walk_at "g2") => `(tactic| first
  | ((with_reducible refine' w_var ?hv ?_); (case hv => rfl)) | ((with_reducible refine' w_aug ?hv ?_); (case hv => rfl))
  | ((with_reducible show rLen _ _ _ _); refine r_len (by walk_at "lt") ?_)
  | (with_reducible refine r_I ?cnd ?_; (case cnd => first | decide | omega | assumption | (unfold CPow; decide)))
  | ((with_reducible show RTy _ _ _ _ _); refine r_tyL (by walk_at "l") ?_)
  | (with_reducible refine r_ifDT (by walk_at "c") ?_) | (with_reducible refine r_ifDF (by walk_at "c") ?_)
  | (with_reducible refine r_ifNT (by walk_at "c") ?_) | (with_reducible refine r_ifNF (by walk_at "c") ?_))
local macro_rules | `(tactic| walk_at "go") => `(tactic| repeat (first | walk_at "g1" | walk_at "g2"))

abbrev F2 : L2.St → Hp → Prop := fun _ _ => False
abbrev D0 (Q : VK) : Ends := ⟨fun _ H' => Q .non H', Q, F2, F2⟩
/-! ### take -/
def cp_take (K : PySem.W.Frag) : Sp := fun vs H Q E => ∃ (p : Addr) (ds : List Int) (l : Int), vs = [.ref p, .int l] ∧
  (H p = some (.lst (iv ds)) ∧ Dok ds ∧ 0 < l ∧ ∀ i H' ds', 0 ≤ i → i < l → Dok ds' → SameB p H H' → H' p = some (.lst (iv ds')) → Q (.int i) H')
def ct_take (K : PySem.W.Frag) : TS := (tSeq (tIfS (tTest (tOp rEq (tCB (rLen K) (tCons (tVar 0) tNil)) (tC (.int (0))))) (tRet (tC (.int (0)))) tNext)
 (tRet (tOp rModI (tCB rInt1 (tCons (tBM0 K "list" rPop (tVar 0)) tNil)) (tVar 1))))
theorem cv_take {K : PySem.W.Frag} {vs : List V} {H : Hp} {Q : VK} {E : XK} (h : cp_take K vs H Q E) : ct_take K (D0 Q) (start ["draws", "limit"] vs) H := by
  obtain ⟨p, ds, l, rfl, hp, hd, hl, k⟩ := h
  have G := St.init1 (F := fun _ => none) (fun _ _ e => nomatch e) hp rfl
  unfold ct_take
  show tSeq _ _ (D0 Q) [some (.ref p), some (.int l)] H
  unfold D0
  walk_at "go"
  rw [iv_len]
  refine r_ifD (fun h => ?_) (fun h => ?_)
  · walk_at "go"
    exact k 0 H ds (by omega) hl hd (fun _ _ _ e => e) hp
  · have hne : ds ≠ [] := fun e => h (by rw [e]; rfl)
    obtain ⟨d1, z, rfl⟩ : ∃ d1 z, ds = d1 ++ [z] := ⟨ds.dropLast, ds.getLast hne, (List.dropLast_concat_getLast hne).symm⟩
    rw [show iv (d1 ++ [z]) = iv d1 ++ [.int z] from by simp] at G
    walk_at "go"
    refine r_pop G (by walk_at "u") fun H' G' => ?_
    walk_at "go"
    have hd' : Dok d1 := ⟨by have := hd.len; simp at this; omega, fun d m => hd.rng d (List.mem_append_left _ m)⟩
    exact k _ H' d1 (Int.emod_nonneg _ (by omega)) (Int.emod_lt_of_pos _ hl) hd' (G'.grB (by walk_at "m")).hh (G'.get (by walk_at "m"))
theorem u_take {K : PySem.W.Frag} {H F : Hp} {Q : VK} {X : XK} {E : En} {L : Led} {L' : List Int → Led} {p : Addr} {ds : List Int} {l : Int} (G : St E F H L) (u : ∀ ds', Upd L p (.lst (iv ds)) (.lst (iv ds')) (L' ds')) (hd : Dok ds) (hl : 0 < l)
    (q : ∀ i ds' H', 0 ≤ i → i < l → Dok ds' → St E F H' (L' ds') → Q (.int i) H') : cp_take K [.ref p, .int l] H Q X :=
  ⟨p, ds, l, rfl, G.get (u ds).mem, hd, hl, fun i H' ds' h0 h1 hd' hs hp => q i ds' H' h0 h1 hd' (G.putB (u ds') hs hp)⟩
/-! ### draws -/
def cp_draws (K : PySem.W.Frag) : Sp := fun vs H Q E => ∃ (a : Addr) (ns : List Int) (c : Int), vs = [.ref a, .int c] ∧
  (SqL K H a (iv ns) ∧ ns.length ≤ 63 ∧ 0 ≤ c ∧ c ≤ 1000 ∧ ∀ p H' ds, H p = none → Same H H' → H' p = some (.lst (iv ds)) → Dok ds → Q (.ref p) H')
def ct_draws (K : PySem.W.Frag) : TS := (tSeq (tAsg (tCB (rListOf K) (tCons (tVar 0) tNil)) (gName 2))
 (tSeq (tIfS (tTest (tOp rEq (tCB (rLen K) (tCons (tVar 2) tNil)) (tC (.int (0))))) (tAsg (tLst (tCons (tC (.int (7))) tNil)) (gName 2)) tNext)
 (tSeq (tAsg (tLst tNil) (gName 3))
 (tSeq (tAsg (tC (.int (12345))) (gName 4))
 (tSeq (tFor (iRng1 (tCons (tVar 1) tNil)) (gName 5) (tSeq (tAsg (tOp rModI (tVar 5) (tCB (rLen K) (tCons (tVar 2) tNil))) (gName 6))
 (tSeq (tAsg (tOp (rIxL K) (tVar 2) (tVar 6)) (gName 7))
 (tSeq (tAsg (tOp rModI (tCB rInt1 (tCons (tOp rAddI (tOp rAddI (tOp rAddI (tOp rMulI (tVar 4) (tC (.int (48271)))) (tOp rMulI (tOp rModI (tCB rInt1 (tCons (tVar 7) tNil)) (tC (.int (1000003)))) (tC (.int (69621))))) (tOp rMulI (tVar 5) (tC (.int (7919))))) (tC (.int (11)))) tNil)) (tC (.int (2147483647)))) (gName 4))
 (tSeq (tAsg (tOp rModI (tCB rInt1 (tCons (tOp rAddI (tOp rAddI (tOp rMulI (tVar 4) (tVar 4)) (tOp rMulI (tC (.int (31))) (tVar 4))) (tVar 5)) tNil)) (tC (.int (1000003)))) (gName 8))
 (tIfS (tTest (tOp rGeI (tVar 7) (tOp rPowI (tC (.int (10))) (tC (.int (18)))))) (tSeq (tDrop (tBM K "list" rAppend (tVar 3) (tCons (tOp rModI (tCB rInt1 (tCons (tVar 7) tNil)) (tC (.int (1000)))) tNil)))
 (tAsg (tOp rDivI (tVar 7) (tC (.int (1000)))) (gSub (tVar 2) (tVar 6) rSetL))) (tDrop (tBM K "list" rAppend (tVar 3) (tCons (tOp rModI (tCB rInt1 (tCons (tVar 8) tNil)) (tC (.int (1000)))) tNil)))))))))
 (tSeq (tDrop (tBM0 K "list" rReverse (tVar 3)))
 (tRet (tVar 3))))))))
theorem nab {i : Int} (h0 : 0 ≤ i) (h1 : i < 4294967296) : i.natAbs < 2 ^ 32 := by
  have : (2 : Nat) ^ 32 = 4294967296 := by decide
  omega
theorem iv_snoc {ns : List Int} {z : Int} : iv ns ++ [.int z] = iv (ns ++ [z]) := by simp
theorem iv_set {ns : List Int} {j : Nat} {z : Int} : (iv ns).set j (.int z) = iv (ns.set j z) := by simp [List.map_set]
theorem cv_draws {K : PySem.W.Frag} {vs : List V} {H : Hp} {Q : VK} {E : XK} (h : cp_draws K vs H Q E) : ct_draws K (D0 Q) (start ["script", "count", "cells", "found", "mixed", "k", "j", "cell", "again"] vs) H := by
  obtain ⟨a, ns, c, rfl, ha, hn, hc0, hc1, k⟩ := h
  have G := St.init (Same.refl H)
  unfold ct_draws
  show tSeq _ _ (D0 Q) [some (.ref a), some (.int c), none, none, none, none, none, none, none] H
  unfold D0
  walk_at "go"
  refine r_listof G (.inl ha) fun p1 H1 G1 => ?_
  walk_at "go"
  -- from here on: some list of ints at p1 that is not empty
  suffices S : ∀ (p1 : Addr) (cs : List Int) (H1 : Hp) (L : Led), St ⟨H, H⟩ H H1 ((p1, .lst (iv cs)) :: L) → 0 < cs.length → cs.length ≤ 63 →
      tSeq (tAsg (tLst tNil) (gName 3)) (tSeq (tAsg (tC (.int 12345)) (gName 4)) _) ⟨fun _ H' => Q .non H', Q, F2, F2⟩ [some (.ref a), some (.int c), some (.ref p1), none, none, none, none, none, none] H1 from by
    rw [iv_len]
    refine r_ifD (fun h => ?_) (fun h => ?_)
    · walk_at "go"
      refine r_lst G1 (by walk_at "sz") fun p2 H2 G2 => ?_
      exact S p2 [7] H2 _ G2 (by decide) (by decide)
    · walk_at "g1"
      exact S p1 ns H1 [] G1 (by omega) hn
  intro p1 cs H1 L G1 hc hc63
  walk_at "go"
  refine r_lst G1 (by walk_at "sz") fun p2 H2 G2 => ?_
  walk_at "go"
  refine r_i1 (by omega) ?_
  refine r_forR (fun i σ H' => ∃ (cs' ds : List Int) (m : Int) (v5 v6 v7 v8 : Option V), σ = [some (.ref a), some (.int c), some (.ref p1), some (.ref p2), some (.int m), v5, v6, v7, v8] ∧
      St ⟨H, H⟩ H H' ((p2, .lst (iv ds)) :: (p1, .lst (iv cs')) :: L) ∧ cs'.length = cs.length ∧ ds.length = i ∧ (∀ d ∈ ds, 0 ≤ d ∧ d < 1000) ∧ 0 ≤ m ∧ m < 2147483647)
    ⟨cs, [], 12345, none, none, none, none, rfl, G2, rfl, rfl, (fun _ h => nomatch h), by omega, by omega⟩ ?_ ?_
  · rintro i σ H' hi ⟨cs', ds, m, v5, v6, v7, v8, rfl, G3, hl, hdl, hr, hm0, hm1⟩
    have hi' : (i : Int) < 1000 := by omega
    have hcl : (0 : Int) < (iv cs').length := by rw [iv_len]; omega
    walk_at "go"
    generalize hj : (0 + (i : Int)) % ((iv cs').length : Int) = j
    have hj0 : 0 ≤ j := by rw [← hj]; exact Int.emod_nonneg _ (by omega)
    have hj1 : j < (cs'.length : Int) := by rw [← hj, iv_len]; rw [iv_len] at hcl; exact Int.emod_lt_of_pos _ hcl
    refine r_ixL (by walk_at "l") (atI_iv hj0 hj1) ?_
    generalize cs'.getD j.toNat 0 = z
    walk_at "go"
    refine r_mul (m := 32) (k := 32) (nab hm0 (by omega)) (by decide) ?_
    walk_at "go"
    have hz0 : 0 ≤ z % 1000003 := Int.emod_nonneg _ (by decide)
    have hz1 : z % 1000003 < 1000003 := Int.emod_lt_of_pos _ (by decide)
    refine r_mul (m := 32) (k := 32) (nab hz0 (by omega)) (by decide) ?_
    walk_at "go"
    refine r_mul (m := 32) (k := 32) (nab (by omega) (by omega)) (by decide) ?_
    walk_at "go"
    generalize hM : (m * 48271 + z % 1000003 * 69621 + (0 + (i : Int)) * 7919 + 11) % 2147483647 = m'
    have hm0' : 0 ≤ m' := by rw [← hM]; exact Int.emod_nonneg _ (by decide)
    have hm1' : m' < 2147483647 := by rw [← hM]; exact Int.emod_lt_of_pos _ (by decide)
    refine r_mul (m := 32) (k := 32) (nab hm0' (by omega)) (nab hm0' (by omega)) ?_
    walk_at "go"
    refine r_mul (m := 32) (k := 32) (by decide) (nab hm0' (by omega)) ?_
    walk_at "go"
    generalize (m' * m' + 31 * m' + (0 + (i : Int))) % 1000003 = w
    refine r_ifD (fun h => ?_) (fun h => ?_)
    · walk_at "go"
      refine r_append G3 (by walk_at "u") (szl (by rw [iv_len]; omega)) fun H4 G4 => ?_
      walk_at "go"
      refine r_div (by decide) (by decide) ?_
      walk_at "go"
      refine r_setL (xs := iv cs') G4 (ixN_of hj0 (by rw [iv_len]; exact hj1)) (by walk_at "u") fun H5 G5 => ?_
      rw [iv_snoc, iv_set] at G5
      refine ⟨_, _, m', _, _, _, _, rfl, G5, by rw [List.length_set]; exact hl, by simp [hdl], ?_, hm0', hm1'⟩
      intro d hd
      rcases List.mem_append.mp hd with q | q
      · exact hr d q
      · rw [List.mem_singleton.mp q]
        exact ⟨Int.emod_nonneg _ (by decide), Int.emod_lt_of_pos _ (by decide)⟩
    · walk_at "go"
      refine r_append G3 (by walk_at "u") (szl (by rw [iv_len]; omega)) fun H4 G4 => ?_
      rw [iv_snoc] at G4
      refine ⟨_, _, m', _, _, _, _, rfl, G4, hl, by simp [hdl], ?_, hm0', hm1'⟩
      intro d hd
      rcases List.mem_append.mp hd with q | q
      · exact hr d q
      · rw [List.mem_singleton.mp q]
        exact ⟨Int.emod_nonneg _ (by decide), Int.emod_lt_of_pos _ (by decide)⟩
  · rintro σ H' ⟨cs', ds, m, v5, v6, v7, v8, rfl, G3, hl, hdl, hr, hm0, hm1⟩
    walk_at "go"
    refine r_reverse G3 (by walk_at "u") fun H4 G4 => ?_
    walk_at "go"
    rw [show (iv ds).reverse = iv ds.reverse from by simp] at G4
    refine k p2 H4 ds.reverse ?_ G4.bh (G4.get (by walk_at "m")) ⟨by rw [List.length_reverse]; omega, fun d hd => hr d (List.mem_reverse.mp hd)⟩
    exact (G4.own _ (by walk_at "m")).2.2
theorem u_draws {K : PySem.W.Frag} {H F : Hp} {Q : VK} {X : XK} {E : En} {L : Led} {a : Addr} {ns : List Int} {c : Int} (G : St E F H L) (ha : SqL K H a (iv ns)) (hn : ns.length ≤ 63) (h0 : 0 ≤ c) (h1 : c ≤ 1000)
    (q : ∀ p ds H', Dok ds → St E F H' ((p, .lst (iv ds)) :: L) → Q (.ref p) H') : cp_draws K [.ref a, .int c] H Q X :=
  ⟨a, ns, c, rfl, ha, hn, h0, h1, fun p H' ds hn hs hp hd => q p ds H' hd (G.add hs hn hp)⟩
end
end SL

set_option Elab.async false
set_option linter.all false
set_option maxRecDepth 100000
set_option maxHeartbeats 4000000
namespace L2
open PySem PySem.Spec PyProof.Rows
/-! ## a list or a tuple is walked -/
def SqB (K : PySem.W.Frag) (H : Hp) (a : Addr) (xs : List V) : Bool → Prop
  | true => SqL K H a xs
  | false => SqT K H a xs
def Itb (K : PySem.W.Frag) (a : Addr) : Bool → It
  | true => Itl K a
  | false => Itt K a
def RISq (K : PySem.W.Frag) (x : V) (H : Hp) (R : It → Hp → Prop) : Prop := ∃ (a : Addr) (b : Bool) (xs : List V), x = .ref a ∧ SqB K H a xs b ∧ R (Itb K a b) H
def iSeq (K : PySem.W.Frag) (tl : TE) : TI := fun σ H R => tl σ H fun x H1 => RISq K x H1 R
section
variable {X : Cx} {tg : Expr}
theorem pi_seq {l : Expr} {tl : TE} (hl : PE X l tl) : PI X tg l (iSeq X.K tl) := by
  refine ⟨fun pins s σ H R I h => thn (hl.run pins s σ H _ I h) fun v s1 hq => ?_⟩
  obtain ⟨x, H1, I1, rx, a, b, xs, e, sq, q⟩ := hq
  subst e
  obtain rfl : v = Value.ref a := rx
  have fp : ∀ c ∈ [s1.heap.objs.size], FpOk X pins H1 c := fun c hc => by
    rw [List.mem_singleton.mp hc]
    exact I1.fpOk (Nat.le_refl _) (I1.hok.fresh (Nat.le_refl _))
  have old : ∀ (o : Obj), Inv X pins σ H1 { s1 with heap := s1.heap.push o } := fun o => I1.kept (t' := s1.toks) fun _ _ z => Heap.get?_push_of_some _ z
  cases b with
  | true =>
    obtain ⟨its, _, p, _⟩ := I1.list (show SqL X.K H1 a xs from sq)
    exact wpAny_pyIter_list p.isList ⟨_, [s1.heap.objs.size], _, Itl X.K a, H1, rfl, old _, turn_list a _, ⟨_, Heap.get?_push_size _ rfl, rfl, rfl⟩, fp, q⟩
  | false =>
    obtain ⟨its, _, p, _⟩ := I1.tuple (show SqT X.K H1 a xs from sq)
    exact wpAny_pyIter_tuple (show s1.heap.IsTuple a its.toArray from p) ⟨_, [s1.heap.objs.size], _, Itt X.K a, H1, rfl, old _, turn_tuple a _, ⟨_, Heap.get?_push_size _ rfl, rfl, rfl⟩, fp, q⟩
end
end L2
namespace SL
open PySem L2
section

set_option hygiene false
local macro_rules | `(tactic| walk_at "m") => `(tactic| first | exact List.Mem.head _ | (refine List.Mem.tail _ ?_; walk_at "m"))
local macro_rules | `(tactic| walk_at "u") => `(tactic| first | exact Upd.head | (apply Upd.tail; walk_at "u"))
local macro_rules | `(tactic| walk_at "tk") => `(tactic| first | exact Tak.head | (apply Tak.tail; walk_at "tk"))
local macro_rules | `(tactic| walk_at "l") => `(tactic| first | assumption | exact lS (St.fh (by assumption)) (by assumption) | exact SqL.of (St.get (by assumption) (by walk_at "m")))
local macro_rules | `(tactic| walk_at "t") => `(tactic| first | assumption | exact tS (St.fh (by assumption)) (by assumption) | exact SqT.of (St.get (by assumption) (by walk_at "m")))
local macro_rules | `(tactic| walk_at "lt") => `(tactic| first | exact .inl (by walk_at "l") | exact .inr (by walk_at "t"))
local macro_rules | `(tactic| walk_at "sz") => `(tactic| first | (show _ ≤ sizeLine; decide) | exact sz (by simp) | exact szl (by simp) | exact sz (by omega) | exact szl (by omega) | exact sz (by simp; omega) | exact szl (by simp; omega))
local macro_rules | `(tactic| walk_at "c") => `(tactic| first | assumption | decide | omega)
local macro_rules | `(tactic| walk_at "g1") => `(tactic| with_reducible first
  | refine w_seq ?_ | refine w_asg ?_ | refine w_c ?_ | refine w_op ?_
  | refine r_I0 ?_ | refine w_test ?_ | refine r_b ?_ | refine w_if ?_ | refine w_cons ?_ | refine w_nil ?_
  | refine w_ret ?_ | refine w_drop ?_ | refine w_cb ?_ | refine w_call ?_ | refine w_next ?_ | refine w_tup ?_ | refine w_lst ?_ | refine w_bm ?_ | refine w_bm0 ?_
  | refine w_and ?_ | refine w_or ?_ | refine w_not ?_ | refine w_andV ?_ | refine w_orV ?_ | refine w_notV ?_ | refine w_tB ?_ | refine w_un ?_ | refine r_U ?_
  | refine w_for ?_ | refine w_iL ?_ | refine w_iT ?_ | refine w_i1 ?_ | refine w_i2 ?_ | refine w_sl ?_ | refine w_part ?_ | refine w_nopart ?_ | refine r_part ?_
  | refine r_eqI ?_ | refine r_neI ?_ | refine r_eqS ?_ | refine r_neS ?_ | refine r_eqB ?_ | refine r_neB ?_ | refine r_ifT ?_ | refine r_ifF ?_ | refine r_ifNt ?_ | refine r_ifNf ?_ | refine r_ifRN ?_ | refine r_ifNRN ?_ | refine r_ifNN ?_ | refine r_ifNNN ?_
  | refine w_ifE ?_ | refine r_int1 ?_ | refine r_int1b ?_ | refine r_isnone ?_ | refine r_notnone ?_ | refine r_max2 ?_ | refine r_min2 ?_ | refine r_ipI ?_ | refine w_tru ?_ | refine w_rs ?_
  | refine w_retN ?_ | refine w_break ?_ | refine w_cont ?_ | refine w_callS ?_ | refine w_asgG ?_ | refine w_gsub ?_)
local macro_rules | `(tactic| walk_at "g2") => `(tactic| first
  | ((with_reducible refine' w_var ?hv ?_); (case hv => rfl)) | ((with_reducible refine' w_aug ?hv ?_); (case hv => rfl))
  | ((with_reducible show rLen _ _ _ _); refine r_len (by walk_at "lt") ?_)
  | (with_reducible refine r_I ?cnd ?_; (case cnd => first | decide | omega | assumption | (unfold CPow; decide)))
  | ((with_reducible show RTy _ _ _ _ _); refine r_tyL (by walk_at "l") ?_)
  | (with_reducible refine r_ifDT (by walk_at "c") ?_) | (with_reducible refine r_ifDF (by walk_at "c") ?_)
  | (with_reducible refine r_ifNT (by walk_at "c") ?_) | (with_reducible refine r_ifNF (by walk_at "c") ?_))
local macro_rules | `(tactic| walk_at "go") => `(tactic| repeat (first | walk_at "g1" | walk_at "g2"))

variable {n b c : L2.St → Hp → Prop} {r : VK} {σ : L2.St} {H H' : Hp} {Q : VK} {t : TS} {te : TE} {x y v : V} {K : PySem.W.Frag} {E : En} {F : Hp} {L L' : Led} {p a : Addr} {xs : List V} {k : Bool}
theorem qS (e : Same H H') (h : SqB K H a xs k) : SqB K H' a xs k := by
  cases k with
  | true => exact lS e h
  | false => exact tS e h
theorem qor (h : SqB K H a xs k) : SqL K H a xs ∨ SqT K H a xs := by
  cases k with
  | true => exact .inl h
  | false => exact .inr h
theorem w_iSq {R : It → Hp → Prop} (h : te σ H fun x H1 => RISq K x H1 R) : iSeq K te σ H R := h
theorem r_isq {R : It → Hp → Prop} (h : SqB K H a xs k) (q : R (Itb K a k) H) : RISq K (.ref a) H R := ⟨a, k, xs, rfl, h, q⟩
theorem r_forB {i0 : Nat} (Pv : Nat → L2.St → Hp → Prop) (h0 : Pv 0 σ H) (hl : ∀ i σ H, i ≤ xs.length → Pv i σ H → SqB K H a xs k)
    (hs : ∀ i x σ H, xs[i]? = some x → Pv i σ H → t ⟨Pv (i + 1), r, n, Pv (i + 1)⟩ (σ.set i0 (some x)) H) (hd : ∀ σ H, Pv xs.length σ H → n σ H) : RFor (Itb K a k) (gName i0) t ⟨n, r, b, c⟩ σ H := by
  cases k with
  | true => exact r_forL Pv h0 hl hs hd
  | false => exact r_forT Pv h0 hl hs hd
/-! ## comprehensions -/
def RApp (D : Addr) (y : V) (H : Hp) (P : Hp → Prop) : Prop := ∃ acc, H D = some (.lst acc) ∧ acc.length < sizeLine ∧ P (upd H D (.lst (acc ++ [y])))
def RLc (J : It) (g : TG) (tt : TT) (te : TE) (vs : List Nat) (σ : L2.St) (Q : VK) (H1 : Hp) : Prop := ∀ D, H1 D = none → ∃ W : Nat → Nat → Hp → Prop, (∃ m, W 0 m (upd H1 D (.lst []))) ∧ ∀ i m H, W i m H →
  (J.stop i H ∧ Q (.ref D) H) ∨ (J.go i H ∧ ∃ Nx : Hp → Prop, (∀ H', Nx H' → ∃ m', m' < m ∧ W (i + 1) m' H') ∧ ∀ x H', J.yld i H x H' → g x (wipe σ vs) H' fun σ2 H2 => wipe σ2 vs = wipe σ vs ∧ tt σ2 H2 fun b H3 =>
    if b = true then te σ2 H3 fun y H4 => RApp D y H4 Nx else Nx H3)
theorem w_lc {wi : TI} {g : TG} {tt : TT} {vs : List Nat} (h : wi σ H fun J H1 => RLc J g tt te vs σ Q H1) : tLc wi g tt te vs σ H Q := h
theorem r_app {P : Hp → Prop} {acc : List V} (G : St E F H L) (u : Upd L p (.lst acc) (.lst (acc ++ [y])) L') (hs : acc.length < sizeLine) (q : ∀ H', St E F H' L' → P H') : RApp p y H P :=
  ⟨acc, G.get u.mem, hs, q _ (G.put u)⟩
theorem wipe_set1 {σ : L2.St} {i : Nat} {v : Option V} : wipe ((wipe σ [i]).set i v) [i] = wipe σ [i] := by
  show ((σ.set i none).set i v).set i none = σ.set i none
  rw [List.set_set, List.set_set]
theorem yes_of {σ : L2.St} {H : Hp} {A B : Hp → Prop} (h : A H) : tYes σ H fun b H3 => if b = true then A H3 else B H3 := by
  show (if true = true then A H else B H)
  rw [if_pos rfl]
  exact h
/-- over a list or a tuple, no test -/
theorem r_lcB {i0 : Nat} (G : St E F H L) (Pv : Addr → Nat → Hp → Prop) (h0 : ∀ D H', St E F H' ((D, .lst []) :: L) → Pv D 0 H') (hl : ∀ D i H', i ≤ xs.length → Pv D i H' → SqB K H' a xs k)
    (hs : ∀ D i x H', xs[i]? = some x → Pv D i H' → te ((wipe σ [i0]).set i0 (some x)) H' fun y H4 => RApp D y H4 (Pv D (i + 1))) (hd : ∀ D H', Pv D xs.length H' → Q (.ref D) H') : RLc (Itb K a k) (gName i0) tYes te [i0] σ Q H := by
  intro D hD
  have h0' := h0 D _ (G.new hD)
  cases k with
  | true => exact lc_list (K := K) (a := a) (xs := xs) (Qd := fun H' => Q (.ref D) H') (Pv D) h0' (hl D) (fun i x H' hi p => ⟨wipe_set1, yes_of (hs D i x H' hi p)⟩) (hd D)
  | false => exact lc_tup (K := K) (a := a) (xs := xs) (Qd := fun H' => Q (.ref D) H') (Pv D) h0' (hl D) (fun i x H' hi p => ⟨wipe_set1, yes_of (hs D i x H' hi p)⟩) (hd D)
theorem r_lcR {lo : Int} {m i0 : Nat} (G : St E F H L) (Pv : Addr → Nat → Hp → Prop) (h0 : ∀ D H', St E F H' ((D, .lst []) :: L) → Pv D 0 H')
    (hs : ∀ D i H', i < m → Pv D i H' → te ((wipe σ [i0]).set i0 (some (.int (lo + i)))) H' fun y H4 => RApp D y H4 (Pv D (i + 1))) (hd : ∀ D H', Pv D m H' → Q (.ref D) H') : RLc (Itr lo m) (gName i0) tYes te [i0] σ Q H := by
  intro D hD
  exact lc_range (Qd := fun H' => Q (.ref D) H') (Pv D) (h0 D _ (G.new hD)) (fun i H' hi p => ⟨wipe_set1, yes_of (hs D i H' hi p)⟩) (hd D)
/-- .. with a test -/
theorem r_lcBT {i0 : Nat} {tt : TT} (G : St E F H L) (Pv : Addr → Nat → Hp → Prop) (h0 : ∀ D H', St E F H' ((D, .lst []) :: L) → Pv D 0 H') (hl : ∀ D i H', i ≤ xs.length → Pv D i H' → SqB K H' a xs k)
    (hs : ∀ D i x H', xs[i]? = some x → Pv D i H' → tt ((wipe σ [i0]).set i0 (some x)) H' fun b H3 => RIf b (te ((wipe σ [i0]).set i0 (some x)) H3 fun y H4 => RApp D y H4 (Pv D (i + 1))) (Pv D (i + 1) H3)) (hd : ∀ D H', Pv D xs.length H' → Q (.ref D) H') : RLc (Itb K a k) (gName i0) tt te [i0] σ Q H := by
  intro D hD
  have h0' := h0 D _ (G.new hD)
  cases k with
  | true => exact lc_list (K := K) (a := a) (xs := xs) (Qd := fun H' => Q (.ref D) H') (Pv D) h0' (hl D) (fun i x H' hi p => ⟨wipe_set1, hs D i x H' hi p⟩) (hd D)
  | false => exact lc_tup (K := K) (a := a) (xs := xs) (Qd := fun H' => Q (.ref D) H') (Pv D) h0' (hl D) (fun i x H' hi p => ⟨wipe_set1, hs D i x H' hi p⟩) (hd D)
theorem r_lcRT {lo : Int} {m i0 : Nat} {tt : TT} (G : St E F H L) (Pv : Addr → Nat → Hp → Prop) (h0 : ∀ D H', St E F H' ((D, .lst []) :: L) → Pv D 0 H')
    (hs : ∀ D i H', i < m → Pv D i H' → tt ((wipe σ [i0]).set i0 (some (.int (lo + i)))) H' fun b H3 => RIf b (te ((wipe σ [i0]).set i0 (some (.int (lo + i)))) H3 fun y H4 => RApp D y H4 (Pv D (i + 1))) (Pv D (i + 1) H3)) (hd : ∀ D H', Pv D m H' → Q (.ref D) H') : RLc (Itr lo m) (gName i0) tt te [i0] σ Q H := by
  intro D hD
  exact lc_range (Qd := fun H' => Q (.ref D) H') (Pv D) (h0 D _ (G.new hD)) (fun i H' hi p => ⟨wipe_set1, hs D i H' hi p⟩) (hd D)
theorem take_snoc {α : Type} : ∀ {l : List α} {i : Nat} {x : α}, l[i]? = some x → l.take (i + 1) = l.take i ++ [x]
  | [], i, x, h => by simp at h
  | y :: l, 0, x, h => by
    have e : y = x := Option.some.inj h
    rw [e]; rfl
  | y :: l, i + 1, x, h => by
    have ih := take_snoc (l := l) (i := i) (x := x) h
    rw [List.take_succ_cons, ih]; rfl
/-- each item on its own, nothing else happens -/
theorem r_lcM {i0 : Nat} (f : V → V) (hsz : xs.length ≤ 1000000) (G : St E F H L) (hx : SqB K H a xs k)
    (hs : ∀ D (i : Nat) x acc H' (Q' : VK), xs[i]? = some x → Same H H' → St E F H' ((D, .lst acc) :: L) → Q' (f x) H' → te ((wipe σ [i0]).set i0 (some x)) H' Q')
    (q : ∀ D H', Same H H' → St E F H' ((D, .lst (xs.map f)) :: L) → Q (.ref D) H') : RLc (Itb K a k) (gName i0) tYes te [i0] σ Q H := by
  intro D0 hD0
  have G0 := St.init (Same.refl H)
  refine r_lcB (L := []) G0 (fun D i H' => H D = none ∧ Same H H' ∧ H' D = some (.lst ((xs.take i).map f))) (fun D H' G' => ⟨(G'.own _ (by walk_at "m")).2.2, G'.bh, G'.get (by walk_at "m")⟩) (fun D i H' _ h => qS h.2.1 hx) (fun D i x H' hi h => ?_) (fun D H' h => ?_) D0 hD0
  · have G' : St E F H' ((D, .lst ((xs.take i).map f)) :: L) := G.add h.2.1 h.1 h.2.2
    refine hs D i x _ H' _ hi h.2.1 G' ⟨_, h.2.2, szl (by rw [List.length_map, List.length_take]; omega), h.1, fun b o e => ?_, ?_⟩
    · rw [upd_ne (ne_of_none e h.1)]; exact h.2.1 b o e
    · rw [upd_same, take_snoc hi, List.map_append]; rfl
  · refine q D H' h.2.1 ?_
    have := G.add h.2.1 h.1 h.2.2
    rw [List.take_length] at this
    exact this
end
end SL

set_option Elab.async false
set_option linter.all false
set_option maxRecDepth 100000
set_option maxHeartbeats 4000000

namespace PySem
open Sem (wp)
section
variable {prog : Program} {w : World} {A : Around} {E : Value → Shared → Prop} {RR : Result → Shared → Prop} {J : Addr} {fo wo : List Addr} {sz : Nat} {PP : Nat → Value → Prop} {ST : Nat → Heap → Prop} {kw : List (Str × Value)}
/-- the rest of max, from the second item on; whatever default was given -/
theorem mm_max_rest (Wk : Walks prog w A.in1 J fo wo sz PP ST) (bt : Nat → Nat → Bool) (cm : CmpOf prog w A.in1 .Gt PP bt) (B : Addr) (nB : B ∉ fo) :
    ∀ (d j : Nat) (s : Shared) (u : Value) (c : Nat), sz - (j + 1) = d → j + 1 ≤ sz → ST (j + 1) s.heap → PP (argBest bt j) u →
    s.heap.get? B = some { cls := .type "list", dict := none, data := .seq #[u, u] c, slots := #[] } →
    (∀ v h1 t1, PP (argBest bt (sz - 1)) v → (∀ b o, b ∉ wo → b ≠ B → s.heap.get? b = some o → h1.get? b = some o) → RR (.ok (.ret v)) { s with heap := h1, toks := t1 }) →
    codeAny (model prog w) A (.builtin "max.loop" ⟨[.ref J, .none, .ref B], kw⟩) RR s := by
  have nBw : B ∉ wo := fun h => nB (Wk.sub _ h)
  have nm : (toString "max" ++ toString ".loop" : String) = "max.loop" := by decide
  intro d
  induction d with
  | zero =>
    intro j s u c e1 e2 e3 e4 e5 fin
    have last : j + 1 = sz := by omega
    refine codeAny_builtin F.entry_max_loop ?_
    rw [Around.under_plainId F.plain_max_loop _]
    show wpAny _ A.in1 (seqItems? (.ref B) >>= _) _ _ s
    refine wpAny_bind (wpAny_seqItems e5 rfl ?_)
    show wpAny _ A.in1 (tryCatch (pyNext (.ref J)) _ >>= _) _ _ s
    refine wpAny_bind (wpAny_tryCatch (Wk.done s _ _ (last ▸ e3) fun h1 t1 kp => ?_))
    have e6 := kp B _ nBw e5
    show wpAny _ A.in1 (updateSeq B (fun _ => #[]) >>= _) _ _ _
    refine wpAny_bind ?_
    refine wpAny_updateSeq e6 rfl (wpAny_bind (wpAny_letGo (wpAny_pure ?_)))
    exact fin u _ t1 (by rw [← last]; exact e4) fun b o q1 q2 q3 => (Heap.get?_update_other _ _ (Ne.symm q2)).trans (kp b o q1 q3)
  | succ d ih =>
    intro j s u c e1 e2 e3 e4 e5 fin
    have more : j + 1 < sz := by omega
    refine codeAny_builtin F.entry_max_loop ?_
    rw [Around.under_plainId F.plain_max_loop _]
    show wpAny _ A.in1 (seqItems? (.ref B) >>= _) _ _ s
    refine wpAny_bind (wpAny_seqItems e5 rfl ?_)
    show wpAny _ A.in1 (tryCatch (pyNext (.ref J)) _ >>= _) _ _ s
    refine wpAny_bind (wpAny_tryCatch (Wk.item (j + 1) s _ _ more e3 fun v h1 t1 pv s1 kp => ?_))
    have e6 := kp B _ nBw e5
    show wpAny _ A.in1 (tryCatch (holding [v, v] (richCompare .Gt v u >>= _)) _ >>= _) _ _ _
    refine wpAny_bind (wpAny_tryCatch (wpAny_holding (wpAny_bind (cm (j + 1) (argBest bt j) v u _ _ _ pv e4 ?_))))
    refine wpAny_bind (wpAny_holding (wpAny_truthy_bool ?_))
    refine wpAny_bind (wpAny_letGo (wpAny_pure ?_))
    cases better : bt (j + 1) (argBest bt j) with
    | true =>
      simp only [if_true]
      refine wpAny_bind ?_
      refine wpAny_updateSeq e6 rfl (wpAny_bind (wpAny_letGo ?_))
      rw [nm]
      refine wpAny_pure ⟨plainId_quiet F.plain_max_loop _, ih (j + 1) _ v _ (by omega) more (Wk.frame _ _ _ s1 fun b q o z => ?_) (by simp only [argBest, better, if_true]; exact pv) (Heap.get?_update_self _ e6 rfl) fun v1 h2 t2 q1 q2 => ?_⟩
      · exact (Heap.get?_update_other _ _ (fun z : B = b => nB (by rw [z]; exact q))).trans z
      · exact fin v1 h2 t2 q1 fun b o z1 z2 z3 => q2 b o z1 z2 ((Heap.get?_update_other _ _ (Ne.symm z2)).trans (kp b o z1 z3))
    | false =>
      simp only [Bool.false_eq_true, if_false]
      refine wpAny_bind (wpAny_letGo ?_)
      rw [nm]
      refine wpAny_pure ⟨plainId_quiet F.plain_max_loop _, ih (j + 1) _ u c (by omega) more s1 (by simp only [argBest, better, Bool.false_eq_true, if_false]; exact e4) e6 fun v1 h2 t2 q1 q2 => ?_⟩
      exact fin v1 h2 t2 q1 fun b o z1 z2 z3 => q2 b o z1 z2 (kp b o z1 z3)
theorem mm_max_all (Wk : Walks prog w A.in1 J fo wo sz PP ST) (bt : Nat → Nat → Bool) (cm : CmpOf prog w A.in1 .Gt PP bt) (B : Addr) (nB : B ∉ fo) {s : Shared} {c : Nat} (e3 : ST 0 s.heap)
    (e5 : s.heap.get? B = some { cls := .type "list", dict := none, data := .seq #[] c, slots := #[] }) {dv : Value} (hkw : sz = 0 → kw = [(Str.ofString "default", dv)])
    (fin : ∀ v h1 t1, (0 < sz → PP (argBest bt (sz - 1)) v) → (sz = 0 → v = dv) → (∀ b o, b ∉ wo → b ≠ B → s.heap.get? b = some o → h1.get? b = some o) → RR (.ok (.ret v)) { s with heap := h1, toks := t1 }) :
    codeAny (model prog w) A (.builtin "max.loop" ⟨[.ref J, .none, .ref B], kw⟩) RR s := by
  have nBw : B ∉ wo := fun h => nB (Wk.sub _ h)
  have nm : (toString "max" ++ toString ".loop" : String) = "max.loop" := by decide
  refine codeAny_builtin F.entry_max_loop ?_
  rw [Around.under_plainId F.plain_max_loop _]
  show wpAny _ A.in1 (seqItems? (.ref B) >>= _) _ _ s
  refine wpAny_bind (wpAny_seqItems e5 rfl ?_)
  show wpAny _ A.in1 (tryCatch (pyNext (.ref J)) _ >>= _) _ _ s
  by_cases none : sz = 0
  · have hk := hkw none
    subst hk
    refine wpAny_bind (wpAny_tryCatch (Wk.done s _ _ (by rw [none]; exact e3) fun h1 t1 kp => ?_))
    show wpAny _ A.in1 (rule (toString "max" ++ toString ".default") >>= _) _ _ _
    refine wpAny_bind (wpAny_rule ?_)
    exact wpAny_pure (fin dv h1 t1 (fun z => absurd z (by omega)) (fun _ => rfl) fun b o q1 q2 q3 => kp b o q1 q3)
  · have some0 : 0 < sz := by omega
    refine wpAny_bind (wpAny_tryCatch (Wk.item 0 s _ _ some0 e3 fun v h1 t1 pv s1 kp => ?_))
    have e6 := kp B _ nBw e5
    show wpAny _ A.in1 (updateSeq B (fun _ => #[v, v]) >>= _) _ _ _
    refine wpAny_bind ?_
    refine wpAny_updateSeq e6 rfl ?_
    rw [nm]
    refine wpAny_pure ⟨plainId_quiet F.plain_max_loop _, mm_max_rest Wk bt cm B nB _ 0 _ v _ rfl some0 (Wk.frame _ _ _ s1 fun b q o z => ?_) pv (Heap.get?_update_self _ e6 rfl) fun v1 h2 t2 q1 q2 => ?_⟩
    · exact (Heap.get?_update_other _ _ (fun z : B = b => nB (by rw [z]; exact q))).trans z
    · exact fin v1 h2 t2 (fun _ => q1) (fun z => absurd z none) fun b o z1 z2 z3 => q2 b o z1 z2 ((Heap.get?_update_other _ _ (Ne.symm z2)).trans (kp b o z1 z3))
theorem F.mm_max_d (a v : Value) : argsOk "max" ⟨[a], [(Str.ofString "default", v)]⟩ := by unfold argsOk; kernel_rfl
/-- max(x), max(x, default=d) -/
theorem mm_max {s : Shared} {x : Value} {Q : Value → Shared → Prop} {kw : List (Str × Value)} {dv : Value} (hkw : kw = [] ∨ kw = [(Str.ofString "default", dv)])
    (h : wpAny (model prog w) A.in1 (pyIter x) (fun it s2 => ∃ J fo wo sz PP ST bt, it = .ref J ∧ Walks prog w A.in1 J fo wo sz PP ST ∧ ST 0 s2.heap ∧ (∀ b ∈ fo, b < s2.heap.objs.size) ∧ (sz = 0 → kw = [(Str.ofString "default", dv)]) ∧ CmpOf prog w A.in1 .Gt PP bt ∧
      ∀ v h1 t1, (0 < sz → PP (argBest bt (sz - 1)) v) → (sz = 0 → v = dv) → (∀ b o, b ∉ wo → s2.heap.get? b = some o → h1.get? b = some o) → Q v { s2 with heap := h1, toks := t1 }) E s) :
    wpAny (model prog w) A (call (.builtin "max") [x] kw) Q E s := by
  have nm : (toString "max" ++ toString ".loop" : String) = "max.loop" := by decide
  have go : ∀ (it : Value) (s2 : Shared), (∃ J fo wo sz PP ST bt, it = .ref J ∧ Walks prog w A.in1 J fo wo sz PP ST ∧ ST 0 s2.heap ∧ (∀ b ∈ fo, b < s2.heap.objs.size) ∧ (sz = 0 → kw = [(Str.ofString "default", dv)]) ∧ CmpOf prog w A.in1 .Gt PP bt ∧
      ∀ v h1 t1, (0 < sz → PP (argBest bt (sz - 1)) v) → (sz = 0 → v = dv) → (∀ b o, b ∉ wo → s2.heap.get? b = some o → h1.get? b = some o) → Q v { s2 with heap := h1, toks := t1 }) →
      codeAny (model prog w) A (.builtin "max.loop" ⟨[it, .none, .ref s2.heap.objs.size], kw⟩) (fun r s' => match r with | .ok (.ret v) => Q v s' | .ok _ => False | .error e => E e s')
        { s2 with heap := s2.heap.push { cls := .type "list", data := .seq #[] } } := by
    rintro it s2 ⟨J, fo, wo, sz, PP, ST, bt, rfl, Wk, st, lt, hd, cm, q⟩
    have nB : s2.heap.objs.size ∉ fo := fun z => Nat.lt_irrefl _ (lt _ z)
    refine mm_max_all (s := { s2 with heap := s2.heap.push { cls := .type "list", data := .seq #[] } }) (dv := dv) Wk bt cm s2.heap.objs.size nB (Wk.frame _ _ _ st fun b _ o e => Heap.get?_push_of_some _ e) (Heap.get?_push_size _ rfl) hd fun v h1 t1 q1 q2 q3 => ?_
    exact q v h1 t1 q1 q2 fun b o z1 z2 => q3 b o z1 (Nat.ne_of_lt (Heap.lt_size z2)) (Heap.get?_push_of_some _ z2)
  rcases hkw with z | z
  · subst z
    refine call_function_tree F.kind_max F.plain_max F.entry_max (F.args_max1 _) ?_
    show wpAny _ A.in1 (Builtin.Builtins.bindParams "max" ["key", "default"] 0 ⟨[], []⟩ >>= _) _ _ s
    refine wpAny_bind (wpAny_of_eq (show Builtin.Builtins.bindParams "max" ["key", "default"] 0 ⟨[], []⟩ = pure [none, none] from rfl) ?_)
    refine wpAny_bind (wpAny_pure ?_)
    refine wpAny_bind (wpAny_mono h (fun it s2 hh => ?_) fun _ _ e => e)
    refine wpAny_bind (wpAny_newObj_type ?_)
    rw [nm]
    exact wpAny_pure ⟨plainId_quiet F.plain_max_loop _, go it s2 hh⟩
  · subst z
    refine PyProof.Rows.kmk_tree F.kind_max F.plain_max F.entry_max (F.mm_max_d _ _) ?_
    show wpAny _ A.in1 (Builtin.Builtins.bindParams "max" ["key", "default"] 0 ⟨[], [(Str.ofString "default", dv)]⟩ >>= _) _ _ s
    refine wpAny_bind (wpAny_of_eq (show Builtin.Builtins.bindParams "max" ["key", "default"] 0 ⟨[], [(Str.ofString "default", dv)]⟩ = pure [none, some dv] from rfl) ?_)
    refine wpAny_bind (wpAny_pure ?_)
    refine wpAny_bind (wpAny_mono h (fun it s2 hh => ?_) fun _ _ e => e)
    refine wpAny_bind (wpAny_newObj_type ?_)
    rw [nm]
    exact wpAny_pure ⟨plainId_quiet F.plain_max_loop _, go it s2 hh⟩
end
end PySem

namespace PySem
open Sem (wp)
section
variable {prog : Program} {w : World} {A : Around} {E : Value → Shared → Prop} {RR : Result → Shared → Prop} {J : Addr} {fo wo : List Addr} {sz : Nat} {PP : Nat → Value → Prop} {ST : Nat → Heap → Prop} {kw : List (Str × Value)}
/-- the rest of min, from the second item on; whatever default was given -/
theorem mm_min_rest (Wk : Walks prog w A.in1 J fo wo sz PP ST) (bt : Nat → Nat → Bool) (cm : CmpOf prog w A.in1 .Lt PP bt) (B : Addr) (nB : B ∉ fo) :
    ∀ (d j : Nat) (s : Shared) (u : Value) (c : Nat), sz - (j + 1) = d → j + 1 ≤ sz → ST (j + 1) s.heap → PP (argBest bt j) u →
    s.heap.get? B = some { cls := .type "list", dict := none, data := .seq #[u, u] c, slots := #[] } →
    (∀ v h1 t1, PP (argBest bt (sz - 1)) v → (∀ b o, b ∉ wo → b ≠ B → s.heap.get? b = some o → h1.get? b = some o) → RR (.ok (.ret v)) { s with heap := h1, toks := t1 }) →
    codeAny (model prog w) A (.builtin "min.loop" ⟨[.ref J, .none, .ref B], kw⟩) RR s := by
  have nBw : B ∉ wo := fun h => nB (Wk.sub _ h)
  have nm : (toString "min" ++ toString ".loop" : String) = "min.loop" := by decide
  intro d
  induction d with
  | zero =>
    intro j s u c e1 e2 e3 e4 e5 fin
    have last : j + 1 = sz := by omega
    refine codeAny_builtin F.entry_min_loop ?_
    rw [Around.under_plainId F.plain_min_loop _]
    show wpAny _ A.in1 (seqItems? (.ref B) >>= _) _ _ s
    refine wpAny_bind (wpAny_seqItems e5 rfl ?_)
    show wpAny _ A.in1 (tryCatch (pyNext (.ref J)) _ >>= _) _ _ s
    refine wpAny_bind (wpAny_tryCatch (Wk.done s _ _ (last ▸ e3) fun h1 t1 kp => ?_))
    have e6 := kp B _ nBw e5
    show wpAny _ A.in1 (updateSeq B (fun _ => #[]) >>= _) _ _ _
    refine wpAny_bind ?_
    refine wpAny_updateSeq e6 rfl (wpAny_bind (wpAny_letGo (wpAny_pure ?_)))
    exact fin u _ t1 (by rw [← last]; exact e4) fun b o q1 q2 q3 => (Heap.get?_update_other _ _ (Ne.symm q2)).trans (kp b o q1 q3)
  | succ d ih =>
    intro j s u c e1 e2 e3 e4 e5 fin
    have more : j + 1 < sz := by omega
    refine codeAny_builtin F.entry_min_loop ?_
    rw [Around.under_plainId F.plain_min_loop _]
    show wpAny _ A.in1 (seqItems? (.ref B) >>= _) _ _ s
    refine wpAny_bind (wpAny_seqItems e5 rfl ?_)
    show wpAny _ A.in1 (tryCatch (pyNext (.ref J)) _ >>= _) _ _ s
    refine wpAny_bind (wpAny_tryCatch (Wk.item (j + 1) s _ _ more e3 fun v h1 t1 pv s1 kp => ?_))
    have e6 := kp B _ nBw e5
    show wpAny _ A.in1 (tryCatch (holding [v, v] (richCompare .Lt v u >>= _)) _ >>= _) _ _ _
    refine wpAny_bind (wpAny_tryCatch (wpAny_holding (wpAny_bind (cm (j + 1) (argBest bt j) v u _ _ _ pv e4 ?_))))
    refine wpAny_bind (wpAny_holding (wpAny_truthy_bool ?_))
    refine wpAny_bind (wpAny_letGo (wpAny_pure ?_))
    cases better : bt (j + 1) (argBest bt j) with
    | true =>
      simp only [if_true]
      refine wpAny_bind ?_
      refine wpAny_updateSeq e6 rfl (wpAny_bind (wpAny_letGo ?_))
      rw [nm]
      refine wpAny_pure ⟨plainId_quiet F.plain_min_loop _, ih (j + 1) _ v _ (by omega) more (Wk.frame _ _ _ s1 fun b q o z => ?_) (by simp only [argBest, better, if_true]; exact pv) (Heap.get?_update_self _ e6 rfl) fun v1 h2 t2 q1 q2 => ?_⟩
      · exact (Heap.get?_update_other _ _ (fun z : B = b => nB (by rw [z]; exact q))).trans z
      · exact fin v1 h2 t2 q1 fun b o z1 z2 z3 => q2 b o z1 z2 ((Heap.get?_update_other _ _ (Ne.symm z2)).trans (kp b o z1 z3))
    | false =>
      simp only [Bool.false_eq_true, if_false]
      refine wpAny_bind (wpAny_letGo ?_)
      rw [nm]
      refine wpAny_pure ⟨plainId_quiet F.plain_min_loop _, ih (j + 1) _ u c (by omega) more s1 (by simp only [argBest, better, Bool.false_eq_true, if_false]; exact e4) e6 fun v1 h2 t2 q1 q2 => ?_⟩
      exact fin v1 h2 t2 q1 fun b o z1 z2 z3 => q2 b o z1 z2 (kp b o z1 z3)
theorem mm_min_all (Wk : Walks prog w A.in1 J fo wo sz PP ST) (bt : Nat → Nat → Bool) (cm : CmpOf prog w A.in1 .Lt PP bt) (B : Addr) (nB : B ∉ fo) {s : Shared} {c : Nat} (e3 : ST 0 s.heap)
    (e5 : s.heap.get? B = some { cls := .type "list", dict := none, data := .seq #[] c, slots := #[] }) {dv : Value} (hkw : sz = 0 → kw = [(Str.ofString "default", dv)])
    (fin : ∀ v h1 t1, (0 < sz → PP (argBest bt (sz - 1)) v) → (sz = 0 → v = dv) → (∀ b o, b ∉ wo → b ≠ B → s.heap.get? b = some o → h1.get? b = some o) → RR (.ok (.ret v)) { s with heap := h1, toks := t1 }) :
    codeAny (model prog w) A (.builtin "min.loop" ⟨[.ref J, .none, .ref B], kw⟩) RR s := by
  have nBw : B ∉ wo := fun h => nB (Wk.sub _ h)
  have nm : (toString "min" ++ toString ".loop" : String) = "min.loop" := by decide
  refine codeAny_builtin F.entry_min_loop ?_
  rw [Around.under_plainId F.plain_min_loop _]
  show wpAny _ A.in1 (seqItems? (.ref B) >>= _) _ _ s
  refine wpAny_bind (wpAny_seqItems e5 rfl ?_)
  show wpAny _ A.in1 (tryCatch (pyNext (.ref J)) _ >>= _) _ _ s
  by_cases none : sz = 0
  · have hk := hkw none
    subst hk
    refine wpAny_bind (wpAny_tryCatch (Wk.done s _ _ (by rw [none]; exact e3) fun h1 t1 kp => ?_))
    show wpAny _ A.in1 (rule (toString "min" ++ toString ".default") >>= _) _ _ _
    refine wpAny_bind (wpAny_rule ?_)
    exact wpAny_pure (fin dv h1 t1 (fun z => absurd z (by omega)) (fun _ => rfl) fun b o q1 q2 q3 => kp b o q1 q3)
  · have some0 : 0 < sz := by omega
    refine wpAny_bind (wpAny_tryCatch (Wk.item 0 s _ _ some0 e3 fun v h1 t1 pv s1 kp => ?_))
    have e6 := kp B _ nBw e5
    show wpAny _ A.in1 (updateSeq B (fun _ => #[v, v]) >>= _) _ _ _
    refine wpAny_bind ?_
    refine wpAny_updateSeq e6 rfl ?_
    rw [nm]
    refine wpAny_pure ⟨plainId_quiet F.plain_min_loop _, mm_min_rest Wk bt cm B nB _ 0 _ v _ rfl some0 (Wk.frame _ _ _ s1 fun b q o z => ?_) pv (Heap.get?_update_self _ e6 rfl) fun v1 h2 t2 q1 q2 => ?_⟩
    · exact (Heap.get?_update_other _ _ (fun z : B = b => nB (by rw [z]; exact q))).trans z
    · exact fin v1 h2 t2 (fun _ => q1) (fun z => absurd z none) fun b o z1 z2 z3 => q2 b o z1 z2 ((Heap.get?_update_other _ _ (Ne.symm z2)).trans (kp b o z1 z3))
theorem F.mm_min_d (a v : Value) : argsOk "min" ⟨[a], [(Str.ofString "default", v)]⟩ := by unfold argsOk; kernel_rfl
/-- min(x), min(x, default=d) -/
theorem mm_min {s : Shared} {x : Value} {Q : Value → Shared → Prop} {kw : List (Str × Value)} {dv : Value} (hkw : kw = [] ∨ kw = [(Str.ofString "default", dv)])
    (h : wpAny (model prog w) A.in1 (pyIter x) (fun it s2 => ∃ J fo wo sz PP ST bt, it = .ref J ∧ Walks prog w A.in1 J fo wo sz PP ST ∧ ST 0 s2.heap ∧ (∀ b ∈ fo, b < s2.heap.objs.size) ∧ (sz = 0 → kw = [(Str.ofString "default", dv)]) ∧ CmpOf prog w A.in1 .Lt PP bt ∧
      ∀ v h1 t1, (0 < sz → PP (argBest bt (sz - 1)) v) → (sz = 0 → v = dv) → (∀ b o, b ∉ wo → s2.heap.get? b = some o → h1.get? b = some o) → Q v { s2 with heap := h1, toks := t1 }) E s) :
    wpAny (model prog w) A (call (.builtin "min") [x] kw) Q E s := by
  have nm : (toString "min" ++ toString ".loop" : String) = "min.loop" := by decide
  have go : ∀ (it : Value) (s2 : Shared), (∃ J fo wo sz PP ST bt, it = .ref J ∧ Walks prog w A.in1 J fo wo sz PP ST ∧ ST 0 s2.heap ∧ (∀ b ∈ fo, b < s2.heap.objs.size) ∧ (sz = 0 → kw = [(Str.ofString "default", dv)]) ∧ CmpOf prog w A.in1 .Lt PP bt ∧
      ∀ v h1 t1, (0 < sz → PP (argBest bt (sz - 1)) v) → (sz = 0 → v = dv) → (∀ b o, b ∉ wo → s2.heap.get? b = some o → h1.get? b = some o) → Q v { s2 with heap := h1, toks := t1 }) →
      codeAny (model prog w) A (.builtin "min.loop" ⟨[it, .none, .ref s2.heap.objs.size], kw⟩) (fun r s' => match r with | .ok (.ret v) => Q v s' | .ok _ => False | .error e => E e s')
        { s2 with heap := s2.heap.push { cls := .type "list", data := .seq #[] } } := by
    rintro it s2 ⟨J, fo, wo, sz, PP, ST, bt, rfl, Wk, st, lt, hd, cm, q⟩
    have nB : s2.heap.objs.size ∉ fo := fun z => Nat.lt_irrefl _ (lt _ z)
    refine mm_min_all (s := { s2 with heap := s2.heap.push { cls := .type "list", data := .seq #[] } }) (dv := dv) Wk bt cm s2.heap.objs.size nB (Wk.frame _ _ _ st fun b _ o e => Heap.get?_push_of_some _ e) (Heap.get?_push_size _ rfl) hd fun v h1 t1 q1 q2 q3 => ?_
    exact q v h1 t1 q1 q2 fun b o z1 z2 => q3 b o z1 (Nat.ne_of_lt (Heap.lt_size z2)) (Heap.get?_push_of_some _ z2)
  rcases hkw with z | z
  · subst z
    refine call_function_tree F.kind_min F.plain_min F.entry_min (F.args_min1 _) ?_
    show wpAny _ A.in1 (Builtin.Builtins.bindParams "min" ["key", "default"] 0 ⟨[], []⟩ >>= _) _ _ s
    refine wpAny_bind (wpAny_of_eq (show Builtin.Builtins.bindParams "min" ["key", "default"] 0 ⟨[], []⟩ = pure [none, none] from rfl) ?_)
    refine wpAny_bind (wpAny_pure ?_)
    refine wpAny_bind (wpAny_mono h (fun it s2 hh => ?_) fun _ _ e => e)
    refine wpAny_bind (wpAny_newObj_type ?_)
    rw [nm]
    exact wpAny_pure ⟨plainId_quiet F.plain_min_loop _, go it s2 hh⟩
  · subst z
    refine PyProof.Rows.kmk_tree F.kind_min F.plain_min F.entry_min (F.mm_min_d _ _) ?_
    show wpAny _ A.in1 (Builtin.Builtins.bindParams "min" ["key", "default"] 0 ⟨[], [(Str.ofString "default", dv)]⟩ >>= _) _ _ s
    refine wpAny_bind (wpAny_of_eq (show Builtin.Builtins.bindParams "min" ["key", "default"] 0 ⟨[], [(Str.ofString "default", dv)]⟩ = pure [none, some dv] from rfl) ?_)
    refine wpAny_bind (wpAny_pure ?_)
    refine wpAny_bind (wpAny_mono h (fun it s2 hh => ?_) fun _ _ e => e)
    refine wpAny_bind (wpAny_newObj_type ?_)
    rw [nm]
    exact wpAny_pure ⟨plainId_quiet F.plain_min_loop _, go it s2 hh⟩
end
end PySem

namespace L2
open PySem PySem.Spec PyProof.Rows
section
variable {X : Cx}
/-- max of a list or tuple of ints that is not empty; with a default: of any -/
def rB_max (K : PySem.W.Frag) : List V → Hp → VK → Prop := fun vs H Q => ∃ (a : Addr) (k : Bool) (ns : List Int), vs = [V.ref a] ∧ SqB K H a (ns.map V.int) k ∧ 0 < ns.length ∧ ∀ m, m ∈ ns → (∀ y ∈ ns, y ≤ m) → Q (.int m) H
def rD_max (K : PySem.W.Frag) : List V → List V → Hp → VK → Prop := fun vs zs H Q => ∃ (a : Addr) (k : Bool) (ns : List Int) (d : Int), vs = [V.ref a] ∧ zs = [V.int d] ∧ SqB K H a (ns.map V.int) k ∧
  ∀ m, (ns = [] → m = d) → (ns ≠ [] → m ∈ ns ∧ ∀ y ∈ ns, y ≤ m) → Q (.int m) H
theorem mm_core_max {pins : List (Addr × Obj)} {s : Shared} {σ : L2.St} {H : Hp} {Q : VK} (hc : X.calm = true) (I : Inv X pins σ H s) {a : Addr} {k : Bool} {ns : List Int} {kw : List (Str × Value)} {dv : Value} {d : Int} (hkw : kw = [] ∨ kw = [(Str.ofString "default", dv)])
    (h0 : ns.length = 0 → kw = [(Str.ofString "default", dv)]) (hd : ns.length = 0 → ∃ t, dv = .int d t) (hs : SqB X.K H a (ns.map V.int) k) (q : ∀ m, (ns = [] → m = d) → (ns ≠ [] → m ∈ ns ∧ ∀ y ∈ ns, y ≤ m) → Q (.int m) H) :
    wpAny (model X.prog X.w) X.A (call (.builtin "max") [.ref a] kw) (EP X pins σ Q) X.xe s := by
  have fin : ∀ (its : List Value), Vals (ns.map V.int) its → ∀ (xs : Array (Int × Tok)), its.toArray = intItems xs → ∀ (v : Value) (h1 : Heap) (t1 : Nat), (0 < xs.size → (intItems xs)[argBest (fun i j => decide (numAt xs i > numAt xs j)) (xs.size - 1)]? = some v) → (xs.size = 0 → v = dv) →
      (∀ b o, s.heap.get? b = some o → h1.get? b = some o) → EP X pins σ Q v { s with heap := h1, toks := t1 } := by
    intro its rv xs e v h1 t1 q1 q2 q3
    have hi := rv.ints
    have hn : numsOf (intItems xs).toList = ns := by rw [← e]; exact hi.numsOf
    rw [nums_intItems] at hn
    have hl : ns.length = xs.size := by rw [← hn]; simp
    by_cases z : xs.size = 0
    · obtain ⟨t, et⟩ := hd (by rw [hl]; exact z)
      rw [q2 z, et]
      have ne : ns = [] := List.eq_nil_of_length_eq_zero (by rw [hl]; exact z)
      exact ⟨.int d, H, I.kept q3, ⟨_, rfl⟩, q d (fun _ => rfl) fun w => absurd ne w⟩
    · have hv := q1 (by omega)
      obtain ⟨t, rfl⟩ := intItems_at hv
      obtain ⟨b1, b2⟩ := argBest_gt (numAt xs) (xs.size - 1)
      refine ⟨.int _, H, I.kept q3, ⟨_, rfl⟩, q _ (fun w => absurd (by rw [← hl, w]; rfl) z) fun _ => ⟨?_, fun y hy => ?_⟩⟩
      · rw [← hn, numAt_eq]; exact PySem.getD_mem (by rw [List.length_map, Array.length_toList]; omega)
      · rw [← hn] at hy
        obtain ⟨j, hj, rfl⟩ := mem_getD hy
        rw [List.length_map, Array.length_toList] at hj
        rw [← numAt_eq]; exact b2 j (by omega)
  have hh := I.ok.hd hc
  cases k with
  | true =>
    obtain ⟨its, rv, p, _⟩ := I.list (show SqL X.K H a (ns.map V.int) from hs)
    obtain ⟨xs, e⟩ := rv.ints.allInts.items
    have hl : ns.length = xs.size := by
      have h1 := rv.length
      have h2 : its.toArray.size = xs.size := by rw [e]; simp [intItems]
      simp at h1 h2
      omega
    have p' := p.isList
    rw [e] at p'
    refine mm_max hkw (iter_intList p' fun s₂ e2 st hfp hlI => ?_)
    subst e2
    refine ⟨_, _, _, _, _, _, _, rfl, Walks.list (A := X.A.in1) hh _ a hlI (intItems xs), st, hfp, (fun z => h0 (by rw [hl]; simpa [intItems] using z)), CmpOf.ints_gt (numAt xs) (fun _ _ => intItems_at), fun v h1 t1 q1 q2 q3 => ?_⟩
    exact fin its rv xs e v h1 t1 (fun z => by simpa [intItems] using q1 (by simpa [intItems] using z)) (fun z => q2 (by simpa [intItems] using z)) (old_kept q3)
  | false =>
    obtain ⟨its, rv, p, _⟩ := I.tuple (show SqT X.K H a (ns.map V.int) from hs)
    obtain ⟨xs, e⟩ := rv.ints.allInts.items
    have hl : ns.length = xs.size := by
      have h1 := rv.length
      have h2 : its.toArray.size = xs.size := by rw [e]; simp [intItems]
      simp at h1 h2
      omega
    have p' : s.heap.IsTuple a (intItems xs) := by rw [← e]; exact p
    have hlt : a < s.heap.objs.size := by obtain ⟨_, z, _⟩ := p'; exact Heap.lt_size z
    refine mm_max hkw (wpAny_pyIter_tuple p' ?_)
    refine ⟨s.heap.objs.size, _, _, _, _, _, _, rfl, Walks.tuple (A := X.A.in1) hh _ a (Nat.ne_of_lt hlt) (intItems xs), ⟨⟨_, Heap.get?_push_size _ rfl, rfl, rfl⟩, p'.push _⟩, fun b hb => ?_, (fun z => h0 (by rw [hl]; simpa [intItems] using z)), CmpOf.ints_gt (numAt xs) (fun _ _ => intItems_at), fun v h1 t1 q1 q2 q3 => ?_⟩
    · show b < (s.heap.push _).objs.size
      rw [Heap.size_push]
      rcases List.mem_cons.mp hb with z | z
      · rw [z]; exact Nat.lt_succ_self _
      · rw [List.mem_singleton.mp z]; exact Nat.lt_succ_of_lt hlt
    · refine fin its rv xs e v h1 t1 (fun z => by simpa [intItems] using q1 (by simpa [intItems] using z)) (fun z => q2 (by simpa [intItems] using z)) fun b o z => q3 b o (fun y => ?_) (Heap.get?_push_of_some _ z)
      rw [List.mem_singleton.mp y] at z
      exact absurd (Heap.lt_size z) (Nat.lt_irrefl _)
theorem cB_max (hc : X.calm = true) : CallR X (.builtin "max") (rB_max X.K) := by
  intro pins s σ H vs us Q I r h
  obtain ⟨a, k, ns, rfl, hs, hne, q⟩ := h
  rw [Vals.ref1 r]
  exact mm_core_max (kw := []) (dv := .none) (d := 0) hc I (.inl rfl) (fun z => absurd z (by omega)) (fun z => absurd z (by omega)) hs fun m _ h2 => (h2 (fun z => by rw [z] at hne; cases hne)).elim (q m)
theorem cD_max (hc : X.calm = true) : CallRK X (.builtin "max") [Str.ofString "default"] (rD_max X.K) := by
  intro pins s σ H vs zs us ws Q I r rz h
  obtain ⟨a, k, ns, d, rfl, rfl, hs, q⟩ := h
  rw [Vals.ref1 r]
  cases rz with
  | cons r1 r2 =>
    cases r2
    obtain ⟨t, rfl⟩ := r1
    exact mm_core_max (dv := .int d t) (d := d) hc I (.inr rfl) (fun _ => rfl) (fun _ => ⟨t, rfl⟩) hs q
end
end L2

namespace L2
open PySem PySem.Spec PyProof.Rows
section
variable {X : Cx}
/-- min of a list or tuple of ints that is not empty; with a default: of any -/
def rB_min (K : PySem.W.Frag) : List V → Hp → VK → Prop := fun vs H Q => ∃ (a : Addr) (k : Bool) (ns : List Int), vs = [V.ref a] ∧ SqB K H a (ns.map V.int) k ∧ 0 < ns.length ∧ ∀ m, m ∈ ns → (∀ y ∈ ns, m ≤ y) → Q (.int m) H
def rD_min (K : PySem.W.Frag) : List V → List V → Hp → VK → Prop := fun vs zs H Q => ∃ (a : Addr) (k : Bool) (ns : List Int) (d : Int), vs = [V.ref a] ∧ zs = [V.int d] ∧ SqB K H a (ns.map V.int) k ∧
  ∀ m, (ns = [] → m = d) → (ns ≠ [] → m ∈ ns ∧ ∀ y ∈ ns, m ≤ y) → Q (.int m) H
theorem mm_core_min {pins : List (Addr × Obj)} {s : Shared} {σ : L2.St} {H : Hp} {Q : VK} (hc : X.calm = true) (I : Inv X pins σ H s) {a : Addr} {k : Bool} {ns : List Int} {kw : List (Str × Value)} {dv : Value} {d : Int} (hkw : kw = [] ∨ kw = [(Str.ofString "default", dv)])
    (h0 : ns.length = 0 → kw = [(Str.ofString "default", dv)]) (hd : ns.length = 0 → ∃ t, dv = .int d t) (hs : SqB X.K H a (ns.map V.int) k) (q : ∀ m, (ns = [] → m = d) → (ns ≠ [] → m ∈ ns ∧ ∀ y ∈ ns, m ≤ y) → Q (.int m) H) :
    wpAny (model X.prog X.w) X.A (call (.builtin "min") [.ref a] kw) (EP X pins σ Q) X.xe s := by
  have fin : ∀ (its : List Value), Vals (ns.map V.int) its → ∀ (xs : Array (Int × Tok)), its.toArray = intItems xs → ∀ (v : Value) (h1 : Heap) (t1 : Nat), (0 < xs.size → (intItems xs)[argBest (fun i j => decide (numAt xs i < numAt xs j)) (xs.size - 1)]? = some v) → (xs.size = 0 → v = dv) →
      (∀ b o, s.heap.get? b = some o → h1.get? b = some o) → EP X pins σ Q v { s with heap := h1, toks := t1 } := by
    intro its rv xs e v h1 t1 q1 q2 q3
    have hi := rv.ints
    have hn : numsOf (intItems xs).toList = ns := by rw [← e]; exact hi.numsOf
    rw [nums_intItems] at hn
    have hl : ns.length = xs.size := by rw [← hn]; simp
    by_cases z : xs.size = 0
    · obtain ⟨t, et⟩ := hd (by rw [hl]; exact z)
      rw [q2 z, et]
      have ne : ns = [] := List.eq_nil_of_length_eq_zero (by rw [hl]; exact z)
      exact ⟨.int d, H, I.kept q3, ⟨_, rfl⟩, q d (fun _ => rfl) fun w => absurd ne w⟩
    · have hv := q1 (by omega)
      obtain ⟨t, rfl⟩ := intItems_at hv
      obtain ⟨b1, b2⟩ := argBest_lt (numAt xs) (xs.size - 1)
      refine ⟨.int _, H, I.kept q3, ⟨_, rfl⟩, q _ (fun w => absurd (by rw [← hl, w]; rfl) z) fun _ => ⟨?_, fun y hy => ?_⟩⟩
      · rw [← hn, numAt_eq]; exact PySem.getD_mem (by rw [List.length_map, Array.length_toList]; omega)
      · rw [← hn] at hy
        obtain ⟨j, hj, rfl⟩ := mem_getD hy
        rw [List.length_map, Array.length_toList] at hj
        rw [← numAt_eq]; exact b2 j (by omega)
  have hh := I.ok.hd hc
  cases k with
  | true =>
    obtain ⟨its, rv, p, _⟩ := I.list (show SqL X.K H a (ns.map V.int) from hs)
    obtain ⟨xs, e⟩ := rv.ints.allInts.items
    have hl : ns.length = xs.size := by
      have h1 := rv.length
      have h2 : its.toArray.size = xs.size := by rw [e]; simp [intItems]
      simp at h1 h2
      omega
    have p' := p.isList
    rw [e] at p'
    refine mm_min hkw (iter_intList p' fun s₂ e2 st hfp hlI => ?_)
    subst e2
    refine ⟨_, _, _, _, _, _, _, rfl, Walks.list (A := X.A.in1) hh _ a hlI (intItems xs), st, hfp, (fun z => h0 (by rw [hl]; simpa [intItems] using z)), CmpOf.ints_lt (numAt xs) (fun _ _ => intItems_at), fun v h1 t1 q1 q2 q3 => ?_⟩
    exact fin its rv xs e v h1 t1 (fun z => by simpa [intItems] using q1 (by simpa [intItems] using z)) (fun z => q2 (by simpa [intItems] using z)) (old_kept q3)
  | false =>
    obtain ⟨its, rv, p, _⟩ := I.tuple (show SqT X.K H a (ns.map V.int) from hs)
    obtain ⟨xs, e⟩ := rv.ints.allInts.items
    have hl : ns.length = xs.size := by
      have h1 := rv.length
      have h2 : its.toArray.size = xs.size := by rw [e]; simp [intItems]
      simp at h1 h2
      omega
    have p' : s.heap.IsTuple a (intItems xs) := by rw [← e]; exact p
    have hlt : a < s.heap.objs.size := by obtain ⟨_, z, _⟩ := p'; exact Heap.lt_size z
    refine mm_min hkw (wpAny_pyIter_tuple p' ?_)
    refine ⟨s.heap.objs.size, _, _, _, _, _, _, rfl, Walks.tuple (A := X.A.in1) hh _ a (Nat.ne_of_lt hlt) (intItems xs), ⟨⟨_, Heap.get?_push_size _ rfl, rfl, rfl⟩, p'.push _⟩, fun b hb => ?_, (fun z => h0 (by rw [hl]; simpa [intItems] using z)), CmpOf.ints_lt (numAt xs) (fun _ _ => intItems_at), fun v h1 t1 q1 q2 q3 => ?_⟩
    · show b < (s.heap.push _).objs.size
      rw [Heap.size_push]
      rcases List.mem_cons.mp hb with z | z
      · rw [z]; exact Nat.lt_succ_self _
      · rw [List.mem_singleton.mp z]; exact Nat.lt_succ_of_lt hlt
    · refine fin its rv xs e v h1 t1 (fun z => by simpa [intItems] using q1 (by simpa [intItems] using z)) (fun z => q2 (by simpa [intItems] using z)) fun b o z => q3 b o (fun y => ?_) (Heap.get?_push_of_some _ z)
      rw [List.mem_singleton.mp y] at z
      exact absurd (Heap.lt_size z) (Nat.lt_irrefl _)
theorem cB_min (hc : X.calm = true) : CallR X (.builtin "min") (rB_min X.K) := by
  intro pins s σ H vs us Q I r h
  obtain ⟨a, k, ns, rfl, hs, hne, q⟩ := h
  rw [Vals.ref1 r]
  exact mm_core_min (kw := []) (dv := .none) (d := 0) hc I (.inl rfl) (fun z => absurd z (by omega)) (fun z => absurd z (by omega)) hs fun m _ h2 => (h2 (fun z => by rw [z] at hne; cases hne)).elim (q m)
theorem cD_min (hc : X.calm = true) : CallRK X (.builtin "min") [Str.ofString "default"] (rD_min X.K) := by
  intro pins s σ H vs zs us ws Q I r rz h
  obtain ⟨a, k, ns, d, rfl, rfl, hs, q⟩ := h
  rw [Vals.ref1 r]
  cases rz with
  | cons r1 r2 =>
    cases r2
    obtain ⟨t, rfl⟩ := r1
    exact mm_core_min (dv := .int d t) (d := d) hc I (.inr rfl) (fun _ => rfl) (fun _ => ⟨t, rfl⟩) hs q
end
end L2

set_option Elab.async false
set_option linter.all false
set_option maxRecDepth 100000
set_option maxHeartbeats 4000000
namespace SL
open PySem L2
section

set_option hygiene false
local macro_rules | `(tactic| walk_at "m") => `(tactic| first | exact List.Mem.head _ | (refine List.Mem.tail _ ?_; walk_at "m"))
local macro_rules | `(tactic| walk_at "u") => `(tactic| first | exact Upd.head | (apply Upd.tail; walk_at "u"))
local macro_rules | `(tactic| walk_at "tk") => `(tactic| first | exact Tak.head | (apply Tak.tail; walk_at "tk"))
local macro_rules | `(tactic| walk_at "l") => `(tactic| first | assumption | exact lS (St.fh (by assumption)) (by assumption) | exact SqL.of (St.get (by assumption) (by walk_at "m")))
local macro_rules | `(tactic| walk_at "t") => `(tactic| first | assumption | exact tS (St.fh (by assumption)) (by assumption) | exact SqT.of (St.get (by assumption) (by walk_at "m")))
local macro_rules | `(tactic| walk_at "lt") => `(tactic| first | exact .inl (by walk_at "l") | exact .inr (by walk_at "t"))
local macro_rules | `(tactic| walk_at "sz") => `(tactic| first | (show _ ≤ sizeLine; decide) | exact sz (by simp) | exact szl (by simp) | exact sz (by omega) | exact szl (by omega) | exact sz (by simp; omega) | exact szl (by simp; omega))
local macro_rules | `(tactic| walk_at "c") => `(tactic| first | assumption | decide | omega)
local macro_rules | `(tactic| walk_at "g1") => `(tactic| with_reducible first
  | refine w_seq ?_ | refine w_asg ?_ | refine w_c ?_ | refine w_op ?_
  | refine r_I0 ?_ | refine w_test ?_ | refine r_b ?_ | refine w_if ?_ | refine w_cons ?_ | refine w_nil ?_
  | refine w_ret ?_ | refine w_drop ?_ | refine w_cb ?_ | refine w_call ?_ | refine w_next ?_ | refine w_tup ?_ | refine w_lst ?_ | refine w_bm ?_ | refine w_bm0 ?_
  | refine w_and ?_ | refine w_or ?_ | refine w_not ?_ | refine w_andV ?_ | refine w_orV ?_ | refine w_notV ?_ | refine w_tB ?_ | refine w_un ?_ | refine r_U ?_
  | refine w_for ?_ | refine w_iL ?_ | refine w_iT ?_ | refine w_i1 ?_ | refine w_i2 ?_ | refine w_sl ?_ | refine w_part ?_ | refine w_nopart ?_ | refine r_part ?_
  | refine r_eqI ?_ | refine r_neI ?_ | refine r_eqS ?_ | refine r_neS ?_ | refine r_eqB ?_ | refine r_neB ?_ | refine r_ifT ?_ | refine r_ifF ?_ | refine r_ifNt ?_ | refine r_ifNf ?_ | refine r_ifRN ?_ | refine r_ifNRN ?_ | refine r_ifNN ?_ | refine r_ifNNN ?_
  | refine w_ifE ?_ | refine r_int1 ?_ | refine r_int1b ?_ | refine r_isnone ?_ | refine r_notnone ?_ | refine r_max2 ?_ | refine r_min2 ?_ | refine r_ipI ?_ | refine w_tru ?_ | refine w_rs ?_
  | refine w_retN ?_ | refine w_break ?_ | refine w_cont ?_ | refine w_callS ?_ | refine w_asgG ?_ | refine w_gsub ?_)
local macro_rules | `(tactic| walk_at "g2") => `(tactic| first
  | ((with_reducible refine' w_var ?hv ?_); (case hv => rfl)) | ((with_reducible refine' w_aug ?hv ?_); (case hv => rfl))
  | ((with_reducible show rLen _ _ _ _); refine r_len (by walk_at "lt") ?_)
  | (with_reducible refine r_I ?cnd ?_; (case cnd => first | decide | omega | assumption | (unfold CPow; decide)))
  | ((with_reducible show RTy _ _ _ _ _); refine r_tyL (by walk_at "l") ?_)
  | (with_reducible refine r_ifDT (by walk_at "c") ?_) | (with_reducible refine r_ifDF (by walk_at "c") ?_)
  | (with_reducible refine r_ifNT (by walk_at "c") ?_) | (with_reducible refine r_ifNF (by walk_at "c") ?_))
local macro_rules | `(tactic| walk_at "go") => `(tactic| repeat (first | walk_at "g1" | walk_at "g2"))

variable {n b c : L2.St → Hp → Prop} {r : VK} {σ : L2.St} {H H' : Hp} {Q : VK} {t : TS} {te ta tb : TE} {x y v : V} {K : PySem.W.Frag} {E : En} {F F' : Hp} {L L' L1 L2 : Led} {p a : Addr} {xs ys : List V} {ns ms : List Int} {k : Bool} {QB : Bool → Hp → Prop} {C dx : Addr} {fs : List (Str × V)} {f : Str} {o : HO}
/-! ## min and max -/
theorem r_maxB (hs : SqB K H a (iv ns) k) (hn : 0 < ns.length) (q : ∀ m, m ∈ ns → (∀ y ∈ ns, y ≤ m) → Q (.int m) H) : rB_max K [.ref a] H Q := ⟨a, k, ns, rfl, hs, hn, q⟩
theorem r_minB (hs : SqB K H a (iv ns) k) (hn : 0 < ns.length) (q : ∀ m, m ∈ ns → (∀ y ∈ ns, m ≤ y) → Q (.int m) H) : rB_min K [.ref a] H Q := ⟨a, k, ns, rfl, hs, hn, q⟩
theorem r_maxD {d : Int} (hs : SqB K H a (iv ns) k) (q : ∀ m, (ns = [] → m = d) → (ns ≠ [] → m ∈ ns ∧ ∀ y ∈ ns, y ≤ m) → Q (.int m) H) : rD_max K [.ref a] [.int d] H Q := ⟨a, k, ns, d, rfl, rfl, hs, q⟩
theorem r_minD {d : Int} (hs : SqB K H a (iv ns) k) (q : ∀ m, (ns = [] → m = d) → (ns ≠ [] → m ∈ ns ∧ ∀ y ∈ ns, m ≤ y) → Q (.int m) H) : rD_min K [.ref a] [.int d] H Q := ⟨a, k, ns, d, rfl, rfl, hs, q⟩
theorem w_ckw {R : List V → List V → Hp → VK → Prop} {tr tk : TA} (h : tr σ H fun vs H1 => tk σ H1 fun zs H2 => R vs zs H2 Q) : tCKw R tr tk σ H Q := h
/-! ## isinstance -/
theorem r_isi {a b : String} {r : Bool} (ty : TyX K H x (.type a)) (h : kitB a b = some r) (q : Q (.bl r) H) : rIsi K [x, .ty b] H Q := ⟨x, .ty b, .type a, .type b, r, rfl, .ty b, ty, kit_ty h, q⟩
theorem tyB (h : SqB K H a xs k) : TyX K H (.ref a) (.type (if k then "list" else "tuple")) := by
  cases k with
  | true =>
    rcases (show SqL K H a xs from h) with (h | ⟨o, h⟩) | ⟨o, its, n, e, c, _⟩
    · exact .base (.lst h)
    · exact .base (.frz h)
    · exact .kList e c
  | false =>
    rcases (show SqT K H a xs from h) with (h | ⟨o, h⟩) | ⟨o, its, n, e, c, _⟩
    · exact .base (.tup h)
    · exact .fTuple h
    · exact .kTuple e c
theorem r_isiT (h : SqT K H a xs) (q : Q (.bl true) H) : rIsi K [.ref a, .ty "tuple"] H Q := r_isi (tyB (k := false) h) (by decide +kernel) q
theorem r_isiL (h : SqL K H a xs) (q : Q (.bl true) H) : rIsi K [.ref a, .ty "list"] H Q := r_isi (tyB (k := true) h) (by decide +kernel) q
theorem r_isiI {i : Int} (q : Q (.bl true) H) : rIsi K [.int i, .ty "int"] H Q := r_isi (.base (.int i)) (by decide +kernel) q
theorem r_isiIb {i : Int} (q : Q (.bl false) H) : rIsi K [.int i, .ty "bool"] H Q := r_isi (.base (.int i)) (by decide +kernel) q
theorem r_isiB {i : Bool} (q : Q (.bl true) H) : rIsi K [.bl i, .ty "bool"] H Q := r_isi (.base (.bl i)) (by decide +kernel) q
theorem r_isin_ref (q : Q (.bl false) H) : rIsNone (.ref a) .non H Q := r_isnone (by rw [decide_eq_false (fun z => nomatch z)]; exact q)
theorem r_isin_non (q : Q (.bl true) H) : rIsNone .non .non H Q := r_isnone (by rw [decide_eq_true rfl]; exact q)
theorem r_notn_ref (q : Q (.bl true) H) : rNotNone (.ref a) .non H Q := r_notnone (by rw [decide_eq_false (fun z => nomatch z)]; exact q)
theorem r_notn_non (q : Q (.bl false) H) : rNotNone .non .non H Q := r_notnone (by rw [decide_eq_true rfl]; exact q)
/-! ## fields, instances -/
def RFld (K : PySem.W.Frag) (f : Str) (x : V) (H : Hp) (Q : VK) : Prop := ∃ a C dx fs v, x = .ref a ∧ H a = some (.ins C dx fs) ∧ Cls K C ∧ NoAttr K C f ∧ fs.lookup f = some v ∧ Q v H
theorem w_fld (h : te σ H fun x H1 => RFld K f x H1 Q) : tFld K te f σ H Q := h
theorem r_fld (h : H a = some (.ins C dx fs)) (c : Cls K C) (nf : NoAttr K C f) (e : fs.lookup f = some v) (q : Q v H) : RFld K f (.ref a) H Q := ⟨a, C, dx, fs, v, rfl, h, c, nf, e, q⟩
def RSFld (K : PySem.W.Frag) (f : Str) (x y : V) (H : Hp) (P : Hp → Prop) : Prop := ∃ a C dx fs, x = .ref a ∧ H a = some (.ins C dx fs) ∧ Cls K C ∧ NoAttr K C f ∧ fs.length < 1000 ∧ P (upd H a (.ins C dx (putF f y fs)))
theorem w_sfld (h : tb σ H fun y H1 => ta σ H1 fun x H2 => RSFld K f x y H2 (n σ)) : sFld K ta tb f ⟨n, r, b, c⟩ σ H := h
theorem r_sfld {P : Hp → Prop} {fs' : List (Str × V)} (G : St E F H L) (cl : Cls K C) (nf : NoAttr K C f) (u : Upd L a (.ins C dx fs) (.ins C dx fs') L') (e : putF f y fs = fs') (hl : fs.length < 1000) (q : ∀ H', St E F H' L' → P H') : RSFld K f (.ref a) y H P :=
  ⟨a, C, dx, fs, rfl, G.get u.mem, cl, nf, hl, by rw [e]; exact q _ (G.put u)⟩
def RMk (C : Addr) (sp : Sp) (vs : List V) (H : Hp) (Q : VK) (X : XK) : Prop := ∀ x dx, H x = none → H dx = none → dx ≠ x → sp (.ref x :: vs) (upd (upd H dx (.own x)) x (.ins C dx [])) (fun v H2 => v = .non ∧ Q (.ref x) H2) X
theorem w_mk {sp : Sp} {X : XK} {tr : TA} (h : tr σ H fun vs H1 => RMk C sp vs H1 Q X) : tMake C sp [] X tr σ H Q := by
  have e : ∀ vs H1, RMk C sp vs H1 Q X → RMk C sp (vs ++ []) H1 Q X := fun vs H1 h => by rw [List.append_nil]; exact h
  show tr σ H fun vs H1 => RMk C sp (vs ++ []) H1 Q X
  simpa only [List.append_nil] using h
theorem r_mk {sp : Sp} {X : XK} {vs : List V} (G : St E F H L) (q : ∀ x dx H', St E F H' ((x, .ins C dx []) :: (dx, .own x) :: L) → sp (.ref x :: vs) H' (fun v H2 => v = .non ∧ Q (.ref x) H2) X) : RMk C sp vs H Q X := by
  intro x dx hx hd ne
  have G1 := G.new (o := .own x) hd
  exact q x dx _ (G1.new (by rw [upd_ne (Ne.symm ne)]; exact hx))
/-! ## more of the ledger -/
theorem St.perm (G : St E F H L) (pm : L'.Perm L) : St E F H L' := ⟨G.bh, G.fh, G.ff, G.pr, fun x hx => G.own x (pm.mem_iff.mp hx), (pm.map _).nodup_iff.mpr G.nd⟩
theorem St.frzs : ∀ {L1 : Led} {F : Hp}, St E F H (L1 ++ L2) → ∃ F', Same F F' ∧ (∀ x ∈ L1, F' x.1 = some x.2) ∧ St E F' H L2
  | [], F, G => ⟨F, Same.refl _, (fun _ h => nomatch h), G⟩
  | (a, o) :: r, F, G => by
    obtain ⟨F1, s1, h1, G1⟩ := G.frz (L' := r ++ L2) Tak.head
    obtain ⟨F2, s2, h2, G2⟩ := St.frzs G1
    refine ⟨F2, s1.trans s2, fun x hx => ?_, G2⟩
    rcases List.mem_cons.mp hx with q | q
    · subst q; exact s2 _ _ h1
    · exact h2 x q
theorem Tak.perm (t : Tak L a o L') : ((a, o) :: L').Perm L := by
  induction t with
  | head => exact List.Perm.refl _
  | tail _ ih => exact (List.Perm.swap _ _ _).trans (List.Perm.cons _ ih)
theorem St.front (G : St E F H L) (t : Tak L a o L') : St E F H ((a, o) :: L') := G.perm t.perm
theorem St.toEnd {x : Addr × HO} (G : St E F H (x :: L)) : St E F H (L ++ [x]) := G.perm (List.perm_append_comm (l₂ := [x]))
theorem St.same (G : St E F H L) : Same E.H H := G.bh
/-! ## data -/
abbrev dI (ns : List Int) : List PyData := ns.map PyData.int
theorem dpa_iv : ∀ {ns : List Int}, DpAll K H (iv ns) (dI ns)
  | [] => .nil
  | _ :: _ => .cons (.int _) dpa_iv
theorem dp_ints (h : SqL K H a (iv ns)) : Dp K H (.ref a) (.list (dI ns)) := .lst h dpa_iv
theorem dpT_ints (h : SqT K H a (iv ns)) : Dp K H (.ref a) (.tuple (dI ns)) := .tup h dpa_iv
theorem dpa_map {α : Type} {g : α → V} {d : α → PyData} : ∀ {xs : List α}, (∀ x ∈ xs, Dp K H (g x) (d x)) → DpAll K H (xs.map g) (xs.map d)
  | [], _ => .nil
  | x :: xs, h => .cons (h x List.mem_cons_self) (dpa_map fun y hy => h y (List.mem_cons_of_mem _ hy))
theorem eqvAll_map {α : Type} [DecidableEq α] {d : α → PyData} (h : ∀ x y, PyData.eqv (d x) (d y) = decide (x = y)) : ∀ (xs ys : List α), PyData.eqvAll (xs.map d) (ys.map d) = decide (xs = ys)
  | [], [] => rfl
  | [], _ :: _ => by simp [PyData.eqvAll]
  | _ :: _, [] => by simp [PyData.eqvAll]
  | x :: xs, y :: ys => by
    rw [List.map_cons, List.map_cons, PyData.eqvAll, h, eqvAll_map h xs ys]
    by_cases e : x = y <;> by_cases e2 : xs = ys <;> simp [e, e2]
theorem eqv_int (i j : Int) : PyData.eqv (.int i) (.int j) = decide (i = j) := by simp [PyData.eqv, Bool.beq_eq_decide_eq]
theorem eqvAll_ints (xs ys : List Int) : PyData.eqvAll (dI xs) (dI ys) = decide (xs = ys) := eqvAll_map eqv_int xs ys
theorem eqv_list (xs ys : List PyData) : PyData.eqv (.list xs) (.list ys) = PyData.eqvAll xs ys := by rw [PyData.eqv]
theorem eqv_tuple (xs ys : List PyData) : PyData.eqv (.tuple xs) (.tuple ys) = PyData.eqvAll xs ys := by rw [PyData.eqv]
theorem eqvAll_nil : PyData.eqvAll [] [] = true := rfl
theorem eqvAll_cons (x y : PyData) (xs ys : List PyData) : PyData.eqvAll (x :: xs) (y :: ys) = (PyData.eqv x y && PyData.eqvAll xs ys) := by rw [PyData.eqvAll]
/-- laid and not deep -/
structure Shp (m : Nat) (d : PyData) : Prop where
  lay : d.canLay0 = true
  dep : d.depth ≤ m
theorem Shp.ok {m : Nat} {d : PyData} (h : Shp m d) (hm : m ≤ 64) : SeqAt.shaped d = true := by
  unfold SeqAt.shaped
  rw [h.lay, decide_eq_true (Nat.le_trans h.dep hm)]; rfl
theorem Shp.mono {m m' : Nat} {d : PyData} (h : Shp m d) (hm : m ≤ m') : Shp m' d := ⟨h.lay, Nat.le_trans h.dep hm⟩
theorem eqv_self {m : Nat} {d : PyData} (h : Shp m d) : PyData.eqv d d = true := PySem.SeqAt.eqv_refl d h.lay
theorem shp_int {i : Int} : Shp 0 (.int i) := ⟨rfl, Nat.le_refl _⟩
theorem shp_bool {i : Bool} : Shp 0 (.bool i) := ⟨rfl, Nat.le_refl _⟩
theorem shp_none : Shp 0 .none := ⟨rfl, Nat.le_refl _⟩
structure ShpA (m : Nat) (ds : List PyData) : Prop where
  lay : PyData.canLayAll0 ds = true
  dep : PyData.depthAll ds ≤ m
theorem shpa_nil {m : Nat} : ShpA m [] := ⟨rfl, Nat.zero_le _⟩
theorem shpa_cons {m : Nat} {d : PyData} {ds : List PyData} (h : Shp m d) (h2 : ShpA m ds) : ShpA m (d :: ds) := by
  refine ⟨?_, ?_⟩
  · rw [PyData.canLayAll0, h.lay, h2.lay]; rfl
  · rw [PyData.depthAll]; exact Nat.max_le.mpr ⟨h.dep, h2.dep⟩
theorem shpa_map {α : Type} {m : Nat} {d : α → PyData} : ∀ {xs : List α}, (∀ x ∈ xs, Shp m (d x)) → ShpA m (xs.map d)
  | [], _ => shpa_nil
  | x :: xs, h => shpa_cons (h x List.mem_cons_self) (shpa_map fun y hy => h y (List.mem_cons_of_mem _ hy))
theorem shp_list {m : Nat} {ds : List PyData} (h : ShpA m ds) : Shp (m + 1) (.list ds) := ⟨by rw [PyData.canLay0]; exact h.lay, by rw [PyData.depth]; exact Nat.succ_le_succ h.dep⟩
theorem shp_tuple {m : Nat} {ds : List PyData} (h : ShpA m ds) : Shp (m + 1) (.tuple ds) := ⟨by rw [PyData.canLay0]; exact h.lay, by rw [PyData.depth]; exact Nat.succ_le_succ h.dep⟩
theorem shpa_ints {m : Nat} : ShpA m (dI ns) := shpa_map fun _ _ => shp_int.mono (Nat.zero_le _)
theorem r_eqD {d e : PyData} {m m' : Nat} {k : Bool} (h1 : Dp K H x d) (h2 : Dp K H y e) (s1 : Shp m d) (s2 : Shp m' e) (hk : PyData.eqv d e = k) (q : Q (.bl k) H) (hm : m ≤ 64 := by decide) (hm' : m' ≤ 64 := by decide) : rEqD K x y H Q :=
  ⟨d, e, h1, h2, s1.ok hm, s2.ok hm', by rw [hk]; exact q⟩
theorem r_neD {d e : PyData} {m m' : Nat} {k : Bool} (h1 : Dp K H x d) (h2 : Dp K H y e) (s1 : Shp m d) (s2 : Shp m' e) (hk : PyData.eqv d e = k) (q : Q (.bl (!k)) H) (hm : m ≤ 64 := by decide) (hm' : m' ≤ 64 := by decide) : rNeD K x y H Q :=
  ⟨d, e, h1, h2, s1.ok hm, s2.ok hm', by rw [hk]; exact q⟩
theorem sIx_nat {n d k : Nat} : HT.sIx n d (some (k : Int)) = min k n := by
  unfold HT.sIx
  simp
  omega
theorem cut_from {k : Nat} : cutV xs (some (k : Int)) none = xs.drop k := by
  unfold cutV
  rw [sIx_nat, show HT.sIx xs.length xs.length none = xs.length from rfl]
  by_cases h : k ≤ xs.length
  · rw [Nat.min_eq_left h, List.take_of_length_le (by simp)]
  · rw [Nat.min_eq_right (by omega), List.drop_of_length_le (by omega), List.drop_of_length_le (by omega)]; simp
theorem cut_to {k : Nat} : cutV xs none (some (k : Int)) = xs.take k := by
  unfold cutV
  rw [sIx_nat, show HT.sIx xs.length 0 none = 0 from rfl, List.drop_zero, Nat.sub_zero]
  by_cases h : k ≤ xs.length
  · rw [Nat.min_eq_left h]
  · rw [Nat.min_eq_right (by omega), List.take_of_length_le (by omega), List.take_of_length_le (by omega)]
/-! ## rows: lists of lists of ints -/
inductive Rows (K : PySem.W.Frag) (H : Hp) (k : Bool) : List Addr → List (List Int) → Prop
  | nil : Rows K H k [] []
  | cons {a as ns rs} : SqB K H a (iv ns) k → Rows K H k as rs → Rows K H k (a :: as) (ns :: rs)
theorem Rows.len {as : List Addr} {rs : List (List Int)} (h : Rows K H k as rs) : as.length = rs.length := by
  induction h with
  | nil => rfl
  | cons _ _ ih => rw [List.length_cons, List.length_cons, ih]
theorem Rows.mono {as : List Addr} {rs : List (List Int)} (e : Same H H') (h : Rows K H k as rs) : Rows K H' k as rs := by
  induction h with
  | nil => exact .nil
  | cons h1 _ ih => exact .cons (qS e h1) ih
theorem Rows.at {as : List Addr} {rs : List (List Int)} (h : Rows K H k as rs) : ∀ {i : Nat} {a : Addr}, as[i]? = some a → ∃ ns, rs[i]? = some ns ∧ SqB K H a (iv ns) k := by
  induction h with
  | nil => intro i a e; simp at e
  | cons h1 _ ih =>
    intro i a e
    cases i with
    | zero => rw [List.getElem?_cons_zero] at e; cases e; exact ⟨_, rfl, h1⟩
    | succ i => exact ih (by simpa using e)
theorem Rows.snoc {as : List Addr} {rs : List (List Int)} (h : Rows K H k as rs) (h2 : SqB K H a (iv ns) k) : Rows K H k (as ++ [a]) (rs ++ [ns]) := by
  induction h with
  | nil => exact .cons h2 .nil
  | cons h1 _ ih => exact .cons h1 ih
theorem Rows.set {as : List Addr} {rs : List (List Int)} (h : Rows K H k as rs) (h2 : SqB K H a (iv ns) k) : ∀ {j : Nat}, Rows K H k (as.set j a) (rs.set j ns) := by
  induction h with
  | nil => intro j; exact .nil
  | cons h1 hr ih =>
    intro j
    cases j with
    | zero => exact .cons h2 hr
    | succ j => exact .cons h1 ih
abbrev dRow : Bool → List Int → PyData
  | true, ns => .list (dI ns)
  | false, ns => .tuple (dI ns)
theorem Rows.dp {as : List Addr} {rs : List (List Int)} (h : Rows K H k as rs) : DpAll K H (as.map V.ref) (rs.map (dRow k)) := by
  induction h with
  | nil => exact .nil
  | cons h1 _ ih =>
    refine .cons ?_ ih
    cases k with
    | true => exact dp_ints h1
    | false => exact dpT_ints h1
theorem eqv_row {k : Bool} (xs ys : List Int) : PyData.eqv (dRow k xs) (dRow k ys) = decide (xs = ys) := by
  cases k with
  | true => rw [dRow, dRow, eqv_list, eqvAll_ints]
  | false => rw [dRow, dRow, eqv_tuple, eqvAll_ints]
theorem shp_row {k : Bool} : Shp 1 (dRow k ns) := by
  cases k with
  | true => exact shp_list shpa_ints
  | false => exact shp_tuple shpa_ints
abbrev rv (as : List Addr) : List V := as.map V.ref
theorem rv_len {as : List Addr} : (rv as).length = as.length := List.length_map ..
theorem rv_get {as : List Addr} {i : Nat} {x : V} (h : (rv as)[i]? = some x) : ∃ z, as[i]? = some z ∧ x = .ref z := by
  rw [List.getElem?_map] at h
  cases e : as[i]? with
  | none => rw [e] at h; cases h
  | some z => rw [e] at h; exact ⟨z, rfl, (Option.some.inj h).symm⟩
end
end SL

set_option Elab.async false
set_option linter.all false
set_option maxRecDepth 100000
set_option maxHeartbeats 4000000
namespace SL
open PySem L2
section

set_option hygiene false
local macro_rules | `(tactic| walk_at "m") => `(tactic| first | exact List.Mem.head _ | (refine List.Mem.tail _ ?_; walk_at "m"))
local macro_rules | `(tactic| walk_at "u") => `(tactic| first | exact Upd.head | (apply Upd.tail; walk_at "u"))
local macro_rules | `(tactic| walk_at "tk") => `(tactic| first | exact Tak.head | (apply Tak.tail; walk_at "tk"))
local macro_rules | `(tactic| walk_at "l") => `(tactic| first | assumption | exact lS (St.fh (by assumption)) (by assumption) | exact SqL.of (St.get (by assumption) (by walk_at "m")))
local macro_rules | `(tactic| walk_at "t") => `(tactic| first | assumption | exact tS (St.fh (by assumption)) (by assumption) | exact SqT.of (St.get (by assumption) (by walk_at "m")))
local macro_rules | `(tactic| walk_at "lt") => `(tactic| first | exact .inl (by walk_at "l") | exact .inr (by walk_at "t"))
local macro_rules | `(tactic| walk_at "sz") => `(tactic| first | (show _ ≤ sizeLine; decide) | exact sz (by simp) | exact szl (by simp) | exact sz (by omega) | exact szl (by omega) | exact sz (by simp; omega) | exact szl (by simp; omega))
local macro_rules | `(tactic| walk_at "c") => `(tactic| first | assumption | decide | omega)
local macro_rules | `(tactic| walk_at "g1") => `(tactic| with_reducible first
  | refine w_seq ?_ | refine w_asg ?_ | refine w_c ?_ | refine w_op ?_
  | refine r_I0 ?_ | refine w_test ?_ | refine r_b ?_ | refine w_if ?_ | refine w_cons ?_ | refine w_nil ?_
  | refine w_ret ?_ | refine w_drop ?_ | refine w_cb ?_ | refine w_call ?_ | refine w_next ?_ | refine w_tup ?_ | refine w_lst ?_ | refine w_bm ?_ | refine w_bm0 ?_
  | refine w_and ?_ | refine w_or ?_ | refine w_not ?_ | refine w_andV ?_ | refine w_orV ?_ | refine w_notV ?_ | refine w_tB ?_ | refine w_un ?_ | refine r_U ?_
  | refine w_for ?_ | refine w_iL ?_ | refine w_iT ?_ | refine w_i1 ?_ | refine w_i2 ?_ | refine w_sl ?_ | refine w_part ?_ | refine w_nopart ?_ | refine r_part ?_
  | refine r_eqI ?_ | refine r_neI ?_ | refine r_eqS ?_ | refine r_neS ?_ | refine r_eqB ?_ | refine r_neB ?_ | refine r_ifT ?_ | refine r_ifF ?_ | refine r_ifNt ?_ | refine r_ifNf ?_ | refine r_ifRN ?_ | refine r_ifNRN ?_ | refine r_ifNN ?_ | refine r_ifNNN ?_
  | refine w_ifE ?_ | refine r_int1 ?_ | refine r_int1b ?_ | refine r_isnone ?_ | refine r_notnone ?_ | refine r_max2 ?_ | refine r_min2 ?_ | refine r_ipI ?_ | refine w_tru ?_ | refine w_rs ?_
  | refine w_retN ?_ | refine w_break ?_ | refine w_cont ?_ | refine w_callS ?_ | refine w_asgG ?_ | refine w_gsub ?_)
local macro_rules | `(tactic| walk_at "g2") => `(tactic| first
  | ((with_reducible refine' w_var ?hv ?_); (case hv => rfl)) | ((with_reducible refine' w_aug ?hv ?_); (case hv => rfl))
  | ((with_reducible show rLen _ _ _ _); refine r_len (by walk_at "lt") ?_)
  | (with_reducible refine r_I ?cnd ?_; (case cnd => first | decide | omega | assumption | (unfold CPow; decide)))
  | ((with_reducible show RTy _ _ _ _ _); refine r_tyL (by walk_at "l") ?_)
  | (with_reducible refine r_ifDT (by walk_at "c") ?_) | (with_reducible refine r_ifDF (by walk_at "c") ?_)
  | (with_reducible refine r_ifNT (by walk_at "c") ?_) | (with_reducible refine r_ifNF (by walk_at "c") ?_))
local macro_rules | `(tactic| walk_at "go") => `(tactic| repeat (first | walk_at "g1" | walk_at "g2"))

variable {n b c : L2.St → Hp → Prop} {r : VK} {σ : L2.St} {H H' : Hp} {Q : VK} {t : TS} {te ta tb : TE} {x y v : V} {K : PySem.W.Frag} {E : En} {F F' : Hp} {L L' L1 L2 : Led} {p a : Addr} {xs ys : List V} {ns ms : List Int} {k : Bool} {o o' : HO}
/-! ## the law's promise, calls that hand back what they made -/
def spL (K : PySem.W.Frag) : Sp := fun vs H Q E => ∃ (a : Addr) (ns : List Int), vs = [.ref a] ∧ (SqL K H a (iv ns) ∧ ns.length ≤ 63 ∧ ∀ H', Q (.bl true) H')
structure Own (H H' : Hp) (L : Led) : Prop where
  hh : Same H H'
  own : ∀ x ∈ L, H' x.1 = some x.2 ∧ H x.1 = none
  nd : (L.map (·.1)).Nodup
structure OwnB (p : Addr) (H H' : Hp) (o' : HO) (L : Led) : Prop where
  hh : SameB p H H'
  hp : H' p = some o'
  own : ∀ x ∈ L, H' x.1 = some x.2 ∧ H x.1 = none
  nd : (L.map (·.1)).Nodup
theorem nd_app {L1 L2 : Led} (h1 : (L1.map (·.1)).Nodup) (h2 : (L2.map (·.1)).Nodup) (h : ∀ x ∈ L1, ∀ y ∈ L2, x.1 ≠ y.1) : ((L1 ++ L2).map (·.1)).Nodup := by
  rw [List.map_append, List.nodup_append]
  refine ⟨h1, h2, fun a ha b hb => ?_⟩
  obtain ⟨x, hx, rfl⟩ := List.mem_map.mp ha
  obtain ⟨y, hy, rfl⟩ := List.mem_map.mp hb
  exact h x hx y hy
theorem St.addL (G : St E F H L) (w : Own H H' L1) : St E F H' (L1 ++ L) := by
  have G1 := G.grow w.hh
  refine ⟨G1.bh, G1.fh, G1.ff, G1.pr, fun x hx => ?_, nd_app w.nd G.nd fun x hx y hy e => ?_⟩
  · rcases List.mem_append.mp hx with q | q
    · obtain ⟨h1, h2⟩ := w.own x q
      exact ⟨h1, free_of G.fh h2, free_of G.bh h2⟩
    · exact G1.own x q
  · have h1 := (w.own x hx).2
    rw [e, (G.own y hy).1] at h1
    cases h1
theorem St.addLB (G : St E F H L) (u : Upd L p o o' L') (w : OwnB p H H' o' L1) : St E F H' (L1 ++ L') := by
  have G1 := G.putB u w.hh w.hp
  refine ⟨G1.bh, G1.fh, G1.ff, G1.pr, fun x hx => ?_, nd_app w.nd G1.nd fun x hx y hy e => ?_⟩
  · rcases List.mem_append.mp hx with q | q
    · obtain ⟨h1, h2⟩ := w.own x q
      exact ⟨h1, free_of G.fh h2, free_of G.bh h2⟩
    · exact G1.own x q
  · have h1 := (w.own x hx).2
    have : y.1 ∈ L.map (·.1) := by rw [← u.fst]; exact List.mem_map.mpr ⟨y, hy, rfl⟩
    obtain ⟨z, hz, q⟩ := List.mem_map.mp this
    have q' : z.1 = y.1 := q
    rw [e, ← q', (G.own z hz).1] at h1
    cases h1
theorem St.toOwn (G : St ⟨F, H⟩ F' H' L) : Own H H' L := ⟨G.bh, fun x hx => ⟨(G.own x hx).1, (G.own x hx).2.2⟩, G.nd⟩
theorem St.toOwnB (G : St ⟨F, del H p⟩ F' H' ((p, o') :: L)) : OwnB p H H' o' L := by
  have hn := G.nd
  rw [List.map_cons, List.nodup_cons] at hn
  refine ⟨fun b u h e => G.bh b u (by rw [show (En.mk F (del H p)).H = del H p from rfl, del_ne h]; exact e), G.get List.mem_cons_self, fun x hx => ?_, hn.2⟩
  obtain ⟨h1, _, h3⟩ := G.own x (List.mem_cons_of_mem _ hx)
  have ne : x.1 ≠ p := fun e => hn.1 (List.mem_map.mpr ⟨x, hx, e⟩)
  exact ⟨h1, by rw [show (En.mk F (del H p)).H = del H p from rfl, del_ne ne] at h3; exact h3⟩
theorem St.same1 (G : St ⟨F, del H p⟩ F' H' L) (m : (p, o) ∈ L) (h : H p = some o) : Same H H' := fun b u e => by
  by_cases c : b = p
  · subst c; rw [h] at e; cases e; exact G.get m
  · exact G.bh b u (by rw [show (En.mk F (del H p)).H = del H p from rfl, del_ne c]; exact e)
/-- an instance is no list and no tuple -/
theorem sq_del {C dx : Addr} {fs : List (Str × V)} (h : H p = some (.ins C dx fs)) (s : SqB K H a xs k) : SqB K (del H p) a xs k := by
  cases k with
  | true =>
    rcases s with (s | ⟨z, s⟩) | s
    · exact .inl (.inl (by rw [del_ne (ne_of s h (fun z => nomatch z))]; exact s))
    · exact .inl (.inr ⟨z, by rw [del_ne (ne_of s h (fun z => nomatch z))]; exact s⟩)
    · exact .inr s
  | false =>
    rcases s with (s | ⟨z, s⟩) | s
    · exact .inl (.inl (by rw [del_ne (ne_of s h (fun z => nomatch z))]; exact s))
    · exact .inl (.inr ⟨z, by rw [del_ne (ne_of s h (fun z => nomatch z))]; exact s⟩)
    · exact .inr s
theorem Rows.del {C dx : Addr} {fs : List (Str × V)} {as : List Addr} {rs : List (List Int)} (h : H p = some (.ins C dx fs)) (s : Rows K H k as rs) : Rows K (del H p) k as rs := by
  induction s with
  | nil => exact .nil
  | cons h1 _ ih => exact .cons (sq_del h h1) ih
/-! ## rows that are owned -/
def rowL : List Addr → List (List Int) → Led
  | a :: as, r :: rs => (a, .lst (iv r)) :: rowL as rs
  | _, _ => []
theorem rowL_rows {as : List Addr} {rs : List (List Int)} (hl : as.length = rs.length) (h : ∀ x ∈ rowL as rs, H x.1 = some x.2) : Rows K H true as rs := by
  induction as generalizing rs with
  | nil => cases rs with
    | nil => exact .nil
    | cons _ _ => cases hl
  | cons a as ih => cases rs with
    | nil => cases hl
    | cons r rs => exact .cons (show SqL K H a (iv r) from SqL.of (h _ List.mem_cons_self)) (ih (by simpa using hl) fun x hx => h x (List.mem_cons_of_mem _ hx))
theorem rowL_upd : ∀ {as : List Addr} {rs : List (List Int)} {j : Nat} {a : Addr} {r r' : List Int}, as[j]? = some a → rs[j]? = some r → Upd (rowL as rs) a (.lst (iv r)) (.lst (iv r')) (rowL as (rs.set j r'))
  | [], _, _, _, _, _, h, _ => by simp at h
  | _ :: _, [], _, _, _, _, _, h => by simp at h
  | a :: as, r :: rs, 0, a', r0, r', h1, h2 => by
    simp at h1 h2
    subst h1 h2
    exact .head
  | a :: as, r :: rs, j + 1, a', r0, r', h1, h2 => .tail (rowL_upd (by simpa using h1) (by simpa using h2))
theorem rowL_snoc : ∀ {as : List Addr} {rs : List (List Int)} {a : Addr} {r : List Int}, as.length = rs.length → rowL (as ++ [a]) (rs ++ [r]) = rowL as rs ++ [(a, .lst (iv r))]
  | [], [], _, _, _ => rfl
  | [], _ :: _, _, _, h => by cases h
  | _ :: _, [], _, _, h => by cases h
  | x :: as, y :: rs, a, r, h => by
    show (x, HO.lst (iv y)) :: rowL (as ++ [a]) (rs ++ [r]) = (x, HO.lst (iv y)) :: (rowL as rs ++ [(a, .lst (iv r))])
    rw [rowL_snoc (by simpa using h)]
theorem Upd.app {L0 : Led} (u : Upd L a o o' L') : Upd (L0 ++ L) a o o' (L0 ++ L') := by
  induction L0 with
  | nil => exact u
  | cons x r ih => exact .tail ih
theorem Upd.appL {L0 : Led} (u : Upd L a o o' L') : Upd (L ++ L0) a o o' (L' ++ L0) := by
  induction u with
  | head => exact .head
  | tail _ ih => exact .tail ih
/-! ## integers in a tuple -/
def cp_is_integer (K : PySem.W.Frag) : Sp := fun vs H Q E => ∃ (i : Int), vs = [.int i] ∧ (Q (.bl true) H)
theorem u_isint {K : PySem.W.Frag} {i : Int} {H : Hp} {Q : VK} {X : XK} (q : Q (.bl true) H) : cp_is_integer K [.int i] H Q X := ⟨i, rfl, q⟩
def ct_is_integer (K : PySem.W.Frag) : TS := (tRet (tAndV (tCB (rIsi K) (tCons (tVar 0) (tCons (tC (.ty "int")) tNil))) (tNotV (tCB (rIsi K) (tCons (tVar 0) (tCons (tC (.ty "bool")) tNil))))))
theorem cv_is_integer {K : PySem.W.Frag} {vs : List V} {H : Hp} {Q : VK} {E : XK} (h : cp_is_integer K vs H Q E) : ct_is_integer K (D0 Q) (start ["actual"] vs) H := by
  obtain ⟨i, rfl, q⟩ := h
  unfold ct_is_integer
  show tRet _ (D0 Q) [some (.int i)] H
  unfold D0
  walk_at "go"
  refine r_isiI ?_
  walk_at "go"
  refine r_isiIb ?_
  walk_at "go"
  exact q
def cp_integers (K : PySem.W.Frag) : Sp := fun vs H Q E => ∃ (a : Addr) (ns : List Int) (lo hi : Int), vs = [.ref a, .int lo, .int hi] ∧ (SqT K H a (iv ns) ∧ ((∀ z ∈ ns, lo ≤ z ∧ z < hi) → Q (.bl true) H) ∧ (¬ (∀ z ∈ ns, lo ≤ z ∧ z < hi) → Q (.bl false) H))
def ct_integers (K : PySem.W.Frag) : TS := (tSeq (tIfS (tNot (tB (tCB (rIsi K) (tCons (tVar 0) (tCons (tC (.ty "tuple")) tNil))))) (tRet (tC (.bl false))) tNext)
 (tSeq (tFor (iTup K (tVar 0)) (gName 3) (tIfS (tOr (tNot (tB (tCall (cp_is_integer K) [] E0 (tCons (tVar 3) tNil)))) (tOr (tTest (tOp rLtI (tVar 3) (tVar 1))) (tTest (tOp rGeI (tVar 3) (tVar 2))))) (tRet (tC (.bl false))) tNext))
 (tRet (tC (.bl true)))))
theorem cv_integers {K : PySem.W.Frag} {vs : List V} {H : Hp} {Q : VK} {E : XK} (h : cp_integers K vs H Q E) : ct_integers K (D0 Q) (start ["actual", "low", "high", "item"] vs) H := by
  obtain ⟨a, ns, lo, hi, rfl, ha, q1, q2⟩ := h
  unfold ct_integers
  show tSeq _ _ (D0 Q) [some (.ref a), some (.int lo), some (.int hi), none] H
  unfold D0
  walk_at "go"
  refine r_isiT ha ?_
  walk_at "go"
  refine r_it ha ?_
  refine r_forT (xs := iv ns) (fun i σ H' => H' = H ∧ (∃ v, σ = [some (.ref a), some (.int lo), some (.int hi), v]) ∧ ∀ z ∈ ns.take i, lo ≤ z ∧ z < hi) ⟨rfl, ⟨_, rfl⟩, (fun _ h => by simp at h)⟩ (fun _ _ _ _ h => h.1 ▸ ha) ?_ ?_
  · rintro i x σ H' hi' ⟨rfl, ⟨v, rfl⟩, hz⟩
    obtain ⟨z, hz1, rfl⟩ := iv_get hi'
    walk_at "go"
    refine u_isint ?_
    walk_at "go"
    have hm : z ∈ ns := List.mem_of_getElem? hz1
    refine r_ifD (fun h => ?_) (fun h => ?_)
    · walk_at "go"
      exact q2 fun w => absurd (w z hm).1 (by omega)
    · walk_at "go"
      refine r_ifD (fun h2 => ?_) (fun h2 => ?_)
      · walk_at "go"
        exact q2 fun w => absurd (w z hm).2 (by omega)
      · walk_at "go"
        refine ⟨rfl, ⟨_, rfl⟩, fun y hy => ?_⟩
        rw [take_snoc hz1] at hy
        rcases List.mem_append.mp hy with q | q
        · exact hz y q
        · rw [List.mem_singleton.mp q]; omega
  · rintro σ H' ⟨rfl, ⟨v, rfl⟩, hz⟩
    walk_at "go"
    refine q1 fun z hz' => hz z ?_
    rw [iv_len, List.take_length]; exact hz'
end
end SL

set_option Elab.async false
set_option linter.all false
set_option maxRecDepth 100000
set_option maxHeartbeats 4000000
namespace L2
open PySem PySem.Spec PyProof.Rows
/-! ## an error that has a name -/
def wAllN (n : Nat) (W : WX) : XK := fun cls d H => ∀ σ : St, σ.length = n → W cls d σ H
theorem passes_allN {X : Cx} {W : WX} {n : Nat} (tk : Takes X W) (hn : X.N.length = n) : Passes (L2.CX X.prog X.w) X (wAllN n W) :=
  fun _ σ _ _ e s' I c => tk e s' (XE.of_call I (fun cls d H' h => h σ (I.len.trans hn)) c)
def rIsE' (K : PySem.W.Frag) (a : Addr) (cls : Value) (d : Option Addr) : List V → Hp → VK → Prop := fun xs H Q => ∃ D, cls = .ref D ∧ d = none ∧ ExcC K D ∧ rIsE K D a xs H Q
theorem call_isE' {X : Cx} {a : Addr} {cls : Value} {d : Option Addr} {oe : Obj} {pn : List (Addr × Obj)} (hz : Zc cls d oe) (hf : ∃ vs, oe.data = .fields vs) : CallR (X.suite a ((a, oe) :: pn)) (.builtin "isinstance") (rIsE' X.K a cls d) := by
  intro pins s σ H xs us Q I r h
  obtain ⟨D, rfl, rfl, C, q⟩ := h
  exact call_isE C hz hf pins s σ H xs us Q I r q
theorem kit_true {K : PySem.W.Frag} {R S : Addr} (h1 : PySem.W.hasDictIn K S = true) (ht : PySem.W.typeIn K (.ref S) = some (.type "type")) (h2 : PySem.W.subIn K (.ref R) (.ref S) = some true) : PySem.W.kitOne K (.ref R) (.ref S) = some true := by
  obtain ⟨cd, hc, _⟩ := PySem.W.any_some h1
  have e2 : ((PySem.W.clsIn K S).isSome && PySem.W.typeIn K (.ref S) == some (.type "type")) = true := by rw [hc, ht] <;> rfl
  unfold PySem.W.kitOne
  split
  · rfl
  · show (if ((PySem.W.clsIn K S).isSome && PySem.W.typeIn K (.ref S) == some (.type "type")) = true then PySem.W.subIn K (.ref R) (.ref S) else none) = some true
    rw [if_pos e2]; exact h2
theorem kit_self {K : PySem.W.Frag} {R : Addr} : PySem.W.kitOne K (.ref R) (.ref R) = some true := by
  unfold PySem.W.kitOne
  rw [if_pos (by simp)]
/-! ## a comprehension in a comprehension -/
def relabelS (scope sc : Scope) : Scope :=
  { scope with names := scope.names.map fun (n, k) => if (k == .free && sc.kind == .function && sc.names.lookup n == some .cell) then (n, .cell) else (n, k) }
theorem blk_in {N : List Str} {env : Env} {sc0 scope0 scope : Scope} {cl : List (Str × Addr)} {C : Addr} {own : List (Str × Nat)} (he : env.scope = sc0) (h : blkC N (relabelS scope0 sc0) scope own = true) : BlkOk N (compEnvC scope0 cl C env).scope scope own := by
  subst he
  exact blkOk_by h
end L2
namespace SL
open PySem L2
section

set_option hygiene false
local macro_rules | `(tactic| walk_at "m") => `(tactic| first | exact List.Mem.head _ | (refine List.Mem.tail _ ?_; walk_at "m"))
local macro_rules | `(tactic| walk_at "u") => `(tactic| first | exact Upd.head | (apply Upd.tail; walk_at "u"))
local macro_rules | `(tactic| walk_at "tk") => `(tactic| first | exact Tak.head | (apply Tak.tail; walk_at "tk"))
local macro_rules | `(tactic| walk_at "l") => `(tactic| first | assumption | exact lS (St.fh (by assumption)) (by assumption) | exact SqL.of (St.get (by assumption) (by walk_at "m")))
local macro_rules | `(tactic| walk_at "t") => `(tactic| first | assumption | exact tS (St.fh (by assumption)) (by assumption) | exact SqT.of (St.get (by assumption) (by walk_at "m")))
local macro_rules | `(tactic| walk_at "lt") => `(tactic| first | exact .inl (by walk_at "l") | exact .inr (by walk_at "t"))
local macro_rules | `(tactic| walk_at "sz") => `(tactic| first | (show _ ≤ sizeLine; decide) | exact sz (by simp) | exact szl (by simp) | exact sz (by omega) | exact szl (by omega) | exact sz (by simp; omega) | exact szl (by simp; omega))
local macro_rules | `(tactic| walk_at "c") => `(tactic| first | assumption | decide | omega)
local macro_rules | `(tactic| walk_at "g1") => `(tactic| with_reducible first
  | refine w_seq ?_ | refine w_asg ?_ | refine w_c ?_ | refine w_op ?_
  | refine r_I0 ?_ | refine w_test ?_ | refine r_b ?_ | refine w_if ?_ | refine w_cons ?_ | refine w_nil ?_
  | refine w_ret ?_ | refine w_drop ?_ | refine w_cb ?_ | refine w_call ?_ | refine w_next ?_ | refine w_tup ?_ | refine w_lst ?_ | refine w_bm ?_ | refine w_bm0 ?_
  | refine w_and ?_ | refine w_or ?_ | refine w_not ?_ | refine w_andV ?_ | refine w_orV ?_ | refine w_notV ?_ | refine w_tB ?_ | refine w_un ?_ | refine r_U ?_
  | refine w_for ?_ | refine w_iL ?_ | refine w_iT ?_ | refine w_i1 ?_ | refine w_i2 ?_ | refine w_sl ?_ | refine w_part ?_ | refine w_nopart ?_ | refine r_part ?_
  | refine r_eqI ?_ | refine r_neI ?_ | refine r_eqS ?_ | refine r_neS ?_ | refine r_eqB ?_ | refine r_neB ?_ | refine r_ifT ?_ | refine r_ifF ?_ | refine r_ifNt ?_ | refine r_ifNf ?_ | refine r_ifRN ?_ | refine r_ifNRN ?_ | refine r_ifNN ?_ | refine r_ifNNN ?_
  | refine w_ifE ?_ | refine r_int1 ?_ | refine r_int1b ?_ | refine r_isnone ?_ | refine r_notnone ?_ | refine r_max2 ?_ | refine r_min2 ?_ | refine r_ipI ?_ | refine w_tru ?_ | refine w_rs ?_
  | refine w_retN ?_ | refine w_break ?_ | refine w_cont ?_ | refine w_callS ?_ | refine w_asgG ?_ | refine w_gsub ?_ | refine w_fld ?_ | refine w_sfld ?_ | refine w_mk ?_ | refine w_lc ?_ | refine w_iSq ?_ | refine u_isint ?_ | refine w_dnew ?_ | refine w_dnotin ?_ | refine w_din ?_ | refine w_dget ?_ | refine w_dput ?_ | refine w_ckw ?_)
local macro_rules | `(tactic| walk_at "g2") => `(tactic| first
  | ((with_reducible refine' w_var ?hv ?_); (case hv => rfl)) | ((with_reducible refine' w_aug ?hv ?_); (case hv => rfl))
  | ((with_reducible show rLen _ _ _ _); refine r_len (by walk_at "lt") ?_)
  | (with_reducible refine r_I ?cnd ?_; (case cnd => first | decide | omega | assumption | (unfold CPow; decide)))
  | ((with_reducible show RTy _ _ _ _ _); refine r_tyL (by walk_at "l") ?_)
  | (with_reducible refine r_ifDT (by walk_at "c") ?_) | (with_reducible refine r_ifDF (by walk_at "c") ?_)
  | (with_reducible refine r_ifNT (by walk_at "c") ?_) | (with_reducible refine r_ifNF (by walk_at "c") ?_))
local macro_rules | `(tactic| walk_at "go") => `(tactic| repeat (first | walk_at "g1" | walk_at "g2"))

variable {n b c : L2.St → Hp → Prop} {r : VK} {σ : L2.St} {H H' : Hp} {Q : VK} {t : TS} {te ta tb : TE} {x y v : V} {K : PySem.W.Frag} {E : En} {F F' : Hp} {L L' L1 L2 : Led} {p a : Addr} {xs ys : List V} {ns ms : List Int} {k : Bool} {o o' : HO}
theorem r_isE {D S : Addr} {b : Bool} (C : ExcC K D) (h : PySem.W.kitOne K (.ref D) (.ref S) = some b) (q : Q (.bl b) H) : rIsE' K a (.ref D) none [.ref a, .ref S] H Q := ⟨D, rfl, rfl, C, .ref S, .ref S, b, rfl, fun u r => r, h, q⟩
theorem r_isiC {C : Addr} (ty : TyX K H (.ref a) (.ref C)) (q : Q (.bl true) H) : rIsi K [.ref a, .ref C] H Q := ⟨.ref a, .ref C, .ref C, .ref C, true, rfl, .own C, ty, kit_self, q⟩
theorem r_all {bs : List Bool} (h : SqL K H a (bs.map V.bl)) (q : Q (.bl (bs.all id)) H) : rAll K [.ref a] H Q := ⟨a, bs, rfl, h, q⟩
theorem r_any {bs : List Bool} (h : SqL K H a (bs.map V.bl)) (q : Q (.bl (bs.any id)) H) : rAny K [.ref a] H Q := ⟨a, bs, rfl, h, q⟩
theorem set_slot {i n : Nat} {v : Option V} (h : σ.length = n) (hi : i < n) : (σ.set i v)[i]? = some v := List.getElem?_set_self (by omega)
/-! ## calls that hand back what they own -/
theorem St.join (G : St E F H L) (w : St ⟨F, H⟩ F' H' L1) : St E F' H' (L1 ++ L) := by
  have G1 : St E F' H' L := G.call w.gr
  refine ⟨G1.bh, G1.fh, G1.ff, G1.pr, fun x hx => ?_, nd_app w.nd G.nd fun x hx y hy e => ?_⟩
  · rcases List.mem_append.mp hx with q | q
    · obtain ⟨h1, h2, h3⟩ := w.own x q
      exact ⟨h1, h2, free_of G.bh h3⟩
    · exact G1.own x q
  · have h1 : H x.1 = none := (w.own x hx).2.2
    rw [e, (G.own y hy).1] at h1
    cases h1
theorem St.joinB (G : St E F H L) (u : Upd L p o o' L') (w : St ⟨F, del H p⟩ F' H' ((p, o') :: L1)) : St E F' H' (L1 ++ L') := by
  have G1 : St E F' H' L' := G.callB u (w.grB List.mem_cons_self) (w.get List.mem_cons_self)
  have hn := w.nd
  rw [List.map_cons, List.nodup_cons] at hn
  have hf : ∀ x ∈ L1, H' x.1 = some x.2 ∧ F' x.1 = none ∧ H x.1 = none := fun x q => by
    obtain ⟨h1, h2, h3⟩ := w.own x (List.mem_cons_of_mem _ q)
    have ne : x.1 ≠ p := fun e => hn.1 (List.mem_map.mpr ⟨x, q, e⟩)
    exact ⟨h1, h2, by rw [← del_ne (H := H) ne]; exact h3⟩
  refine ⟨G1.bh, G1.fh, G1.ff, G1.pr, fun x hx => ?_, nd_app hn.2 G1.nd fun x hx y hy e => ?_⟩
  · rcases List.mem_append.mp hx with q | q
    · obtain ⟨h1, h2, h3⟩ := hf x q
      exact ⟨h1, h2, free_of G.bh h3⟩
    · exact G1.own x q
  · have h1 := (hf x hx).2.2
    have : y.1 ∈ L.map (·.1) := by rw [← u.fst]; exact List.mem_map.mpr ⟨y, hy, rfl⟩
    obtain ⟨z, hz, q⟩ := List.mem_map.mp this
    have q' : z.1 = y.1 := q
    rw [e, ← q', (G.own z hz).1] at h1
    cases h1
theorem St.dropL {L1 : Led} (G : St E F H (L1 ++ L)) : St E F H L := ⟨G.bh, G.fh, G.ff, G.pr, fun x hx => G.own x (List.mem_append_right _ hx), by have := G.nd; rw [List.map_append, List.nodup_append] at this; exact this.2.1⟩
/-! ## lists of refs that are owned -/
def rowV : List Addr → List (List V) → Led
  | a :: as, r :: rs => (a, .lst r) :: rowV as rs
  | _, _ => []
theorem rowV_upd : ∀ {as : List Addr} {rs : List (List V)} {j : Nat} {a : Addr} {r r' : List V}, as[j]? = some a → rs[j]? = some r → Upd (rowV as rs) a (.lst r) (.lst r') (rowV as (rs.set j r'))
  | [], _, _, _, _, _, h, _ => by simp at h
  | _ :: _, [], _, _, _, _, _, h => by simp at h
  | a :: as, r :: rs, 0, a', r0, r', h1, h2 => by
    simp at h1 h2
    subst h1 h2
    exact .head
  | a :: as, r :: rs, j + 1, a', r0, r', h1, h2 => .tail (rowV_upd (by simpa using h1) (by simpa using h2))
theorem rowV_snoc : ∀ {as : List Addr} {rs : List (List V)} {a : Addr} {r : List V}, as.length = rs.length → rowV (as ++ [a]) (rs ++ [r]) = rowV as rs ++ [(a, .lst r)]
  | [], [], _, _, _ => rfl
  | [], _ :: _, _, _, h => by cases h
  | _ :: _, [], _, _, h => by cases h
  | x :: as, y :: rs, a, r, h => by
    show (x, HO.lst y) :: rowV (as ++ [a]) (rs ++ [r]) = (x, HO.lst y) :: (rowV as rs ++ [(a, .lst r)])
    rw [rowV_snoc (by simpa using h)]
/-! ## a list in the heap or a tuple in the frozen part -/
def SqX (K : PySem.W.Frag) (F H : Hp) (a : Addr) (xs : List V) : Prop := SqL K H a xs ∨ SqT K F a xs
theorem SqX.mono (e : Same F F') (e2 : Same H H') (h : SqX K F H a xs) : SqX K F' H' a xs := by
  rcases h with h | h
  · exact .inl (lS e2 h)
  · exact .inr (tS e h)
theorem SqX.bb (e : Same F H) (h : SqX K F H a xs) : ∃ k, SqB K H a xs k := by
  rcases h with h | h
  · exact ⟨true, h⟩
  · exact ⟨false, tS e h⟩
theorem SqX.bs (h : SqX K F H a xs) : ∃ k, ∀ H', Same H H' → Same F H' → SqB K H' a xs k := by
  rcases h with h | h
  · exact ⟨true, fun _ e _ => lS e h⟩
  · exact ⟨false, fun _ _ e => tS e h⟩
theorem SqX.or (e : Same F H) (h : SqX K F H a xs) : SqL K H a xs ∨ SqT K H a xs := by
  rcases h with h | h
  · exact .inl h
  · exact .inr (tS e h)
theorem SqX.del {C dx : Addr} {fs : List (Str × V)} (e : H p = some (.ins C dx fs)) (h : SqX K F H a xs) : SqX K F (del H p) a xs := by
  rcases h with h | h
  · exact .inl (sq_del (k := true) e h)
  · exact .inr h
theorem r_tupX (G : St E F H L) (h : SqX K F H a xs) (q : ∀ F' H' t, Same F F' → Same H H' → SqT K F' t xs → St E F' H' L → Q (.ref t) H') : rTupOf K [.ref a] H Q := by
  rcases h with h | h
  · refine ⟨a, xs, rfl, .inl ⟨h, fun p hp => ?_⟩⟩
    obtain ⟨F1, s1, ht, G2⟩ := (G.new (o := .tup xs) hp).frz Tak.head
    exact q F1 _ _ s1 (same_new hp) (SqT.of ht) G2
  · exact r_tupofT (tS G.fh h) (q F H a (Same.refl _) (Same.refl _) h G)
inductive LeafX (K : PySem.W.Frag) (F H : Hp) : List Addr → List (List Int) → Prop
  | nil : LeafX K F H [] []
  | cons {a as ns rs} : SqX K F H a (iv ns) → LeafX K F H as rs → LeafX K F H (a :: as) (ns :: rs)
theorem LeafX.mono {as : List Addr} {rs : List (List Int)} (e : Same F F') (e2 : Same H H') (h : LeafX K F H as rs) : LeafX K F' H' as rs := by
  induction h with
  | nil => exact .nil
  | cons h1 _ ih => exact .cons (h1.mono e e2) ih
theorem LeafX.len {as : List Addr} {rs : List (List Int)} (h : LeafX K F H as rs) : as.length = rs.length := by
  induction h with
  | nil => rfl
  | cons _ _ ih => rw [List.length_cons, List.length_cons, ih]
theorem LeafX.del {C dx : Addr} {fs : List (Str × V)} {as : List Addr} {rs : List (List Int)} (e : H p = some (.ins C dx fs)) (h : LeafX K F H as rs) : LeafX K F (SL.del H p) as rs := by
  induction h with
  | nil => exact .nil
  | cons h1 _ ih => exact .cons (h1.del e) ih
theorem LeafX.at {as : List Addr} {rs : List (List Int)} (h : LeafX K F H as rs) : ∀ {i : Nat} {a : Addr}, as[i]? = some a → ∃ ns, rs[i]? = some ns ∧ SqX K F H a (iv ns) := by
  induction h with
  | nil => intro i a e; simp at e
  | cons h1 _ ih =>
    intro i a e
    cases i with
    | zero => rw [List.getElem?_cons_zero] at e; cases e; exact ⟨_, rfl, h1⟩
    | succ i => exact ih (by simpa using e)
theorem LeafX.ofL {as : List Addr} {rs : List (List Int)} (h : Rows K H true as rs) : LeafX K F H as rs := by
  induction h with
  | nil => exact .nil
  | cons h1 _ ih => exact .cons (.inl h1) ih
theorem LeafX.ofT {as : List Addr} {rs : List (List Int)} (h : Rows K F false as rs) : LeafX K F H as rs := by
  induction h with
  | nil => exact .nil
  | cons h1 _ ih => exact .cons (.inr h1) ih
inductive RowsX (K : PySem.W.Frag) (F H : Hp) : List Addr → List (List (List Int)) → Prop
  | nil : RowsX K F H [] []
  | cons {a as bs r rs} : SqX K F H a (rv bs) → LeafX K F H bs r → RowsX K F H as rs → RowsX K F H (a :: as) (r :: rs)
theorem RowsX.mono {as : List Addr} {rs : List (List (List Int))} (e : Same F F') (e2 : Same H H') (h : RowsX K F H as rs) : RowsX K F' H' as rs := by
  induction h with
  | nil => exact .nil
  | cons h1 h2 _ ih => exact .cons (h1.mono e e2) (h2.mono e e2) ih
theorem RowsX.len {as : List Addr} {rs : List (List (List Int))} (h : RowsX K F H as rs) : as.length = rs.length := by
  induction h with
  | nil => rfl
  | cons _ _ _ ih => rw [List.length_cons, List.length_cons, ih]
theorem RowsX.del {C dx : Addr} {fs : List (Str × V)} {as : List Addr} {rs : List (List (List Int))} (e : H p = some (.ins C dx fs)) (h : RowsX K F H as rs) : RowsX K F (SL.del H p) as rs := by
  induction h with
  | nil => exact .nil
  | cons h1 h2 _ ih => exact .cons (h1.del e) (h2.del e) ih
theorem RowsX.at {as : List Addr} {rs : List (List (List Int))} (h : RowsX K F H as rs) : ∀ {i : Nat} {a : Addr}, as[i]? = some a → ∃ bs r, rs[i]? = some r ∧ SqX K F H a (rv bs) ∧ LeafX K F H bs r := by
  induction h with
  | nil => intro i a e; simp at e
  | cons h1 h2 _ ih =>
    intro i a e
    cases i with
    | zero => rw [List.getElem?_cons_zero] at e; cases e; exact ⟨_, _, rfl, h1, h2⟩
    | succ i => exact ih (by simpa using e)
/-! ## rows of rows, all lists or all tuples -/
inductive Rows2 (K : PySem.W.Frag) (H : Hp) (k : Bool) : List Addr → List (List (List Int)) → Prop
  | nil : Rows2 K H k [] []
  | cons {a as bs r rs} : SqB K H a (rv bs) k → Rows K H k bs r → Rows2 K H k as rs → Rows2 K H k (a :: as) (r :: rs)
theorem Rows2.mono {as : List Addr} {rs : List (List (List Int))} (e : Same H H') (h : Rows2 K H k as rs) : Rows2 K H' k as rs := by
  induction h with
  | nil => exact .nil
  | cons h1 h2 _ ih => exact .cons (qS e h1) (h2.mono e) ih
theorem Rows2.len {as : List Addr} {rs : List (List (List Int))} (h : Rows2 K H k as rs) : as.length = rs.length := by
  induction h with
  | nil => rfl
  | cons _ _ _ ih => rw [List.length_cons, List.length_cons, ih]
theorem Rows2.at {as : List Addr} {rs : List (List (List Int))} (h : Rows2 K H k as rs) : ∀ {i : Nat} {a : Addr}, as[i]? = some a → ∃ bs r, rs[i]? = some r ∧ SqB K H a (rv bs) k ∧ Rows K H k bs r := by
  induction h with
  | nil => intro i a e; simp at e
  | cons h1 h2 _ ih =>
    intro i a e
    cases i with
    | zero => rw [List.getElem?_cons_zero] at e; cases e; exact ⟨_, _, rfl, h1, h2⟩
    | succ i => exact ih (by simpa using e)
theorem Rows2.snoc {as : List Addr} {bs : List Addr} {r : List (List Int)} {rs : List (List (List Int))} (h : Rows2 K H k as rs) (h1 : SqB K H a (rv bs) k) (h2 : Rows K H k bs r) : Rows2 K H k (as ++ [a]) (rs ++ [r]) := by
  induction h with
  | nil => exact .cons h1 h2 .nil
  | cons q1 q2 _ ih => exact .cons q1 q2 ih
theorem Rows2.set {as : List Addr} {bs : List Addr} {r : List (List Int)} {rs : List (List (List Int))} (h : Rows2 K H k as rs) (h1 : SqB K H a (rv bs) k) (h2 : Rows K H k bs r) : ∀ {j : Nat}, Rows2 K H k (as.set j a) (rs.set j r) := by
  induction h with
  | nil => intro j; exact .nil
  | cons q1 q2 hr ih =>
    intro j
    cases j with
    | zero => exact .cons h1 h2 hr
    | succ j => exact .cons q1 q2 ih
theorem _root_.SL.Rows.take {as : List Addr} {rs : List (List Int)} (h : Rows K H k as rs) : ∀ {n : Nat}, Rows K H k (as.take n) (rs.take n) := by
  induction h with
  | nil => intro n; rw [List.take_nil, List.take_nil]; exact .nil
  | cons h1 _ ih =>
    intro n
    cases n with
    | zero => exact .nil
    | succ n => exact .cons h1 ih
theorem Rows2.toX {as : List Addr} {rs : List (List (List Int))} (h : Rows2 K H true as rs) : RowsX K F H as rs := by
  induction h with
  | nil => exact .nil
  | cons h1 h2 _ ih => exact .cons (.inl h1) (.ofL h2) ih
theorem Rows2.toXT {as : List Addr} {rs : List (List (List Int))} (h : Rows2 K F false as rs) : RowsX K F H as rs := by
  induction h with
  | nil => exact .nil
  | cons h1 h2 _ ih => exact .cons (.inr h1) (.ofT h2) ih
abbrev dRow2 (r : List (List Int)) : PyData := .list (r.map (dRow true))
theorem Rows2.dp {as : List Addr} {rs : List (List (List Int))} (h : Rows2 K H true as rs) : DpAll K H (as.map V.ref) (rs.map dRow2) := by
  induction h with
  | nil => exact .nil
  | cons h1 h2 _ ih => exact .cons (.lst h1 h2.dp) ih
theorem shp_row2 {r : List (List Int)} : Shp 2 (dRow2 r) := shp_list (shpa_map fun _ _ => shp_row)
theorem eqv_row2 (xs ys : List (List Int)) : PyData.eqv (dRow2 xs) (dRow2 ys) = decide (xs = ys) := by
  rw [dRow2, dRow2, eqv_list]
  exact eqvAll_map eqv_row xs ys
/-- frozen leaves -/
inductive Leaf (K : PySem.W.Frag) (H : Hp) : List (List Addr) → List (List (List Int)) → Prop
  | nil : Leaf K H [] []
  | cons {bs r bss rs} : Rows K H true bs r → Leaf K H bss rs → Leaf K H (bs :: bss) (r :: rs)
theorem Leaf.mono {bss : List (List Addr)} {rs : List (List (List Int))} (e : Same H H') (h : Leaf K H bss rs) : Leaf K H' bss rs := by
  induction h with
  | nil => exact .nil
  | cons h1 _ ih => exact .cons (h1.mono e) ih
theorem Leaf.len {bss : List (List Addr)} {rs : List (List (List Int))} (h : Leaf K H bss rs) : bss.length = rs.length := by
  induction h with
  | nil => rfl
  | cons _ _ ih => rw [List.length_cons, List.length_cons, ih]
theorem Leaf.snoc {bs : List Addr} {r : List (List Int)} {bss : List (List Addr)} {rs : List (List (List Int))} (h : Leaf K H bss rs) (h1 : Rows K H true bs r) : Leaf K H (bss ++ [bs]) (rs ++ [r]) := by
  induction h with
  | nil => exact .cons h1 .nil
  | cons q1 _ ih => exact .cons q1 ih
theorem Leaf.set {bs : List Addr} {r : List (List Int)} {bss : List (List Addr)} {rs : List (List (List Int))} (h : Leaf K H bss rs) (h1 : Rows K H true bs r) : ∀ {j : Nat}, Leaf K H (bss.set j bs) (rs.set j r) := by
  induction h with
  | nil => intro j; exact .nil
  | cons q1 hr ih =>
    intro j
    cases j with
    | zero => exact .cons h1 hr
    | succ j => exact .cons q1 ih
theorem Leaf.at {bss : List (List Addr)} {rs : List (List (List Int))} (h : Leaf K H bss rs) : ∀ {i : Nat} {r : List (List Int)}, rs[i]? = some r → ∃ bs, bss[i]? = some bs ∧ Rows K H true bs r := by
  induction h with
  | nil => intro i a e; simp at e
  | cons h1 _ ih =>
    intro i a e
    cases i with
    | zero => rw [List.getElem?_cons_zero] at e; cases e; exact ⟨_, rfl, h1⟩
    | succ i => exact ih (by simpa using e)
theorem Rows2.of {as : List Addr} {bss : List (List Addr)} {rs : List (List (List Int))} (h : Leaf K H bss rs) (hl : as.length = bss.length) (hv : ∀ x ∈ rowV as (bss.map rv), H x.1 = some x.2) : Rows2 K H true as rs := by
  induction h generalizing as with
  | nil => cases as with
    | nil => exact .nil
    | cons _ _ => cases hl
  | cons h1 _ ih => cases as with
    | nil => cases hl
    | cons a as => exact .cons (show SqL K H a _ from SqL.of (hv _ List.mem_cons_self)) h1 (ih (by simpa using hl) fun x hx => hv x (List.mem_cons_of_mem _ hx))
/-! ## ascending lists of states -/
def asc (c : Int) : Int → List Int → Bool
  | _, [] => true
  | b, x :: xs => decide (b < x) && decide (x < c) && asc c x xs
theorem asc_iff {c : Int} : ∀ {ns : List Int} {b : Int}, asc c b ns = true ↔ (∀ x ∈ ns, b < x ∧ x < c) ∧ ns.Pairwise (· < ·)
  | [], b => by simp [asc]
  | x :: xs, b => by
    rw [asc, Bool.and_eq_true, Bool.and_eq_true, decide_eq_true_eq, decide_eq_true_eq, asc_iff (ns := xs) (b := x), List.pairwise_cons]
    constructor
    · rintro ⟨⟨h1, h2⟩, h3, h4⟩
      refine ⟨fun y hy => ?_, fun y hy => (h3 y hy).1, h4⟩
      rcases List.mem_cons.mp hy with e | e
      · subst e; exact ⟨h1, h2⟩
      · have := h3 y e; omega
    · rintro ⟨h1, h2, h3⟩
      exact ⟨h1 x List.mem_cons_self, fun y hy => ⟨h2 y hy, (h1 y (List.mem_cons_of_mem _ hy)).2⟩, h3⟩
theorem asc_mono {c c' b : Int} {ns : List Int} (h : asc c b ns = true) (hc : c ≤ c') : asc c' b ns = true := by
  obtain ⟨h1, h2⟩ := asc_iff.mp h
  exact asc_iff.mpr ⟨fun x hx => by have := h1 x hx; omega, h2⟩
theorem asc_snoc {c : Int} {ns : List Int} (h : asc c (-1) ns = true) (hc : 0 ≤ c) : asc (c + 1) (-1) (ns ++ [c]) = true := by
  obtain ⟨h1, h2⟩ := asc_iff.mp h
  refine asc_iff.mpr ⟨fun x hx => ?_, ?_⟩
  · rcases List.mem_append.mp hx with q | q
    · have := h1 x q; omega
    · rw [List.mem_singleton.mp q]; omega
  · rw [List.pairwise_append]
    exact ⟨h2, List.pairwise_singleton _ _, fun x hx y hy => by rw [List.mem_singleton.mp hy]; exact (h1 x hx).2⟩
theorem asc_len {c b : Int} : ∀ {ns : List Int}, asc c b ns = true → b < c → b + ns.length ≤ c - 1 + 0
  | [], _, hb => by simp; omega
  | x :: xs, h, hb => by
    rw [asc, Bool.and_eq_true, Bool.and_eq_true, decide_eq_true_eq, decide_eq_true_eq] at h
    have := asc_len h.2 h.1.2
    rw [List.length_cons]
    omega
theorem asc_get {ns : List Int} (h : ns.Pairwise (· < ·)) {i j : Nat} (hij : i < j) (hj : j < ns.length) : ns.getD i 0 < ns.getD j 0 := by
  have := List.pairwise_iff_getElem.mp h i j (by omega) hj hij
  rw [List.getD_eq_getElem?_getD, List.getD_eq_getElem?_getD, List.getElem?_eq_getElem (by omega), List.getElem?_eq_getElem hj]
  exact this
theorem drop_cons {α : Type} : ∀ {l : List α} {i : Nat} {x : α}, l[i]? = some x → l.drop i = x :: l.drop (i + 1)
  | [], i, x, h => by simp at h
  | y :: l, 0, x, h => by
    have e : y = x := Option.some.inj h
    rw [e]; rfl
  | y :: l, i + 1, x, h => by
    have ih := drop_cons (l := l) (i := i) (x := x) h
    rw [List.drop_succ_cons, ih]; rfl
/-! ## Buchi automata -/
structure Aok (m : Int) (is cs : List Int) (rs : List (List (List Int))) : Prop where
  m1 : 1 ≤ m
  ne : 0 < rs.length
  ai : asc rs.length (-1) is = true
  ac : asc rs.length (-1) cs = true
  rr : ∀ r ∈ rs, (r.length : Int) = m ∧ ∀ x ∈ r, asc rs.length (-1) x = true
def auF (m : Int) (ia ca ra : Addr) : List (Str × V) := [("letters", .int m), ("initial", .ref ia), ("accepting", .ref ca), ("rows", .ref ra)]
structure AuAt (K : PySem.W.Frag) (C : Addr) (F : Hp) (x : Addr) (m : Int) (is cs : List Int) (rs : List (List (List Int))) : Prop where
  ex : ∃ dx ia ca ra as, F x = some (.ins C dx (auF m ia ca ra)) ∧ SqT K F ia (iv is) ∧ SqT K F ca (iv cs) ∧ SqT K F ra (rv as) ∧ Rows2 K F false as rs
theorem AuAt.mono {C x : Addr} {m : Int} {is cs : List Int} {rs : List (List (List Int))} (e : Same F F') (h : AuAt K C F x m is cs rs) : AuAt K C F' x m is cs rs := by
  obtain ⟨dx, ia, ca, ra, as, h1, h2, h3, h4, h5⟩ := h.ex
  exact ⟨⟨dx, ia, ca, ra, as, e _ _ h1, tS e h2, tS e h3, tS e h4, h5.mono e⟩⟩
theorem la_letters {m : Int} {ia ca ra : Addr} : (auF m ia ca ra).lookup ("letters" : Str) = some (.int m) := rfl
theorem la_initial {m : Int} {ia ca ra : Addr} : (auF m ia ca ra).lookup ("initial" : Str) = some (.ref ia) := rfl
theorem la_accepting {m : Int} {ia ca ra : Addr} : (auF m ia ca ra).lookup ("accepting" : Str) = some (.ref ca) := rfl
theorem la_rows {m : Int} {ia ca ra : Addr} : (auF m ia ca ra).lookup ("rows" : Str) = some (.ref ra) := rfl
end
end SL

set_option Elab.async false
set_option linter.all false
set_option maxRecDepth 100000
set_option maxHeartbeats 4000000
namespace SL
open PySem L2
section

set_option hygiene false
local macro_rules | `(tactic| walk_at "m") => `(tactic| first | exact List.Mem.head _ | (refine List.Mem.tail _ ?_; walk_at "m"))
local macro_rules | `(tactic| walk_at "u") => `(tactic| first | exact Upd.head | (apply Upd.tail; walk_at "u"))
local macro_rules | `(tactic| walk_at "tk") => `(tactic| first | exact Tak.head | (apply Tak.tail; walk_at "tk"))
local macro_rules | `(tactic| walk_at "l") => `(tactic| first | assumption | exact lS (St.fh (by assumption)) (by assumption) | exact SqL.of (St.get (by assumption) (by walk_at "m")))
local macro_rules | `(tactic| walk_at "t") => `(tactic| first | assumption | exact tS (St.fh (by assumption)) (by assumption) | exact SqT.of (St.get (by assumption) (by walk_at "m")))
local macro_rules | `(tactic| walk_at "lt") => `(tactic| first | exact .inl (by walk_at "l") | exact .inr (by walk_at "t"))
local macro_rules | `(tactic| walk_at "sz") => `(tactic| first | (show _ ≤ sizeLine; decide) | exact sz (by simp) | exact szl (by simp) | exact sz (by omega) | exact szl (by omega) | exact sz (by simp; omega) | exact szl (by simp; omega))
local macro_rules | `(tactic| walk_at "c") => `(tactic| first | assumption | decide | omega)
local macro_rules | `(tactic| walk_at "g1") => `(tactic| with_reducible first
  | refine w_seq ?_ | refine w_asg ?_ | refine w_c ?_ | refine w_op ?_
  | refine r_I0 ?_ | refine w_test ?_ | refine r_b ?_ | refine w_if ?_ | refine w_cons ?_ | refine w_nil ?_
  | refine w_ret ?_ | refine w_drop ?_ | refine w_cb ?_ | refine w_call ?_ | refine w_next ?_ | refine w_tup ?_ | refine w_lst ?_ | refine w_bm ?_ | refine w_bm0 ?_
  | refine w_and ?_ | refine w_or ?_ | refine w_not ?_ | refine w_andV ?_ | refine w_orV ?_ | refine w_notV ?_ | refine w_tB ?_ | refine w_un ?_ | refine r_U ?_
  | refine w_for ?_ | refine w_iL ?_ | refine w_iT ?_ | refine w_i1 ?_ | refine w_i2 ?_ | refine w_sl ?_ | refine w_part ?_ | refine w_nopart ?_ | refine r_part ?_
  | refine r_eqI ?_ | refine r_neI ?_ | refine r_eqS ?_ | refine r_neS ?_ | refine r_eqB ?_ | refine r_neB ?_ | refine r_ifT ?_ | refine r_ifF ?_ | refine r_ifNt ?_ | refine r_ifNf ?_ | refine r_ifRN ?_ | refine r_ifNRN ?_ | refine r_ifNN ?_ | refine r_ifNNN ?_
  | refine w_ifE ?_ | refine r_int1 ?_ | refine r_int1b ?_ | refine r_isnone ?_ | refine r_notnone ?_ | refine r_max2 ?_ | refine r_min2 ?_ | refine r_ipI ?_ | refine w_tru ?_ | refine w_rs ?_
  | refine w_retN ?_ | refine w_break ?_ | refine w_cont ?_ | refine w_callS ?_ | refine w_asgG ?_ | refine w_gsub ?_ | refine w_fld ?_ | refine w_sfld ?_ | refine w_mk ?_ | refine w_lc ?_ | refine w_iSq ?_ | refine u_isint ?_ | refine w_dnew ?_ | refine w_dnotin ?_ | refine w_din ?_ | refine w_dget ?_ | refine w_dput ?_ | refine w_ckw ?_)
local macro_rules | `(tactic| walk_at "g2") => `(tactic| first
  | ((with_reducible refine' w_var ?hv ?_); (case hv => rfl)) | ((with_reducible refine' w_aug ?hv ?_); (case hv => rfl))
  | ((with_reducible show rLen _ _ _ _); refine r_len (by walk_at "lt") ?_)
  | (with_reducible refine r_I ?cnd ?_; (case cnd => first | decide | omega | assumption | (unfold CPow; decide)))
  | ((with_reducible show RTy _ _ _ _ _); refine r_tyL (by walk_at "l") ?_)
  | (with_reducible refine r_ifDT (by walk_at "c") ?_) | (with_reducible refine r_ifDF (by walk_at "c") ?_)
  | (with_reducible refine r_ifNT (by walk_at "c") ?_) | (with_reducible refine r_ifNF (by walk_at "c") ?_))
local macro_rules | `(tactic| walk_at "go") => `(tactic| repeat (first | walk_at "g1" | walk_at "g2"))

variable {n b c : L2.St → Hp → Prop} {r : VK} {σ : L2.St} {H H' : Hp} {Q : VK} {t : TS} {te ta tb ty td tv : TE} {x y v : V} {K : PySem.W.Frag} {E : En} {F F' : Hp} {L L' L1 : Led} {p a : Addr} {xs ys : List V} {ns ms : List Int} {k : Bool} {kvs : List (Key × V)} {i : Int}
/-! ## dicts with integers as keys -/
def RDNew (H : Hp) (Q : VK) : Prop := ∀ p, H p = none → Q (.ref p) (upd H p (.dK []))
theorem w_dnew (h : RDNew H Q) : tDNewK σ H Q := h
theorem r_dnew (G : St E F H L) (q : ∀ p H', St E F H' ((p, .dK []) :: L) → Q (.ref p) H') : RDNew H Q := fun p hp => q p _ (G.new hp)
def RDN (x y : V) (H : Hp) (Q : VK) : Prop := ∃ a o, x = .ref a ∧ DGet H a y o ∧ Q (.bl (!o.isSome)) H
def RDI (x y : V) (H : Hp) (Q : VK) : Prop := ∃ a o, x = .ref a ∧ DGet H a y o ∧ Q (.bl o.isSome) H
def RDG (x y : V) (H : Hp) (Q : VK) : Prop := ∃ a v, x = .ref a ∧ DGet H a y (some v) ∧ Q v H
def RDP (x y v : V) (H : Hp) (P : Hp → Prop) : Prop := ∃ a H4, x = .ref a ∧ DPut H a y v H4 ∧ P H4
theorem w_dnotin (h : ty σ H fun y H1 => td σ H1 fun x H2 => RDN x y H2 Q) : tDNotIn ty td σ H Q := h
theorem w_din (h : ty σ H fun y H1 => td σ H1 fun x H2 => RDI x y H2 Q) : tDIn ty td σ H Q := h
theorem w_dget (h : td σ H fun x H1 => ty σ H1 fun y H2 => RDG x y H2 Q) : tDGet td ty σ H Q := h
theorem w_dput (h : tv σ H fun v H1 => td σ H1 fun x H2 => ty σ H2 fun y H3 => RDP x y v H3 (n σ)) : sDPut td ty tv ⟨n, r, b, c⟩ σ H := h
theorem r_dnot (h : H a = some (.dK kvs)) (q : Q (.bl (!(valV kvs (.inl i)).isSome)) H) : RDN (.ref a) (.int i) H Q := ⟨a, _, rfl, DGet.k (k := .inl i) h, q⟩
theorem r_din (h : H a = some (.dK kvs)) (q : Q (.bl (valV kvs (.inl i)).isSome) H) : RDI (.ref a) (.int i) H Q := ⟨a, _, rfl, DGet.k (k := .inl i) h, q⟩
theorem r_dget (h : H a = some (.dK kvs)) (e : valV kvs (.inl i) = some v) (q : Q v H) : RDG (.ref a) (.int i) H Q := ⟨a, v, rfl, by rw [← e]; exact DGet.k (k := .inl i) h, q⟩
theorem r_dput {P : Hp → Prop} (G : St E F H L) (u : Upd L a (.dK kvs) (.dK (putK kvs (.inl i) v)) L') (hs : kvs.length < sizeLine) (q : ∀ H', St E F H' L' → P H') : RDP (.ref a) (.int i) v H P := ⟨a, _, rfl, DPut.k (k := .inl i) (G.get u.mem) hs, q _ (G.put u)⟩
theorem putK_new {k : Key} (h : valV kvs k = none) : putK kvs k v = kvs ++ [(k, v)] := by
  unfold putK
  rw [valV_any, h]
  rfl
/-- a dict that tells of the first numbers where they stand -/
def kvF (q : Nat → Int) (t : Nat) : List (Key × V) := (List.range t).map fun k => (.inl (q k), .int k)
theorem kvF_succ {q : Nat → Int} {t : Nat} : kvF q (t + 1) = kvF q t ++ [(.inl (q t), .int t)] := by
  unfold kvF; rw [List.range_succ, List.map_append]; rfl
theorem kvF_len {q : Nat → Int} {t : Nat} : (kvF q t).length = t := by unfold kvF; simp
theorem kvF_val {q : Nat → Int} {t : Nat} {z : Int} : (∃ k, k < t ∧ q k = z ∧ valV (kvF q t) (.inl z) = some (.int k)) ∨ (valV (kvF q t) (.inl z) = none ∧ ∀ k, k < t → q k ≠ z) := by
  induction t with
  | zero => exact .inr ⟨rfl, fun k h => absurd h (Nat.not_lt_zero _)⟩
  | succ t ih =>
    have e : valV (kvF q (t + 1)) (.inl z) = (valV (kvF q t) (.inl z)).or (valV [((.inl (q t) : Key), V.int t)] (.inl z)) := by
      rw [kvF_succ]
      unfold valV
      rw [List.find?_append]
      cases (List.find? (fun kv => decide (kv.1 = Sum.inl z)) (kvF q t)) <;> rfl
    rcases ih with ⟨k, h1, h2, h3⟩ | ⟨h1, h2⟩
    · exact .inl ⟨k, by omega, h2, by rw [e, h3]; rfl⟩
    · by_cases c : q t = z
      · refine .inl ⟨t, by omega, c, ?_⟩
        rw [e, h1, c, valV_pos rfl]; rfl
      · refine .inr ⟨?_, fun k hk => ?_⟩
        · rw [e, h1, valV_neg (fun w => c (Sum.inl.inj w))]; rfl
        · rcases Nat.lt_succ_iff_lt_or_eq.mp hk with w | w
          · exact h2 k w
          · rw [w]; exact c
/-! ## while -/
def RWb (k : Bool) (Pv : Nat → L2.St → Hp → Prop) (m : Nat) (t : TS) (n : L2.St → Hp → Prop) (r : VK) (σ : L2.St) (H : Hp) : Prop :=
  if k = true then ∃ N : L2.St → Hp → Prop, (∀ σ' H', N σ' H' → ∃ m', m' < m ∧ Pv m' σ' H') ∧ t { nx := N, rt := r, bk := n, ct := N } σ H else n σ H
theorem r_while {c' : TT} (Pv : Nat → L2.St → Hp → Prop) (m : Nat) (h0 : Pv m σ H) (hs : ∀ m σ H, Pv m σ H → c' σ H fun k H1 => RWb k Pv m t n r σ H1) : tWhile c' t ⟨n, r, b, c⟩ σ H := ⟨Pv, ⟨m, h0⟩, hs⟩
theorem r_wb {Pv : Nat → L2.St → Hp → Prop} {m : Nat} (h1 : k = true → t ⟨fun σ' H' => ∃ m', m' < m ∧ Pv m' σ' H', r, n, fun σ' H' => ∃ m', m' < m ∧ Pv m' σ' H'⟩ σ H) (h2 : k = false → n σ H) : RWb k Pv m t n r σ H := by
  unfold RWb
  cases k with
  | true => rw [if_pos rfl]; exact ⟨_, fun _ _ h => h, h1 rfl⟩
  | false => rw [if_neg Bool.false_ne_true]; exact h2 rfl
/-! ## few places -/
theorem nodup_few : ∀ {n : Nat} {l : List Int}, l.Nodup → (∀ x ∈ l, 0 ≤ x ∧ x < n) → l.length ≤ n
  | 0, [], _, _ => Nat.le_refl _
  | 0, x :: l, _, h => by have := h x List.mem_cons_self; omega
  | n + 1, l, hn, h => by
    by_cases c : (n : Int) ∈ l
    · have e := List.length_erase_of_mem c
      have ih := nodup_few (n := n) (l := l.erase n) (hn.erase _) fun x hx => by
        have h1 := (List.Nodup.mem_erase_iff hn).mp hx
        have := h x h1.2
        have : x ≠ n := h1.1
        omega
      omega
    · have ih := nodup_few (n := n) (l := l) hn fun x hx => by
        have := h x hx
        have : x ≠ n := fun w => c (w ▸ hx)
        omega
      omega
def Inj (q : Nat → Int) (t : Nat) : Prop := ∀ a b, a < t → b < t → q a = q b → a = b
theorem inj_few {q : Nat → Int} {t n : Nat} (h : Inj q t) (hb : ∀ k, 0 ≤ q k ∧ q k < n) : t ≤ n := by
  have := nodup_few (n := n) (l := (List.range t).map q) (by
    unfold List.Nodup
    rw [List.pairwise_map]
    refine List.Pairwise.imp_of_mem (R := (· ≠ ·)) (fun {a b} ha hb ne w => ne (h a b (List.mem_range.mp ha) (List.mem_range.mp hb) w)) List.nodup_range) (fun x hx => by
    obtain ⟨k, _, rfl⟩ := List.mem_map.mp hx
    exact hb k)
  simpa using this
theorem pigeon {q : Nat → Int} {n : Nat} (hb : ∀ k, 0 ≤ q k ∧ q k < n) : ∃ i r, i < r ∧ r ≤ n ∧ q i = q r := by
  by_cases c : ∃ i r, i < r ∧ r ≤ n ∧ q i = q r
  · exact c
  · exfalso
    have : Inj q (n + 1) := fun a b ha hb e => by
      rcases Nat.lt_trichotomy a b with w | w | w
      · exact absurd ⟨a, b, w, by omega, e⟩ c
      · exact w
      · exact absurd ⟨b, a, w, by omega, e.symm⟩ c
    have := inj_few this hb
    omega
def InfBest (g : Nat → Int) (M : Int) : Prop := (∀ N, ∃ k, N ≤ k ∧ g k = M) ∧ ∃ N, ∀ k, N ≤ k → g k ≤ M
theorem InfBest.uniq {g : Nat → Int} {M M' : Int} (h : InfBest g M) (h' : InfBest g M') : M = M' := by
  obtain ⟨h1, N, h2⟩ := h
  obtain ⟨h3, N', h4⟩ := h'
  obtain ⟨k, k1, k2⟩ := h1 (max N N')
  obtain ⟨l, l1, l2⟩ := h3 (max N N')
  have a1 := h4 k (by omega)
  have a2 := h2 l (by omega)
  omega
theorem inf_best {q g : Nat → Int} {i r k0 : Nat} {M : Int} (hq : ∀ a b, q a = q b → q (a + 1) = q (b + 1)) (hg : ∀ a b, q a = q b → g a = g b) (e : q i = q r) (hir : i < r) (hb : ∀ k, i ≤ k → k < r → g k ≤ M) (hk : i ≤ k0) (hM : g k0 = M) : InfBest g M := by
  have per : ∀ s, q (i + s) = q (r + s) := fun s => by
    induction s with
    | zero => exact e
    | succ s ih => exact hq _ _ ih
  have per2 : ∀ k, i ≤ k → q (k + (r - i)) = q k := fun k h => by
    have := per (k - i)
    rw [show i + (k - i) = k from by omega, show r + (k - i) = k + (r - i) from by omega] at this
    exact this.symm
  have per3 : ∀ N, q (k0 + N * (r - i)) = q k0 := fun N => by
    induction N with
    | zero => rw [Nat.zero_mul]; rfl
    | succ N ih => rw [Nat.succ_mul, ← Nat.add_assoc, per2 _ (by omega), ih]
  have le : ∀ (f k : Nat), k ≤ f → i ≤ k → g k ≤ M := fun f => by
    induction f with
    | zero => intro k h1 h2; exact hb k h2 (by omega)
    | succ f ih =>
      intro k h1 h2
      by_cases c : k < r
      · exact hb k h2 c
      · have := per2 (k - (r - i)) (by omega)
        rw [show k - (r - i) + (r - i) = k from by omega] at this
        rw [hg _ _ this]
        exact ih _ (by omega) (by omega)
  refine ⟨fun N => ⟨k0 + N * (r - i), ?_, by rw [hg _ _ (per3 N)]; exact hM⟩, i, fun k h => le k k (Nat.le_refl _) h⟩
  have : N * 1 ≤ N * (r - i) := Nat.mul_le_mul_left _ (by omega)
  omega
/-! ## runs of parity automata -/
def mx (i j : Int) : Int := if j > i then j else i
theorem mx_le {i j : Int} : i ≤ mx i j ∧ j ≤ mx i j ∧ (mx i j = i ∨ mx i j = j) := by
  unfold mx
  split <;> omega
def stp (rs : List (List Int)) (s z : Int) : Int := (rs.getD s.toNat []).getD z.toNat 0
def gp (ps : List Int) (s : Int) : Int := ps.getD s.toNat 0
def run (rs : List (List Int)) (s : Int) (zs : List Int) : Int := zs.foldl (stp rs) s
def lb (rs : List (List Int)) (ps : List Int) : Int → List Int → Int → Int
  | _, [], b => b
  | s, z :: zs, b => lb rs ps (stp rs s z) zs (mx b (gp ps (stp rs s z)))
def qk (rs : List (List Int)) (ls : List Int) (s : Int) : Nat → Int
  | 0 => s
  | k + 1 => run rs (qk rs ls s k) ls
def gk (rs : List (List Int)) (ps ls : List Int) (s : Int) (k : Nat) : Int := lb rs ps (qk rs ls s k) ls 0
theorem run_snoc {rs : List (List Int)} {s z : Int} {zs : List Int} : run rs s (zs ++ [z]) = stp rs (run rs s zs) z := by
  unfold run; rw [List.foldl_append]; rfl
theorem lb_snoc {rs : List (List Int)} {ps : List Int} : ∀ {zs : List Int} {s z b : Int}, lb rs ps s (zs ++ [z]) b = mx (lb rs ps s zs b) (gp ps (stp rs (run rs s zs) z))
  | [], _, _, _ => rfl
  | y :: zs, s, z, b => by
    show lb rs ps (stp rs s y) (zs ++ [z]) _ = _
    rw [lb_snoc]; rfl
theorem lb_mx {rs : List (List Int)} {ps : List Int} : ∀ {zs : List Int} {s b : Int}, 0 ≤ b → lb rs ps s zs b = mx b (lb rs ps s zs 0) ∧ 0 ≤ lb rs ps s zs 0
  | [], s, b, hb => by refine ⟨?_, Int.le_refl _⟩; unfold lb mx; split <;> omega
  | z :: zs, s, b, hb => by
    have e1 := mx_le (i := b) (j := gp ps (stp rs s z))
    have e2 := mx_le (i := 0) (j := gp ps (stp rs s z))
    have i1 := lb_mx (rs := rs) (ps := ps) (zs := zs) (s := stp rs s z) (b := mx b (gp ps (stp rs s z))) (by omega)
    have i2 := lb_mx (rs := rs) (ps := ps) (zs := zs) (s := stp rs s z) (b := mx 0 (gp ps (stp rs s z))) (by omega)
    have e3 : lb rs ps s (z :: zs) b = lb rs ps (stp rs s z) zs (mx b (gp ps (stp rs s z))) := rfl
    have e4 : lb rs ps s (z :: zs) 0 = lb rs ps (stp rs s z) zs (mx 0 (gp ps (stp rs s z))) := rfl
    rw [e3, e4, i1.1, i2.1]
    generalize lb rs ps (stp rs s z) zs 0 = u at *
    generalize gp ps (stp rs s z) = w at *
    unfold mx
    refine ⟨?_, ?_⟩
    · repeat' split
      all_goals omega
    · repeat' split
      all_goals omega
theorem gk_pos {rs : List (List Int)} {ps ls : List Int} {s : Int} {k : Nat} : 0 ≤ gk rs ps ls s k := (lb_mx (b := 0) (Int.le_refl _)).2
theorem qk_next {rs : List (List Int)} {ls : List Int} {s : Int} {a b : Nat} (h : qk rs ls s a = qk rs ls s b) : qk rs ls s (a + 1) = qk rs ls s (b + 1) := by
  show run rs (qk rs ls s a) ls = run rs (qk rs ls s b) ls
  rw [h]
theorem gk_same {rs : List (List Int)} {ps ls : List Int} {s : Int} {a b : Nat} (h : qk rs ls s a = qk rs ls s b) : gk rs ps ls s a = gk rs ps ls s b := by
  unfold gk; rw [h]
/-- a lasso -/
structure LasAt (K : PySem.W.Frag) (H : Hp) (w : Addr) (hs ls : List Int) : Prop where
  ex : ∃ h l, SqT K H w [.ref h, .ref l] ∧ SqT K H h (iv hs) ∧ SqT K H l (iv ls)
theorem LasAt.mono {w : Addr} {hs ls : List Int} (e : Same H H') (h : LasAt K H w hs ls) : LasAt K H' w hs ls := by
  obtain ⟨h1, l, q1, q2, q3⟩ := h.ex
  exact ⟨⟨h1, l, tS e q1, tS e q2, tS e q3⟩⟩
theorem atI_rv {as : List Addr} {i : Int} {a : Addr} (h0 : 0 ≤ i) (h : as[i.toNat]? = some a) : atI (rv as) i = some (.ref a) := by
  have e : ((i.toNat : Nat) : Int) = i := by omega
  have q := atI_nat (xs := rv as) (j := i.toNat) (v := .ref a) (by rw [List.getElem?_map, h]; rfl)
  rw [e] at q
  exact q
theorem r_ifnn {k : Bool} {A B : Prop} (h : B) : RIf (decide (V.bl k = V.non)) A B := by rw [decide_eq_false (fun z => nomatch z)]; exact r_ifF h
end
end SL

set_option Elab.async false
set_option linter.all false
set_option maxRecDepth 100000
set_option maxHeartbeats 4000000
namespace LW
open PySem L2 SL
structure Pok (m st : Int) (ps : List Int) (rs : List (List Int)) : Prop where
  m1 : 1 ≤ m
  ne : 0 < rs.length
  pl : ps.length = rs.length
  s0 : 0 ≤ st
  s1 : st < rs.length
  pp : ∀ p ∈ ps, 0 ≤ p
  rr : ∀ r ∈ rs, (r.length : Int) = m ∧ ∀ x ∈ r, 0 ≤ x ∧ x < rs.length
def paF (m st : Int) (pa ra : Addr) : List (Str × V) := [("letters", .int m), ("start", .int st), ("priorities", .ref pa), ("rows", .ref ra)]
structure PaAt (K : PySem.W.Frag) (C : Addr) (F : Hp) (x : Addr) (m st : Int) (ps : List Int) (rs : List (List Int)) : Prop where
  ex : ∃ dx pa ra as, F x = some (.ins C dx (paF m st pa ra)) ∧ SqT K F pa (iv ps) ∧ SqT K F ra (rv as) ∧ Rows K F false as rs
abbrev dFields (m st : Int) (ps : List Int) (rs : List (List Int)) : PyData := .tuple [.int m, .int st, .list (dI ps), .list (rs.map (dRow true))]

structure Ads where
  a_check_letters : Addr
  fd_check_letters : FuncData
  a_ParityAutomaton_init : Addr
  fd_ParityAutomaton_init : FuncData
  a_accepts_parity : Addr
  fd_accepts_parity : FuncData
  a_complement_parity : Addr
  fd_complement_parity : FuncData
  a__law_cell : Addr
  fd__law_cell : FuncData
  a__law_draws : Addr
  fd__law_draws : FuncData
  a__law_take : Addr
  fd__law_take : FuncData
  a__law_lasso : Addr
  fd__law_lasso : FuncData
  a__law_flat : Addr
  fd__law_flat : FuncData
  a__law_parity : Addr
  fd__law_parity : FuncData
  a__law_best : Addr
  fd__law_best : FuncData
  a__law_outcome : Addr
  fd__law_outcome : FuncData
  a_law : Addr
  fd_law : FuncData
  C_SynthError : Addr
  C_InvalidLetter : Addr
  C_InvalidAutomaton : Addr
  C_ParityAutomaton : Addr
structure Cl (K : PySem.W.Frag) (A : Ads) : Prop where
  cl_ParityAutomaton : Cls K A.C_ParityAutomaton
  na_ParityAutomaton_letters : NoAttr K A.C_ParityAutomaton "letters"
  na_ParityAutomaton_start : NoAttr K A.C_ParityAutomaton "start"
  na_ParityAutomaton_priorities : NoAttr K A.C_ParityAutomaton "priorities"
  na_ParityAutomaton_rows : NoAttr K A.C_ParityAutomaton "rows"
  ty_ParityAutomaton : ∀ {H : Hp} {a dx : Addr} {fs : List (Str × V)}, H a = some (.ins A.C_ParityAutomaton dx fs) → TyX K H (.ref a) (.ref A.C_ParityAutomaton)
  em_InvalidAutomaton_InvalidLetter : PySem.W.exmOne K (.ref A.C_InvalidAutomaton) (.ref A.C_InvalidLetter) = some false
  em_InvalidLetter_InvalidLetter : PySem.W.exmOne K (.ref A.C_InvalidLetter) (.ref A.C_InvalidLetter) = some true
def sp_check_letters (K : PySem.W.Frag) (A : Ads) : Sp := fun vs H Q E => ∃ (w : Addr) (m : Int) (hs ls : List Int), vs = [.ref w, .int m] ∧ (LasAt K H w hs ls ∧ (∀ z ∈ hs, 0 ≤ z) ∧ (∀ z ∈ ls, 0 ≤ z) ∧ 0 < ls.length ∧ 1 ≤ m ∧ ((∀ z ∈ hs ++ ls, z < m) → Q .non H) ∧ (¬ (∀ z ∈ hs ++ ls, z < m) → E (.ref A.C_InvalidLetter) none H))
def sp_ParityAutomaton_init (K : PySem.W.Frag) (A : Ads) : Sp := fun vs H Q E => ∃ (F : Hp) (x dx a b : Addr) (kr ki : Bool) (as : List Addr) (m st : Int) (ps : List Int) (rs : List (List Int)), vs = [.ref x, .int m, .int st, .ref a, .ref b] ∧ (Same F H ∧ F x = none ∧ H x = some (.ins A.C_ParityAutomaton dx []) ∧ SqL K H a (iv ps) ∧ SqB K H b (rv as) kr ∧ Rows K H ki as rs ∧ (ki = false → Rows K F ki as rs) ∧ ps.length ≤ 1000 ∧ rs.length ≤ 1000 ∧ (Pok m st ps rs → ∀ F' H' pa ra as', GrB x F H F' H' → H' x = some (.ins A.C_ParityAutomaton dx (paF m st pa ra)) → F' pa = some (.tup (iv ps)) → F' ra = some (.tup (rv as')) → Rows K F' false as' rs → Q .non H') ∧ (¬ Pok m st ps rs → ∀ H', Same H H' → E (.ref A.C_InvalidAutomaton) none H'))
def sp_accepts_parity (K : PySem.W.Frag) (A : Ads) : Sp := fun vs H Q E => ∃ (x w : Addr) (m st : Int) (ps : List Int) (rs : List (List Int)) (hs ls : List Int), vs = [.ref x, .ref w] ∧ (PaAt K A.C_ParityAutomaton H x m st ps rs ∧ Pok m st ps rs ∧ ps.length ≤ 1000 ∧ rs.length ≤ 1000 ∧ LasAt K H w hs ls ∧ (∀ z ∈ hs, 0 ≤ z) ∧ (∀ z ∈ ls, 0 ≤ z) ∧ 0 < ls.length ∧ ((∀ z ∈ hs ++ ls, z < m) → ∃ M, InfBest (gk rs ps ls (run rs st hs)) M ∧ ∀ H', Same H H' → Q (.bl (decide (M % 2 = 0))) H') ∧ (¬ (∀ z ∈ hs ++ ls, z < m) → ∀ H', Same H H' → E (.ref A.C_InvalidLetter) none H'))
def sp_complement_parity (K : PySem.W.Frag) (A : Ads) : Sp := fun vs H Q E => ∃ (F : Hp) (x : Addr) (m st : Int) (ps : List Int) (rs : List (List Int)), vs = [.ref x] ∧ (Same F H ∧ PaAt K A.C_ParityAutomaton F x m st ps rs ∧ Pok m st ps rs ∧ ps.length ≤ 1000 ∧ rs.length ≤ 1000 ∧ ∀ F' H' y, Gr F H F' H' → PaAt K A.C_ParityAutomaton F' y m st (ps.map (· + 1)) rs → Q (.ref y) H')
def sp__law_cell (K : PySem.W.Frag) (A : Ads) : Sp := fun vs H Q E => ∃ (a : Addr) (ns : List Int) (i : Int), vs = [.ref a, .int i] ∧ (SqL K H a (iv ns) ∧ 0 ≤ i ∧ ∀ z, Q (.int z) H)
abbrev sp__law_draws (K : PySem.W.Frag) (A : Ads) : Sp := cp_draws K
abbrev sp__law_take (K : PySem.W.Frag) (A : Ads) : Sp := cp_take K
def sp__law_lasso (K : PySem.W.Frag) (A : Ads) : Sp := fun vs H Q E => ∃ (F : Hp) (p : Addr) (ds : List Int) (m mo : Int), vs = [.ref p, .int m, .int mo] ∧ (Same F H ∧ F p = none ∧ H p = some (.lst (iv ds)) ∧ Dok ds ∧ 1 ≤ m ∧ 1 ≤ mo ∧ mo ≤ 10 ∧ ∀ F' H' ds' w hs ls, Dok ds' → LasAt K F' w hs ls → (∀ z ∈ hs, 0 ≤ z ∧ z < m) → (∀ z ∈ ls, 0 ≤ z ∧ z < m) → 0 < ls.length → ls.length ≤ 10 → hs.length ≤ 10 → St ⟨F, del H p⟩ F' H' [(p, .lst (iv ds'))] → Q (.ref w) H')
def sp__law_flat (K : PySem.W.Frag) (A : Ads) : Sp := fun vs H Q E => ∃ (a : Addr) (as : List Addr) (rs : List (List Int)), vs = [.ref a] ∧ (SqL K H a (rv as) ∧ Rows K H true as rs ∧ rs.length ≤ 1000 ∧ ∀ H' b bs, bs.length = rs.length → Own H H' ((b, .lst (rv bs)) :: rowL bs rs) → Q (.ref b) H')
def sp__law_parity (K : PySem.W.Frag) (A : Ads) : Sp := fun vs H Q E => ∃ (p : Addr) (ds : List Int) (m mo : Int), vs = [.ref p, .int m, .int mo] ∧ (H p = some (.lst (iv ds)) ∧ Dok ds ∧ 1 ≤ m ∧ m ≤ 10 ∧ 1 ≤ mo ∧ mo ≤ 10 ∧ ∀ H' ds' t a b bs st ps rs, Dok ds' → Pok m st ps rs → (rs.length : Int) ≤ mo → bs.length = rs.length → OwnB p H H' (.lst (iv ds')) ((t, .tup [.int st, .ref a, .ref b]) :: (b, .lst (rv bs)) :: (a, .lst (iv ps)) :: rowL bs rs) → Q (.ref t) H')
def sp__law_best (K : PySem.W.Frag) (A : Ads) : Sp := fun vs H Q E => ∃ (a b w : Addr) (as : List Addr) (m st : Int) (ps : List Int) (rs : List (List Int)) (hs ls : List Int), vs = [.int st, .ref a, .ref b, .ref w] ∧ (SqL K H a (iv ps) ∧ SqL K H b (rv as) ∧ Rows K H true as rs ∧ Pok m st ps rs ∧ ps.length ≤ 1000 ∧ rs.length ≤ 1000 ∧ LasAt K H w hs ls ∧ (∀ z ∈ hs, 0 ≤ z) ∧ (∀ z ∈ ls, 0 ≤ z) ∧ 0 < ls.length ∧ (∀ z ∈ hs ++ ls, z < m) ∧ ∀ M, InfBest (gk rs ps ls (run rs st hs)) M → Q (.int M) H)
def sp__law_outcome (K : PySem.W.Frag) (A : Ads) : Sp := fun vs H Q E => ∃ (x w : Addr) (m st : Int) (ps : List Int) (rs : List (List Int)) (hs ls : List Int), vs = [.ref x, .ref w] ∧ (PaAt K A.C_ParityAutomaton H x m st ps rs ∧ Pok m st ps rs ∧ ps.length ≤ 1000 ∧ rs.length ≤ 1000 ∧ LasAt K H w hs ls ∧ (∀ z ∈ hs, 0 ≤ z) ∧ (∀ z ∈ ls, 0 ≤ z) ∧ 0 < ls.length ∧ ((∀ z ∈ hs ++ ls, z < m) → ∃ M, InfBest (gk rs ps ls (run rs st hs)) M ∧ ∀ H', Same H H' → Q (.bl (decide (M % 2 = 0))) H') ∧ (¬ (∀ z ∈ hs ++ ls, z < m) → ∀ H', Same H H' → Q .non H'))
abbrev sp_law (K : PySem.W.Frag) (A : Ads) : Sp := spL K
def t_check_letters (K : PySem.W.Frag) (A : Ads) (E : XK) : TS := (tSeq (tAsg (tVar 0) (gTup K 2 (gCons (gName 2) (gCons (gName 3) gNil))))
 (tIfS (tOr (tTest (tOp rGeI (tCB (rB_max K) (tCons (tVar 3) tNil)) (tVar 1))) (tTest (tOp rGeI (tCKw (rD_max K) (tCons (tVar 2) tNil) (tCons (tC (.int (0))) tNil)) (tVar 1)))) (tRs A.C_InvalidLetter E) tNext))
def t_ParityAutomaton_init (K : PySem.W.Frag) (A : Ads) (E : XK) : TS := (tSeq (tIfS (tOr (tTest (tOp rLtI (tVar 1) (tC (.int (1))))) (tOr (tTest (tOp rEq (tCB (rLen K) (tCons (tVar 4) tNil)) (tC (.int (0))))) (tTest (tOp rNe (tCB (rLen K) (tCons (tVar 3) tNil)) (tCB (rLen K) (tCons (tVar 4) tNil)))))) (tRs A.C_InvalidAutomaton E) tNext)
 (tSeq (tIfS (tOr (tTest (tOp rLtI (tVar 2) (tC (.int (0))))) (tOr (tTest (tOp rGeI (tVar 2) (tCB (rLen K) (tCons (tVar 4) tNil)))) (tTest (tOp rLtI (tCB (rB_min K) (tCons (tVar 3) tNil)) (tC (.int (0))))))) (tRs A.C_InvalidAutomaton E) tNext)
 (tSeq (tFor (iSeq K (tVar 4)) (gName 5) (tIfS (tOr (tTest (tOp rNe (tCB (rLen K) (tCons (tVar 5) tNil)) (tVar 1))) (tOr (tTest (tOp rLtI (tCB (rB_min K) (tCons (tVar 5) tNil)) (tC (.int (0))))) (tTest (tOp rGeI (tCB (rB_max K) (tCons (tVar 5) tNil)) (tCB (rLen K) (tCons (tVar 4) tNil)))))) (tRs A.C_InvalidAutomaton E) tNext))
 (tSeq (sFld K (tVar 0) (tVar 1) "letters")
 (tSeq (sFld K (tVar 0) (tVar 2) "start")
 (tSeq (sFld K (tVar 0) (tCB (rTupOf K) (tCons (tVar 3) tNil)) "priorities")
 (sFld K (tVar 0) (tCB (rTupOf K) (tCons (tLc (iSeq K (tVar 4)) (gName 5) tYes (tCB (rTupOf K) (tCons (tVar 5) tNil)) [5]) tNil)) "rows")))))))
def t_accepts_parity (K : PySem.W.Frag) (A : Ads) (E : XK) : TS := (tSeq (tDrop (tCall (sp_check_letters K A) [] E (tCons (tVar 1) (tCons (tFld K (tVar 0) "letters") tNil))))
 (tSeq (tAsg (tVar 1) (gTup K 2 (gCons (gName 2) (gCons (gName 3) gNil))))
 (tSeq (tAsg (tFld K (tVar 0) "start") (gName 4))
 (tSeq (tFor (iTup K (tVar 2)) (gName 5) (tAsg (tOp (rIxT K) (tOp (rIxT K) (tFld K (tVar 0) "rows") (tVar 4)) (tVar 5)) (gName 4)))
 (tSeq (tAsg (tLst tNil) (gName 6))
 (tSeq (tAsg tDNewK (gName 7))
 (tSeq (tWhile (tB (tDNotIn (tVar 4) (tVar 7))) (tSeq (sDPut (tVar 7) (tVar 4) (tCB (rLen K) (tCons (tVar 6) tNil)))
 (tSeq (tAsg (tC (.int (0))) (gName 8))
 (tSeq (tFor (iTup K (tVar 3)) (gName 5) (tSeq (tAsg (tOp (rIxT K) (tOp (rIxT K) (tFld K (tVar 0) "rows") (tVar 4)) (tVar 5)) (gName 4))
 (tAsg (tCB rMax2 (tCons (tVar 8) (tCons (tOp (rIxT K) (tFld K (tVar 0) "priorities") (tVar 4)) tNil))) (gName 8))))
 (tDrop (tBM K "list" rAppend (tVar 6) (tCons (tVar 8) tNil)))))))
 (tRet (tOp rEq (tOp rModI (tCB (rB_max K) (tCons (tSl (rSlL K) (tVar 6) (tPart (tDGet (tVar 7) (tVar 4))) tNoPart) tNil)) (tC (.int (2)))) (tC (.int (0))))))))))))
def t_complement_parity (K : PySem.W.Frag) (A : Ads) (E : XK) : TS := (tSeq (tAsg (tLc (iTup K (tFld K (tVar 0) "priorities")) (gName 1) tYes (tOp rAddI (tVar 1) (tC (.int (1)))) [1]) (gName 2))
 (tRet (tMake A.C_ParityAutomaton (sp_ParityAutomaton_init K A) [] E0 (tCons (tFld K (tVar 0) "letters") (tCons (tFld K (tVar 0) "start") (tCons (tVar 2) (tCons (tFld K (tVar 0) "rows") tNil)))))))
def t__law_cell (K : PySem.W.Frag) (A : Ads) (E : XK) : TS := (tSeq (tIfS (tTest (tOp rLtI (tVar 1) (tCB (rLen K) (tCons (tVar 0) tNil)))) (tRet (tOp (rIxL K) (tVar 0) (tVar 1))) tNext)
 (tRet (tC (.int (0)))))
def t__law_draws (K : PySem.W.Frag) (A : Ads) (E : XK) : TS := (tSeq (tAsg (tCB (rListOf K) (tCons (tVar 0) tNil)) (gName 2))
 (tSeq (tIfS (tTest (tOp rEq (tCB (rLen K) (tCons (tVar 2) tNil)) (tC (.int (0))))) (tAsg (tLst (tCons (tC (.int (7))) tNil)) (gName 2)) tNext)
 (tSeq (tAsg (tLst tNil) (gName 3))
 (tSeq (tAsg (tC (.int (12345))) (gName 4))
 (tSeq (tFor (iRng1 (tCons (tVar 1) tNil)) (gName 5) (tSeq (tAsg (tOp rModI (tVar 5) (tCB (rLen K) (tCons (tVar 2) tNil))) (gName 6))
 (tSeq (tAsg (tOp (rIxL K) (tVar 2) (tVar 6)) (gName 7))
 (tSeq (tAsg (tOp rModI (tCB rInt1 (tCons (tOp rAddI (tOp rAddI (tOp rAddI (tOp rMulI (tVar 4) (tC (.int (48271)))) (tOp rMulI (tOp rModI (tCB rInt1 (tCons (tVar 7) tNil)) (tC (.int (1000003)))) (tC (.int (69621))))) (tOp rMulI (tVar 5) (tC (.int (7919))))) (tC (.int (11)))) tNil)) (tC (.int (2147483647)))) (gName 4))
 (tSeq (tAsg (tOp rModI (tCB rInt1 (tCons (tOp rAddI (tOp rAddI (tOp rMulI (tVar 4) (tVar 4)) (tOp rMulI (tC (.int (31))) (tVar 4))) (tVar 5)) tNil)) (tC (.int (1000003)))) (gName 8))
 (tIfS (tTest (tOp rGeI (tVar 7) (tOp rPowI (tC (.int (10))) (tC (.int (18)))))) (tSeq (tDrop (tBM K "list" rAppend (tVar 3) (tCons (tOp rModI (tCB rInt1 (tCons (tVar 7) tNil)) (tC (.int (1000)))) tNil)))
 (tAsg (tOp rDivI (tVar 7) (tC (.int (1000)))) (gSub (tVar 2) (tVar 6) rSetL))) (tDrop (tBM K "list" rAppend (tVar 3) (tCons (tOp rModI (tCB rInt1 (tCons (tVar 8) tNil)) (tC (.int (1000)))) tNil)))))))))
 (tSeq (tDrop (tBM0 K "list" rReverse (tVar 3)))
 (tRet (tVar 3))))))))
def t__law_take (K : PySem.W.Frag) (A : Ads) (E : XK) : TS := (tSeq (tIfS (tTest (tOp rEq (tCB (rLen K) (tCons (tVar 0) tNil)) (tC (.int (0))))) (tRet (tC (.int (0)))) tNext)
 (tRet (tOp rModI (tCB rInt1 (tCons (tBM0 K "list" rPop (tVar 0)) tNil)) (tVar 1))))
def t__law_lasso (K : PySem.W.Frag) (A : Ads) (E : XK) : TS := (tSeq (tAsg (tLc (iRng1 (tCons (tCall (sp__law_take K A) [] E0 (tCons (tVar 0) (tCons (tOp rAddI (tVar 2) (tC (.int (1)))) tNil))) tNil)) (gName 3) tYes (tCall (sp__law_take K A) [] E0 (tCons (tVar 0) (tCons (tVar 1) tNil))) [3]) (gName 4))
 (tSeq (tAsg (tLc (iRng1 (tCons (tOp rAddI (tC (.int (1))) (tCall (sp__law_take K A) [] E0 (tCons (tVar 0) (tCons (tVar 2) tNil)))) tNil)) (gName 3) tYes (tCall (sp__law_take K A) [] E0 (tCons (tVar 0) (tCons (tVar 1) tNil))) [3]) (gName 5))
 (tRet (tTup (tCons (tCB (rTupOf K) (tCons (tVar 4) tNil)) (tCons (tCB (rTupOf K) (tCons (tVar 5) tNil)) tNil))))))
def t__law_flat (K : PySem.W.Frag) (A : Ads) (E : XK) : TS := (tRet (tLc (iList K (tVar 0)) (gName 1) tYes (tCB (rListOf K) (tCons (tVar 1) tNil)) [1]))
def t__law_parity (K : PySem.W.Frag) (A : Ads) (E : XK) : TS := (tSeq (tAsg (tOp rAddI (tC (.int (1))) (tCall (sp__law_take K A) [] E0 (tCons (tVar 0) (tCons (tVar 2) tNil)))) (gName 3))
 (tSeq (tAsg (tOp rAddI (tC (.int (1))) (tCall (sp__law_take K A) [] E0 (tCons (tVar 0) (tCons (tC (.int (4))) tNil)))) (gName 4))
 (tSeq (tAsg (tLc (iRng1 (tCons (tVar 3) tNil)) (gName 5) tYes (tCall (sp__law_take K A) [] E0 (tCons (tVar 0) (tCons (tVar 4) tNil))) [5]) (gName 6))
 (tSeq (tAsg (tLst tNil) (gName 7))
 (tSeq (tFor (iRng1 (tCons (tVar 3) tNil)) (gName 5) (tDrop (tBM K "list" rAppend (tVar 7) (tCons (tLc (iRng1 (tCons (tVar 1) tNil)) (gName 8) tYes (tCall (sp__law_take K A) [] E0 (tCons (tVar 0) (tCons (tVar 3) tNil))) [8]) tNil))))
 (tRet (tTup (tCons (tCall (sp__law_take K A) [] E0 (tCons (tVar 0) (tCons (tVar 3) tNil))) (tCons (tVar 6) (tCons (tVar 7) tNil))))))))))
def t__law_best (K : PySem.W.Frag) (A : Ads) (E : XK) : TS := (tSeq (tAsg (tVar 0) (gName 4))
 (tSeq (tFor (iTup K (tOp (rIxT K) (tVar 3) (tC (.int (0))))) (gName 5) (tAsg (tOp (rIxL K) (tOp (rIxL K) (tVar 2) (tVar 4)) (tVar 5)) (gName 4)))
 (tSeq (tFor (iRng1 (tCons (tCB (rLen K) (tCons (tVar 2) tNil)) tNil)) (gName 6) (tFor (iTup K (tOp (rIxT K) (tVar 3) (tC (.int (1))))) (gName 5) (tAsg (tOp (rIxL K) (tOp (rIxL K) (tVar 2) (tVar 4)) (tVar 5)) (gName 4))))
 (tSeq (tAsg (tC (.int (0))) (gName 7))
 (tSeq (tFor (iRng1 (tCons (tCB (rLen K) (tCons (tVar 2) tNil)) tNil)) (gName 6) (tFor (iTup K (tOp (rIxT K) (tVar 3) (tC (.int (1))))) (gName 5) (tSeq (tAsg (tOp (rIxL K) (tOp (rIxL K) (tVar 2) (tVar 4)) (tVar 5)) (gName 4))
 (tAsg (tCB rMax2 (tCons (tVar 7) (tCons (tOp (rIxL K) (tVar 1) (tVar 4)) tNil))) (gName 7)))))
 (tRet (tVar 7)))))))
def t__law_outcome (K : PySem.W.Frag) (A : Ads) (E : XK) : TS := (tSeq (fun D σ H => (fun W : WX => (tAsg (tCallS (sp_accepts_parity K A) (WE W) (tCons (tVar 0) (tCons (tVar 1) tNil))) (gName 2))) (wMany K (fun _ _ _ _ => False) D [(.ref A.C_InvalidLetter, fun a cls d => (tRet (tC .non)))]) D σ H)
 (tRet (tIf (tTest (tOp rIsNone (tVar 2) (tC .non))) (tC (.str "nothing")) (tVar 2))))
def t_law_6 (K : PySem.W.Frag) (A : Ads) (E : XK) : TS := (tSeq (tIfS (tTest (tOp rEq (tCall (sp__law_take K A) [] E0 (tCons (tVar 1) (tCons (tC (.int (8))) tNil))) (tC (.int (0))))) (tSeq (tAsg (tOp rCat (tCB (rListOf K) (tCons (tOp (rIxT K) (tVar 9) (tC (.int (1)))) tNil)) (tLst (tCons (tOp rAddI (tVar 2) (tCall (sp__law_take K A) [] E0 (tCons (tVar 1) (tCons (tC (.int (2))) tNil)))) tNil))) (gName 10))
 (tRet (tOp rIsNone (tCall (sp__law_outcome K A) [] E0 (tCons (tVar 8) (tCons (tTup (tCons (tOp (rIxT K) (tVar 9) (tC (.int (0)))) (tCons (tCB (rTupOf K) (tCons (tVar 10) tNil)) tNil))) tNil))) (tC .non)))) tNext)
 (tSeq (tAsg (tOp rEq (tOp rModI (tCB rInt1 (tCons (tCall (sp__law_best K A) [] E0 (tCons (tVar 3) (tCons (tVar 4) (tCons (tVar 5) (tCons (tVar 9) tNil))))) tNil)) (tC (.int (2)))) (tC (.int (0)))) (gName 11))
 (tSeq (tAsg (tCall (sp__law_outcome K A) [] E0 (tCons (tVar 8) (tCons (tVar 9) tNil))) (gName 12))
 (tSeq (tIfS (tOr (tNot (tB (tCB (rIsi K) (tCons (tVar 12) (tCons (tC (.ty "bool")) tNil))))) (tTest (tOp rNe (tVar 12) (tVar 11)))) (tRet (tC (.bl false))) tNext)
 (tSeq (tAsg (tCall (sp__law_outcome K A) [] E0 (tCons (tCall (sp_complement_parity K A) [] E0 (tCons (tVar 8) tNil)) (tCons (tVar 9) tNil))) (gName 13))
 (tRet (tAndV (tCB (rIsi K) (tCons (tVar 13) (tCons (tC (.ty "bool")) tNil))) (tOp rNe (tVar 13) (tVar 11)))))))))
def t_law_4 (K : PySem.W.Frag) (A : Ads) (E : XK) : TS := (tSeq (tAsg (tMake A.C_ParityAutomaton (sp_ParityAutomaton_init K A) [] E0 (tCons (tVar 2) (tCons (tVar 3) (tCons (tCB (rListOf K) (tCons (tVar 4) tNil)) (tCons (tCall (sp__law_flat K A) [] E0 (tCons (tVar 5) tNil)) tNil))))) (gName 8))
 (tSeq (tAsg (tCall (sp__law_lasso K A) [] E0 (tCons (tVar 1) (tCons (tVar 2) (tCons (tC (.int (4))) tNil)))) (gName 9))
 (t_law_6 K A E)))
def t_law (K : PySem.W.Frag) (A : Ads) (E : XK) : TS := (tSeq (tAsg (tCall (sp__law_draws K A) [] E0 (tCons (tVar 0) (tCons (tC (.int (100))) tNil))) (gName 1))
 (tSeq (tAsg (tOp rAddI (tC (.int (1))) (tCall (sp__law_take K A) [] E0 (tCons (tVar 1) (tCons (tC (.int (3))) tNil)))) (gName 2))
 (tSeq (tAsg (tCall (sp__law_parity K A) [] E0 (tCons (tVar 1) (tCons (tVar 2) (tCons (tC (.int (6))) tNil)))) (gTup K 3 (gCons (gName 3) (gCons (gName 4) (gCons (gName 5) gNil)))))
 (tSeq (tIfS (tTest (tOp rEq (tCall (sp__law_take K A) [] E0 (tCons (tVar 1) (tCons (tC (.int (4))) tNil))) (tC (.int (0))))) (tSeq (tAsg (tOp rMulI (tOp rModI (tCB rInt1 (tCons (tCall (sp__law_cell K A) [] E0 (tCons (tVar 0) (tCons (tC (.int (0))) tNil))) tNil)) (tOp rPowI (tC (.int (10))) (tC (.int (19))))) (tC (.int (2)))) (gName 6))
 (tAsg (tLc (iList K (tVar 4)) (gName 7) tYes (tOp rAddI (tVar 7) (tVar 6)) [7]) (gName 4))) tNext)
 (t_law_4 K A E)))))

section

set_option hygiene false
local macro_rules | `(tactic| walk_at "m") => `(tactic| first | exact List.Mem.head _ | (refine List.Mem.tail _ ?_; walk_at "m"))
local macro_rules | `(tactic| walk_at "u") => `(tactic| first | exact Upd.head | (apply Upd.tail; walk_at "u"))
local macro_rules | `(tactic| walk_at "tk") => `(tactic| first | exact Tak.head | (apply Tak.tail; walk_at "tk"))
local macro_rules | `(tactic| walk_at "l") => `(tactic| first | assumption | exact lS (St.fh (by assumption)) (by assumption) | exact SqL.of (St.get (by assumption) (by walk_at "m")))
local macro_rules | `(tactic| walk_at "t") => `(tactic| first | assumption | exact tS (St.fh (by assumption)) (by assumption) | exact SqT.of (St.get (by assumption) (by walk_at "m")))
local macro_rules | `(tactic| walk_at "lt") => `(tactic| first | exact .inl (by walk_at "l") | exact .inr (by walk_at "t"))
local macro_rules | `(tactic| walk_at "sz") => `(tactic| first | (show _ ≤ sizeLine; decide) | exact sz (by simp) | exact szl (by simp) | exact sz (by omega) | exact szl (by omega) | exact sz (by simp; omega) | exact szl (by simp; omega))
local macro_rules | `(tactic| walk_at "c") => `(tactic| first | assumption | decide | omega)
local macro_rules | `(tactic| walk_at "g1") => `(tactic| with_reducible first
  | refine w_seq ?_ | refine w_asg ?_ | refine w_c ?_ | refine w_op ?_
  | refine r_I0 ?_ | refine w_test ?_ | refine r_b ?_ | refine w_if ?_ | refine w_cons ?_ | refine w_nil ?_
  | refine w_ret ?_ | refine w_drop ?_ | refine w_cb ?_ | refine w_call ?_ | refine w_next ?_ | refine w_tup ?_ | refine w_lst ?_ | refine w_bm ?_ | refine w_bm0 ?_
  | refine w_and ?_ | refine w_or ?_ | refine w_not ?_ | refine w_andV ?_ | refine w_orV ?_ | refine w_notV ?_ | refine w_tB ?_ | refine w_un ?_ | refine r_U ?_
  | refine w_for ?_ | refine w_iL ?_ | refine w_iT ?_ | refine w_i1 ?_ | refine w_i2 ?_ | refine w_sl ?_ | refine w_part ?_ | refine w_nopart ?_ | refine r_part ?_
  | refine r_eqI ?_ | refine r_neI ?_ | refine r_eqS ?_ | refine r_neS ?_ | refine r_eqB ?_ | refine r_neB ?_ | refine r_ifT ?_ | refine r_ifF ?_ | refine r_ifNt ?_ | refine r_ifNf ?_ | refine r_ifRN ?_ | refine r_ifNRN ?_ | refine r_ifNN ?_ | refine r_ifNNN ?_
  | refine w_ifE ?_ | refine r_int1 ?_ | refine r_int1b ?_ | refine r_isnone ?_ | refine r_notnone ?_ | refine r_max2 ?_ | refine r_min2 ?_ | refine r_ipI ?_ | refine w_tru ?_ | refine w_rs ?_
  | refine w_retN ?_ | refine w_break ?_ | refine w_cont ?_ | refine w_callS ?_ | refine w_asgG ?_ | refine w_gsub ?_ | refine w_fld ?_ | refine w_sfld ?_ | refine w_mk ?_ | refine w_lc ?_ | refine w_iSq ?_ | refine u_isint ?_ | refine w_dnew ?_ | refine w_dnotin ?_ | refine w_din ?_ | refine w_dget ?_ | refine w_dput ?_ | refine w_ckw ?_)
local macro_rules | `(tactic| walk_at "g2") => `(tactic| first
  | ((with_reducible refine' w_var ?hv ?_); (case hv => rfl)) | ((with_reducible refine' w_aug ?hv ?_); (case hv => rfl))
  | ((with_reducible show rLen _ _ _ _); refine r_len (by walk_at "lt") ?_)
  | (with_reducible refine r_I ?cnd ?_; (case cnd => first | decide | omega | assumption | (unfold CPow; decide)))
  | ((with_reducible show RTy _ _ _ _ _); refine r_tyL (by walk_at "l") ?_)
  | (with_reducible refine r_ifDT (by walk_at "c") ?_) | (with_reducible refine r_ifDF (by walk_at "c") ?_)
  | (with_reducible refine r_ifNT (by walk_at "c") ?_) | (with_reducible refine r_ifNF (by walk_at "c") ?_))
local macro_rules | `(tactic| walk_at "go") => `(tactic| repeat (first | walk_at "g1" | walk_at "g2"))

variable {vs : List V} {H : Hp} {Q : VK} {E : XK} {K : PySem.W.Frag} {A : Ads}
theorem p__law_draws (T : Cl K A) (h : sp__law_draws K A vs H Q E) : t__law_draws K A E (D0 Q) (start ["script", "count", "cells", "found", "mixed", "k", "j", "cell", "again"] vs) H := cv_draws (E := E) h
theorem p__law_take (T : Cl K A) (h : sp__law_take K A vs H Q E) : t__law_take K A E (D0 Q) (start ["draws", "limit"] vs) H := cv_take (E := E) h
theorem PaAt.mono {C x : Addr} {F F' : Hp} {m st : Int} {ps : List Int} {rs : List (List Int)} (e : Same F F') (h : PaAt K C F x m st ps rs) : PaAt K C F' x m st ps rs := by
  obtain ⟨dx, pa, ra, as, h1, h2, h3, h4⟩ := h.ex
  exact ⟨⟨dx, pa, ra, as, e _ _ h1, tS e h2, tS e h3, h4.mono e⟩⟩
theorem lk_letters {m st : Int} {pa ra : Addr} : (paF m st pa ra).lookup ("letters" : Str) = some (.int m) := rfl
theorem lk_start {m st : Int} {pa ra : Addr} : (paF m st pa ra).lookup ("start" : Str) = some (.int st) := rfl
theorem lk_prio {m st : Int} {pa ra : Addr} : (paF m st pa ra).lookup ("priorities" : Str) = some (.ref pa) := rfl
theorem lk_rows {m st : Int} {pa ra : Addr} : (paF m st pa ra).lookup ("rows" : Str) = some (.ref ra) := rfl
theorem p_ParityAutomaton_init (T : Cl K A) (h : sp_ParityAutomaton_init K A vs H Q E) : t_ParityAutomaton_init K A E (D0 Q) (start ["self", "letters", "start", "priorities", "rows", "row"] vs) H := by
  obtain ⟨F, x, dx, a, b, kr, ki, as, m, st, ps, rs, rfl, sF, fx, hx, ha0, hb0, hr0, hrF, lp, lr, k1, k2⟩ := h
  have G := St.init1 sF hx fx
  have ha : SqL K (del H x) a (iv ps) := sq_del (k := true) hx ha0
  have hb := sq_del hx hb0
  have hr := hr0.del hx
  have al := hr.len
  unfold t_ParityAutomaton_init
  show tSeq _ _ (D0 Q) [some (.ref x), some (.int m), some (.int st), some (.ref a), some (.ref b), none] H
  unfold D0
  have bad : ∀ {F1 H1 : Hp} {L1 : Led}, St ⟨F, del H x⟩ F1 H1 L1 → (x, HO.ins A.C_ParityAutomaton dx []) ∈ L1 → ¬ Pok m st ps rs → E (.ref A.C_InvalidAutomaton) none H1 := fun G1 m1 np => k2 np _ (G1.same1 m1 hx)
  walk_at "go"
  refine r_ifD (fun h1 => ?_) (fun h1 => ?_)
  · walk_at "go"
    exact bad G (by walk_at "m") fun p => by have := p.m1; omega
  walk_at "go"
  refine r_len (qor hb0) ?_
  rw [rv_len, al]
  walk_at "go"
  refine r_ifD (fun h2 => ?_) (fun h2 => ?_)
  · walk_at "go"
    exact bad G (by walk_at "m") fun p => by have := p.ne; omega
  walk_at "go"
  refine r_len (qor hb0) ?_
  rw [rv_len, al, iv_len]
  walk_at "go"
  refine r_ifN (fun h3 => ?_) (fun h3 => ?_)
  · walk_at "go"
    exact bad G (by walk_at "m") fun p => by have := p.pl; omega
  walk_at "go"
  refine r_ifD (fun h4 => ?_) (fun h4 => ?_)
  · walk_at "go"
    exact bad G (by walk_at "m") fun p => by have := p.s0; omega
  walk_at "go"
  refine r_len (qor hb0) ?_
  rw [rv_len, al]
  walk_at "go"
  refine r_ifD (fun h5 => ?_) (fun h5 => ?_)
  · walk_at "go"
    exact bad G (by walk_at "m") fun p => by have := p.s1; omega
  walk_at "go"
  refine r_minB (k := true) (ns := ps) ha0 (by omega) fun mi mi1 mi2 => ?_
  walk_at "go"
  refine r_ifD (fun h6 => ?_) (fun h6 => ?_)
  · walk_at "go"
    exact bad G (by walk_at "m") fun p => by have := p.pp mi mi1; omega
  walk_at "go"
  refine r_isq hb0 ?_
  refine r_forB (xs := rv as) (fun i σ H' => (∃ v, σ = [some (.ref x), some (.int m), some (.int st), some (.ref a), some (.ref b), v]) ∧ St ⟨F, del H x⟩ F H' [(x, .ins A.C_ParityAutomaton dx [])] ∧ ∀ r ∈ rs.take i, (r.length : Int) = m ∧ ∀ x ∈ r, 0 ≤ x ∧ x < rs.length)
    ⟨⟨_, rfl⟩, G, fun _ h => by simp at h⟩ (fun _ _ _ _ h => qS h.2.1.bh hb) ?_ ?_
  · rintro i y σ H' hi ⟨⟨v, rfl⟩, G1, hok⟩
    obtain ⟨ra, hi1, rfl⟩ := rv_get hi
    obtain ⟨r0, hr1, hs⟩ := hr.at hi1
    have hs' := qS G1.bh hs
    have hm : r0 ∈ rs := List.mem_of_getElem? hr1
    walk_at "go"
    refine r_len (qor hs') ?_
    rw [iv_len]
    walk_at "go"
    refine r_ifN (fun h7 => ?_) (fun h7 => ?_)
    · walk_at "go"
      exact bad G1 (by walk_at "m") fun p => h7 (p.rr r0 hm).1
    walk_at "go"
    refine r_minB hs' (by omega) fun mn mn1 mn2 => ?_
    walk_at "go"
    refine r_ifD (fun h8 => ?_) (fun h8 => ?_)
    · walk_at "go"
      exact bad G1 (by walk_at "m") fun p => by have := ((p.rr r0 hm).2 mn mn1).1; omega
    walk_at "go"
    refine r_maxB hs' (by omega) fun mx mx1 mx2 => ?_
    walk_at "go"
    refine r_len (qor (qS G1.bh hb)) ?_
    rw [rv_len, al]
    walk_at "go"
    refine r_ifD (fun h9 => ?_) (fun h9 => ?_)
    · walk_at "go"
      exact bad G1 (by walk_at "m") fun p => by have := ((p.rr r0 hm).2 mx mx1).2; omega
    walk_at "go"
    refine ⟨⟨_, rfl⟩, G1, fun r hr' => ?_⟩
    rw [take_snoc hr1] at hr'
    rcases List.mem_append.mp hr' with q | q
    · exact hok r q
    · rw [List.mem_singleton.mp q]
      refine ⟨h7, fun z hz => ?_⟩
      have q1 := mn2 z hz
      have q2 := mx2 z hz
      omega
  rintro σ H1 ⟨⟨v, rfl⟩, G1, hok⟩
  rw [rv_len, al, List.take_length] at hok
  have OK : Pok m st ps rs := ⟨by omega, by omega, by omega, by omega, by omega, fun p hp => by have := mi2 p hp; omega, hok⟩
  walk_at "go"
  refine r_sfld G1 T.cl_ParityAutomaton T.na_ParityAutomaton_letters (fs' := [("letters", .int m)]) (by walk_at "u") rfl (by show 0 < 1000; decide) fun H2 G2 => ?_
  walk_at "go"
  refine r_sfld G2 T.cl_ParityAutomaton T.na_ParityAutomaton_start (fs' := [("letters", .int m), ("start", .int st)]) (by walk_at "u") rfl (by show 1 < 1000; decide) fun H3 G3 => ?_
  walk_at "go"
  refine r_tupofL G3 (lS G3.bh ha) fun pa H4 G4 => ?_
  walk_at "go"
  refine r_sfld G4 T.cl_ParityAutomaton T.na_ParityAutomaton_priorities (fs' := [("letters", .int m), ("start", .int st), ("priorities", .ref pa)]) (by walk_at "u") rfl (by show 2 < 1000; decide) fun H5 G5 => ?_
  walk_at "go"
  walk_at "go"
  refine r_isq (qS G5.bh hb) ?_
  obtain ⟨F1, s1, hpa, G6⟩ := G5.frz Tak.head
  refine r_lcB (xs := rv as) G6 (fun D i H' => ∃ F' as', Same F1 F' ∧ St ⟨F, del H x⟩ F' H' ((D, .lst (rv as')) :: _) ∧ Rows K F' false as' (rs.take i) ∧ as'.length ≤ i) (fun D H' G' => ⟨F1, [], Same.refl _, G', .nil, Nat.le_refl _⟩)
    (fun D i H' _ h => by obtain ⟨F', as', _, G', _, _⟩ := h; exact qS G'.bh hb) ?_ ?_
  · rintro D i y H' hi ⟨F', as', sF', G7, hR, hla⟩
    obtain ⟨ra, hi1, rfl⟩ := rv_get hi
    obtain ⟨r0, hr1, hs⟩ := hr.at hi1
    have hi2 : i < rs.length := (List.getElem?_eq_some_iff.mp hr1).1
    walk_at "go"
    cases ki with
    | true =>
      refine r_tupofL G7 (lS G7.bh hs) fun t H8 G8 => ?_
      obtain ⟨F2, s2, ht, G9⟩ := G8.frz Tak.head
      refine r_app G9 Upd.head (szl (by rw [rv_len]; omega)) fun H10 G10 => ?_
      refine ⟨F2, as' ++ [t], sF'.trans s2, ?_, ?_, by simp; omega⟩
      · rw [show rv (as' ++ [t]) = rv as' ++ [V.ref t] from by simp]; exact G10
      · rw [take_snoc hr1]; exact (hR.mono s2).snoc (show SqT K F2 t (iv r0) from SqT.of ht)
    | false =>
      obtain ⟨r1, hr2, hs2⟩ := (hrF rfl).at hi1
      rw [hr1] at hr2; cases hr2
      have hs3 : SqB K F' ra (iv r0) false := qS ((G7.ff)) hs2
      refine r_tupofT (tS G7.fh hs3) ?_
      refine r_app G7 Upd.head (szl (by rw [rv_len]; omega)) fun H10 G10 => ?_
      refine ⟨F', as' ++ [ra], sF', ?_, ?_, by simp; omega⟩
      · rw [show rv (as' ++ [ra]) = rv as' ++ [V.ref ra] from by simp]; exact G10
      · rw [take_snoc hr1]; exact hR.snoc hs3
  rintro D H6 ⟨F', as', sF', G7, hR, hla⟩
  rw [rv_len, al, List.take_length] at hR
  walk_at "go"
  refine r_tupofL G7 (by walk_at "l") fun ra H8 G8 => ?_
  walk_at "go"
  refine r_sfld G8 T.cl_ParityAutomaton T.na_ParityAutomaton_rows (fs' := paF m st pa ra) (by walk_at "u") rfl (by show 3 < 1000; decide) fun H9 G9 => ?_
  obtain ⟨F2, s2, hra, G10⟩ := G9.frz Tak.head
  exact k1 OK F2 H9 pa ra as' (G10.grB (by walk_at "m")) (G10.get (by walk_at "m")) (s2 _ _ (sF' _ _ hpa)) hra (hR.mono s2)
theorem p_complement_parity (T : Cl K A) (h : sp_complement_parity K A vs H Q E) : t_complement_parity K A E (D0 Q) (start ["parity", "priority", "priorities"] vs) H := by
  obtain ⟨F, x, m, st, ps, rs, rfl, sF, hP, OK, lp, lr, k⟩ := h
  obtain ⟨dx, pa, ra, as, h1, h2, h3, h4⟩ := hP.ex
  have G := St.init sF
  unfold t_complement_parity
  show tSeq _ _ (D0 Q) [some (.ref x), none, none] H
  unfold D0
  walk_at "go"
  walk_at "go"
  refine r_fld (G.fh _ _ h1) T.cl_ParityAutomaton T.na_ParityAutomaton_priorities lk_prio ?_
  refine r_it (tS G.fh h2) ?_
  refine r_lcM (k := false) (xs := iv ps) (fun v => match v with | .int i => .int (i + 1) | v => v) (by rw [iv_len]; omega) G (tS G.fh h2) (fun D i y acc H' Q' hi e G' q => ?_) (fun D H' e G1 => ?_)
  · obtain ⟨z, hz, rfl⟩ := iv_get hi
    walk_at "go"
    exact q
  rw [show (iv ps).map (fun v => match v with | V.int i => V.int (i + 1) | v => v) = iv (ps.map (· + 1)) from by simp] at G1
  walk_at "go"
  walk_at "go"
  refine r_fld (G1.fh _ _ h1) T.cl_ParityAutomaton T.na_ParityAutomaton_letters lk_letters ?_
  walk_at "go"
  refine r_fld (G1.fh _ _ h1) T.cl_ParityAutomaton T.na_ParityAutomaton_start lk_start ?_
  walk_at "go"
  walk_at "go"
  refine r_fld (G1.fh _ _ h1) T.cl_ParityAutomaton T.na_ParityAutomaton_rows lk_rows ?_
  walk_at "go"
  refine r_mk G1 fun y dy H2 G2 => ?_
  have OK2 : Pok m st (ps.map (· + 1)) rs := ⟨OK.m1, OK.ne, by rw [List.length_map]; exact OK.pl, OK.s0, OK.s1, fun p hp => by
    obtain ⟨q, hq, rfl⟩ := List.mem_map.mp hp
    have := OK.pp q hq
    show 0 ≤ q + 1
    omega, OK.rr⟩
  refine ⟨F, y, dy, D, ra, false, false, as, m, st, ps.map (· + 1), rs, rfl, G2.fh, (G2.own _ (by walk_at "m")).2.1, G2.get (by walk_at "m"), by walk_at "l", show SqB K H2 ra (rv as) false from tS G2.fh h3, h4.mono G2.fh, fun _ => h4, by rw [List.length_map]; exact lp, lr, fun _ F' H' pa' ra' as' gb hy hpa hra hR => ⟨rfl, ?_⟩, fun np => absurd OK2 np⟩
  have G3 := G2.callB Upd.head gb hy
  obtain ⟨F3, s3, hy3, G4⟩ := G3.frz Tak.head
  exact k F3 H' y G4.gr ⟨⟨dy, pa', ra', as', hy3, SqT.of (s3 _ _ hpa), SqT.of (s3 _ _ hra), hR.mono s3⟩⟩
theorem p__law_flat (T : Cl K A) (h : sp__law_flat K A vs H Q E) : t__law_flat K A E (D0 Q) (start ["rows", "row"] vs) H := by
  obtain ⟨a, as, rs, rfl, ha, hr, lr, k⟩ := h
  have G := St.init (Same.refl H)
  have al := hr.len
  unfold t__law_flat
  show tRet _ (D0 Q) [some (.ref a), none] H
  unfold D0
  walk_at "go"
  walk_at "go"
  refine r_il ha ?_
  refine r_lcB (k := true) (xs := rv as) G (fun D i H' => ∃ bs, bs.length = i ∧ St ⟨H, H⟩ H H' ((D, .lst (rv bs)) :: rowL bs (rs.take i))) (fun D H' G' => ⟨[], rfl, G'⟩) (fun D i H' _ h => by obtain ⟨bs, _, G'⟩ := h; exact lS G'.bh ha) ?_ ?_
  · rintro D i y H' hi ⟨bs, hbl, G1⟩
    obtain ⟨ra, hi1, rfl⟩ := rv_get hi
    obtain ⟨r0, hr1, hs⟩ := hr.at hi1
    have hi2 : i < rs.length := (List.getElem?_eq_some_iff.mp hr1).1
    walk_at "go"
    refine r_listof G1 (.inl (lS G1.bh hs)) fun t H2 G2 => ?_
    refine r_app G2 (.tail .head) (szl (by rw [rv_len]; omega)) fun H3 G3 => ?_
    refine ⟨bs ++ [t], by simp [hbl], ?_⟩
    rw [take_snoc hr1, rowL_snoc (by rw [List.length_take]; omega), show rv (bs ++ [t]) = rv bs ++ [V.ref t] from by simp]
    refine G3.perm ?_
    refine List.Perm.trans ?_ (List.Perm.swap _ _ _)
    exact List.Perm.cons _ (List.perm_append_comm (l₂ := [(t, HO.lst (iv r0))]))
  · rintro D H' ⟨bs, hbl, G1⟩
    rw [rv_len, al, List.take_length] at G1
    exact k H' D bs (by rw [hbl, rv_len, al]) G1.toOwn
theorem p__law_parity (T : Cl K A) (h : sp__law_parity K A vs H Q E) : t__law_parity K A E (D0 Q) (start ["draws", "letters", "most", "count", "top", "state", "priorities", "rows", "letter"] vs) H := by
  obtain ⟨p, ds, m, mo, rfl, hp, hd, m1, m10, o1, o10, k⟩ := h
  have G := St.init1 (F := fun _ => none) (fun _ _ e => nomatch e) hp rfl
  unfold t__law_parity
  show tSeq _ _ (D0 Q) [some (.ref p), some (.int m), some (.int mo), none, none, none, none, none, none] H
  unfold D0
  walk_at "go"
  refine u_take G (fun _ => Upd.head) hd (by omega) fun i1 d1 H1 i10 i11 hd1 G1 => ?_
  walk_at "go"
  refine u_take G1 (fun _ => Upd.head) hd1 (by decide) fun i2 d2 H2 i20 i21 hd2 G2 => ?_
  walk_at "go"
  refine r_i1 (by omega) ?_
  have e0 : 0 ≤ 1 + i1 := by omega
  refine r_lcR (L := [(p, .lst (iv d2))]) G2 (fun D i H' => ∃ ds' ps, Dok ds' ∧ ps.length = i ∧ (∀ q ∈ ps, (0 : Int) ≤ q) ∧ St ⟨fun _ => none, del H p⟩ (fun _ => none) H' [(D, .lst (iv ps)), (p, .lst (iv ds'))]) (fun D H' G' => ⟨d2, [], hd2, rfl, (fun _ h => nomatch h), G'⟩) ?_ ?_
  · rintro D i H' hi ⟨ds', ps, hd', hl, hps, G3⟩
    walk_at "go"
    refine u_take G3 (fun _ => .tail .head) hd' (by omega) fun i3 d3 H3 i30 i31 hd3 G4 => ?_
    refine r_app G4 Upd.head (szl (by rw [iv_len]; omega)) fun H5 G5 => ?_
    rw [iv_snoc] at G5
    refine ⟨d3, ps ++ [i3], hd3, by simp [hl], fun q hq => ?_, G5⟩
    rcases List.mem_append.mp hq with z | z
    · exact hps q z
    · rw [List.mem_singleton.mp z]; exact i30
  rintro a H3 ⟨ds', ps, hd', hl, hps, G3⟩
  walk_at "go"
  refine r_lst G3 (by walk_at "sz") fun b H4 G4 => ?_
  walk_at "go"
  refine r_i1 (by omega) ?_
  refine r_forR (fun i σ H' => ∃ ds' bs rs v w, σ = [some (.ref p), some (.int m), some (.int mo), some (.int (1 + i1)), some (.int (1 + i2)), v, some (.ref a), some (.ref b), w] ∧ Dok ds' ∧ bs.length = i ∧ rs.length = i ∧ (∀ r ∈ rs, (r.length : Int) = m ∧ ∀ x ∈ r, 0 ≤ x ∧ x < 1 + i1) ∧
      St ⟨fun _ => none, del H p⟩ (fun _ => none) H' ((p, .lst (iv ds')) :: (b, .lst (rv bs)) :: (a, .lst (iv ps)) :: rowL bs rs)) ⟨ds', [], [], none, none, rfl, hd', rfl, rfl, (fun _ h => nomatch h), (G4.front (a := b) (by walk_at "tk")).front (a := p) (by walk_at "tk")⟩ ?_ ?_
  · rintro i σ H' hi ⟨ds', bs, rs, v, w, rfl, hd', hbl, hrl, hrs, G5⟩
    walk_at "go"
    refine r_i1 (by omega) ?_
    refine r_lcR G5 (fun D i H' => ∃ ds' ns, Dok ds' ∧ ns.length = i ∧ (∀ q ∈ ns, (0 : Int) ≤ q ∧ q < 1 + i1) ∧ St ⟨fun _ => none, del H p⟩ (fun _ => none) H' ((D, .lst (iv ns)) :: (p, .lst (iv ds')) :: (b, .lst (rv bs)) :: (a, .lst (iv ps)) :: rowL bs rs)) (fun D H' G' => ⟨ds', [], hd', rfl, (fun _ h => nomatch h), G'⟩) ?_ ?_
    · rintro D j H' hj ⟨ds', ns, hd', hnl, hns, G6⟩
      walk_at "go"
      refine u_take G6 (fun _ => .tail .head) hd' (by omega) fun i3 d3 H3 i30 i31 hd3 G7 => ?_
      refine r_app G7 Upd.head (szl (by rw [iv_len]; omega)) fun H5 G8 => ?_
      rw [iv_snoc] at G8
      refine ⟨d3, ns ++ [i3], hd3, by simp [hnl], fun q hq => ?_, G8⟩
      rcases List.mem_append.mp hq with z | z
      · exact hns q z
      · rw [List.mem_singleton.mp z]; exact ⟨i30, i31⟩
    rintro D H6 ⟨ds2, ns, hd2', hnl, hns, G6⟩
    walk_at "go"
    refine r_append G6 (.tail (.tail .head)) (szl (by rw [rv_len]; omega)) fun H7 G7 => ?_
    refine ⟨ds2, bs ++ [D], rs ++ [ns], _, _, rfl, hd2', by simp [hbl], by simp [hrl], fun r hr => ?_, ?_⟩
    · rcases List.mem_append.mp hr with z | z
      · exact hrs r z
      · rw [List.mem_singleton.mp z]; exact ⟨by omega, hns⟩
    · rw [rowL_snoc (by omega), show rv (bs ++ [D]) = rv bs ++ [V.ref D] from by simp]
      exact G7.toEnd
  rintro σ H5 ⟨ds', bs, rs, v, w, rfl, hd', hbl, hrl, hrs, G5⟩
  walk_at "go"
  refine u_take G5 (fun _ => .head) hd' (by omega) fun st d6 H6 s0 s1 hd6 G6 => ?_
  walk_at "go"
  refine r_tup G6 (by walk_at "sz") fun t H7 G7 => ?_
  have e1 : (rs.length : Int) = 1 + i1 := by omega
  refine k H7 d6 t a b bs st ps rs hd6 ⟨m1, by omega, by omega, s0, by omega, hps, fun r hr => ⟨(hrs r hr).1, fun x hx => by have := (hrs r hr).2 x hx; omega⟩⟩ (by omega) (by omega) (St.toOwnB (G7.front (a := p) (by walk_at "tk")))
/-! ## runs -/
theorem stp_ok {m st : Int} {ps : List Int} {rs : List (List Int)} (OK : Pok m st ps rs) {s z : Int} (h : 0 ≤ s ∧ s < rs.length) (hz : 0 ≤ z ∧ z < m) : ∃ r, rs[s.toNat]? = some r ∧ (r.length : Int) = m ∧ r.getD z.toNat 0 = stp rs s z ∧ 0 ≤ stp rs s z ∧ stp rs s z < rs.length := by
  have hs : s.toNat < rs.length := by omega
  obtain ⟨r, hr⟩ : ∃ r, rs[s.toNat]? = some r := ⟨_, List.getElem?_eq_getElem hs⟩
  obtain ⟨q1, q2⟩ := OK.rr r (List.mem_of_getElem? hr)
  have e0 : rs.getD s.toNat [] = r := by rw [List.getD_eq_getElem?_getD, hr]; rfl
  have e : stp rs s z = r.getD z.toNat 0 := by unfold stp; rw [e0]
  have hz2 : z.toNat < r.length := by omega
  have e2 : r.getD z.toNat 0 = r[z.toNat] := by rw [List.getD_eq_getElem?_getD, List.getElem?_eq_getElem hz2]; rfl
  have := q2 _ (List.getElem_mem hz2)
  exact ⟨r, hr, q1, e.symm, by rw [e, e2]; exact this.1, by rw [e, e2]; exact this.2⟩
theorem run_ok {m st : Int} {ps : List Int} {rs : List (List Int)} (OK : Pok m st ps rs) : ∀ {zs : List Int} {s : Int}, (0 ≤ s ∧ s < rs.length) → (∀ z ∈ zs, 0 ≤ z ∧ z < m) → 0 ≤ run rs s zs ∧ run rs s zs < rs.length
  | [], _, h, _ => h
  | z :: zs, s, h, hz => by
    obtain ⟨_, _, _, _, h1⟩ := stp_ok OK h (hz z List.mem_cons_self)
    exact run_ok OK (zs := zs) (s := stp rs s z) h1 fun y hy => hz y (List.mem_cons_of_mem _ hy)
theorem qk_ok {m st : Int} {ps : List Int} {rs : List (List Int)} (OK : Pok m st ps rs) {ls : List Int} {s : Int} (h : 0 ≤ s ∧ s < rs.length) (hz : ∀ z ∈ ls, 0 ≤ z ∧ z < m) : ∀ k, 0 ≤ qk rs ls s k ∧ qk rs ls s k < rs.length
  | 0 => h
  | k + 1 => run_ok OK (qk_ok OK h hz k) hz
theorem take_mem {zs : List Int} {i : Nat} {z : Int} (h : z ∈ zs.take i) : z ∈ zs := List.mem_of_mem_take h
theorem p_check_letters (T : Cl K A) (h : sp_check_letters K A vs H Q E) : t_check_letters K A E (D0 Q) (start ["lasso", "letters", "head", "loop"] vs) H := by
  obtain ⟨w, m, hs, ls, rfl, hw, hs0, ls0, ln, m1, k1, k2⟩ := h
  obtain ⟨hd, ld, w1, w2, w3⟩ := hw.ex
  unfold t_check_letters
  show tSeq _ _ (D0 Q) [some (.ref w), some (.int m), none, none] H
  unfold D0
  walk_at "go"
  refine ⟨w, _, rfl, w1, rfl, ?_⟩
  refine ⟨_, _, rfl, _, _, rfl, rfl, ?_⟩
  show tIfS _ _ _ _ [some (.ref w), some (.int m), some (.ref hd), some (.ref ld)] H
  walk_at "go"
  refine r_maxB (k := false) (ns := ls) w3 ln fun M hM hb => ?_
  walk_at "go"
  refine r_ifD (fun h => ?_) (fun h => ?_)
  · walk_at "go"
    exact k2 fun z => by have := z M (List.mem_append_right _ hM); omega
  walk_at "go"
  refine r_maxD (k := false) (ns := hs) w2 fun M2 q1 q2 => ?_
  walk_at "go"
  refine r_ifD (fun h2 => ?_) (fun h2 => ?_)
  · walk_at "go"
    refine k2 fun z => ?_
    by_cases c : hs = []
    · have := q1 c; omega
    · have := z M2 (List.mem_append_left _ (q2 c).1); omega
  walk_at "go"
  refine k1 fun z hz => ?_
  rcases List.mem_append.mp hz with q | q
  · have := (q2 (fun e => by rw [e] at q; cases q)).2 z q; omega
  · have := hb z q; omega
theorem p_accepts_parity (T : Cl K A) (h : sp_accepts_parity K A vs H Q E) : t_accepts_parity K A E (D0 Q) (start ["parity", "lasso", "head", "loop", "state", "letter", "greatest", "rounds", "most"] vs) H := by
  obtain ⟨x, w, m, st, ps, rs, hs, ls, rfl, hP, OK, lp, lr, hw, hs0, ls0, ln, k1, k2⟩ := h
  obtain ⟨dx, pa, ra, as, h1, h2, h3, h4⟩ := hP.ex
  obtain ⟨hd, ld, w1, w2, w3⟩ := hw.ex
  have G := St.init (Same.refl H)
  have al := h4.len
  unfold t_accepts_parity
  show tSeq _ _ (D0 Q) [some (.ref x), some (.ref w), none, none, none, none, none, none, none] H
  unfold D0
  walk_at "go"
  refine r_fld h1 T.cl_ParityAutomaton T.na_ParityAutomaton_letters lk_letters ?_
  walk_at "go"
  refine ⟨w, m, hs, ls, rfl, hw, hs0, ls0, ln, OK.m1, fun hall => ?_, fun hn => k2 hn H (Same.refl _)⟩
  have hh : ∀ z ∈ hs, 0 ≤ z ∧ z < m := fun z hz => ⟨hs0 z hz, hall z (List.mem_append_left _ hz)⟩
  have hl : ∀ z ∈ ls, 0 ≤ z ∧ z < m := fun z hz => ⟨ls0 z hz, hall z (List.mem_append_right _ hz)⟩
  walk_at "go"
  refine ⟨w, _, rfl, w1, rfl, ?_⟩
  refine ⟨_, _, rfl, _, _, rfl, rfl, ?_⟩
  show tSeq _ _ _ [some (.ref x), some (.ref w), some (.ref hd), some (.ref ld), none, none, none, none, none] H
  walk_at "go"
  refine r_fld h1 T.cl_ParityAutomaton T.na_ParityAutomaton_start lk_start ?_
  walk_at "go"
  refine r_it w2 ?_
  refine r_forT (xs := iv hs) (fun i σ H' => H' = H ∧ ∃ v, σ = [some (.ref x), some (.ref w), some (.ref hd), some (.ref ld), some (.int (run rs st (hs.take i))), v, none, none, none]) ⟨rfl, _, rfl⟩ (fun _ _ _ _ h => h.1 ▸ w2) ?_ ?_
  · rintro i y σ H' hi ⟨rfl, v, rfl⟩
    obtain ⟨z, hz, rfl⟩ := iv_get hi
    have zb := hh z (List.mem_of_getElem? hz)
    have sb := run_ok OK (zs := hs.take i) (s := st) ⟨OK.s0, OK.s1⟩ fun y hy => hh y (take_mem hy)
    obtain ⟨r, hr, hrl, hst, _⟩ := stp_ok OK sb zb
    obtain ⟨e, he⟩ : ∃ e, as[(run rs st (hs.take i)).toNat]? = some e := ⟨_, List.getElem?_eq_getElem (by omega)⟩
    obtain ⟨r', hr', hs'⟩ := h4.at he
    rw [hr] at hr'
    cases hr'
    have hs2 : SqT K H' e (iv r) := hs'
    walk_at "go"
    refine r_fld h1 T.cl_ParityAutomaton T.na_ParityAutomaton_rows lk_rows ?_
    walk_at "go"
    refine r_ixT (xs := rv as) h3 (atI_rv sb.1 he) ?_
    walk_at "go"
    refine r_ixT (xs := iv r) hs2 (atI_iv zb.1 (by omega)) ?_
    walk_at "go"
    refine ⟨rfl, some (.int z), ?_⟩
    rw [hst, take_snoc hz, run_snoc]
    rfl
  rintro σ H' ⟨rfl, v, rfl⟩
  rw [iv_len, List.take_length]
  have s0b := run_ok OK (zs := hs) (s := st) ⟨OK.s0, OK.s1⟩ hh
  generalize run rs st hs = s0 at *
  have qb := qk_ok OK s0b hl
  walk_at "go"
  refine r_lst G (by walk_at "sz") fun gr H1 G1 => ?_
  walk_at "go"
  refine r_dnew G1 fun rd H2 G2 => ?_
  walk_at "go"
  refine r_while (fun mm σ H'' => ∃ t v5 v8, mm = rs.length - t ∧ Inj (qk rs ls s0) t ∧ σ = [some (.ref x), some (.ref w), some (.ref hd), some (.ref ld), some (.int (qk rs ls s0 t)), v5, some (.ref gr), some (.ref rd), v8] ∧
    St ⟨H', H'⟩ H' H'' [(rd, .dK (kvF (qk rs ls s0) t)), (gr, .lst (iv ((List.range t).map (gk rs ps ls s0))))]) _ ⟨0, _, _, rfl, fun a b h => absurd h (Nat.not_lt_zero _), rfl, G2⟩ ?_
  rintro mm σ H3 ⟨t, v5, v8, rfl, hi, rfl, G3⟩
  walk_at "go"
  refine r_dnot (G3.get (by walk_at "m")) ?_
  walk_at "g1"
  rcases kvF_val (q := qk rs ls s0) (t := t) (z := qk rs ls s0 t) with ⟨k', hk1, hk2, hk3⟩ | ⟨hn, hne⟩
  · rw [hk3]
    refine r_wb (fun z => by simp at z) (fun _ => ?_)
    walk_at "go"
    refine r_dget (G3.get (by walk_at "m")) hk3 ?_
    walk_at "go"
    refine r_slL G3 (by walk_at "l") fun gd H4 G4 => ?_
    rw [cut_from, ← List.map_drop] at G4
    have len : (((List.range t).map (gk rs ps ls s0)).drop k').length = t - k' := by simp
    walk_at "go"
    refine r_maxB (k := true) (ns := ((List.range t).map (gk rs ps ls s0)).drop k') (SqL.of (G4.get (by walk_at "m"))) (by omega) fun M hM hMb => ?_
    obtain ⟨j, hj⟩ := List.mem_iff_getElem?.mp hM
    have hj1 : j < t - k' := by have := (List.getElem?_eq_some_iff.mp hj).1; omega
    have hg : ∀ k, k < t → ((List.range t).map (gk rs ps ls s0))[k]? = some (gk rs ps ls s0 k) := fun k hk => by rw [List.getElem?_map, List.getElem?_range hk]; rfl
    rw [List.getElem?_drop, hg _ (by omega)] at hj
    have hMg : gk rs ps ls s0 (k' + j) = M := Option.some.inj hj
    obtain ⟨M0, hb, hq⟩ := k1 hall
    have e := hb.uniq (inf_best (q := qk rs ls s0) (g := gk rs ps ls s0) (fun a b h => qk_next h) (fun a b h => gk_same h) hk2 hk1 (fun k h1 h2 => hMb _ (List.mem_iff_getElem?.mpr ⟨k - k', by rw [List.getElem?_drop, show k' + (k - k') = k from by omega, hg k h2]⟩)) (Nat.le_add_right k' j) hMg)
    subst e
    walk_at "go"
    exact hq _ G4.bh
  · rw [hn]
    refine r_wb (fun _ => ?_) (fun z => by simp at z)
    walk_at "go"
    refine r_dput G3 Upd.head (szl (by rw [kvF_len]; have := inj_few hi qb; omega)) fun H4 G4 => ?_
    rw [putK_new hn, show kvF (qk rs ls s0) t ++ [((.inl (qk rs ls s0 t) : Key), V.int ((iv ((List.range t).map (gk rs ps ls s0))).length : Int))] = kvF (qk rs ls s0) (t + 1) from by rw [kvF_succ]; simp] at G4
    have hi2 : Inj (qk rs ls s0) (t + 1) := fun a b ha hb e => by
      rcases Nat.lt_succ_iff_lt_or_eq.mp ha with h1 | h1 <;> rcases Nat.lt_succ_iff_lt_or_eq.mp hb with h2 | h2
      · exact hi a b h1 h2 e
      · subst h2; exact absurd e (hne a h1)
      · subst h1; exact absurd e.symm (hne b h2)
      · omega
    have ht := inj_few hi2 qb
    walk_at "go"
    refine r_it (tS G4.bh w3) ?_
    refine r_forT (xs := iv ls) (fun i σ H5 => H5 = H4 ∧ ∃ v, σ = [some (.ref x), some (.ref w), some (.ref hd), some (.ref ld), some (.int (run rs (qk rs ls s0 t) (ls.take i))), v, some (.ref gr), some (.ref rd), some (.int (lb rs ps (qk rs ls s0 t) (ls.take i) 0))]) ⟨rfl, _, rfl⟩ (fun _ _ _ _ h => h.1 ▸ tS G4.bh w3) ?_ ?_
    · rintro i y σ H5 hi' ⟨rfl, v, rfl⟩
      obtain ⟨z, hz, rfl⟩ := iv_get hi'
      have zb := hl z (List.mem_of_getElem? hz)
      have sb := run_ok OK (zs := ls.take i) (qb t) fun y hy => hl y (take_mem hy)
      obtain ⟨r, hr, hrl, hst, sb2⟩ := stp_ok OK sb zb
      obtain ⟨e, he⟩ : ∃ e, as[(run rs (qk rs ls s0 t) (ls.take i)).toNat]? = some e := ⟨_, List.getElem?_eq_getElem (by omega)⟩
      obtain ⟨r', hr', hs'⟩ := h4.at he
      rw [hr] at hr'
      cases hr'
      have hs2 : SqT K H' e (iv r) := hs'
      walk_at "go"
      refine r_fld (G4.bh _ _ h1) T.cl_ParityAutomaton T.na_ParityAutomaton_rows lk_rows ?_
      walk_at "go"
      refine r_ixT (xs := rv as) (tS G4.bh h3) (atI_rv sb.1 he) ?_
      walk_at "go"
      refine r_ixT (xs := iv r) (tS G4.bh hs2) (atI_iv zb.1 (by omega)) ?_
      walk_at "go"
      refine r_fld (G4.bh _ _ h1) T.cl_ParityAutomaton T.na_ParityAutomaton_priorities lk_prio ?_
      walk_at "go"
      rw [hst]
      have := OK.pl
      refine r_ixT (xs := iv ps) (tS G4.bh h2) (atI_iv sb2.1 (by omega)) ?_
      walk_at "go"
      refine ⟨rfl, some (.int z), ?_⟩
      rw [take_snoc hz, run_snoc, lb_snoc]
      rfl
    rintro σ H5 ⟨rfl, v, rfl⟩
    rw [iv_len, List.take_length]
    walk_at "go"
    refine r_append G4 (by walk_at "u") (szl (by rw [iv_len]; simp; omega)) fun H6 G6 => ?_
    rw [iv_snoc, show (List.range t).map (gk rs ps ls s0) ++ [lb rs ps (qk rs ls s0 t) ls 0] = (List.range (t + 1)).map (gk rs ps ls s0) from by rw [List.range_succ, List.map_append]; rfl] at G6
    walk_at "go"
    exact ⟨rs.length - (t + 1), by omega, t + 1, _, _, rfl, hi2, rfl, G6⟩
theorem p__law_cell (T : Cl K A) (h : sp__law_cell K A vs H Q E) : t__law_cell K A E (D0 Q) (start ["script", "k"] vs) H := by
  obtain ⟨a, ns, i, rfl, ha, i0, q⟩ := h
  unfold t__law_cell
  show tSeq _ _ (D0 Q) [some (.ref a), some (.int i)] H
  unfold D0
  walk_at "go"
  rw [iv_len]
  refine r_ifD (fun h => ?_) (fun h => ?_)
  · walk_at "go"
    refine r_ixL ha (atI_iv i0 h) ?_
    exact q _
  · walk_at "go"
    exact q 0
theorem p__law_lasso (T : Cl K A) (h : sp__law_lasso K A vs H Q E) : t__law_lasso K A E (D0 Q) (start ["draws", "letters", "longest", "k", "head", "loop"] vs) H := by
  obtain ⟨F, p, ds, m, mo, rfl, sF, fp, hp, hd, m1, o1, o10, k⟩ := h
  have G := St.init1 sF hp fp
  unfold t__law_lasso
  show tSeq _ _ (D0 Q) [some (.ref p), some (.int m), some (.int mo), none, none, none] H
  unfold D0
  walk_at "go"
  refine u_take G (fun _ => Upd.head) hd (by omega) fun i1 d1 H1 i10 i11 hd1 G1 => ?_
  walk_at "go"
  refine r_i1 (by omega) ?_
  refine r_lcR G1 (fun D i H' => ∃ ds' ns, Dok ds' ∧ ns.length = i ∧ (∀ z ∈ ns, (0 : Int) ≤ z ∧ z < m) ∧ St ⟨F, del H p⟩ F H' [(D, .lst (iv ns)), (p, .lst (iv ds'))]) (fun D H' G' => ⟨d1, [], hd1, rfl, (fun _ h => nomatch h), G'⟩) ?_ ?_
  · rintro D i H' hi ⟨ds', ns, hd', hnl, hns, G2⟩
    walk_at "go"
    refine u_take G2 (fun _ => .tail .head) hd' (by omega) fun z d2 H2 z0 z1 hd2 G3 => ?_
    refine r_app G3 Upd.head (szl (by rw [iv_len]; omega)) fun H5 G5 => ?_
    rw [iv_snoc] at G5
    refine ⟨d2, ns ++ [z], hd2, by simp [hnl], fun q hq => ?_, G5⟩
    rcases List.mem_append.mp hq with y | y
    · exact hns q y
    · rw [List.mem_singleton.mp y]; exact ⟨z0, z1⟩
  rintro D H2 ⟨d2, hs, hd2, hhl, hhs, G2⟩
  walk_at "go"
  refine u_take G2 (fun _ => .tail .head) hd2 (by omega) fun i2 d3 H3 i20 i21 hd3 G3 => ?_
  walk_at "go"
  refine r_i1 (by omega) ?_
  refine r_lcR G3 (fun D2 i H' => ∃ ds' ns, Dok ds' ∧ ns.length = i ∧ (∀ z ∈ ns, (0 : Int) ≤ z ∧ z < m) ∧ St ⟨F, del H p⟩ F H' [(D2, .lst (iv ns)), (D, .lst (iv hs)), (p, .lst (iv ds'))]) (fun D2 H' G' => ⟨d3, [], hd3, rfl, (fun _ h => nomatch h), G'⟩) ?_ ?_
  · rintro D2 i H' hi ⟨ds', ns, hd', hnl, hns, G2⟩
    walk_at "go"
    refine u_take G2 (fun _ => .tail (.tail .head)) hd' (by omega) fun z d2 H2 z0 z1 hd2 G3 => ?_
    refine r_app G3 Upd.head (szl (by rw [iv_len]; omega)) fun H5 G5 => ?_
    rw [iv_snoc] at G5
    refine ⟨d2, ns ++ [z], hd2, by simp [hnl], fun q hq => ?_, G5⟩
    rcases List.mem_append.mp hq with y | y
    · exact hns q y
    · rw [List.mem_singleton.mp y]; exact ⟨z0, z1⟩
  rintro D2 H4 ⟨d4, ls, hd4, hll, hls, G4⟩
  walk_at "go"
  refine r_tupofL G4 (by walk_at "l") fun t1 H5 G5 => ?_
  walk_at "go"
  refine r_tupofL G5 (by walk_at "l") fun t2 H6 G6 => ?_
  walk_at "go"
  refine r_tup G6 (by walk_at "sz") fun w H7 G7 => ?_
  obtain ⟨F1, s1, f1, G8⟩ := G7.frz Tak.head
  obtain ⟨F2, s2, f2, G9⟩ := G8.frz Tak.head
  obtain ⟨F3, s3, f3, G10⟩ := G9.frz Tak.head
  exact k F3 H7 d4 w hs ls hd4 ⟨⟨t1, t2, SqT.of (s3 _ _ (s2 _ _ f1)), SqT.of f3, SqT.of (s3 _ _ f2)⟩⟩ hhs hls (by omega) (by omega) (by omega) ((G10.drop Tak.head).drop Tak.head)
theorem qk_shift {rs : List (List Int)} {ls : List Int} {s : Int} {a b : Nat} (h : qk rs ls s a = qk rs ls s b) : ∀ d, qk rs ls s (a + d) = qk rs ls s (b + d)
  | 0 => h
  | d + 1 => qk_next (qk_shift h d)
theorem p__law_best (T : Cl K A) (h : sp__law_best K A vs H Q E) : t__law_best K A E (D0 Q) (start ["start", "priorities", "rows", "lasso", "state", "letter", "k", "best"] vs) H := by
  obtain ⟨a, b, w, as, m, st, ps, rs, hs, ls, rfl, ha, hb, hr, OK, lp, lr, hw, hs0, ls0, ln, hall, k⟩ := h
  obtain ⟨hd, ld, w1, w2, w3⟩ := hw.ex
  have hh : ∀ z ∈ hs, 0 ≤ z ∧ z < m := fun z hz => ⟨hs0 z hz, hall z (List.mem_append_left _ hz)⟩
  have hl : ∀ z ∈ ls, 0 ≤ z ∧ z < m := fun z hz => ⟨ls0 z hz, hall z (List.mem_append_right _ hz)⟩
  have al := hr.len
  have look : ∀ {s z : Int}, (0 ≤ s ∧ s < rs.length) → (0 ≤ z ∧ z < m) → ∃ e r, atI (rv as) s = some (.ref e) ∧ SqL K H e (iv r) ∧ atI (iv r) z = some (.int (stp rs s z)) ∧ 0 ≤ stp rs s z ∧ stp rs s z < rs.length := by
    intro s z hs hz
    obtain ⟨r, hr1, hrl, hst, hst2⟩ := stp_ok OK hs hz
    obtain ⟨e, he⟩ : ∃ e, as[s.toNat]? = some e := ⟨_, List.getElem?_eq_getElem (by omega)⟩
    obtain ⟨r', hr', hs'⟩ := hr.at he
    rw [hr1] at hr'
    cases hr'
    refine ⟨e, r, atI_rv hs.1 he, hs', ?_, hst2⟩
    rw [← hst]
    exact atI_iv hz.1 (by omega)
  unfold t__law_best
  show tSeq _ _ (D0 Q) [some (.int st), some (.ref a), some (.ref b), some (.ref w), none, none, none, none] H
  unfold D0
  walk_at "go"
  refine r_ixT w1 (atI_nat (j := 0) rfl) ?_
  refine r_it w2 ?_
  refine r_forT (xs := iv hs) (fun i σ H' => H' = H ∧ ∃ v, σ = [some (.int st), some (.ref a), some (.ref b), some (.ref w), some (.int (run rs st (hs.take i))), v, none, none]) ⟨rfl, _, rfl⟩ (fun _ _ _ _ h => h.1 ▸ w2) ?_ ?_
  · rintro i y σ H' hi ⟨rfl, v, rfl⟩
    obtain ⟨z, hz, rfl⟩ := iv_get hi
    have zb := hh z (List.mem_of_getElem? hz)
    have sb := run_ok OK (zs := hs.take i) (s := st) ⟨OK.s0, OK.s1⟩ fun y hy => hh y (take_mem hy)
    obtain ⟨e, r, q1, q2, q3, _⟩ := look sb zb
    walk_at "go"
    refine r_ixL hb q1 ?_
    walk_at "go"
    refine r_ixL q2 q3 ?_
    walk_at "go"
    refine ⟨rfl, some (.int z), ?_⟩
    rw [take_snoc hz, run_snoc]
    rfl
  rintro σ H' ⟨rfl, v, rfl⟩
  rw [iv_len, List.take_length]
  have s0b := run_ok OK (zs := hs) (s := st) ⟨OK.s0, OK.s1⟩ hh
  generalize run rs st hs = s0 at *
  have qb := qk_ok OK s0b hl
  walk_at "go"
  rw [rv_len, al]
  refine r_i1 (by omega) ?_
  refine r_forR (fun i σ H'' => H'' = H' ∧ ∃ v5 v6, σ = [some (.int st), some (.ref a), some (.ref b), some (.ref w), some (.int (qk rs ls s0 i)), v5, v6, none]) ⟨rfl, _, _, rfl⟩ ?_ ?_
  · rintro i σ H'' hi ⟨rfl, v5, v6, rfl⟩
    walk_at "go"
    refine r_ixT w1 (atI_nat (j := 1) rfl) ?_
    refine r_it w3 ?_
    refine r_forT (xs := iv ls) (fun j σ H3 => H3 = H'' ∧ ∃ v5 v6, σ = [some (.int st), some (.ref a), some (.ref b), some (.ref w), some (.int (run rs (qk rs ls s0 i) (ls.take j))), v5, v6, none]) ⟨rfl, _, _, rfl⟩ (fun _ _ _ _ h => h.1 ▸ w3) ?_ ?_
    · rintro j y σ H3 hj ⟨rfl, v, v6, rfl⟩
      obtain ⟨z, hz, rfl⟩ := iv_get hj
      have zb := hl z (List.mem_of_getElem? hz)
      have sb := run_ok OK (zs := ls.take j) (qb i) fun y hy => hl y (take_mem hy)
      obtain ⟨e, r, q1, q2, q3, _⟩ := look sb zb
      walk_at "go"
      refine r_ixL hb q1 ?_
      walk_at "go"
      refine r_ixL q2 q3 ?_
      walk_at "go"
      refine ⟨rfl, some (.int z), v6, ?_⟩
      rw [take_snoc hz, run_snoc]
      rfl
    · rintro σ H3 ⟨rfl, v, v6, rfl⟩
      rw [iv_len, List.take_length]
      exact ⟨rfl, v, v6, rfl⟩
  rintro σ H'' ⟨rfl, v5, v6, rfl⟩
  rw [show ((rs.length : Int)).toNat = rs.length from by omega]
  walk_at "go"
  rw [rv_len, al]
  refine r_i1 (by omega) ?_
  refine r_forR (fun i σ H3 => H3 = H'' ∧ ∃ v5 v6 B, σ = [some (.int st), some (.ref a), some (.ref b), some (.ref w), some (.int (qk rs ls s0 (rs.length + i))), v5, v6, some (.int B)] ∧ 0 ≤ B ∧ (∀ k, k < i → gk rs ps ls s0 (rs.length + k) ≤ B) ∧ (B = 0 ∨ ∃ k, k < i ∧ gk rs ps ls s0 (rs.length + k) = B)) ⟨rfl, _, _, 0, rfl, Int.le_refl _, fun k h => absurd h (Nat.not_lt_zero _), .inl rfl⟩ ?_ ?_
  · rintro i σ H3 hi ⟨rfl, v5, v6, B, rfl, B0, B1, B2⟩
    walk_at "go"
    refine r_ixT w1 (atI_nat (j := 1) rfl) ?_
    refine r_it w3 ?_
    refine r_forT (xs := iv ls) (fun j σ H4 => H4 = H3 ∧ ∃ v5 v6, σ = [some (.int st), some (.ref a), some (.ref b), some (.ref w), some (.int (run rs (qk rs ls s0 (rs.length + i)) (ls.take j))), v5, v6, some (.int (lb rs ps (qk rs ls s0 (rs.length + i)) (ls.take j) B))]) ⟨rfl, _, _, rfl⟩ (fun _ _ _ _ h => h.1 ▸ w3) ?_ ?_
    · rintro j y σ H4 hj ⟨rfl, v, v6, rfl⟩
      obtain ⟨z, hz, rfl⟩ := iv_get hj
      have zb := hl z (List.mem_of_getElem? hz)
      have sb := run_ok OK (zs := ls.take j) (qb (rs.length + i)) fun y hy => hl y (take_mem hy)
      obtain ⟨e, r, q1, q2, q3, q4⟩ := look sb zb
      walk_at "go"
      refine r_ixL hb q1 ?_
      walk_at "go"
      refine r_ixL q2 q3 ?_
      walk_at "go"
      have := OK.pl
      refine r_ixL ha (atI_iv q4.1 (by omega)) ?_
      walk_at "go"
      refine ⟨rfl, some (.int z), v6, ?_⟩
      rw [take_snoc hz, run_snoc, lb_snoc]
      rfl
    · rintro σ H4 ⟨rfl, v, v6, rfl⟩
      rw [iv_len, List.take_length]
      have e1 := (lb_mx (rs := rs) (ps := ps) (zs := ls) (s := qk rs ls s0 (rs.length + i)) B0).1
      have e2 : lb rs ps (qk rs ls s0 (rs.length + i)) ls 0 = gk rs ps ls s0 (rs.length + i) := rfl
      rw [e2] at e1
      have e3 := mx_le (i := B) (j := gk rs ps ls s0 (rs.length + i))
      rw [← e1] at e3
      refine ⟨rfl, v, v6, _, rfl, by omega, fun k hk => ?_, ?_⟩
      · rcases Nat.lt_succ_iff_lt_or_eq.mp hk with q | q
        · have := B1 k q; omega
        · rw [q]; exact e3.2.1
      · rcases e3.2.2 with q | q
        · rcases B2 with z | ⟨k, k1, k2⟩
          · exact .inl (q.trans z)
          · exact .inr ⟨k, by omega, k2.trans q.symm⟩
        · exact .inr ⟨i, by omega, q.symm⟩
  rintro σ H3 ⟨rfl, v5, v6, B, rfl, B0, B1, B2⟩
  rw [show ((rs.length : Int)).toNat = rs.length from by omega] at B1 B2
  walk_at "go"
  obtain ⟨i, r, ir, rn, e⟩ := pigeon qb
  have e2 : qk rs ls s0 rs.length = qk rs ls s0 (rs.length + (r - i)) := by
    have := qk_shift e (rs.length - i)
    rw [show i + (rs.length - i) = rs.length from by omega, show r + (rs.length - i) = rs.length + (r - i) from by omega] at this
    exact this
  have fin : ∀ k0, rs.length ≤ k0 → gk rs ps ls s0 k0 = B → Q (.int B) H3 := fun k0 h1 h2 => k B (inf_best (q := qk rs ls s0) (g := gk rs ps ls s0) (fun a b h => qk_next h) (fun a b h => gk_same h) e2 (by omega) (fun k h3 h4 => by
    have := B1 (k - rs.length) (by omega)
    rw [show rs.length + (k - rs.length) = k from by omega] at this
    exact this) h1 h2)
  rcases B2 with z | ⟨k1, k2, k3⟩
  · refine fin rs.length (Nat.le_refl _) ?_
    have h1 := B1 0 OK.ne
    have h2 := gk_pos (rs := rs) (ps := ps) (ls := ls) (s := s0) (k := rs.length)
    rw [Nat.add_zero] at h1
    omega
  · exact fin _ (by omega) k3
theorem p__law_outcome (T : Cl K A) (h : sp__law_outcome K A vs H Q E) : t__law_outcome K A E (D0 Q) (start ["automaton", "lasso", "found"] vs) H := by
  obtain ⟨x, w, m, st, ps, rs, hs, ls, rfl, hP, OK, lp, lr, hw, hs0, ls0, ln, k1, k2⟩ := h
  unfold t__law_outcome
  show tSeq _ _ (D0 Q) [some (.ref x), some (.ref w), none] H
  unfold D0
  refine w_seq ?_
  walk_at "go"
  refine ⟨x, w, m, st, ps, rs, hs, ls, rfl, hP, OK, lp, lr, hw, hs0, ls0, ln, fun hall => ?_, fun hn H' e => ?_⟩
  · obtain ⟨M, hb, hq⟩ := k1 hall
    refine ⟨M, hb, fun H' e => ?_⟩
    walk_at "go"
    refine r_ifnn ?_
    walk_at "go"
    exact hq H' e
  · refine ⟨true, T.em_InvalidLetter_InvalidLetter, fun _ z _ => ?_, fun z => by cases z⟩
    walk_at "go"
    exact k2 hn H' e
theorem gp_succ {m st : Int} {ps : List Int} {rs : List (List Int)} (OK : Pok m st ps rs) {s : Int} (h : 0 ≤ s ∧ s < rs.length) : gp (ps.map (· + 1)) s = gp ps s + 1 ∧ 0 ≤ gp ps s := by
  have := OK.pl
  have hs : s.toNat < ps.length := by omega
  have e : gp ps s = ps[s.toNat] := by unfold gp; rw [List.getD_eq_getElem?_getD, List.getElem?_eq_getElem hs]; rfl
  have hp := OK.pp _ (List.getElem_mem hs)
  refine ⟨?_, by rw [e]; exact hp⟩
  rw [e]
  unfold gp
  rw [List.getD_eq_getElem?_getD, List.getElem?_map, List.getElem?_eq_getElem hs]
  rfl
theorem lb_succ {m st : Int} {ps : List Int} {rs : List (List Int)} (OK : Pok m st ps rs) : ∀ {zs : List Int} {s b : Int}, (0 ≤ s ∧ s < rs.length) → (∀ z ∈ zs, 0 ≤ z ∧ z < m) → lb rs (ps.map (· + 1)) s zs (b + 1) = lb rs ps s zs b + 1
  | [], _, _, _, _ => rfl
  | z :: zs, s, b, h, hz => by
    obtain ⟨_, _, _, _, h1⟩ := stp_ok OK h (hz z List.mem_cons_self)
    show lb rs (ps.map (· + 1)) (stp rs s z) zs (mx (b + 1) (gp (ps.map (· + 1)) (stp rs s z))) = lb rs ps (stp rs s z) zs (mx b (gp ps (stp rs s z))) + 1
    rw [(gp_succ OK h1).1, show mx (b + 1) (gp ps (stp rs s z) + 1) = mx b (gp ps (stp rs s z)) + 1 from by unfold mx; split <;> split <;> omega]
    exact lb_succ OK h1 fun y hy => hz y (List.mem_cons_of_mem _ hy)
theorem gk_succ {m st : Int} {ps : List Int} {rs : List (List Int)} (OK : Pok m st ps rs) {ls : List Int} {s : Int} (hz : ∀ z ∈ ls, 0 ≤ z ∧ z < m) (ln : 0 < ls.length) (h : 0 ≤ s ∧ s < rs.length) (k : Nat) : gk rs (ps.map (· + 1)) ls s k = gk rs ps ls s k + 1 := by
  unfold gk
  have hq := qk_ok OK h hz k
  generalize qk rs ls s k = q at *
  cases ls with
  | nil => cases ln
  | cons z zs =>
    obtain ⟨_, _, _, _, h1⟩ := stp_ok OK hq (hz z List.mem_cons_self)
    obtain ⟨g1, g2⟩ := gp_succ OK h1
    show lb rs (ps.map (· + 1)) (stp rs q z) zs (mx 0 (gp (ps.map (· + 1)) (stp rs q z))) = lb rs ps (stp rs q z) zs (mx 0 (gp ps (stp rs q z))) + 1
    rw [g1, show mx 0 (gp ps (stp rs q z) + 1) = mx 0 (gp ps (stp rs q z)) + 1 from by unfold mx; split <;> split <;> omega]
    exact lb_succ OK h1 fun y hy => hz y (List.mem_cons_of_mem _ hy)
theorem inf_succ {g g' : Nat → Int} {M : Int} (e : ∀ k, g' k = g k + 1) (h : InfBest g M) : InfBest g' (M + 1) := by
  obtain ⟨h1, N, h2⟩ := h
  refine ⟨fun n => ?_, N, fun k hk => by rw [e]; have := h2 k hk; omega⟩
  obtain ⟨k, k1, k2⟩ := h1 n
  exact ⟨k, k1, by rw [e, k2]⟩
theorem law_end (T : Cl K A) {H0 F H1 : Hp} {x0 v6 : V} {v7 v8 : Option V} {m st : Int} {a b p y w : Addr} {as : List Addr} {d ps hs ls : List Int} {rs : List (List Int)} (G : St ⟨H0, H0⟩ F H1 [(p, .lst (iv d))]) (hd : Dok d)
    (ha : SqL K F a (iv ps)) (hb : SqL K F b (rv as)) (hr : Rows K F true as rs) (hP : PaAt K A.C_ParityAutomaton F y m st ps rs) (OK : Pok m st ps rs) (lp : ps.length ≤ 1000) (lr : rs.length ≤ 1000)
    (hw : LasAt K F w hs ls) (hh : ∀ z ∈ hs, 0 ≤ z ∧ z < m) (hl : ∀ z ∈ ls, 0 ≤ z ∧ z < m) (ln : 0 < ls.length) (ln2 : ls.length ≤ 10) (k : ∀ H', Q (.bl true) H') :
    t_law_6 K A E (D0 Q) [some x0, some (.ref p), some (.int m), some (.int st), some (.ref a), some (.ref b), v7, v8, some (.ref y), some (.ref w), none, none, none, none] H1 := by
  obtain ⟨hdd, ld, w1, w2, w3⟩ := hw.ex
  have hs0 : ∀ z ∈ hs, 0 ≤ z := fun z hz => (hh z hz).1
  have ls0 : ∀ z ∈ ls, 0 ≤ z := fun z hz => (hl z hz).1
  have hall : ∀ z ∈ hs ++ ls, z < m := fun z hz => by
    rcases List.mem_append.mp hz with q | q
    · exact (hh z q).2
    · exact (hl z q).2
  have sb := run_ok OK (zs := hs) (s := st) ⟨OK.s0, OK.s1⟩ hh
  unfold t_law_6 D0
  walk_at "go"
  refine u_take G (fun _ => .head) hd (by decide) fun i1 d1 H2 i10 i11 hd1 G2 => ?_
  walk_at "go"
  refine r_ifD (fun h => ?_) (fun h => ?_)
  · walk_at "go"
    refine r_ixT (tS G2.fh w1) (atI_nat (j := 1) rfl) ?_
    walk_at "go"
    refine r_listof G2 (.inr (tS G2.fh w3)) fun e1 H3 G3 => ?_
    walk_at "go"
    refine u_take G3 (fun _ => .tail .head) hd1 (by decide) fun q d2 H4 q0 q1 hd2 G4 => ?_
    walk_at "go"
    refine r_lst G4 (by walk_at "sz") fun e2 H5 G5 => ?_
    refine r_cat (xs := iv ls) (ys := [.int (m + q)]) G5 (by walk_at "m") (by walk_at "m") (sz (by rw [iv_len]; simp; omega)) fun e3 H6 G6 => ?_
    rw [iv_snoc] at G6
    walk_at "go"
    refine r_ixT (tS G6.fh w1) (atI_nat (j := 0) rfl) ?_
    walk_at "go"
    refine r_tupofL G6 (by walk_at "l") fun t1 H7 G7 => ?_
    walk_at "go"
    refine r_tup G7 (by walk_at "sz") fun w2' H8 G8 => ?_
    walk_at "go"
    refine ⟨y, w2', m, st, ps, rs, hs, ls ++ [m + q], rfl, hP.mono G8.fh, OK, lp, lr, ⟨⟨hdd, t1, SqT.of (G8.get (by walk_at "m")), tS G8.fh w2, SqT.of (G8.get (by walk_at "m"))⟩⟩, hs0, fun z hz => ?_, by simp, fun hn => ?_, fun _ H' e => ?_⟩
    · rcases List.mem_append.mp hz with c | c
      · exact ls0 z c
      · rw [List.mem_singleton.mp c]; have := OK.m1; omega
    · have := hn (m + q) (by simp)
      omega
    · walk_at "go"
      exact k _
  walk_at "go"
  refine ⟨a, b, w, as, m, st, ps, rs, hs, ls, rfl, lS G2.fh ha, lS G2.fh hb, hr.mono G2.fh, OK, lp, lr, hw.mono G2.fh, hs0, ls0, ln, hall, fun M hM => ?_⟩
  walk_at "go"
  refine ⟨y, w, m, st, ps, rs, hs, ls, rfl, hP.mono G2.fh, OK, lp, lr, hw.mono G2.fh, hs0, ls0, ln, fun _ => ⟨M, hM, fun H3 e => ?_⟩, fun hn => absurd hall hn⟩
  have G3 := G2.grow e
  walk_at "go"
  refine r_isiB ?_
  walk_at "go"
  refine r_ifNF rfl ?_
  walk_at "go"
  refine ⟨F, y, m, st, ps, rs, rfl, G3.fh, hP, OK, lp, lr, fun F4 H4 z g hz => ?_⟩
  have G4 := G3.call g
  have OK2 : Pok m st (ps.map (· + 1)) rs := ⟨OK.m1, OK.ne, by rw [List.length_map]; exact OK.pl, OK.s0, OK.s1, fun p hp => by
    obtain ⟨q, hq, rfl⟩ := List.mem_map.mp hp
    have := OK.pp q hq
    show 0 ≤ q + 1
    omega, OK.rr⟩
  walk_at "go"
  refine ⟨z, w, m, st, ps.map (· + 1), rs, hs, ls, rfl, hz.mono G4.fh, OK2, by rw [List.length_map]; exact lp, lr, (hw.mono g.ff).mono G4.fh, hs0, ls0, ln, fun _ => ⟨M + 1, inf_succ (gk_succ OK hl ln sb) hM, fun H5 e => ?_⟩, fun hn => absurd hall hn⟩
  walk_at "go"
  refine r_isiB ?_
  walk_at "go"
  have fin : (!decide (decide ((M + 1) % 2 = 0) = decide (M % 2 = 0))) = true := by
    rcases (show M % 2 = 0 ∨ M % 2 = 1 by omega) with c | c
    · rw [decide_eq_true c, decide_eq_false (show ¬ (M + 1) % 2 = 0 by omega)]; rfl
    · rw [decide_eq_false (show ¬ M % 2 = 0 by omega), decide_eq_true (show (M + 1) % 2 = 0 by omega)]; rfl
  rw [fin]
  exact k _
theorem law_mid (T : Cl K A) {H0 F H1 : Hp} {x0 : V} {v6 v7 : Option V} {m st : Int} {a b p : Addr} {as : List Addr} {d ps : List Int} {rs : List (List Int)} (G : St ⟨H0, H0⟩ F H1 [(p, .lst (iv d))]) (hd : Dok d)
    (ha : SqL K F a (iv ps)) (hb : SqL K F b (rv as)) (hr : Rows K F true as rs) (OK : Pok m st ps rs) (lp : ps.length ≤ 1000) (lr : rs.length ≤ 1000) (k : ∀ H', Q (.bl true) H') :
    t_law_4 K A E (D0 Q) [some x0, some (.ref p), some (.int m), some (.int st), some (.ref a), some (.ref b), v6, v7, none, none, none, none, none, none] H1 := by
  unfold t_law_4 D0
  walk_at "go"
  refine r_listof G (.inl (lS G.fh ha)) fun c H2 G2 => ?_
  walk_at "go"
  refine ⟨b, as, rs, rfl, lS G2.fh hb, hr.mono G2.fh, lr, fun H3 dd bs hbl ow => ?_⟩
  have G3 := G2.addL ow
  walk_at "go"
  refine r_mk G3 fun y dy H4 G4 => ?_
  have hrb : Rows K H4 true bs rs := rowL_rows hbl fun x hx => G4.get (by simp [hx])
  refine ⟨F, y, dy, c, dd, true, true, bs, m, st, ps, rs, rfl, G4.fh, (G4.own _ (by walk_at "m")).2.1, G4.get (by walk_at "m"), SqL.of (G4.get (by simp)), SqL.of (G4.get (by walk_at "m")), hrb, (fun z => by cases z), lp, lr, fun _ F5 H5 pa ra as' gb hy hpa hra hR => ⟨rfl, ?_⟩, fun np => absurd OK np⟩
  have G5 := G4.callB Upd.head gb hy
  obtain ⟨F6, s6, hy6, G6⟩ := G5.frz Tak.head
  have s56 : Same F F6 := gb.ff.trans s6
  have hP : PaAt K A.C_ParityAutomaton F6 y m st ps rs := ⟨⟨dy, pa, ra, as', hy6, SqT.of (s6 _ _ hpa), SqT.of (s6 _ _ hra), hR.mono s6⟩⟩
  have G7 : St ⟨H0, H0⟩ F6 H5 [(p, .lst (iv d))] := St.dropL (L1 := _ :: _ :: (rowL bs rs ++ [_])) (by rw [List.cons_append, List.cons_append, List.append_assoc]; exact G6)
  walk_at "go"
  refine ⟨F6, p, d, m, 4, rfl, G7.fh, (G7.own _ (by walk_at "m")).2.1, G7.get (by walk_at "m"), hd, OK.m1, by decide, by decide, fun F8 H8 d8 w hs ls hd8 hw hh hl ln ln2 ln3 wj => ?_⟩
  have G8 : St ⟨H0, H0⟩ F8 H8 [(p, .lst (iv d8))] := G7.joinB Upd.head wj
  have s8 := s56.trans wj.ff
  walk_at "go"
  exact law_end T (v6 := x0) G8 hd8 (lS s8 ha) (lS s8 hb) (hr.mono s8) (hP.mono wj.ff) OK lp lr hw hh hl ln ln2 k
theorem p_law (T : Cl K A) (h : sp_law K A vs H Q E) : t_law K A E (D0 Q) (start ["script", "draws", "letters", "start", "priorities", "rows", "base", "priority", "automaton", "lasso", "loop", "expected", "found", "other"] vs) H := by
  obtain ⟨s, ns, rfl, hs, hns, k⟩ := h
  have G := St.init (Same.refl H)
  unfold t_law
  show tSeq _ _ (D0 Q) [some (.ref s), none, none, none, none, none, none, none, none, none, none, none, none, none] H
  unfold D0
  walk_at "go"
  refine u_draws G hs hns (by decide) (by decide) fun p d1 H1 hd1 G1 => ?_
  walk_at "go"
  refine u_take G1 (fun _ => .head) hd1 (by decide) fun m1 d2 H2 m10 m11 hd2 G2 => ?_
  walk_at "go"
  refine ⟨p, d2, 1 + m1, 6, rfl, G2.get (by walk_at "m"), hd2, by omega, by omega, by decide, by decide, fun H3 d3 t a b bs st ps rs hd3 OK lr4 hbl ow => ?_⟩
  have G3' := G2.addLB Upd.head ow
  obtain ⟨F3, s3, f3, G3⟩ := St.frzs G3'
  obtain ⟨o1, o2, o3, o4, o5, o6, o7⟩ := id OK
  have lr : rs.length ≤ 1000 := by omega
  have lp : ps.length ≤ 1000 := by omega
  generalize hm : 1 + m1 = m at *
  have ft := f3 (t, .tup [.int st, .ref a, .ref b]) (by walk_at "m")
  have ha : SqL K F3 a (iv ps) := SqL.of (f3 (a, .lst (iv ps)) (by walk_at "m"))
  have hb : SqL K F3 b (rv bs) := SqL.of (f3 (b, .lst (rv bs)) (by walk_at "m"))
  have hr : Rows K F3 true bs rs := rowL_rows hbl fun x hx => f3 x (by simp [hx])
  refine ⟨t, _, rfl, SqT.of (G3.fh _ _ ft), rfl, ?_⟩
  refine ⟨_, _, rfl, _, _, rfl, _, _, rfl, rfl, ?_⟩
  show tSeq _ _ _ [some (.ref s), some (.ref p), some (.int m), some (.int st), some (.ref a), some (.ref b), none, none, none, none, none, none, none, none] H3
  walk_at "go"
  refine u_take G3 (fun _ => .head) hd3 (by decide) fun i4 d4 H4 i40 i41 hd4 G4 => ?_
  walk_at "go"
  refine r_ifD (fun h => ?_) (fun h => ?_)
  · walk_at "go"
    refine ⟨s, ns, 0, rfl, lS G4.bh hs, Int.le_refl _, fun z => ?_⟩
    walk_at "go"
    generalize hu : z % _ = u
    have u0 : 0 ≤ u := by rw [← hu]; exact Int.emod_nonneg _ (by decide)
    have u1 : u < 10000000000000000000 := by rw [← hu]; exact Int.emod_lt_of_pos _ (by decide)
    refine r_mul (m := 64) (k := 32) (by have : (2 : Nat) ^ 64 = 18446744073709551616 := by decide
                                         omega) (by decide) ?_
    walk_at "go"
    walk_at "go"
    refine r_il (lS G4.fh ha) ?_
    refine r_lcM (k := true) (xs := iv ps) (fun v => match v with | .int i => .int (i + u * 2) | v => v) (by rw [iv_len]; omega) G4 (lS G4.fh ha) (fun D i y acc H' Q' hi e G' q => ?_) (fun D H' e G5 => ?_)
    · obtain ⟨z, hz, rfl⟩ := iv_get hi
      walk_at "go"
      exact q
    rw [show (iv ps).map (fun v => match v with | V.int i => V.int (i + u * 2) | v => v) = iv (ps.map (· + u * 2)) from by simp] at G5
    walk_at "go"
    obtain ⟨F6, s6, f6, G6⟩ := G5.frz Tak.head
    exact law_mid T G6 hd4 (SqL.of f6) (lS s6 hb) (hr.mono s6) ⟨o1, o2, by rw [List.length_map]; exact o3, o4, o5, fun p hp => by
      obtain ⟨q, hq, rfl⟩ := List.mem_map.mp hp
      have := o6 q hq
      show 0 ≤ q + u * 2
      omega, o7⟩ (by rw [List.length_map]; exact lp) lr k
  · walk_at "go"
    exact law_mid T G4 hd4 ha hb hr OK lp lr k
end

def top (i : Nat) : Stmt := PySem.Challenge.pw_promiseplay_k23_accepts_parity.main.body.getD i (.Pass ⟨0, 0, 0, 0⟩)
abbrev s_check_letters : Stmt := (top 5)
abbrev s_ParityAutomaton_init : Stmt := (inClass (top 7) 0)
abbrev s_accepts_parity : Stmt := (top 8)
abbrev s_complement_parity : Stmt := (top 9)
abbrev s__law_cell : Stmt := (top 11)
abbrev s__law_draws : Stmt := (top 12)
abbrev s__law_take : Stmt := (top 13)
abbrev s__law_lasso : Stmt := (top 14)
abbrev s__law_flat : Stmt := (top 15)
abbrev s__law_parity : Stmt := (top 16)
abbrev s__law_best : Stmt := (top 17)
abbrev s__law_outcome : Stmt := (top 18)
abbrev s_law : Stmt := (top 19)
theorem sc_check_letters : FnScope ["lasso", "letters", "head", "loop"] ["lasso", "letters"] (defScope s_check_letters) := ⟨rfl, rfl, rfl, by decide +kernel, rfl, by decide +kernel, by decide +kernel⟩
theorem sc_ParityAutomaton_init : FnScope ["self", "letters", "start", "priorities", "rows", "row"] ["self", "letters", "start", "priorities", "rows"] (defScope s_ParityAutomaton_init) := ⟨rfl, rfl, rfl, by decide +kernel, rfl, by decide +kernel, by decide +kernel⟩
theorem sc_accepts_parity : FnScope ["parity", "lasso", "head", "loop", "state", "letter", "greatest", "rounds", "most"] ["parity", "lasso"] (defScope s_accepts_parity) := ⟨rfl, rfl, rfl, by decide +kernel, rfl, by decide +kernel, by decide +kernel⟩
theorem sc_complement_parity : FnScope ["parity", "priority", "priorities"] ["parity"] (defScope s_complement_parity) := ⟨rfl, rfl, rfl, by decide +kernel, rfl, by decide +kernel, by decide +kernel⟩
theorem sc__law_cell : FnScope ["script", "k"] ["script", "k"] (defScope s__law_cell) := ⟨rfl, rfl, rfl, by decide +kernel, rfl, by decide +kernel, by decide +kernel⟩
theorem sc__law_draws : FnScope ["script", "count", "cells", "found", "mixed", "k", "j", "cell", "again"] ["script", "count"] (defScope s__law_draws) := ⟨rfl, rfl, rfl, by decide +kernel, rfl, by decide +kernel, by decide +kernel⟩
theorem sc__law_take : FnScope ["draws", "limit"] ["draws", "limit"] (defScope s__law_take) := ⟨rfl, rfl, rfl, by decide +kernel, rfl, by decide +kernel, by decide +kernel⟩
theorem sc__law_lasso : FnScope ["draws", "letters", "longest", "k", "head", "loop"] ["draws", "letters", "longest"] (defScope s__law_lasso) := ⟨rfl, rfl, rfl, by decide +kernel, rfl, by decide +kernel, by decide +kernel⟩
theorem sc__law_flat : FnScope ["rows", "row"] ["rows"] (defScope s__law_flat) := ⟨rfl, rfl, rfl, by decide +kernel, rfl, by decide +kernel, by decide +kernel⟩
theorem sc__law_parity : FnScope ["draws", "letters", "most", "count", "top", "state", "priorities", "rows", "letter"] ["draws", "letters", "most"] (defScope s__law_parity) := ⟨rfl, rfl, rfl, by decide +kernel, rfl, by decide +kernel, by decide +kernel⟩
theorem sc__law_best : FnScope ["start", "priorities", "rows", "lasso", "state", "letter", "k", "best"] ["start", "priorities", "rows", "lasso"] (defScope s__law_best) := ⟨rfl, rfl, rfl, by decide +kernel, rfl, by decide +kernel, by decide +kernel⟩
theorem sc__law_outcome : FnScope ["automaton", "lasso", "found"] ["automaton", "lasso"] (defScope s__law_outcome) := ⟨rfl, rfl, rfl, by decide +kernel, rfl, by decide +kernel, by decide +kernel⟩
theorem sc_law : FnScope ["script", "draws", "letters", "start", "priorities", "rows", "base", "priority", "automaton", "lasso", "loop", "expected", "found", "other"] ["script"] (defScope s_law) := ⟨rfl, rfl, rfl, by decide +kernel, rfl, by decide +kernel, by decide +kernel⟩
structure Txt (K : PySem.W.Frag) (mg : Str → Option Value) (A : Ads) : Prop where
  cl : Cl K A
  F_check_letters : Fun K "check_letters" "check_letters" s_check_letters A.a_check_letters A.fd_check_letters
  b_check_letters : Binds K A.fd_check_letters ["lasso", "letters"] []
  g_check_letters : mg "check_letters" = some (.ref A.a_check_letters)
  k_check_letters : PySem.W.keepIn K (.ref A.a_check_letters) = true
  F_ParityAutomaton_init : Fun K "__init__" "ParityAutomaton.__init__" s_ParityAutomaton_init A.a_ParityAutomaton_init A.fd_ParityAutomaton_init
  b_ParityAutomaton_init : Binds K A.fd_ParityAutomaton_init ["self", "letters", "start", "priorities", "rows"] []
  mt_ParityAutomaton_init : Meth K A.C_ParityAutomaton "__init__" A.a_ParityAutomaton_init
  F_accepts_parity : Fun K "accepts_parity" "accepts_parity" s_accepts_parity A.a_accepts_parity A.fd_accepts_parity
  b_accepts_parity : Binds K A.fd_accepts_parity ["parity", "lasso"] []
  g_accepts_parity : mg "accepts_parity" = some (.ref A.a_accepts_parity)
  k_accepts_parity : PySem.W.keepIn K (.ref A.a_accepts_parity) = true
  F_complement_parity : Fun K "complement_parity" "complement_parity" s_complement_parity A.a_complement_parity A.fd_complement_parity
  b_complement_parity : Binds K A.fd_complement_parity ["parity"] []
  g_complement_parity : mg "complement_parity" = some (.ref A.a_complement_parity)
  k_complement_parity : PySem.W.keepIn K (.ref A.a_complement_parity) = true
  F__law_cell : Fun K "_law_cell" "_law_cell" s__law_cell A.a__law_cell A.fd__law_cell
  b__law_cell : Binds K A.fd__law_cell ["script", "k"] []
  g__law_cell : mg "_law_cell" = some (.ref A.a__law_cell)
  k__law_cell : PySem.W.keepIn K (.ref A.a__law_cell) = true
  F__law_draws : Fun K "_law_draws" "_law_draws" s__law_draws A.a__law_draws A.fd__law_draws
  b__law_draws : Binds K A.fd__law_draws ["script", "count"] []
  g__law_draws : mg "_law_draws" = some (.ref A.a__law_draws)
  k__law_draws : PySem.W.keepIn K (.ref A.a__law_draws) = true
  F__law_take : Fun K "_law_take" "_law_take" s__law_take A.a__law_take A.fd__law_take
  b__law_take : Binds K A.fd__law_take ["draws", "limit"] []
  g__law_take : mg "_law_take" = some (.ref A.a__law_take)
  k__law_take : PySem.W.keepIn K (.ref A.a__law_take) = true
  F__law_lasso : Fun K "_law_lasso" "_law_lasso" s__law_lasso A.a__law_lasso A.fd__law_lasso
  b__law_lasso : Binds K A.fd__law_lasso ["draws", "letters", "longest"] []
  g__law_lasso : mg "_law_lasso" = some (.ref A.a__law_lasso)
  k__law_lasso : PySem.W.keepIn K (.ref A.a__law_lasso) = true
  F__law_flat : Fun K "_law_flat" "_law_flat" s__law_flat A.a__law_flat A.fd__law_flat
  b__law_flat : Binds K A.fd__law_flat ["rows"] []
  g__law_flat : mg "_law_flat" = some (.ref A.a__law_flat)
  k__law_flat : PySem.W.keepIn K (.ref A.a__law_flat) = true
  F__law_parity : Fun K "_law_parity" "_law_parity" s__law_parity A.a__law_parity A.fd__law_parity
  b__law_parity : Binds K A.fd__law_parity ["draws", "letters", "most"] []
  g__law_parity : mg "_law_parity" = some (.ref A.a__law_parity)
  k__law_parity : PySem.W.keepIn K (.ref A.a__law_parity) = true
  F__law_best : Fun K "_law_best" "_law_best" s__law_best A.a__law_best A.fd__law_best
  b__law_best : Binds K A.fd__law_best ["start", "priorities", "rows", "lasso"] []
  g__law_best : mg "_law_best" = some (.ref A.a__law_best)
  k__law_best : PySem.W.keepIn K (.ref A.a__law_best) = true
  F__law_outcome : Fun K "_law_outcome" "_law_outcome" s__law_outcome A.a__law_outcome A.fd__law_outcome
  b__law_outcome : Binds K A.fd__law_outcome ["automaton", "lasso"] []
  g__law_outcome : mg "_law_outcome" = some (.ref A.a__law_outcome)
  k__law_outcome : PySem.W.keepIn K (.ref A.a__law_outcome) = true
  F_law : Fun K "law" "law" s_law A.a_law A.fd_law
  b_law : Binds K A.fd_law ["script"] []
  g_law : mg "law" = some (.ref A.a_law)
  k_law : PySem.W.keepIn K (.ref A.a_law) = true
  g_ParityAutomaton : mg "ParityAutomaton" = some (.ref A.C_ParityAutomaton)
  cl_ParityAutomaton : Cls K A.C_ParityAutomaton
  M_ParityAutomaton : Mk K A.C_ParityAutomaton A.a_ParityAutomaton_init
  g_InvalidAutomaton : mg "InvalidAutomaton" = some (.ref A.C_InvalidAutomaton)
  g_InvalidLetter : mg "InvalidLetter" = some (.ref A.C_InvalidLetter)
  k_InvalidAutomaton : PySem.W.keepIn K (.ref A.C_InvalidAutomaton) = true
  x_InvalidAutomaton : PySem.W.excIn K A.C_InvalidAutomaton [.type "ValueError", .type "Exception", .type "BaseException", .type "object"] "ValueError.__new__" = true
  s_InvalidAutomaton : PySem.W.subIn K (.ref A.C_InvalidAutomaton) (.type "BaseException") = some true
  t_InvalidAutomaton : PySem.W.typeIn K (.ref A.C_InvalidAutomaton) = some (.type "type")
  k_InvalidLetter : PySem.W.keepIn K (.ref A.C_InvalidLetter) = true
  x_InvalidLetter : PySem.W.excIn K A.C_InvalidLetter [.type "ValueError", .type "Exception", .type "BaseException", .type "object"] "ValueError.__new__" = true
  s_InvalidLetter : PySem.W.subIn K (.ref A.C_InvalidLetter) (.type "BaseException") = some true
  t_InvalidLetter : PySem.W.typeIn K (.ref A.C_InvalidLetter) = some (.type "type")
  z_bool : mg "bool" = none
  z_int : mg "int" = none
  z_isinstance : mg "isinstance" = none
  z_len : mg "len" = none
  z_list : mg "list" = none
  z_max : mg "max" = none
  z_min : mg "min" = none
  z_range : mg "range" = none
  z_tuple : mg "tuple" = none
section
variable {P : Program} {w : World} {K : PySem.W.Frag} {mg : Str → Option Value} {base : Heap} {A : Ads}
theorem ok_check_letters (T : Txt K mg A) : FnOk P w K mg base (L2.CX P w) 1 A.a_check_letters A.fd_check_letters ["lasso", "letters"] (sp_check_letters K A) :=
  T.F_check_letters.okX sc_check_letters (fun vs H Q E h => by obtain ⟨_, _, _, _, rfl, _⟩ := h; rfl) (fun cdv Ar outer s H vs Q E hr h => ⟨t_check_letters K A E, by exact (pss_cons (ps_asg (pv 0) (pg_tup (by rfl) (pgs_cons (pg_name (i := 2) sc_check_letters.nd rfl (Or.inl rfl)) (pgs_cons (pg_name (i := 3) sc_check_letters.nd rfl (Or.inl rfl)) pgs_nil))))
 (pss_one (ps_if (PW.pt (pw_or (pt_cmpR op_ge (pe_callB (cB_max rfl) (by rfl) T.z_max (by decide +kernel) (pa_cons (pv 3) pa_nil)) (pv 1) (nomark _)) (pw_or1 (pt_cmpR op_ge (pe_callBK (cD_max rfl) (by rfl) T.z_max (by decide +kernel) (pa_cons (pv 2) pa_nil) (pk_cons pe_int pk_nil)) (pv 1) (nomark _))))) (pss_one (ps_raise rfl (takes_of rfl rfl rfl rfl) (pmk_own PySem.F.excBase_ValueError T.x_InvalidLetter T.g_InvalidLetter T.k_InvalidLetter (raises_own T.s_InvalidLetter T.t_InvalidLetter) (by exact rfl)))) pss_nil))), p_check_letters T.cl h⟩)
theorem ok_ParityAutomaton_init (T : Txt K mg A) : FnOk P w K mg base (L2.CX P w) 1 A.a_ParityAutomaton_init A.fd_ParityAutomaton_init ["self", "letters", "start", "priorities", "rows"] (sp_ParityAutomaton_init K A) :=
  T.F_ParityAutomaton_init.okX sc_ParityAutomaton_init (fun vs H Q E h => by obtain ⟨_, _, _, _, _, _, _, _, _, _, _, _, rfl, _⟩ := h; rfl) (fun cdv Ar outer s H vs Q E hr h => ⟨t_ParityAutomaton_init K A E, by exact (pss_cons (ps_if (PW.pt (pw_or (pt_cmpR op_lt (pv 1) pe_int (nomark _)) (pw_or (pt_cmpR op_eq (pe_callB call_len_seq (by rfl) T.z_len (by decide +kernel) (pa_cons (pv 4) pa_nil)) pe_int (nomark _)) (pw_or1 (pt_cmpR op_ne (pe_callB call_len_seq (by rfl) T.z_len (by decide +kernel) (pa_cons (pv 3) pa_nil)) (pe_callB call_len_seq (by rfl) T.z_len (by decide +kernel) (pa_cons (pv 4) pa_nil)) (nomark _)))))) (pss_one (ps_raise rfl (takes_of rfl rfl rfl rfl) (pmk_own PySem.F.excBase_ValueError T.x_InvalidAutomaton T.g_InvalidAutomaton T.k_InvalidAutomaton (raises_own T.s_InvalidAutomaton T.t_InvalidAutomaton) (by exact rfl)))) pss_nil)
 (pss_cons (ps_if (PW.pt (pw_or (pt_cmpR op_lt (pv 2) pe_int (nomark _)) (pw_or (pt_cmpR op_ge (pv 2) (pe_callB call_len_seq (by rfl) T.z_len (by decide +kernel) (pa_cons (pv 4) pa_nil)) (nomark _)) (pw_or1 (pt_cmpR op_lt (pe_callB (cB_min rfl) (by rfl) T.z_min (by decide +kernel) (pa_cons (pv 3) pa_nil)) pe_int (nomark _)))))) (pss_one (ps_raise rfl (takes_of rfl rfl rfl rfl) (pmk_own PySem.F.excBase_ValueError T.x_InvalidAutomaton T.g_InvalidAutomaton T.k_InvalidAutomaton (raises_own T.s_InvalidAutomaton T.t_InvalidAutomaton) (by exact rfl)))) pss_nil)
 (pss_cons (ps_for (passes_of rfl) rfl (pi_seq (pv 4)) (pg_name (i := 5) sc_ParityAutomaton_init.nd rfl (Or.inl rfl)) (pss_one (ps_if (PW.pt (pw_or (pt_cmpR op_ne (pe_callB call_len_seq (by rfl) T.z_len (by decide +kernel) (pa_cons (pv 5) pa_nil)) (pv 1) (nomark _)) (pw_or (pt_cmpR op_lt (pe_callB (cB_min rfl) (by rfl) T.z_min (by decide +kernel) (pa_cons (pv 5) pa_nil)) pe_int (nomark _)) (pw_or1 (pt_cmpR op_ge (pe_callB (cB_max rfl) (by rfl) T.z_max (by decide +kernel) (pa_cons (pv 5) pa_nil)) (pe_callB call_len_seq (by rfl) T.z_len (by decide +kernel) (pa_cons (pv 4) pa_nil)) (nomark _)))))) (pss_one (ps_raise rfl (takes_of rfl rfl rfl rfl) (pmk_own PySem.F.excBase_ValueError T.x_InvalidAutomaton T.g_InvalidAutomaton T.k_InvalidAutomaton (raises_own T.s_InvalidAutomaton T.t_InvalidAutomaton) (by exact rfl)))) pss_nil)))
 (pss_cons (ps_fld (pv 0) (pv 1) rfl)
 (pss_cons (ps_fld (pv 0) (pv 2) rfl)
 (pss_cons (ps_fld (pv 0) (pe_callTy call_tuple_of (by rfl) T.z_tuple (by decide +kernel) (pa_cons (pv 3) pa_nil)) rfl)
 (pss_one (ps_fld (pv 0) (pe_callTy call_tuple_of (by rfl) T.z_tuple (by decide +kernel) (pa_cons (pe_lc (own := [("row", 5)]) rfl sc_ParityAutomaton_init.nd (pi_seq (pv 4)) (blkOk_by (N := ["self", "letters", "start", "priorities", "rows", "row"]) (sc := defScope s_ParityAutomaton_init) (own := [("row", 5)]) (by decide +kernel)) (fun _ _ _ _ _ => (pg_name (i := 5) sc_ParityAutomaton_init.nd rfl (Or.inl rfl))) (fun _ _ _ _ _ => pts_nil) (fun _ _ _ _ _ => (pe_callTy call_tuple_of (by rfl) T.z_tuple (by decide +kernel) (pa_cons (pv 5) pa_nil)))) pa_nil)) rfl)))))))), p_ParityAutomaton_init T.cl h⟩)
theorem ok__law_cell (T : Txt K mg A) : FnOk P w K mg base CX0 1 A.a__law_cell A.fd__law_cell ["script", "k"] (sp__law_cell K A) :=
  T.F__law_cell.ok sc__law_cell (fun vs H Q E h => by obtain ⟨_, _, _, rfl, _⟩ := h; rfl) (fun cdv Ar outer s H vs Q E hr h => ⟨t__law_cell K A E, by exact (pss_cons (ps_if (pt_cmpR op_lt (pv 1) (pe_callB call_len_seq (by rfl) T.z_len (by decide +kernel) (pa_cons (pv 0) pa_nil)) (nomark _)) (pss_one (ps_ret (pe_ix ix_list (pv 0) (pv 1) (fun _ _ => rfl)))) pss_nil)
 (pss_one (ps_ret pe_int))), p__law_cell T.cl h⟩)
theorem ok__law_draws (T : Txt K mg A) : FnOk P w K mg base CX0 1 A.a__law_draws A.fd__law_draws ["script", "count"] (sp__law_draws K A) :=
  T.F__law_draws.ok sc__law_draws (fun vs H Q E h => by obtain ⟨_, _, _, rfl, _⟩ := h; rfl) (fun cdv Ar outer s H vs Q E hr h => ⟨t__law_draws K A E, by exact (pss_cons (ps_set (i := 2) sc__law_draws.nd rfl (Or.inl rfl) (pe_callTy call_list_of (by rfl) T.z_list (by decide +kernel) (pa_cons (pv 0) pa_nil)))
 (pss_cons (ps_if (pt_cmpR op_eq (pe_callB call_len_seq (by rfl) T.z_len (by decide +kernel) (pa_cons (pv 2) pa_nil)) pe_int (nomark _)) (pss_one (ps_set (i := 2) sc__law_draws.nd rfl (Or.inl rfl) (pe_lst (pa_cons pe_int pa_nil)))) pss_nil)
 (pss_cons (ps_set (i := 3) sc__law_draws.nd rfl (Or.inl rfl) (pe_lst pa_nil))
 (pss_cons (ps_set (i := 4) sc__law_draws.nd rfl (Or.inl rfl) pe_int)
 (pss_cons (ps_for PassesOwn.never rfl (pi_range1 rfl T.z_range (pa_cons (pv 1) pa_nil)) (pg_name (i := 5) sc__law_draws.nd rfl (Or.inl rfl)) (pss_cons (ps_set (i := 6) sc__law_draws.nd rfl (Or.inl rfl) (pe_op op_mod (pv 5) (pe_callB call_len_seq (by rfl) T.z_len (by decide +kernel) (pa_cons (pv 2) pa_nil))))
 (pss_cons (ps_set (i := 7) sc__law_draws.nd rfl (Or.inl rfl) (pe_ix ix_list (pv 2) (pv 6) (fun _ _ => rfl)))
 (pss_cons (ps_set (i := 4) sc__law_draws.nd rfl (Or.inl rfl) (pe_op op_mod (pe_callTy call_int1 (by rfl) T.z_int (by decide +kernel) (pa_cons (pe_op op_add (pe_op op_add (pe_op op_add (pe_op op_mulW (pv 4) pe_int) (pe_op op_mulW (pe_op op_mod (pe_callTy call_int1 (by rfl) T.z_int (by decide +kernel) (pa_cons (pv 7) pa_nil)) pe_int) pe_int)) (pe_op op_mulW (pv 5) pe_int)) pe_int) pa_nil)) pe_int))
 (pss_cons (ps_set (i := 8) sc__law_draws.nd rfl (Or.inl rfl) (pe_op op_mod (pe_callTy call_int1 (by rfl) T.z_int (by decide +kernel) (pa_cons (pe_op op_add (pe_op op_add (pe_op op_mulW (pv 4) (pv 4)) (pe_op op_mulW pe_int (pv 4))) (pv 5)) pa_nil)) pe_int))
 (pss_one (ps_if (pt_cmpR op_ge (pv 7) (pe_op op_pow pe_int pe_int) (nomark _)) (pss_cons (ps_expr (pe_bm PySem.F.plainAttrs_list PySem.F.slot_list_append PySem.F.type_list_append mt_append (pv 3) (pa_cons (pe_op op_mod (pe_callTy call_int1 (by rfl) T.z_int (by decide +kernel) (pa_cons (pv 7) pa_nil)) pe_int) pa_nil)))
 (pss_one (ps_asg (pe_op op_fdivW (pv 7) pe_int) (pg_sub (pv 2) (pv 6) set_list)))) (pss_one (ps_expr (pe_bm PySem.F.plainAttrs_list PySem.F.slot_list_append PySem.F.type_list_append mt_append (pv 3) (pa_cons (pe_op op_mod (pe_callTy call_int1 (by rfl) T.z_int (by decide +kernel) (pa_cons (pv 8) pa_nil)) pe_int) pa_nil)))))))))))
 (pss_cons (ps_expr (pe_bm0 PySem.F.plainAttrs_list PySem.F.slot_list_reverse PySem.F.type_list_reverse mt_reverse (pv 3)))
 (pss_one (ps_ret (pv 3))))))))), p__law_draws T.cl h⟩)
theorem ok__law_take (T : Txt K mg A) : FnOk P w K mg base CX0 1 A.a__law_take A.fd__law_take ["draws", "limit"] (sp__law_take K A) :=
  T.F__law_take.ok sc__law_take (fun vs H Q E h => by obtain ⟨_, _, _, rfl, _⟩ := h; rfl) (fun cdv Ar outer s H vs Q E hr h => ⟨t__law_take K A E, by exact (pss_cons (ps_if (pt_cmpR op_eq (pe_callB call_len_seq (by rfl) T.z_len (by decide +kernel) (pa_cons (pv 0) pa_nil)) pe_int (nomark _)) (pss_one (ps_ret pe_int)) pss_nil)
 (pss_one (ps_ret (pe_op op_mod (pe_callTy call_int1 (by rfl) T.z_int (by decide +kernel) (pa_cons (pe_bm0 PySem.F.plainAttrs_list PySem.F.slot_list_pop PySem.F.type_list_pop mt_pop (pv 0)) pa_nil)) (pv 1))))), p__law_take T.cl h⟩)
theorem ok__law_flat (T : Txt K mg A) : FnOk P w K mg base CX0 1 A.a__law_flat A.fd__law_flat ["rows"] (sp__law_flat K A) :=
  T.F__law_flat.ok sc__law_flat (fun vs H Q E h => by obtain ⟨_, _, _, rfl, _⟩ := h; rfl) (fun cdv Ar outer s H vs Q E hr h => ⟨t__law_flat K A E, by exact (pss_one (ps_ret (pe_lc (own := [("row", 1)]) rfl sc__law_flat.nd (pi_list (pv 0)) (blkOk_by (N := ["rows", "row"]) (sc := defScope s__law_flat) (own := [("row", 1)]) (by decide +kernel)) (fun _ _ _ _ _ => (pg_name (i := 1) sc__law_flat.nd rfl (Or.inl rfl))) (fun _ _ _ _ _ => pts_nil) (fun _ _ _ _ _ => (pe_callTy call_list_of (by rfl) T.z_list (by decide +kernel) (pa_cons (pv 1) pa_nil)))))), p__law_flat T.cl h⟩)
theorem ok__law_best (T : Txt K mg A) : FnOk P w K mg base CX0 1 A.a__law_best A.fd__law_best ["start", "priorities", "rows", "lasso"] (sp__law_best K A) :=
  T.F__law_best.ok sc__law_best (fun vs H Q E h => by obtain ⟨_, _, _, _, _, _, _, _, _, _, rfl, _⟩ := h; rfl) (fun cdv Ar outer s H vs Q E hr h => ⟨t__law_best K A E, by exact (pss_cons (ps_set (i := 4) sc__law_best.nd rfl (Or.inl rfl) (pv 0))
 (pss_cons (ps_for PassesOwn.never rfl (pi_tup (pe_ix ix_tup (pv 3) pe_int (fun _ _ => rfl))) (pg_name (i := 5) sc__law_best.nd rfl (Or.inl rfl)) (pss_one (ps_set (i := 4) sc__law_best.nd rfl (Or.inl rfl) (pe_ix ix_list (pe_ix ix_list (pv 2) (pv 4) (fun _ _ => rfl)) (pv 5) (fun _ _ => rfl)))))
 (pss_cons (ps_for PassesOwn.never rfl (pi_range1 rfl T.z_range (pa_cons (pe_callB call_len_seq (by rfl) T.z_len (by decide +kernel) (pa_cons (pv 2) pa_nil)) pa_nil)) (pg_name (i := 6) sc__law_best.nd rfl (Or.inl rfl)) (pss_one (ps_for PassesOwn.never rfl (pi_tup (pe_ix ix_tup (pv 3) pe_int (fun _ _ => rfl))) (pg_name (i := 5) sc__law_best.nd rfl (Or.inl rfl)) (pss_one (ps_set (i := 4) sc__law_best.nd rfl (Or.inl rfl) (pe_ix ix_list (pe_ix ix_list (pv 2) (pv 4) (fun _ _ => rfl)) (pv 5) (fun _ _ => rfl)))))))
 (pss_cons (ps_set (i := 7) sc__law_best.nd rfl (Or.inl rfl) pe_int)
 (pss_cons (ps_for PassesOwn.never rfl (pi_range1 rfl T.z_range (pa_cons (pe_callB call_len_seq (by rfl) T.z_len (by decide +kernel) (pa_cons (pv 2) pa_nil)) pa_nil)) (pg_name (i := 6) sc__law_best.nd rfl (Or.inl rfl)) (pss_one (ps_for PassesOwn.never rfl (pi_tup (pe_ix ix_tup (pv 3) pe_int (fun _ _ => rfl))) (pg_name (i := 5) sc__law_best.nd rfl (Or.inl rfl)) (pss_cons (ps_set (i := 4) sc__law_best.nd rfl (Or.inl rfl) (pe_ix ix_list (pe_ix ix_list (pv 2) (pv 4) (fun _ _ => rfl)) (pv 5) (fun _ _ => rfl)))
 (pss_one (ps_set (i := 7) sc__law_best.nd rfl (Or.inl rfl) (pe_callB (call_max2 rfl) (by rfl) T.z_max (by decide +kernel) (pa_cons (pv 7) (pa_cons (pe_ix ix_list (pv 1) (pv 4) (fun _ _ => rfl)) pa_nil)))))))))
 (pss_one (ps_ret (pv 7)))))))), p__law_best T.cl h⟩)
theorem ok_accepts_parity (T : Txt K mg A) : FnOk P w K mg base (L2.CX P w) 2 A.a_accepts_parity A.fd_accepts_parity ["parity", "lasso"] (sp_accepts_parity K A) :=
  T.F_accepts_parity.okX sc_accepts_parity (fun vs H Q E h => by obtain ⟨_, _, _, _, _, _, _, _, rfl, _⟩ := h; rfl) (fun cdv Ar outer s H vs Q E hr h => ⟨t_accepts_parity K A E, by exact (pss_cons (ps_expr (pe_call (ok_check_letters T) (hr.mono (by decide)) rfl T.g_check_letters T.k_check_letters T.b_check_letters .nil (passes_call (takes_of rfl rfl rfl rfl) (fun _ _ _ _ h => h)) (pa_cons (pv 1) (pa_cons (pe_fld (pv 0) rfl) pa_nil))))
 (pss_cons (ps_asg (pv 1) (pg_tup (by rfl) (pgs_cons (pg_name (i := 2) sc_accepts_parity.nd rfl (Or.inl rfl)) (pgs_cons (pg_name (i := 3) sc_accepts_parity.nd rfl (Or.inl rfl)) pgs_nil))))
 (pss_cons (ps_set (i := 4) sc_accepts_parity.nd rfl (Or.inl rfl) (pe_fld (pv 0) rfl))
 (pss_cons (ps_for (passes_of rfl) rfl (pi_tup (pv 2)) (pg_name (i := 5) sc_accepts_parity.nd rfl (Or.inl rfl)) (pss_one (ps_set (i := 4) sc_accepts_parity.nd rfl (Or.inl rfl) (pe_ix ix_tup (pe_ix ix_tup (pe_fld (pv 0) rfl) (pv 4) (fun _ _ => rfl)) (pv 5) (fun _ _ => rfl)))))
 (pss_cons (ps_set (i := 6) sc_accepts_parity.nd rfl (Or.inl rfl) (pe_lst pa_nil))
 (pss_cons (ps_set (i := 7) sc_accepts_parity.nd rfl (Or.inl rfl) pe_dnewK)
 (pss_cons (ps_while (passes_of rfl) (pt_cmp (pc_dnotin (hu_of hr) (pv 4) (pv 7))) (pss_cons (ps_dput (hu_of hr) (pv 7) (pv 4) (pe_callB call_len_seq (by rfl) T.z_len (by decide +kernel) (pa_cons (pv 6) pa_nil)) rfl)
 (pss_cons (ps_set (i := 8) sc_accepts_parity.nd rfl (Or.inl rfl) pe_int)
 (pss_cons (ps_for (passes_of rfl) rfl (pi_tup (pv 3)) (pg_name (i := 5) sc_accepts_parity.nd rfl (Or.inl rfl)) (pss_cons (ps_set (i := 4) sc_accepts_parity.nd rfl (Or.inl rfl) (pe_ix ix_tup (pe_ix ix_tup (pe_fld (pv 0) rfl) (pv 4) (fun _ _ => rfl)) (pv 5) (fun _ _ => rfl)))
 (pss_one (ps_set (i := 8) sc_accepts_parity.nd rfl (Or.inl rfl) (pe_callB (call_max2 rfl) (by rfl) T.z_max (by decide +kernel) (pa_cons (pv 8) (pa_cons (pe_ix ix_tup (pe_fld (pv 0) rfl) (pv 4) (fun _ _ => rfl)) pa_nil)))))))
 (pss_one (ps_expr (pe_bm PySem.F.plainAttrs_list PySem.F.slot_list_append PySem.F.type_list_append mt_append (pv 6) (pa_cons (pv 8) pa_nil))))))))
 (pss_one (ps_ret (pe_cmpR op_eq (pe_op op_mod (pe_callB (cB_max rfl) (by rfl) T.z_max (by decide +kernel) (pa_cons (pe_slice sl_list (pv 6) (po_some (pe_dget (hu_of hr) (pv 7) (pv 4) (fun _ _ => rfl))) po_none) pa_nil)) pe_int) pe_int (nomark _))))))))))), p_accepts_parity T.cl h⟩)
theorem ok__law_lasso (T : Txt K mg A) : FnOk P w K mg base CX0 2 A.a__law_lasso A.fd__law_lasso ["draws", "letters", "longest"] (sp__law_lasso K A) :=
  T.F__law_lasso.ok sc__law_lasso (fun vs H Q E h => by obtain ⟨_, _, _, _, _, rfl, _⟩ := h; rfl) (fun cdv Ar outer s H vs Q E hr h => ⟨t__law_lasso K A E, by exact (pss_cons (ps_setLc (i := 4) (own := [("k", 3)]) rfl sc__law_lasso.nd rfl rfl (sw_true rfl rfl rfl (by decide +kernel)) (pi_range1 rfl T.z_range (pa_cons (pe_call (ok__law_take T) (hr.mono (by decide)) rfl T.g__law_take T.k__law_take T.b__law_take .nil pass0 (pa_cons (pv 0) (pa_cons (pe_op op_add (pv 2) pe_int) pa_nil))) pa_nil)) (blkOk_by (N := ["draws", "letters", "longest", "k", "head", "loop"]) (sc := defScope s__law_lasso) (own := [("k", 3)]) (by decide +kernel)) (fun _ _ _ _ _ => (pg_name (i := 3) sc__law_lasso.nd rfl (Or.inl rfl))) (fun _ _ _ _ _ => pts_nil) (fun _ _ _ _ _ => (pe_call (ok__law_take T) (hr.mono (by decide)) rfl T.g__law_take T.k__law_take T.b__law_take .nil pass0 (pa_cons (pv 0) (pa_cons (pv 1) pa_nil)))))
 (pss_cons (ps_setLc (i := 5) (own := [("k", 3)]) rfl sc__law_lasso.nd rfl rfl (sw_true rfl rfl rfl (by decide +kernel)) (pi_range1 rfl T.z_range (pa_cons (pe_op op_add pe_int (pe_call (ok__law_take T) (hr.mono (by decide)) rfl T.g__law_take T.k__law_take T.b__law_take .nil pass0 (pa_cons (pv 0) (pa_cons (pv 2) pa_nil)))) pa_nil)) (blkOk_by (N := ["draws", "letters", "longest", "k", "head", "loop"]) (sc := defScope s__law_lasso) (own := [("k", 3)]) (by decide +kernel)) (fun _ _ _ _ _ => (pg_name (i := 3) sc__law_lasso.nd rfl (Or.inl rfl))) (fun _ _ _ _ _ => pts_nil) (fun _ _ _ _ _ => (pe_call (ok__law_take T) (hr.mono (by decide)) rfl T.g__law_take T.k__law_take T.b__law_take .nil pass0 (pa_cons (pv 0) (pa_cons (pv 1) pa_nil)))))
 (pss_one (ps_ret (pe_tup (pa_cons (pe_callTy call_tuple_of (by rfl) T.z_tuple (by decide +kernel) (pa_cons (pv 4) pa_nil)) (pa_cons (pe_callTy call_tuple_of (by rfl) T.z_tuple (by decide +kernel) (pa_cons (pv 5) pa_nil)) pa_nil))))))), p__law_lasso T.cl h⟩)
theorem ok__law_parity (T : Txt K mg A) : FnOk P w K mg base CX0 2 A.a__law_parity A.fd__law_parity ["draws", "letters", "most"] (sp__law_parity K A) :=
  T.F__law_parity.ok sc__law_parity (fun vs H Q E h => by obtain ⟨_, _, _, _, rfl, _⟩ := h; rfl) (fun cdv Ar outer s H vs Q E hr h => ⟨t__law_parity K A E, by exact (pss_cons (ps_set (i := 3) sc__law_parity.nd rfl (Or.inr rfl) (pe_op op_add pe_int (pe_call (ok__law_take T) (hr.mono (by decide)) rfl T.g__law_take T.k__law_take T.b__law_take .nil pass0 (pa_cons (pv 0) (pa_cons (pv 2) pa_nil)))))
 (pss_cons (ps_set (i := 4) sc__law_parity.nd rfl (Or.inr rfl) (pe_op op_add pe_int (pe_call (ok__law_take T) (hr.mono (by decide)) rfl T.g__law_take T.k__law_take T.b__law_take .nil pass0 (pa_cons (pv 0) (pa_cons pe_int pa_nil)))))
 (pss_cons (ps_setLc (i := 6) (own := [("state", 5)]) rfl sc__law_parity.nd rfl rfl (sw_true rfl rfl rfl (by decide +kernel)) (pi_range1 rfl T.z_range (pa_cons (pv 3) pa_nil)) (blkOk_by (N := ["draws", "letters", "most", "count", "top", "state", "priorities", "rows", "letter"]) (sc := defScope s__law_parity) (own := [("state", 5)]) (by decide +kernel)) (fun _ _ _ _ _ => (pg_name (i := 5) sc__law_parity.nd rfl (Or.inl rfl))) (fun _ _ _ _ _ => pts_nil) (fun _ _ _ _ _ => (pe_call (ok__law_take T) (hr.mono (by decide)) rfl T.g__law_take T.k__law_take T.b__law_take .nil pass0 (pa_cons (pv 0) (pa_cons (pv 4) pa_nil)))))
 (pss_cons (ps_set (i := 7) sc__law_parity.nd rfl (Or.inl rfl) (pe_lst pa_nil))
 (pss_cons (ps_for PassesOwn.never rfl (pi_range1 rfl T.z_range (pa_cons (pv 3) pa_nil)) (pg_name (i := 5) sc__law_parity.nd rfl (Or.inl rfl)) (pss_one (ps_expr (pe_bm PySem.F.plainAttrs_list PySem.F.slot_list_append PySem.F.type_list_append mt_append (pv 7) (pa_cons (pe_lc (own := [("letter", 8)]) rfl sc__law_parity.nd (pi_range1 rfl T.z_range (pa_cons (pv 1) pa_nil)) (blkOk_by (N := ["draws", "letters", "most", "count", "top", "state", "priorities", "rows", "letter"]) (sc := defScope s__law_parity) (own := [("letter", 8)]) (by decide +kernel)) (fun _ _ _ _ _ => (pg_name (i := 8) sc__law_parity.nd rfl (Or.inl rfl))) (fun _ _ _ _ _ => pts_nil) (fun _ _ _ _ _ => (pe_call (ok__law_take T) (hr.mono (by decide)) rfl T.g__law_take T.k__law_take T.b__law_take .nil pass0 (pa_cons (pv 0) (pa_cons (pv 3) pa_nil))))) pa_nil)))))
 (pss_one (ps_ret (pe_tup (pa_cons (pe_call (ok__law_take T) (hr.mono (by decide)) rfl T.g__law_take T.k__law_take T.b__law_take .nil pass0 (pa_cons (pv 0) (pa_cons (pv 3) pa_nil))) (pa_cons (pv 6) (pa_cons (pv 7) pa_nil))))))))))), p__law_parity T.cl h⟩)
theorem ok_complement_parity (T : Txt K mg A) : FnOk P w K mg base CX0 3 A.a_complement_parity A.fd_complement_parity ["parity"] (sp_complement_parity K A) :=
  T.F_complement_parity.ok sc_complement_parity (fun vs H Q E h => by obtain ⟨_, _, _, _, _, _, rfl, _⟩ := h; rfl) (fun cdv Ar outer s H vs Q E hr h => ⟨t_complement_parity K A E, by exact (pss_cons (ps_setLc (i := 2) (own := [("priority", 1)]) rfl sc_complement_parity.nd rfl rfl (sw_true rfl rfl rfl (by decide +kernel)) (pi_tup (pe_fld (pv 0) rfl)) (blkOk_by (N := ["parity", "priority", "priorities"]) (sc := defScope s_complement_parity) (own := [("priority", 1)]) (by decide +kernel)) (fun _ _ _ _ _ => (pg_name (i := 1) sc_complement_parity.nd rfl (Or.inl rfl))) (fun _ _ _ _ _ => pts_nil) (fun _ _ _ _ _ => (pe_op op_add (pv 1) pe_int)))
 (pss_one (ps_ret (pe_make T.M_ParityAutomaton (ok_ParityAutomaton_init T) (hr.mono (by decide)) rfl T.g_ParityAutomaton T.b_ParityAutomaton_init .nil passL (pa_cons (pe_fld (pv 0) rfl) (pa_cons (pe_fld (pv 0) rfl) (pa_cons (pv 2) (pa_cons (pe_fld (pv 0) rfl) pa_nil)))))))), p_complement_parity T.cl h⟩)
theorem ok__law_outcome (T : Txt K mg A) : FnOk P w K mg base CX0 3 A.a__law_outcome A.fd__law_outcome ["automaton", "lasso"] (sp__law_outcome K A) :=
  T.F__law_outcome.ok sc__law_outcome (fun vs H Q E h => by obtain ⟨_, _, _, _, _, _, _, _, rfl, _⟩ := h; rfl) (fun cdv Ar outer s H vs Q E hr h => ⟨t__law_outcome K A E, by exact (pss_cons (ps_try_many (tb := fun W => (tAsg (tCallS (sp_accepts_parity K A) (WE W) (tCons (tVar 0) (tCons (tVar 1) tNil))) (gName 2))) (l := [(.ref A.C_InvalidLetter, fun a cls d => (tRet (tC .non)))]) (Wout := fun _ _ _ _ => False) rfl rfl takes0 (fun W pn xe tk po => (pss_one (ps_set (i := 2) sc__law_outcome.nd rfl (Or.inl rfl) (pe_callS (ok_accepts_parity T) (hr.mono (by decide)) rfl T.g_accepts_parity T.k_accepts_parity T.b_accepts_parity (fun σ => passAt tk σ) (pa_cons (pv 0) (pa_cons (pv 1) pa_nil)))))) (HdsOk.cons (c := .ref A.C_InvalidLetter) ⟨rfl, by decide, .inl T.g_InvalidLetter⟩ (fun a oe cls d pn hz hf => (pss_one (ps_ret pe_non))) HdsOk.nil))
 (pss_one (ps_ret (pe_ifExp (pt_cmpR op_isN (pv 2) pe_non (nomark _)) pe_str (pv 2))))), p__law_outcome T.cl h⟩)
theorem ok_law (T : Txt K mg A) : FnOk P w K mg base CX0 4 A.a_law A.fd_law ["script"] (sp_law K A) :=
  T.F_law.ok sc_law (fun vs H Q E h => by obtain ⟨_, _, rfl, _⟩ := h; rfl) (fun cdv Ar outer s H vs Q E hr h => ⟨t_law K A E, by exact (pss_cons (ps_set (i := 1) sc_law.nd rfl (Or.inl rfl) (pe_call (ok__law_draws T) (hr.mono (by decide)) rfl T.g__law_draws T.k__law_draws T.b__law_draws .nil pass0 (pa_cons (pv 0) (pa_cons pe_int pa_nil))))
 (pss_cons (ps_set (i := 2) sc_law.nd rfl (Or.inl rfl) (pe_op op_add pe_int (pe_call (ok__law_take T) (hr.mono (by decide)) rfl T.g__law_take T.k__law_take T.b__law_take .nil pass0 (pa_cons (pv 1) (pa_cons pe_int pa_nil)))))
 (pss_cons (ps_asg (pe_call (ok__law_parity T) (hr.mono (by decide)) rfl T.g__law_parity T.k__law_parity T.b__law_parity .nil pass0 (pa_cons (pv 1) (pa_cons (pv 2) (pa_cons pe_int pa_nil)))) (pg_tup (by rfl) (pgs_cons (pg_name (i := 3) sc_law.nd rfl (Or.inl rfl)) (pgs_cons (pg_name (i := 4) sc_law.nd rfl (Or.inl rfl)) (pgs_cons (pg_name (i := 5) sc_law.nd rfl (Or.inl rfl)) pgs_nil)))))
 (pss_cons (ps_if (pt_cmpR op_eq (pe_call (ok__law_take T) (hr.mono (by decide)) rfl T.g__law_take T.k__law_take T.b__law_take .nil pass0 (pa_cons (pv 1) (pa_cons pe_int pa_nil))) pe_int (nomark _)) (pss_cons (ps_set (i := 6) sc_law.nd rfl (Or.inr rfl) (pe_op op_mulW (pe_op op_mod (pe_callTy call_int1 (by rfl) T.z_int (by decide +kernel) (pa_cons (pe_call (ok__law_cell T) (hr.mono (by decide)) rfl T.g__law_cell T.k__law_cell T.b__law_cell .nil pass0 (pa_cons (pv 0) (pa_cons pe_int pa_nil))) pa_nil)) (pe_op op_pow pe_int pe_int)) pe_int))
 (pss_one (ps_setLc (i := 4) (own := [("priority", 7)]) rfl sc_law.nd rfl rfl (sw_true rfl rfl rfl (by decide +kernel)) (pi_list (pv 4)) (blkOk_by (N := ["script", "draws", "letters", "start", "priorities", "rows", "base", "priority", "automaton", "lasso", "loop", "expected", "found", "other"]) (sc := defScope s_law) (own := [("priority", 7)]) (by decide +kernel)) (fun _ _ _ _ _ => (pg_name (i := 7) sc_law.nd rfl (Or.inl rfl))) (fun _ _ _ _ _ => pts_nil) (fun _ _ _ _ _ => (pe_op op_add (pv 7) (pv 6)))))) pss_nil)
 (pss_cons (ps_set (i := 8) sc_law.nd rfl (Or.inl rfl) (pe_make T.M_ParityAutomaton (ok_ParityAutomaton_init T) (hr.mono (by decide)) rfl T.g_ParityAutomaton T.b_ParityAutomaton_init .nil passL (pa_cons (pv 2) (pa_cons (pv 3) (pa_cons (pe_callTy call_list_of (by rfl) T.z_list (by decide +kernel) (pa_cons (pv 4) pa_nil)) (pa_cons (pe_call (ok__law_flat T) (hr.mono (by decide)) rfl T.g__law_flat T.k__law_flat T.b__law_flat .nil pass0 (pa_cons (pv 5) pa_nil)) pa_nil))))))
 (pss_cons (ps_set (i := 9) sc_law.nd rfl (Or.inl rfl) (pe_call (ok__law_lasso T) (hr.mono (by decide)) rfl T.g__law_lasso T.k__law_lasso T.b__law_lasso .nil pass0 (pa_cons (pv 1) (pa_cons (pv 2) (pa_cons pe_int pa_nil)))))
 (pss_cons (ps_if (pt_cmpR op_eq (pe_call (ok__law_take T) (hr.mono (by decide)) rfl T.g__law_take T.k__law_take T.b__law_take .nil pass0 (pa_cons (pv 1) (pa_cons pe_int pa_nil))) pe_int (nomark _)) (pss_cons (ps_set (i := 10) sc_law.nd rfl (Or.inl rfl) (pe_op op_cat (pe_callTy call_list_of (by rfl) T.z_list (by decide +kernel) (pa_cons (pe_ix ix_tup (pv 9) pe_int (fun _ _ => rfl)) pa_nil)) (pe_lst (pa_cons (pe_op op_add (pv 2) (pe_call (ok__law_take T) (hr.mono (by decide)) rfl T.g__law_take T.k__law_take T.b__law_take .nil pass0 (pa_cons (pv 1) (pa_cons pe_int pa_nil)))) pa_nil))))
 (pss_one (ps_ret (pe_cmpR op_isN (pe_call (ok__law_outcome T) (hr.mono (by decide)) rfl T.g__law_outcome T.k__law_outcome T.b__law_outcome .nil pass0 (pa_cons (pv 8) (pa_cons (pe_tup (pa_cons (pe_ix ix_tup (pv 9) pe_int (fun _ _ => rfl)) (pa_cons (pe_callTy call_tuple_of (by rfl) T.z_tuple (by decide +kernel) (pa_cons (pv 10) pa_nil)) pa_nil))) pa_nil))) pe_non (nomark _))))) pss_nil)
 (pss_cons (ps_set (i := 11) sc_law.nd rfl (Or.inl rfl) (pe_cmpR op_eq (pe_op op_mod (pe_callTy call_int1 (by rfl) T.z_int (by decide +kernel) (pa_cons (pe_call (ok__law_best T) (hr.mono (by decide)) rfl T.g__law_best T.k__law_best T.b__law_best .nil pass0 (pa_cons (pv 3) (pa_cons (pv 4) (pa_cons (pv 5) (pa_cons (pv 9) pa_nil))))) pa_nil)) pe_int) pe_int (nomark _)))
 (pss_cons (ps_set (i := 12) sc_law.nd rfl (Or.inl rfl) (pe_call (ok__law_outcome T) (hr.mono (by decide)) rfl T.g__law_outcome T.k__law_outcome T.b__law_outcome .nil pass0 (pa_cons (pv 8) (pa_cons (pv 9) pa_nil))))
 (pss_cons (ps_if (PW.pt (pw_or (pt_not (pt_val (pe_callB call_isi (by rfl) T.z_isinstance (by decide +kernel) (pa_cons (pv 12) (pa_cons (pe_bltn (v := .ty "bool") (by rfl) T.z_bool (by decide +kernel) rfl) pa_nil))))) (pw_or1 (pt_cmpR op_ne (pv 12) (pv 11) (nomark _))))) (pss_one (ps_ret pe_bl)) pss_nil)
 (pss_cons (ps_set (i := 13) sc_law.nd rfl (Or.inl rfl) (pe_call (ok__law_outcome T) (hr.mono (by decide)) rfl T.g__law_outcome T.k__law_outcome T.b__law_outcome .nil pass0 (pa_cons (pe_call (ok_complement_parity T) (hr.mono (by decide)) rfl T.g_complement_parity T.k_complement_parity T.b_complement_parity .nil pass0 (pa_cons (pv 8) pa_nil)) (pa_cons (pv 9) pa_nil))))
 (pss_one (ps_ret (pe_and (pe_callB call_isi (by rfl) T.z_isinstance (by decide +kernel) (pa_cons (pv 13) (pa_cons (pe_bltn (v := .ty "bool") (by rfl) T.z_bool (by decide +kernel) rfl) pa_nil))) (pe_one (pe_cmpR op_ne (pv 13) (pv 11) (nomark _))))))))))))))))), p_law T.cl h⟩)
end
theorem all_mk {l : PySem.W.OpenLaw} {w : World} {K : PySem.W.Frag} {h : Heap} {mg : Str → Option Value} {fa : Addr} (X : K.In h) (G : h.Ns mainGlobals mg) (hfa : mg "law" = some (.ref fa))
    {f_check_letters : Addr} {od_check_letters an_check_letters : Option Addr} {sl_check_letters : Array (Option Value)} {oc_check_letters kV_check_letters dc_check_letters pm_check_letters cd_check_letters ct_check_letters : Value}
    {f_ParityAutomaton_init : Addr} {od_ParityAutomaton_init an_ParityAutomaton_init : Option Addr} {sl_ParityAutomaton_init : Array (Option Value)} {oc_ParityAutomaton_init kV_ParityAutomaton_init dc_ParityAutomaton_init pm_ParityAutomaton_init cd_ParityAutomaton_init ct_ParityAutomaton_init : Value}
    {f_accepts_parity : Addr} {od_accepts_parity an_accepts_parity : Option Addr} {sl_accepts_parity : Array (Option Value)} {oc_accepts_parity kV_accepts_parity dc_accepts_parity pm_accepts_parity cd_accepts_parity ct_accepts_parity : Value}
    {f_complement_parity : Addr} {od_complement_parity an_complement_parity : Option Addr} {sl_complement_parity : Array (Option Value)} {oc_complement_parity kV_complement_parity dc_complement_parity pm_complement_parity cd_complement_parity ct_complement_parity : Value}
    {f__law_cell : Addr} {od__law_cell an__law_cell : Option Addr} {sl__law_cell : Array (Option Value)} {oc__law_cell kV__law_cell dc__law_cell pm__law_cell cd__law_cell ct__law_cell : Value}
    {f__law_draws : Addr} {od__law_draws an__law_draws : Option Addr} {sl__law_draws : Array (Option Value)} {oc__law_draws kV__law_draws dc__law_draws pm__law_draws cd__law_draws ct__law_draws : Value}
    {f__law_take : Addr} {od__law_take an__law_take : Option Addr} {sl__law_take : Array (Option Value)} {oc__law_take kV__law_take dc__law_take pm__law_take cd__law_take ct__law_take : Value}
    {f__law_lasso : Addr} {od__law_lasso an__law_lasso : Option Addr} {sl__law_lasso : Array (Option Value)} {oc__law_lasso kV__law_lasso dc__law_lasso pm__law_lasso cd__law_lasso ct__law_lasso : Value}
    {f__law_flat : Addr} {od__law_flat an__law_flat : Option Addr} {sl__law_flat : Array (Option Value)} {oc__law_flat kV__law_flat dc__law_flat pm__law_flat cd__law_flat ct__law_flat : Value}
    {f__law_parity : Addr} {od__law_parity an__law_parity : Option Addr} {sl__law_parity : Array (Option Value)} {oc__law_parity kV__law_parity dc__law_parity pm__law_parity cd__law_parity ct__law_parity : Value}
    {f__law_best : Addr} {od__law_best an__law_best : Option Addr} {sl__law_best : Array (Option Value)} {oc__law_best kV__law_best dc__law_best pm__law_best cd__law_best ct__law_best : Value}
    {f__law_outcome : Addr} {od__law_outcome an__law_outcome : Option Addr} {sl__law_outcome : Array (Option Value)} {oc__law_outcome kV__law_outcome dc__law_outcome pm__law_outcome cd__law_outcome ct__law_outcome : Value}
    {f_law : Addr} {od_law an_law : Option Addr} {sl_law : Array (Option Value)} {oc_law kV_law dc_law pm_law cd_law ct_law : Value}
    {C_SynthError : Addr}
    {C_InvalidLetter : Addr}
    {C_InvalidAutomaton : Addr}
    {C_ParityAutomaton : Addr}
    (ha_check_letters : PySem.W.nsIn K mainGlobals "check_letters" = some (some (.ref f_check_letters)))
    (hl_check_letters : K.lookup f_check_letters = some ⟨oc_check_letters, od_check_letters, .func (PySem.W.fnOf "check_letters" "check_letters" (defArgs s_check_letters) (defBody s_check_letters) (defScope s_check_letters) .none kV_check_letters dc_check_letters pm_check_letters an_check_letters cd_check_letters ct_check_letters), sl_check_letters⟩)
    (hc_check_letters : PySem.W.codeIn K cd_check_letters "check_letters" = true)
    (hk_check_letters : PySem.W.keepIn K (.ref f_check_letters) = true)
    (ha_ParityAutomaton_init : PySem.W.findIn K (.ref C_ParityAutomaton) "__init__" = some (some (.ref f_ParityAutomaton_init)))
    (hi_ParityAutomaton_init : PySem.W.isFn K (.ref f_ParityAutomaton_init) = true)
    (hl_ParityAutomaton_init : K.lookup f_ParityAutomaton_init = some ⟨oc_ParityAutomaton_init, od_ParityAutomaton_init, .func (PySem.W.fnOf "__init__" "ParityAutomaton.__init__" (defArgs s_ParityAutomaton_init) (defBody s_ParityAutomaton_init) (defScope s_ParityAutomaton_init) .none kV_ParityAutomaton_init dc_ParityAutomaton_init pm_ParityAutomaton_init an_ParityAutomaton_init cd_ParityAutomaton_init ct_ParityAutomaton_init), sl_ParityAutomaton_init⟩)
    (hc_ParityAutomaton_init : PySem.W.codeIn K cd_ParityAutomaton_init "ParityAutomaton.__init__" = true)
    (hk_ParityAutomaton_init : PySem.W.keepIn K (.ref f_ParityAutomaton_init) = true)
    (ha_accepts_parity : PySem.W.nsIn K mainGlobals "accepts_parity" = some (some (.ref f_accepts_parity)))
    (hl_accepts_parity : K.lookup f_accepts_parity = some ⟨oc_accepts_parity, od_accepts_parity, .func (PySem.W.fnOf "accepts_parity" "accepts_parity" (defArgs s_accepts_parity) (defBody s_accepts_parity) (defScope s_accepts_parity) .none kV_accepts_parity dc_accepts_parity pm_accepts_parity an_accepts_parity cd_accepts_parity ct_accepts_parity), sl_accepts_parity⟩)
    (hc_accepts_parity : PySem.W.codeIn K cd_accepts_parity "accepts_parity" = true)
    (hk_accepts_parity : PySem.W.keepIn K (.ref f_accepts_parity) = true)
    (ha_complement_parity : PySem.W.nsIn K mainGlobals "complement_parity" = some (some (.ref f_complement_parity)))
    (hl_complement_parity : K.lookup f_complement_parity = some ⟨oc_complement_parity, od_complement_parity, .func (PySem.W.fnOf "complement_parity" "complement_parity" (defArgs s_complement_parity) (defBody s_complement_parity) (defScope s_complement_parity) .none kV_complement_parity dc_complement_parity pm_complement_parity an_complement_parity cd_complement_parity ct_complement_parity), sl_complement_parity⟩)
    (hc_complement_parity : PySem.W.codeIn K cd_complement_parity "complement_parity" = true)
    (hk_complement_parity : PySem.W.keepIn K (.ref f_complement_parity) = true)
    (ha__law_cell : PySem.W.nsIn K mainGlobals "_law_cell" = some (some (.ref f__law_cell)))
    (hl__law_cell : K.lookup f__law_cell = some ⟨oc__law_cell, od__law_cell, .func (PySem.W.fnOf "_law_cell" "_law_cell" (defArgs s__law_cell) (defBody s__law_cell) (defScope s__law_cell) .none kV__law_cell dc__law_cell pm__law_cell an__law_cell cd__law_cell ct__law_cell), sl__law_cell⟩)
    (hc__law_cell : PySem.W.codeIn K cd__law_cell "_law_cell" = true)
    (hk__law_cell : PySem.W.keepIn K (.ref f__law_cell) = true)
    (ha__law_draws : PySem.W.nsIn K mainGlobals "_law_draws" = some (some (.ref f__law_draws)))
    (hl__law_draws : K.lookup f__law_draws = some ⟨oc__law_draws, od__law_draws, .func (PySem.W.fnOf "_law_draws" "_law_draws" (defArgs s__law_draws) (defBody s__law_draws) (defScope s__law_draws) .none kV__law_draws dc__law_draws pm__law_draws an__law_draws cd__law_draws ct__law_draws), sl__law_draws⟩)
    (hc__law_draws : PySem.W.codeIn K cd__law_draws "_law_draws" = true)
    (hk__law_draws : PySem.W.keepIn K (.ref f__law_draws) = true)
    (ha__law_take : PySem.W.nsIn K mainGlobals "_law_take" = some (some (.ref f__law_take)))
    (hl__law_take : K.lookup f__law_take = some ⟨oc__law_take, od__law_take, .func (PySem.W.fnOf "_law_take" "_law_take" (defArgs s__law_take) (defBody s__law_take) (defScope s__law_take) .none kV__law_take dc__law_take pm__law_take an__law_take cd__law_take ct__law_take), sl__law_take⟩)
    (hc__law_take : PySem.W.codeIn K cd__law_take "_law_take" = true)
    (hk__law_take : PySem.W.keepIn K (.ref f__law_take) = true)
    (ha__law_lasso : PySem.W.nsIn K mainGlobals "_law_lasso" = some (some (.ref f__law_lasso)))
    (hl__law_lasso : K.lookup f__law_lasso = some ⟨oc__law_lasso, od__law_lasso, .func (PySem.W.fnOf "_law_lasso" "_law_lasso" (defArgs s__law_lasso) (defBody s__law_lasso) (defScope s__law_lasso) .none kV__law_lasso dc__law_lasso pm__law_lasso an__law_lasso cd__law_lasso ct__law_lasso), sl__law_lasso⟩)
    (hc__law_lasso : PySem.W.codeIn K cd__law_lasso "_law_lasso" = true)
    (hk__law_lasso : PySem.W.keepIn K (.ref f__law_lasso) = true)
    (ha__law_flat : PySem.W.nsIn K mainGlobals "_law_flat" = some (some (.ref f__law_flat)))
    (hl__law_flat : K.lookup f__law_flat = some ⟨oc__law_flat, od__law_flat, .func (PySem.W.fnOf "_law_flat" "_law_flat" (defArgs s__law_flat) (defBody s__law_flat) (defScope s__law_flat) .none kV__law_flat dc__law_flat pm__law_flat an__law_flat cd__law_flat ct__law_flat), sl__law_flat⟩)
    (hc__law_flat : PySem.W.codeIn K cd__law_flat "_law_flat" = true)
    (hk__law_flat : PySem.W.keepIn K (.ref f__law_flat) = true)
    (ha__law_parity : PySem.W.nsIn K mainGlobals "_law_parity" = some (some (.ref f__law_parity)))
    (hl__law_parity : K.lookup f__law_parity = some ⟨oc__law_parity, od__law_parity, .func (PySem.W.fnOf "_law_parity" "_law_parity" (defArgs s__law_parity) (defBody s__law_parity) (defScope s__law_parity) .none kV__law_parity dc__law_parity pm__law_parity an__law_parity cd__law_parity ct__law_parity), sl__law_parity⟩)
    (hc__law_parity : PySem.W.codeIn K cd__law_parity "_law_parity" = true)
    (hk__law_parity : PySem.W.keepIn K (.ref f__law_parity) = true)
    (ha__law_best : PySem.W.nsIn K mainGlobals "_law_best" = some (some (.ref f__law_best)))
    (hl__law_best : K.lookup f__law_best = some ⟨oc__law_best, od__law_best, .func (PySem.W.fnOf "_law_best" "_law_best" (defArgs s__law_best) (defBody s__law_best) (defScope s__law_best) .none kV__law_best dc__law_best pm__law_best an__law_best cd__law_best ct__law_best), sl__law_best⟩)
    (hc__law_best : PySem.W.codeIn K cd__law_best "_law_best" = true)
    (hk__law_best : PySem.W.keepIn K (.ref f__law_best) = true)
    (ha__law_outcome : PySem.W.nsIn K mainGlobals "_law_outcome" = some (some (.ref f__law_outcome)))
    (hl__law_outcome : K.lookup f__law_outcome = some ⟨oc__law_outcome, od__law_outcome, .func (PySem.W.fnOf "_law_outcome" "_law_outcome" (defArgs s__law_outcome) (defBody s__law_outcome) (defScope s__law_outcome) .none kV__law_outcome dc__law_outcome pm__law_outcome an__law_outcome cd__law_outcome ct__law_outcome), sl__law_outcome⟩)
    (hc__law_outcome : PySem.W.codeIn K cd__law_outcome "_law_outcome" = true)
    (hk__law_outcome : PySem.W.keepIn K (.ref f__law_outcome) = true)
    (ha_law : PySem.W.nsIn K mainGlobals "law" = some (some (.ref f_law)))
    (hl_law : K.lookup f_law = some ⟨oc_law, od_law, .func (PySem.W.fnOf "law" "law" (defArgs s_law) (defBody s_law) (defScope s_law) .none kV_law dc_law pm_law an_law cd_law ct_law), sl_law⟩)
    (hc_law : PySem.W.codeIn K cd_law "law" = true)
    (hk_law : PySem.W.keepIn K (.ref f_law) = true)
    (hn_SynthError : PySem.W.nsIn K mainGlobals "SynthError" = some (some (.ref C_SynthError)))
    (hn_InvalidLetter : PySem.W.nsIn K mainGlobals "InvalidLetter" = some (some (.ref C_InvalidLetter)))
    (hn_InvalidAutomaton : PySem.W.nsIn K mainGlobals "InvalidAutomaton" = some (some (.ref C_InvalidAutomaton)))
    (hn_ParityAutomaton : PySem.W.nsIn K mainGlobals "ParityAutomaton" = some (some (.ref C_ParityAutomaton)))
    (hpg_ParityAutomaton : PySem.W.plainGet K C_ParityAutomaton Str.empty = true)
    (hhd_ParityAutomaton : PySem.W.hasDictIn K C_ParityAutomaton = true)
    (hpo_ParityAutomaton : PySem.W.plainOver K C_ParityAutomaton = true)
    (hsa_ParityAutomaton : PySem.W.findIn K (.ref C_ParityAutomaton) "__setattr__" = some (some (.builtin "object.__setattr__")))
    (hmk_ParityAutomaton : PySem.W.makesIn K C_ParityAutomaton = true)
    (hkc_ParityAutomaton : PySem.W.keepIn K (.ref C_ParityAutomaton) = true)
    (hna_ParityAutomaton_letters : PySem.W.findIn K (.ref C_ParityAutomaton) "letters" = some none)
    (hna_ParityAutomaton_start : PySem.W.findIn K (.ref C_ParityAutomaton) "start" = some none)
    (hna_ParityAutomaton_priorities : PySem.W.findIn K (.ref C_ParityAutomaton) "priorities" = some none)
    (hna_ParityAutomaton_rows : PySem.W.findIn K (.ref C_ParityAutomaton) "rows" = some none)
    (ht1_ParityAutomaton : PySem.W.findIn K (.ref C_ParityAutomaton) "__class__" = some (some (.builtin "object.__class__")))
    (ht4_ParityAutomaton : PySem.W.mroIn K C_ParityAutomaton (.type "object") = some true)
    (ht2 : PySem.W.specialIn K (.builtin "object.__class__") "__get__" = some (some (.builtin "getset_descriptor.__get__")))
    (ht3 : PySem.W.takesIn K (.builtin "object.__class__") = some true)
    (hk_InvalidAutomaton : PySem.W.keepIn K (.ref C_InvalidAutomaton) = true)
    (hx_InvalidAutomaton : PySem.W.excIn K C_InvalidAutomaton [.type "ValueError", .type "Exception", .type "BaseException", .type "object"] "ValueError.__new__" = true)
    (hk_InvalidLetter : PySem.W.keepIn K (.ref C_InvalidLetter) = true)
    (hx_InvalidLetter : PySem.W.excIn K C_InvalidLetter [.type "ValueError", .type "Exception", .type "BaseException", .type "object"] "ValueError.__new__" = true)
    (hs_InvalidAutomaton : PySem.W.subIn K (.ref C_InvalidAutomaton) (.type "BaseException") = some true)
    (ht_InvalidAutomaton : PySem.W.typeIn K (.ref C_InvalidAutomaton) = some (.type "type"))
    (hs_InvalidLetter : PySem.W.subIn K (.ref C_InvalidLetter) (.type "BaseException") = some true)
    (ht_InvalidLetter : PySem.W.typeIn K (.ref C_InvalidLetter) = some (.type "type"))
    (hhd_InvalidLetter : PySem.W.hasDictIn K C_InvalidLetter = true)
    (he_InvalidAutomaton_InvalidLetter : PySem.W.subIn K (.ref C_InvalidAutomaton) (.ref C_InvalidLetter) = some false)
    (he_InvalidLetter_InvalidLetter : PySem.W.subIn K (.ref C_InvalidLetter) (.ref C_InvalidLetter) = some true)
    (hz_bool : PySem.W.nsIn K mainGlobals "bool" = some none)
    (hz_int : PySem.W.nsIn K mainGlobals "int" = some none)
    (hz_isinstance : PySem.W.nsIn K mainGlobals "isinstance" = some none)
    (hz_len : PySem.W.nsIn K mainGlobals "len" = some none)
    (hz_list : PySem.W.nsIn K mainGlobals "list" = some none)
    (hz_max : PySem.W.nsIn K mainGlobals "max" = some none)
    (hz_min : PySem.W.nsIn K mainGlobals "min" = some none)
    (hz_range : PySem.W.nsIn K mainGlobals "range" = some none)
    (hz_tuple : PySem.W.nsIn K mainGlobals "tuple" = some none)
    : ∃ fd : FuncData, (∀ (s : Shared) (v : Value), BindsTo s fd ⟨[v], []⟩ [("script", v)]) ∧ ∀ base : Heap, K.In base → base.Ns mainGlobals mg → FnOk l.prog w K mg base CX0 4 fa fd ["script"] (spL K) := by
  have e : fa = f_law := by
    have e := hfa.symm.trans (PySem.W.mg_of X G ha_law)
    cases e
    rfl
  rw [e]
  have C : Cl K { a_check_letters := f_check_letters, fd_check_letters := PySem.W.fnOf "check_letters" "check_letters" (defArgs s_check_letters) (defBody s_check_letters) (defScope s_check_letters) .none kV_check_letters dc_check_letters pm_check_letters an_check_letters cd_check_letters ct_check_letters, a_ParityAutomaton_init := f_ParityAutomaton_init, fd_ParityAutomaton_init := PySem.W.fnOf "__init__" "ParityAutomaton.__init__" (defArgs s_ParityAutomaton_init) (defBody s_ParityAutomaton_init) (defScope s_ParityAutomaton_init) .none kV_ParityAutomaton_init dc_ParityAutomaton_init pm_ParityAutomaton_init an_ParityAutomaton_init cd_ParityAutomaton_init ct_ParityAutomaton_init, a_accepts_parity := f_accepts_parity, fd_accepts_parity := PySem.W.fnOf "accepts_parity" "accepts_parity" (defArgs s_accepts_parity) (defBody s_accepts_parity) (defScope s_accepts_parity) .none kV_accepts_parity dc_accepts_parity pm_accepts_parity an_accepts_parity cd_accepts_parity ct_accepts_parity, a_complement_parity := f_complement_parity, fd_complement_parity := PySem.W.fnOf "complement_parity" "complement_parity" (defArgs s_complement_parity) (defBody s_complement_parity) (defScope s_complement_parity) .none kV_complement_parity dc_complement_parity pm_complement_parity an_complement_parity cd_complement_parity ct_complement_parity, a__law_cell := f__law_cell, fd__law_cell := PySem.W.fnOf "_law_cell" "_law_cell" (defArgs s__law_cell) (defBody s__law_cell) (defScope s__law_cell) .none kV__law_cell dc__law_cell pm__law_cell an__law_cell cd__law_cell ct__law_cell, a__law_draws := f__law_draws, fd__law_draws := PySem.W.fnOf "_law_draws" "_law_draws" (defArgs s__law_draws) (defBody s__law_draws) (defScope s__law_draws) .none kV__law_draws dc__law_draws pm__law_draws an__law_draws cd__law_draws ct__law_draws, a__law_take := f__law_take, fd__law_take := PySem.W.fnOf "_law_take" "_law_take" (defArgs s__law_take) (defBody s__law_take) (defScope s__law_take) .none kV__law_take dc__law_take pm__law_take an__law_take cd__law_take ct__law_take, a__law_lasso := f__law_lasso, fd__law_lasso := PySem.W.fnOf "_law_lasso" "_law_lasso" (defArgs s__law_lasso) (defBody s__law_lasso) (defScope s__law_lasso) .none kV__law_lasso dc__law_lasso pm__law_lasso an__law_lasso cd__law_lasso ct__law_lasso, a__law_flat := f__law_flat, fd__law_flat := PySem.W.fnOf "_law_flat" "_law_flat" (defArgs s__law_flat) (defBody s__law_flat) (defScope s__law_flat) .none kV__law_flat dc__law_flat pm__law_flat an__law_flat cd__law_flat ct__law_flat, a__law_parity := f__law_parity, fd__law_parity := PySem.W.fnOf "_law_parity" "_law_parity" (defArgs s__law_parity) (defBody s__law_parity) (defScope s__law_parity) .none kV__law_parity dc__law_parity pm__law_parity an__law_parity cd__law_parity ct__law_parity, a__law_best := f__law_best, fd__law_best := PySem.W.fnOf "_law_best" "_law_best" (defArgs s__law_best) (defBody s__law_best) (defScope s__law_best) .none kV__law_best dc__law_best pm__law_best an__law_best cd__law_best ct__law_best, a__law_outcome := f__law_outcome, fd__law_outcome := PySem.W.fnOf "_law_outcome" "_law_outcome" (defArgs s__law_outcome) (defBody s__law_outcome) (defScope s__law_outcome) .none kV__law_outcome dc__law_outcome pm__law_outcome an__law_outcome cd__law_outcome ct__law_outcome, a_law := f_law, fd_law := PySem.W.fnOf "law" "law" (defArgs s_law) (defBody s_law) (defScope s_law) .none kV_law dc_law pm_law an_law cd_law ct_law, C_SynthError := C_SynthError, C_InvalidLetter := C_InvalidLetter, C_InvalidAutomaton := C_InvalidAutomaton, C_ParityAutomaton := C_ParityAutomaton : Ads } := {
    cl_ParityAutomaton := ⟨hpg_ParityAutomaton, hhd_ParityAutomaton, hpo_ParityAutomaton, hsa_ParityAutomaton⟩,
    na_ParityAutomaton_letters := hna_ParityAutomaton_letters,
    na_ParityAutomaton_start := hna_ParityAutomaton_start,
    na_ParityAutomaton_priorities := hna_ParityAutomaton_priorities,
    na_ParityAutomaton_rows := hna_ParityAutomaton_rows,
    ty_ParityAutomaton := fun e => .base (.ins e ⟨hpg_ParityAutomaton, hhd_ParityAutomaton, hpo_ParityAutomaton, hsa_ParityAutomaton⟩ ht1_ParityAutomaton ht2 ht3 ht4_ParityAutomaton),
    em_InvalidAutomaton_InvalidLetter := PySem.W.exm_ref hs_InvalidLetter hhd_InvalidLetter ht_InvalidLetter he_InvalidAutomaton_InvalidLetter,
    em_InvalidLetter_InvalidLetter := PySem.W.exm_ref hs_InvalidLetter hhd_InvalidLetter ht_InvalidLetter he_InvalidLetter_InvalidLetter }
  have F_check_letters := fun_mk (st := s_check_letters) hl_check_letters hc_check_letters hk_check_letters
  have F_ParityAutomaton_init := fun_mk (st := s_ParityAutomaton_init) hl_ParityAutomaton_init hc_ParityAutomaton_init hk_ParityAutomaton_init
  have F_accepts_parity := fun_mk (st := s_accepts_parity) hl_accepts_parity hc_accepts_parity hk_accepts_parity
  have F_complement_parity := fun_mk (st := s_complement_parity) hl_complement_parity hc_complement_parity hk_complement_parity
  have F__law_cell := fun_mk (st := s__law_cell) hl__law_cell hc__law_cell hk__law_cell
  have F__law_draws := fun_mk (st := s__law_draws) hl__law_draws hc__law_draws hk__law_draws
  have F__law_take := fun_mk (st := s__law_take) hl__law_take hc__law_take hk__law_take
  have F__law_lasso := fun_mk (st := s__law_lasso) hl__law_lasso hc__law_lasso hk__law_lasso
  have F__law_flat := fun_mk (st := s__law_flat) hl__law_flat hc__law_flat hk__law_flat
  have F__law_parity := fun_mk (st := s__law_parity) hl__law_parity hc__law_parity hk__law_parity
  have F__law_best := fun_mk (st := s__law_best) hl__law_best hc__law_best hk__law_best
  have F__law_outcome := fun_mk (st := s__law_outcome) hl__law_outcome hc__law_outcome hk__law_outcome
  have F_law := fun_mk (st := s_law) hl_law hc_law hk_law
  have T : Txt K mg _ := {
    cl := C,
    F_check_letters := F_check_letters,
    b_check_letters := F_check_letters.binds (ps := ["lasso", "letters"]) fun _ _ _ _ _ _ us hl => match us, hl with | [_, _], _ => rfl,
    g_check_letters := PySem.W.mg_of X G ha_check_letters,
    k_check_letters := hk_check_letters,
    F_ParityAutomaton_init := F_ParityAutomaton_init,
    b_ParityAutomaton_init := F_ParityAutomaton_init.binds (ps := ["self", "letters", "start", "priorities", "rows"]) fun _ _ _ _ _ _ us hl => match us, hl with | [_, _, _, _, _], _ => rfl,
    mt_ParityAutomaton_init := ⟨ha_ParityAutomaton_init, hi_ParityAutomaton_init, hk_ParityAutomaton_init⟩,
    F_accepts_parity := F_accepts_parity,
    b_accepts_parity := F_accepts_parity.binds (ps := ["parity", "lasso"]) fun _ _ _ _ _ _ us hl => match us, hl with | [_, _], _ => rfl,
    g_accepts_parity := PySem.W.mg_of X G ha_accepts_parity,
    k_accepts_parity := hk_accepts_parity,
    F_complement_parity := F_complement_parity,
    b_complement_parity := F_complement_parity.binds (ps := ["parity"]) fun _ _ _ _ _ _ us hl => match us, hl with | [_], _ => rfl,
    g_complement_parity := PySem.W.mg_of X G ha_complement_parity,
    k_complement_parity := hk_complement_parity,
    F__law_cell := F__law_cell,
    b__law_cell := F__law_cell.binds (ps := ["script", "k"]) fun _ _ _ _ _ _ us hl => match us, hl with | [_, _], _ => rfl,
    g__law_cell := PySem.W.mg_of X G ha__law_cell,
    k__law_cell := hk__law_cell,
    F__law_draws := F__law_draws,
    b__law_draws := F__law_draws.binds (ps := ["script", "count"]) fun _ _ _ _ _ _ us hl => match us, hl with | [_, _], _ => rfl,
    g__law_draws := PySem.W.mg_of X G ha__law_draws,
    k__law_draws := hk__law_draws,
    F__law_take := F__law_take,
    b__law_take := F__law_take.binds (ps := ["draws", "limit"]) fun _ _ _ _ _ _ us hl => match us, hl with | [_, _], _ => rfl,
    g__law_take := PySem.W.mg_of X G ha__law_take,
    k__law_take := hk__law_take,
    F__law_lasso := F__law_lasso,
    b__law_lasso := F__law_lasso.binds (ps := ["draws", "letters", "longest"]) fun _ _ _ _ _ _ us hl => match us, hl with | [_, _, _], _ => rfl,
    g__law_lasso := PySem.W.mg_of X G ha__law_lasso,
    k__law_lasso := hk__law_lasso,
    F__law_flat := F__law_flat,
    b__law_flat := F__law_flat.binds (ps := ["rows"]) fun _ _ _ _ _ _ us hl => match us, hl with | [_], _ => rfl,
    g__law_flat := PySem.W.mg_of X G ha__law_flat,
    k__law_flat := hk__law_flat,
    F__law_parity := F__law_parity,
    b__law_parity := F__law_parity.binds (ps := ["draws", "letters", "most"]) fun _ _ _ _ _ _ us hl => match us, hl with | [_, _, _], _ => rfl,
    g__law_parity := PySem.W.mg_of X G ha__law_parity,
    k__law_parity := hk__law_parity,
    F__law_best := F__law_best,
    b__law_best := F__law_best.binds (ps := ["start", "priorities", "rows", "lasso"]) fun _ _ _ _ _ _ us hl => match us, hl with | [_, _, _, _], _ => rfl,
    g__law_best := PySem.W.mg_of X G ha__law_best,
    k__law_best := hk__law_best,
    F__law_outcome := F__law_outcome,
    b__law_outcome := F__law_outcome.binds (ps := ["automaton", "lasso"]) fun _ _ _ _ _ _ us hl => match us, hl with | [_, _], _ => rfl,
    g__law_outcome := PySem.W.mg_of X G ha__law_outcome,
    k__law_outcome := hk__law_outcome,
    F_law := F_law,
    b_law := F_law.binds (ps := ["script"]) fun _ _ _ _ _ _ us hl => match us, hl with | [_], _ => rfl,
    g_law := PySem.W.mg_of X G ha_law,
    k_law := hk_law,
    g_ParityAutomaton := PySem.W.mg_of X G hn_ParityAutomaton,
    cl_ParityAutomaton := C.cl_ParityAutomaton,
    M_ParityAutomaton := ⟨hmk_ParityAutomaton, ha_ParityAutomaton_init, hi_ParityAutomaton_init, hkc_ParityAutomaton⟩,
    g_InvalidAutomaton := PySem.W.mg_of X G hn_InvalidAutomaton,
    g_InvalidLetter := PySem.W.mg_of X G hn_InvalidLetter,
    k_InvalidAutomaton := hk_InvalidAutomaton, x_InvalidAutomaton := hx_InvalidAutomaton, s_InvalidAutomaton := hs_InvalidAutomaton, t_InvalidAutomaton := ht_InvalidAutomaton,
    k_InvalidLetter := hk_InvalidLetter, x_InvalidLetter := hx_InvalidLetter, s_InvalidLetter := hs_InvalidLetter, t_InvalidLetter := ht_InvalidLetter,
    z_bool := PySem.W.mg_none_of X G hz_bool,
    z_int := PySem.W.mg_none_of X G hz_int,
    z_isinstance := PySem.W.mg_none_of X G hz_isinstance,
    z_len := PySem.W.mg_none_of X G hz_len,
    z_list := PySem.W.mg_none_of X G hz_list,
    z_max := PySem.W.mg_none_of X G hz_max,
    z_min := PySem.W.mg_none_of X G hz_min,
    z_range := PySem.W.mg_none_of X G hz_range,
    z_tuple := PySem.W.mg_none_of X G hz_tuple }
  exact ⟨PySem.W.fnOf "law" "law" (defArgs s_law) (defBody s_law) (defScope s_law) .none kV_law dc_law pm_law an_law cd_law ct_law, fun s v => .of_eq rfl, fun base _ _ => ok_law T⟩
theorem walk {l : PySem.W.OpenLaw} {q : Program} {loose : List Str} {XP : (Str → Option Value) → Heap → Prop} {YP : World → Heap → Prop} {d : DefRec} {K : Params → PySem.W.Frag} (hn : l.most = some 63) (hdf : d.params.defaults = [])
    (hY : ∀ (w : World) (h : Heap), YP w h → (K w.params).In h)
    (F : ∀ (w : World) (mg : Str → Option Value) (fa : Addr) (h : Heap), (K w.params).In h → h.Ns mainGlobals mg → mg d.name = some (.ref fa) →
      ∃ fd : FuncData, (∀ (s : Shared) (u : Value), BindsTo s fd ⟨[u], []⟩ [("script", u)]) ∧ ∀ base : Heap, (K w.params).In base → base.Ns mainGlobals mg → FnOk l.prog w (K w.params) mg base CX0 4 fa fd ["script"] (spL (K w.params))) :
    PySem.W.WalkO q loose XP YP l.row.toRowW d [] (fun f vs => PySem.call f vs) :=
  L2.walk_of (n := 63) (k := 4) (x := "script") (CX := fun _ => CX0) (sp := fun w => spL (K w.params)) hn (by decide) hdf ⟨rfl, by decide, by decide⟩ hY F (fun _ _ a ns hl _ hS => ⟨a, ns, rfl, hS, hl, fun _ => rfl⟩) fun _ _ _ _ _ z => z
end LW
open PySem PySem.W PyProof.Rows in
set_option maxRecDepth 100000 in
set_option maxHeartbeats 0 in
theorem PySem.Challenge.cw_promiseplay_k23_accepts_parity_holds : PySem.Challenge.rw_promiseplay_k23_accepts_parity.Holds := by
  w_on; o_law; k_head; (case hw => w_witness2)
  k_fill
  refine LW.walk (l := PySem.Challenge.rw_promiseplay_k23_accepts_parity) rfl rfl (fun w h Y => PySem.W.kIn_of Y) ?F
  case F =>
    intro w mg fa h KX G hmg
    refine' LW.all_mk KX G hmg ?ha_check_letters ?hl_check_letters ?hc_check_letters ?hk_check_letters ?ha_ParityAutomaton_init ?hi_ParityAutomaton_init ?hl_ParityAutomaton_init ?hc_ParityAutomaton_init ?hk_ParityAutomaton_init ?ha_accepts_parity ?hl_accepts_parity ?hc_accepts_parity ?hk_accepts_parity ?ha_complement_parity ?hl_complement_parity ?hc_complement_parity ?hk_complement_parity ?ha__law_cell ?hl__law_cell ?hc__law_cell ?hk__law_cell ?ha__law_draws ?hl__law_draws ?hc__law_draws ?hk__law_draws ?ha__law_take ?hl__law_take ?hc__law_take ?hk__law_take ?ha__law_lasso ?hl__law_lasso ?hc__law_lasso ?hk__law_lasso ?ha__law_flat ?hl__law_flat ?hc__law_flat ?hk__law_flat ?ha__law_parity ?hl__law_parity ?hc__law_parity ?hk__law_parity ?ha__law_best ?hl__law_best ?hc__law_best ?hk__law_best ?ha__law_outcome ?hl__law_outcome ?hc__law_outcome ?hk__law_outcome ?ha_law ?hl_law ?hc_law ?hk_law ?hn_SynthError ?hn_InvalidLetter ?hn_InvalidAutomaton ?hn_ParityAutomaton ?hpg_ParityAutomaton ?hhd_ParityAutomaton ?hpo_ParityAutomaton ?hsa_ParityAutomaton ?hmk_ParityAutomaton ?hkc_ParityAutomaton ?hna_ParityAutomaton_letters ?hna_ParityAutomaton_start ?hna_ParityAutomaton_priorities ?hna_ParityAutomaton_rows ?ht1_ParityAutomaton ?ht4_ParityAutomaton ?ht2 ?ht3 ?hk_InvalidAutomaton ?hx_InvalidAutomaton ?hk_InvalidLetter ?hx_InvalidLetter ?hs_InvalidAutomaton ?ht_InvalidAutomaton ?hs_InvalidLetter ?ht_InvalidLetter ?hhd_InvalidLetter ?he_InvalidAutomaton_InvalidLetter ?he_InvalidLetter_InvalidLetter ?hz_bool ?hz_int ?hz_isinstance ?hz_len ?hz_list ?hz_max ?hz_min ?hz_range ?hz_tuple
    (case hn_SynthError => k_is)
    (case hn_InvalidLetter => k_is)
    (case hn_InvalidAutomaton => k_is)
    (case hn_ParityAutomaton => k_is)
    (case ha_check_letters => k_is)
    (case ha_ParityAutomaton_init => k_is)
    (case ha_accepts_parity => k_is)
    (case ha_complement_parity => k_is)
    (case ha__law_cell => k_is)
    (case ha__law_draws => k_is)
    (case ha__law_take => k_is)
    (case ha__law_lasso => k_is)
    (case ha__law_flat => k_is)
    (case ha__law_parity => k_is)
    (case ha__law_best => k_is)
    (case ha__law_outcome => k_is)
    (case ha_law => k_is)
    (case hl_check_letters => k_is)
    (case hl_ParityAutomaton_init => k_is)
    (case hl_accepts_parity => k_is)
    (case hl_complement_parity => k_is)
    (case hl__law_cell => k_is)
    (case hl__law_draws => k_is)
    (case hl__law_take => k_is)
    (case hl__law_lasso => k_is)
    (case hl__law_flat => k_is)
    (case hl__law_parity => k_is)
    (case hl__law_best => k_is)
    (case hl__law_outcome => k_is)
    (case hl_law => k_is)
    (case hc_check_letters => k_is)
    (case hk_check_letters => k_is)
    (case hi_ParityAutomaton_init => k_is)
    (case hc_ParityAutomaton_init => k_is)
    (case hk_ParityAutomaton_init => k_is)
    (case hc_accepts_parity => k_is)
    (case hk_accepts_parity => k_is)
    (case hc_complement_parity => k_is)
    (case hk_complement_parity => k_is)
    (case hc__law_cell => k_is)
    (case hk__law_cell => k_is)
    (case hc__law_draws => k_is)
    (case hk__law_draws => k_is)
    (case hc__law_take => k_is)
    (case hk__law_take => k_is)
    (case hc__law_lasso => k_is)
    (case hk__law_lasso => k_is)
    (case hc__law_flat => k_is)
    (case hk__law_flat => k_is)
    (case hc__law_parity => k_is)
    (case hk__law_parity => k_is)
    (case hc__law_best => k_is)
    (case hk__law_best => k_is)
    (case hc__law_outcome => k_is)
    (case hk__law_outcome => k_is)
    (case hc_law => k_is)
    (case hk_law => k_is)
    (case hpg_ParityAutomaton => k_is)
    (case hhd_ParityAutomaton => k_is)
    (case hpo_ParityAutomaton => k_is)
    (case hsa_ParityAutomaton => k_is)
    (case hmk_ParityAutomaton => k_is)
    (case hkc_ParityAutomaton => k_is)
    (case hna_ParityAutomaton_letters => k_is)
    (case hna_ParityAutomaton_start => k_is)
    (case hna_ParityAutomaton_priorities => k_is)
    (case hna_ParityAutomaton_rows => k_is)
    (case ht1_ParityAutomaton => k_is)
    (case ht4_ParityAutomaton => k_is)
    (case ht2 => k_is)
    (case ht3 => k_is)
    (case hk_InvalidAutomaton => k_is)
    (case hx_InvalidAutomaton => k_exc)
    (case hk_InvalidLetter => k_is)
    (case hx_InvalidLetter => k_exc)
    (case hs_InvalidAutomaton => k_is)
    (case ht_InvalidAutomaton => k_is)
    (case hs_InvalidLetter => k_is)
    (case ht_InvalidLetter => k_is)
    (case hhd_InvalidLetter => k_is)
    (case he_InvalidAutomaton_InvalidLetter => first | rfl | k_is)
    (case he_InvalidLetter_InvalidLetter => first | rfl | k_is)
    (case hz_bool => k_is)
    (case hz_int => k_is)
    (case hz_isinstance => k_is)
    (case hz_len => k_is)
    (case hz_list => k_is)
    (case hz_max => k_is)
    (case hz_min => k_is)
    (case hz_range => k_is)
    (case hz_tuple => k_is)
