import PyProof.Rows.All
import Wide.All
import OpenK.AllK
import Wide.FinOn
import HandS.ForMost
import HandS.ForExc
import HandS.Wide
import HandS.IsInst
import HandS.TupAny
import HandS.WideBits
import HandS.TryMany
import HandS.ExcIs
import KE.KMinKey
import HandS.SortKw
import HandS.TupMul
import HandS.Gcd
import HandS.Star
import HandS.Iter
import HandS.Walk
import HandS.Conv
import HandS.SortInts
import PySem.Challenge.RW_promiseplay_k20_hide_and_widen
set_option Elab.async false
set_option linter.all false
set_option maxRecDepth 100000
set_option maxHeartbeats 4000000
namespace SL
open PySem L2

/-! ## heaps: frozen part, owned objects -/
abbrev Led := List (Addr × HO)
def SameB (p : Addr) (H H' : Hp) : Prop := ∀ b o, b ≠ p → H b = some o → H' b = some o
def del (H : Hp) (p : Addr) : Hp := fun b => if b = p then none else H b
theorem del_self {H : Hp} {p : Addr} : del H p p = none := by unfold del; rw [if_pos rfl]
theorem del_ne {H : Hp} {p b : Addr} (h : b ≠ p) : del H p b = H b := by unfold del; rw [if_neg h]
theorem del_some {H : Hp} {p b : Addr} {o : HO} (h : del H p b = some o) : b ≠ p ∧ H b = some o := by
  by_cases e : b = p
  · rw [e, del_self] at h; cases h
  · rw [del_ne e] at h; exact ⟨e, h⟩
theorem same_new {H : Hp} {p : Addr} {o : HO} (h : H p = none) : Same H (upd H p o) := fun b u e => by
  rw [upd_ne (ne_of_none e h)]; exact e
structure En where
  F : Hp
  H : Hp
structure St (E : En) (F H : Hp) (L : Led) : Prop where
  bh : Same E.H H
  fh : Same F H
  ff : Same E.F F
  pr : ∀ a, F a ≠ none → E.F a ≠ none ∨ E.H a = none
  own : ∀ x ∈ L, H x.1 = some x.2 ∧ F x.1 = none ∧ E.H x.1 = none
  nd : (L.map (·.1)).Nodup
/-- what a call leaves that changes nothing -/
structure Gr (F H F' H' : Hp) : Prop where
  ff : Same F F'
  fh : Same F' H'
  hh : Same H H'
  pr : ∀ a, F' a ≠ none → F a ≠ none ∨ H a = none
/-- .. that changes p alone -/
structure GrB (p : Addr) (F H F' H' : Hp) : Prop where
  ff : Same F F'
  fh : Same F' H'
  hh : SameB p H H'
  pr : ∀ a, F' a ≠ none → F a ≠ none ∨ H a = none
inductive Upd : Led → Addr → HO → HO → Led → Prop
  | head {a o o' L} : Upd ((a, o) :: L) a o o' ((a, o') :: L)
  | tail {a o o' L L' x} : Upd L a o o' L' → Upd (x :: L) a o o' (x :: L')
inductive Tak : Led → Addr → HO → Led → Prop
  | head {a o L} : Tak ((a, o) :: L) a o L
  | tail {a o L L' x} : Tak L a o L' → Tak (x :: L) a o (x :: L')
theorem Upd.mem {L L' : Led} {a : Addr} {o o' : HO} (u : Upd L a o o' L') : (a, o) ∈ L := by
  induction u with
  | head => exact List.mem_cons_self
  | tail _ ih => exact List.mem_cons_of_mem _ ih
theorem Upd.fst {L L' : Led} {a : Addr} {o o' : HO} (u : Upd L a o o' L') : L'.map (·.1) = L.map (·.1) := by
  induction u with
  | head => rfl
  | tail _ ih => rw [List.map_cons, List.map_cons, ih]
theorem Upd.of {L L' : Led} {a : Addr} {o o' : HO} (u : Upd L a o o' L') : ∀ x ∈ L', x = (a, o') ∨ x ∈ L := by
  induction u with
  | head =>
    intro x hx
    rcases List.mem_cons.mp hx with e | e
    · exact .inl e
    · exact .inr (List.mem_cons_of_mem _ e)
  | tail _ ih =>
    intro x hx
    rcases List.mem_cons.mp hx with e | e
    · exact .inr (e ▸ List.mem_cons_self)
    · rcases ih x e with q | q
      · exact .inl q
      · exact .inr (List.mem_cons_of_mem _ q)
theorem Upd.new {L L' : Led} {a : Addr} {o o' : HO} (u : Upd L a o o' L') : (a, o') ∈ L' := by
  induction u with
  | head => exact List.mem_cons_self
  | tail _ ih => exact List.mem_cons_of_mem _ ih
theorem nd_one : ∀ {L : Led} {a : Addr} {o : HO} {x : Addr × HO}, (L.map (·.1)).Nodup → x ∈ L → (a, o) ∈ L → x.1 = a → x = (a, o)
  | [], _, _, _, _, h, _, _ => nomatch h
  | y :: r, a, o, x, n, h1, h2, c => by
    rw [List.map_cons, List.nodup_cons] at n
    rcases List.mem_cons.mp h1 with q | q <;> rcases List.mem_cons.mp h2 with z | z
    · rw [q, z]
    · exact absurd (List.mem_map.mpr ⟨_, z, (by rw [← q]; exact c.symm)⟩) n.1
    · exact absurd (List.mem_map.mpr ⟨_, q, (by rw [← z]; exact c)⟩) n.1
    · exact nd_one n.2 q z c
theorem Tak.mem {L L' : Led} {a : Addr} {o : HO} (u : Tak L a o L') : (a, o) ∈ L := by
  induction u with
  | head => exact List.mem_cons_self
  | tail _ ih => exact List.mem_cons_of_mem _ ih
theorem Tak.sub {L L' : Led} {a : Addr} {o : HO} (u : Tak L a o L') : ∀ x ∈ L', x ∈ L := by
  induction u with
  | head => exact fun x h => List.mem_cons_of_mem _ h
  | tail _ ih =>
    intro x hx
    rcases List.mem_cons.mp hx with e | e
    · exact e ▸ List.mem_cons_self
    · exact List.mem_cons_of_mem _ (ih x e)
theorem Tak.nd {L L' : Led} {a : Addr} {o : HO} (u : Tak L a o L') (n : (L.map (·.1)).Nodup) : (L'.map (·.1)).Nodup ∧ ∀ x ∈ L', x.1 ≠ a := by
  induction u with
  | head =>
    rw [List.map_cons, List.nodup_cons] at n
    exact ⟨n.2, fun x hx e => n.1 (List.mem_map.mpr ⟨x, hx, e⟩)⟩
  | @tail a o L L' x u ih =>
    rw [List.map_cons, List.nodup_cons] at n
    obtain ⟨h1, h2⟩ := ih n.2
    refine ⟨?_, fun y hy => ?_⟩
    · rw [List.map_cons, List.nodup_cons]
      refine ⟨fun hm => n.1 ?_, h1⟩
      obtain ⟨z, hz, e⟩ := List.mem_map.mp hm
      exact List.mem_map.mpr ⟨z, u.sub z hz, e⟩
    · rcases List.mem_cons.mp hy with e | e
      · intro q
        apply n.1
        rw [← e, q]
        exact List.mem_map.mpr ⟨(a, o), u.mem, rfl⟩
      · exact h2 y e
section
variable {E : En} {F H F' H' : Hp} {L L' : Led} {a p : Addr} {o o' : HO} {K : PySem.W.Frag}
theorem St.init (h : Same F H) : St ⟨F, H⟩ F H [] :=
  ⟨Same.refl _, h, Same.refl _, fun _ h => .inl h, (fun _ h => nomatch h), List.nodup_nil⟩
theorem St.init1 (h : Same F H) (hp : H p = some o) (hf : F p = none) : St ⟨F, del H p⟩ F H [(p, o)] := by
  refine ⟨fun b u e => (del_some e).2, h, Same.refl _, fun _ h => .inl h, fun x hx => ?_, ?_⟩
  · rcases List.mem_cons.mp hx with e | e
    · subst e; exact ⟨hp, hf, del_self⟩
    · exact nomatch e
  · exact List.nodup_cons.mpr ⟨fun h => (nomatch h), List.nodup_nil⟩
theorem free_of (e : Same H H') (h : H' p = none) : H p = none := Same.free e h
theorem St.get (G : St E F H L) (m : (a, o) ∈ L) : H a = some o := (G.own _ m).1
theorem St.ne (G : St E F H L) (m : (a, o) ∈ L) (hp : H p = none) : a ≠ p := ne_of_none (G.get m) hp
/-- the heap grew, p is new -/
theorem St.add (G : St E F H L) (e : Same H H') (hn : H p = none) (hp : H' p = some o) : St E F H' ((p, o) :: L) := by
  refine ⟨G.bh.trans e, G.fh.trans e, G.ff, G.pr, fun x hx => ?_, ?_⟩
  · rcases List.mem_cons.mp hx with q | q
    · subst q
      exact ⟨hp, free_of G.fh hn, free_of G.bh hn⟩
    · obtain ⟨h1, h2, h3⟩ := G.own x q
      exact ⟨e _ _ h1, h2, h3⟩
  · rw [List.map_cons, List.nodup_cons]
    refine ⟨fun hm => ?_, G.nd⟩
    obtain ⟨z, hz, q⟩ := List.mem_map.mp hm
    have h1 := (G.own z hz).1
    rw [q, hn] at h1
    cases h1
theorem St.new (G : St E F H L) (hn : H p = none) : St E F (upd H p o) ((p, o) :: L) := G.add (same_new hn) hn upd_same
theorem St.grow (G : St E F H L) (e : Same H H') : St E F H' L :=
  ⟨G.bh.trans e, G.fh.trans e, G.ff, G.pr, fun x hx => ⟨e _ _ (G.own x hx).1, (G.own x hx).2⟩, G.nd⟩
theorem St.putB (G : St E F H L) (u : Upd L a o o' L') (e : SameB a H H') (ha : H' a = some o') : St E F H' L' := by
  obtain ⟨_, hf, hb⟩ := G.own _ u.mem
  have nF : ∀ b u, F b = some u → b ≠ a := fun b u h => ne_of_none h hf
  have nB : ∀ b u, E.H b = some u → b ≠ a := fun b u h => ne_of_none h hb
  refine ⟨fun b u h => e b u (nB b u h) (G.bh b u h), fun b u h => e b u (nF b u h) (G.fh b u h), G.ff, G.pr, fun x hx => ?_, ?_⟩
  · rcases u.of x hx with q | q
    · subst q; exact ⟨ha, hf, hb⟩
    · obtain ⟨h1, h2, h3⟩ := G.own x q
      refine ⟨?_, h2, h3⟩
      by_cases c : x.1 = a
      · have n' : (L'.map (·.1)).Nodup := by rw [u.fst]; exact G.nd
        rw [nd_one n' hx u.new c]; exact ha
      · exact e _ _ c h1
  · rw [u.fst]; exact G.nd
theorem St.put (G : St E F H L) (u : Upd L a o o' L') : St E F (upd H a o') L' :=
  G.putB u (fun b w h e => by rw [upd_ne h]; exact e) upd_same
/-- a call that changes nothing has come back -/
theorem St.call (G : St E F H L) (g : Gr F H F' H') : St E F' H' L := by
  refine ⟨G.bh.trans g.hh, g.fh, G.ff.trans g.ff, fun a h => ?_, fun x hx => ?_, G.nd⟩
  · rcases g.pr a h with q | q
    · exact G.pr a q
    · exact .inr (free_of G.bh q)
  · obtain ⟨h1, h2, h3⟩ := G.own x hx
    refine ⟨g.hh _ _ h1, ?_, h3⟩
    cases c : F' x.1 with
    | none => rfl
    | some w =>
      rcases g.pr x.1 (by rw [c]; exact fun z => nomatch z) with q | q
      · exact absurd h2 q
      · rw [q] at h1; cases h1
theorem St.callB (G : St E F H L) (u : Upd L p o o' L') (g : GrB p F H F' H') (hp : H' p = some o') : St E F' H' L' := by
  have G1 : St E F H' L' := G.putB u g.hh hp
  refine ⟨G1.bh, g.fh, G.ff.trans g.ff, fun a h => ?_, fun x hx => ?_, G1.nd⟩
  · rcases g.pr a h with q | q
    · exact G.pr a q
    · exact .inr (free_of G.bh q)
  · obtain ⟨h1, h2, h3⟩ := G1.own x hx
    refine ⟨h1, ?_, h3⟩
    cases c : F' x.1 with
    | none => rfl
    | some w =>
      rcases g.pr x.1 (by rw [c]; exact fun z => nomatch z) with q | q
      · exact absurd h2 q
      · exfalso
        rcases u.of x hx with z | z
        · subst z
          have := (G.own _ u.mem).1
          rw [q] at this; cases this
        · have := (G.own _ z).1
          rw [q] at this; cases this
/-- the end of a def that changes nothing -/
theorem St.gr (G : St ⟨F, H⟩ F' H' L) : Gr F H F' H' := ⟨G.ff, G.fh, G.bh, G.pr⟩
theorem St.grB (G : St ⟨F, del H p⟩ F' H' L) (m : (p, o) ∈ L) : GrB p F H F' H' := by
  refine ⟨G.ff, G.fh, fun b u h e => G.bh b u (by rw [show (En.mk F (del H p)).H = del H p from rfl, del_ne h]; exact e), fun a h => ?_⟩
  rcases G.pr a h with q | q
  · exact .inl q
  · by_cases c : a = p
    · subst c
      exact absurd (G.own _ m).2.1 h
    · exact .inr (by rw [show (En.mk F (del H p)).H = del H p from rfl, del_ne c] at q; exact q)
theorem Gr.refl (h : Same F H) : Gr F H F H := ⟨Same.refl _, h, Same.refl _, fun _ h => .inl h⟩
/-- an owned object is frozen -/
theorem St.frz (G : St E F H L) (t : Tak L a o L') : ∃ F', Same F F' ∧ F' a = some o ∧ St E F' H L' := by
  obtain ⟨h1, h2, h3⟩ := G.own _ t.mem
  obtain ⟨n1, n2⟩ := t.nd G.nd
  refine ⟨upd F a o, same_new h2, upd_same, ⟨G.bh, fun b u e => ?_, G.ff.trans (same_new h2), fun b hb => ?_, fun x hx => ?_, n1⟩⟩
  · by_cases c : b = a
    · rw [c, upd_same] at e; cases e; rw [c]; exact h1
    · rw [upd_ne c] at e; exact G.fh b u e
  · by_cases c : b = a
    · rw [c]; exact .inr h3
    · rw [upd_ne c] at hb; exact G.pr b hb
  · obtain ⟨q1, q2, q3⟩ := G.own x (t.sub x hx)
    exact ⟨q1, by rw [upd_ne (n2 x hx)]; exact q2, q3⟩
theorem St.drop (G : St E F H L) (t : Tak L a o L') : St E F H L' :=
  ⟨G.bh, G.fh, G.ff, G.pr, fun x hx => G.own x (t.sub x hx), (t.nd G.nd).1⟩

/-! ## what stands at an address, under growth -/
theorem rdS (e : Same H H') (h : Rd H a o) : Rd H' a o := by
  rcases h with h | ⟨z, h⟩
  · exact .inl (e _ _ h)
  · exact .inr ⟨z, e _ _ h⟩
theorem lS {xs : List V} (e : Same H H') (h : SqL K H a xs) : SqL K H' a xs := by
  rcases h with h | h
  · exact .inl (rdS e h)
  · exact .inr h
theorem tS {xs : List V} (e : Same H H') (h : SqT K H a xs) : SqT K H' a xs := by
  rcases h with h | h
  · exact .inl (rdS e h)
  · exact .inr h
mutual
theorem dpS (e : Same H H') : ∀ (d : PyData) (v : V), Dp K H v d → Dp K H' v d
  | .none, _, h => by cases h; exact .non
  | .bool b, _, h => by cases h; exact .bl b
  | .int i, _, h => by cases h; exact .int i
  | .str x, _, h => by cases h; exact .str x
  | .list ds, _, h => by cases h with | lst hs ha => exact .lst (lS e hs) (dpaS e ds _ ha)
  | .tuple ds, _, h => by cases h with | tup hs ha => exact .tup (tS e hs) (dpaS e ds _ ha)
  | .dict _, _, h => nomatch h
theorem dpaS (e : Same H H') : ∀ (ds : List PyData) (vs : List V), DpAll K H vs ds → DpAll K H' vs ds
  | [], _, h => by cases h; exact .nil
  | d :: ds, _, h => by cases h with | cons h1 h2 => exact .cons (dpS e d _ h1) (dpaS e ds _ h2)
end
theorem Dpx.mono {v : V} {d : PyData} (e : Same H H') (h : Dp K H v d) : Dp K H' v d := dpS e d v h
end
theorem sz {n : Nat} (h : n ≤ 1000000) : n ≤ sizeLine := Nat.le_trans h (by decide)
theorem szl {n : Nat} (h : n ≤ 1000000) : n < sizeLine := Nat.lt_of_le_of_lt h (by decide)
end SL

set_option Elab.async false
set_option linter.all false
set_option maxRecDepth 100000
set_option maxHeartbeats 4000000
namespace SL
open PySem L2
def RIf (k : Bool) (A B : Prop) : Prop := if k = true then A else B
def RB (x : V) (H : Hp) (Q : Bool → Hp → Prop) : Prop := ∃ k, x = .bl k ∧ Q k H
def RTup (Q : VK) (xs : List V) (H : Hp) : Prop := xs.length ≤ sizeLine ∧ ∀ p, H p = none → Q (.ref p) (upd H p (.tup xs))
def RLst (Q : VK) (xs : List V) (H : Hp) : Prop := xs.length ≤ sizeLine ∧ ∀ p, H p = none → Q (.ref p) (upd H p (.lst xs))
def RTy (K : PySem.W.Frag) (T : String) (x : V) (H : Hp) (A : Prop) : Prop := tyV K T x H ∧ A
def RPart (x : V) (H : Hp) (Q : Option Int → Hp → Prop) : Prop := ∃ i, x = .int i ∧ Q (some i) H
def RIL (K : PySem.W.Frag) (x : V) (H : Hp) (R : It → Hp → Prop) : Prop := ∃ a, x = .ref a ∧ (∃ xs, SqL K H a xs) ∧ R (Itl K a) H
def RIT (K : PySem.W.Frag) (x : V) (H : Hp) (R : It → Hp → Prop) : Prop := ∃ a, x = .ref a ∧ (∃ xs, SqT K H a xs) ∧ R (Itt K a) H
def RI1 (vs : List V) (H : Hp) (R : It → Hp → Prop) : Prop := ∃ j : Int, vs = [.int j] ∧ -(2 ^ 62) ≤ j ∧ j < 2 ^ 62 ∧ R (Itr 0 j.toNat) H
def RI2 (vs : List V) (H : Hp) (R : It → Hp → Prop) : Prop := ∃ i j : Int, vs = [.int i, .int j] ∧ (-(2 ^ 62) ≤ i ∧ i < 2 ^ 62 ∧ -(2 ^ 62) ≤ j ∧ j < 2 ^ 62) ∧ R (Itr i (j - i).toNat) H
def RFor (J : It) (g : TG) (tb : TS) (D : Ends) (σ : L2.St) (H1 : Hp) : Prop := ∃ W : Nat → Nat → L2.St → Hp → Prop, (∃ m, W 0 m σ H1) ∧ ∀ i m σ H, W i m σ H →
  (J.stop i H ∧ D.nx σ H) ∨ (J.go i H ∧ ∃ N : L2.St → Hp → Prop, (∀ σ' H', N σ' H' → ∃ m', m' < m ∧ W (i + 1) m' σ' H') ∧ ∀ x H', J.yld i H x H' → g x σ H' fun σ2 H2 => tb { D with nx := N, ct := N, bk := D.nx } σ2 H2)
-- calls by values
def rLen (K : PySem.W.Frag) : List V → Hp → VK → Prop := fun xs H Q => ∃ p ys, xs = [V.ref p] ∧ (SqL K H p ys ∨ SqT K H p ys) ∧ Q (V.int ys.length) H
section
variable {n b c : L2.St → Hp → Prop} {r : VK} {σ : L2.St} {H : Hp} {Q : VK} {QB : Bool → Hp → Prop} {t u : TS} {te ta tb : TE} {tc td : TT} {x y v : V} {K : PySem.W.Frag}
theorem w_seq (h : t ⟨u ⟨n, r, b, c⟩, r, b, c⟩ σ H) : tSeq t u ⟨n, r, b, c⟩ σ H := h
theorem w_asg {i : Nat} (h : te σ H fun v H1 => n (σ.set i (some v)) H1) : tAsg te (gName i) ⟨n, r, b, c⟩ σ H := h
theorem w_ret (h : te σ H r) : tRet te ⟨n, r, b, c⟩ σ H := h
theorem w_retN (h : r .non H) : tRetN ⟨n, r, b, c⟩ σ H := h
theorem w_drop (h : te σ H fun _ H1 => n σ H1) : tDrop te ⟨n, r, b, c⟩ σ H := h
theorem w_next (h : n σ H) : tNext ⟨n, r, b, c⟩ σ H := h
theorem w_break (h : b σ H) : tBreak ⟨n, r, b, c⟩ σ H := h
theorem w_cont (h : c σ H) : tCont ⟨n, r, b, c⟩ σ H := h
theorem w_if (h : tc σ H fun k H1 => RIf k (t ⟨n, r, b, c⟩ σ H1) (u ⟨n, r, b, c⟩ σ H1)) : tIfS tc t u ⟨n, r, b, c⟩ σ H := h
theorem w_var {i : Nat} (h : σ[i]? = some (some v)) (q : Q v H) : tVar i σ H Q := ⟨v, h, q⟩
theorem w_c (q : Q v H) : tC v σ H Q := q
theorem w_op {R : R2} (h : ta σ H fun x H1 => tb σ H1 fun y H2 => R x y H2 Q) : tOp R ta tb σ H Q := h
theorem w_un {R : V → Hp → VK → Prop} (h : ta σ H fun x H1 => R x H1 Q) : tUn R ta σ H Q := h
theorem w_test (h : te σ H fun x H1 => RB x H1 QB) : tTest te σ H QB := h
theorem w_tB (h : te σ H fun x H1 => RB x H1 QB) : tB te σ H QB := h
theorem w_and (h : tc σ H fun k H1 => RIf k (td σ H1 QB) (QB false H1)) : tAnd tc td σ H QB := h
theorem w_or (h : tc σ H fun k H1 => RIf k (QB true H1) (td σ H1 QB)) : tOr tc td σ H QB := h
theorem w_not (h : tc σ H fun k H1 => QB (!k) H1) : tNot tc σ H QB := h
theorem w_andV (h : ta σ H fun x H1 => RB x H1 fun k H1 => RIf k (tb σ H1 Q) (Q (.bl false) H1)) : tAndV ta tb σ H Q := h
theorem w_orV (h : ta σ H fun x H1 => RB x H1 fun k H1 => RIf k (Q (.bl true) H1) (tb σ H1 Q)) : tOrV ta tb σ H Q := h
theorem w_notV (h : ta σ H fun x H1 => RB x H1 fun k H1 => Q (.bl (!k)) H1) : tNotV ta σ H Q := h
theorem w_ifE (h : tc σ H fun k H1 => RIf k (ta σ H1 Q) (tb σ H1 Q)) : tIf tc ta tb σ H Q := h
theorem w_nil {QA : List V → Hp → Prop} (q : QA [] H) : tNil σ H QA := q
theorem w_cons {QA : List V → Hp → Prop} {tr : TA} (h : ta σ H fun x H1 => tr σ H1 fun xs H2 => QA (x :: xs) H2) : tCons ta tr σ H QA := h
theorem w_tup {tr : TA} (h : tr σ H fun xs H1 => RTup Q xs H1) : tTup tr σ H Q := h
theorem w_lst {tr : TA} (h : tr σ H fun xs H1 => RLst Q xs H1) : tLst tr σ H Q := h
theorem w_cb {R : List V → Hp → VK → Prop} {tr : TA} (h : tr σ H fun vs H1 => R vs H1 Q) : tCB R tr σ H Q := h
theorem w_call {sp : Sp} {E : XK} {tr : TA} (h : tr σ H fun vs H1 => sp vs H1 Q E) : tCall sp [] E tr σ H Q := by
  show tr σ H fun vs H1 => sp (vs ++ []) H1 Q E
  simpa only [List.append_nil] using h
theorem w_calld {sp : Sp} {dvs : List V} {E : XK} {tr : TA} (h : tr σ H fun vs H1 => sp (vs ++ dvs) H1 Q E) : tCall sp dvs E tr σ H Q := h
theorem w_callS {sp : Sp} {E : L2.St → XK} {tr : TA} (h : tr σ H fun vs H1 => sp vs H1 Q (E σ)) : tCallS sp E tr σ H Q := h
theorem w_bm {T : String} {R : V → List V → Hp → VK → Prop} {tr : TA} (h : te σ H fun x H1 => RTy K T x H1 (tr σ H1 fun xs H2 => R x xs H2 Q)) : tBM K T R te tr σ H Q := h
theorem w_bm0 {T : String} {R : V → List V → Hp → VK → Prop} (h : te σ H fun x H1 => RTy K T x H1 (R x [] H1 Q)) : tBM0 K T R te σ H Q := h
theorem w_sl {R : V → Option Int → Option Int → Hp → VK → Prop} {tl th : TO} (h : te σ H fun x H1 => tl σ H1 fun l H2 => th σ H2 fun u H3 => R x l u H3 Q) : tSl R te tl th σ H Q := h
theorem w_part {QO : Option Int → Hp → Prop} (h : te σ H fun x H1 => RPart x H1 QO) : tPart te σ H QO := h
theorem w_nopart {QO : Option Int → Hp → Prop} (h : QO none H) : tNoPart σ H QO := h
theorem w_for {wi : TI} {g : TG} (h : wi σ H fun J H1 => RFor J g t ⟨n, r, b, c⟩ σ H1) : tFor wi g t ⟨n, r, b, c⟩ σ H := h
theorem w_iL {R : It → Hp → Prop} (h : te σ H fun x H1 => RIL K x H1 R) : iList K te σ H R := h
theorem w_iT {R : It → Hp → Prop} (h : te σ H fun x H1 => RIT K x H1 R) : iTup K te σ H R := h
theorem w_i1 {R : It → Hp → Prop} {tr : TA} (h : tr σ H fun x H1 => RI1 x H1 R) : iRng1 tr σ H R := h
theorem w_i2 {R : It → Hp → Prop} {tr : TA} (h : tr σ H fun x H1 => RI2 x H1 R) : iRng2 tr σ H R := h
theorem w_aug {i : Nat} {ti : TIp} (h : σ[i]? = some (some x)) (q : te σ H fun y H1 => ti x y H1 fun z H2 => n (σ.set i (some z)) H2) : tAug i te ti ⟨n, r, b, c⟩ σ H := ⟨x, h, q⟩
theorem w_par {i j : Nat} {tr : TA} (h : tr σ H fun vs H1 => ∃ v w, vs = [v, w] ∧ n ((σ.set i (some v)).set j (some w)) H1) : tPar i j tr ⟨n, r, b, c⟩ σ H := h
-- values
theorem r_ifT {A B : Prop} (h : A) : RIf true A B := by unfold RIf; rw [if_pos rfl]; exact h
theorem r_ifF {A B : Prop} (h : B) : RIf false A B := by unfold RIf; rw [if_neg Bool.false_ne_true]; exact h
theorem r_ifNt {A B : Prop} (h : B) : RIf (!true) A B := r_ifF h
theorem r_ifNf {A B : Prop} (h : A) : RIf (!false) A B := r_ifT h
theorem r_ifRN {a : Addr} {A B : Prop} (h : B) : RIf (decide (V.ref a = V.non)) A B := by rw [decide_eq_false (fun z => nomatch z)]; exact r_ifF h
theorem r_ifNRN {a : Addr} {A B : Prop} (h : A) : RIf (!decide (V.ref a = V.non)) A B := by rw [decide_eq_false (fun z => nomatch z)]; exact r_ifT h
theorem r_ifNN {A B : Prop} (h : A) : RIf (decide (V.non = V.non)) A B := by rw [decide_eq_true rfl]; exact r_ifT h
theorem r_ifNNN {A B : Prop} (h : B) : RIf (!decide (V.non = V.non)) A B := by rw [decide_eq_true rfl]; exact r_ifF h
theorem r_if {k : Bool} {A B : Prop} (h1 : k = true → A) (h2 : k = false → B) : RIf k A B := by
  cases k with
  | true => exact r_ifT (h1 rfl)
  | false => exact r_ifF (h2 rfl)
theorem r_ifD {p : Prop} [Decidable p] {A B : Prop} (h1 : p → A) (h2 : ¬ p → B) : RIf (decide p) A B := r_if (fun h => h1 (of_decide_eq_true h)) fun h => h2 (of_decide_eq_false h)
theorem r_ifN {p : Prop} [Decidable p] {A B : Prop} (h1 : ¬ p → A) (h2 : p → B) : RIf (!decide p) A B := by
  by_cases h : p
  · rw [decide_eq_true h]; exact r_ifF (h2 h)
  · rw [decide_eq_false h]; exact r_ifT (h1 h)
theorem r_ifDT {p : Prop} [Decidable p] {A B : Prop} (h : p) (q : A) : RIf (decide p) A B := by rw [decide_eq_true h]; exact r_ifT q
theorem r_ifDF {p : Prop} [Decidable p] {A B : Prop} (h : ¬ p) (q : B) : RIf (decide p) A B := by rw [decide_eq_false h]; exact r_ifF q
theorem r_ifNT {p : Prop} [Decidable p] {A B : Prop} (h : ¬ p) (q : A) : RIf (!decide p) A B := by rw [decide_eq_false h]; exact r_ifT q
theorem r_ifNF {p : Prop} [Decidable p] {A B : Prop} (h : p) (q : B) : RIf (!decide p) A B := by rw [decide_eq_true h]; exact r_ifF q
theorem r_b {k : Bool} (q : QB k H) : RB (.bl k) H QB := ⟨k, rfl, q⟩
theorem r_I0 {g : Int → Int → V} {i j : Int} (q : Q (g i j) H) : rI0 g (.int i) (.int j) H Q := ⟨i, j, rfl, rfl, q⟩
theorem r_I {C : Int → Int → Prop} {g : Int → Int → V} {i j : Int} (h : C i j) (q : Q (g i j) H) : rI C g (.int i) (.int j) H Q := ⟨i, j, rfl, rfl, h, q⟩
theorem r_U {g : Int → V} {i : Int} (q : Q (g i) H) : rU g (.int i) H Q := ⟨i, rfl, q⟩
theorem decV {i j : Int} : decide (V.int i = V.int j) = decide (i = j) := by
  by_cases h : i = j
  · subst h; rw [decide_eq_true rfl, decide_eq_true rfl]
  · rw [decide_eq_false h, decide_eq_false (fun q => h (V.int.inj q))]
theorem decS {i j : Str} : decide (V.str i = V.str j) = decide (i = j) := by
  by_cases h : i = j
  · subst h; rw [decide_eq_true rfl, decide_eq_true rfl]
  · rw [decide_eq_false h, decide_eq_false (fun q => h (V.str.inj q))]
theorem decB {i j : Bool} : decide (V.bl i = V.bl j) = decide (i = j) := by
  cases i <;> cases j <;> rfl
theorem r_eqI {i j : Int} (q : Q (.bl (decide (i = j))) H) : rEq (.int i) (.int j) H Q := ⟨rfl, by rw [decV]; exact q⟩
theorem r_neI {i j : Int} (q : Q (.bl (!decide (i = j))) H) : rNe (.int i) (.int j) H Q := ⟨rfl, by rw [decV]; exact q⟩
theorem r_eqS {i j : Str} (q : Q (.bl (decide (i = j))) H) : rEq (.str i) (.str j) H Q := ⟨rfl, by rw [decS]; exact q⟩
theorem r_neS {i j : Str} (q : Q (.bl (!decide (i = j))) H) : rNe (.str i) (.str j) H Q := ⟨rfl, by rw [decS]; exact q⟩
theorem r_eqB {i j : Bool} (q : Q (.bl (decide (i = j))) H) : rEq (.bl i) (.bl j) H Q := ⟨rfl, by rw [decB]; exact q⟩
theorem r_neB {i j : Bool} (q : Q (.bl (!decide (i = j))) H) : rNe (.bl i) (.bl j) H Q := ⟨rfl, by rw [decB]; exact q⟩
theorem r_len {p : Addr} {xs : List V} (h : SqL K H p xs ∨ SqT K H p xs) (q : Q (.int xs.length) H) : rLen K [.ref p] H Q := ⟨p, xs, rfl, h, q⟩
theorem r_ixL {p : Addr} {xs : List V} {i : Int} (h : SqL K H p xs) (ha : atI xs i = some v) (q : Q v H) : rIxL K (.ref p) (.int i) H Q := ⟨p, xs, i, v, rfl, rfl, h, ha, q⟩
theorem r_ixT {p : Addr} {xs : List V} {i : Int} (h : SqT K H p xs) (ha : atI xs i = some v) (q : Q v H) : rIxT K (.ref p) (.int i) H Q := ⟨p, xs, i, v, rfl, rfl, h, ha, q⟩
theorem r_tyL {p : Addr} {xs : List V} {A : Prop} (h : SqL K H p xs) (q : A) : RTy K "list" (.ref p) H A := ⟨Or.inl ⟨rfl, _, h⟩, q⟩
theorem r_part {i : Int} {QO : Option Int → Hp → Prop} (q : QO (some i) H) : RPart (.int i) H QO := ⟨i, rfl, q⟩
variable {E : En} {F H' : Hp} {L L' : Led} {p : Addr} {xs : List V}
theorem r_tup (G : St E F H L) (hs : xs.length ≤ sizeLine) (q : ∀ p H', St E F H' ((p, .tup xs) :: L) → Q (.ref p) H') : RTup Q xs H := ⟨hs, fun p hp => q p _ (G.new hp)⟩
theorem r_lst (G : St E F H L) (hs : xs.length ≤ sizeLine) (q : ∀ p H', St E F H' ((p, .lst xs) :: L) → Q (.ref p) H') : RLst Q xs H := ⟨hs, fun p hp => q p _ (G.new hp)⟩
theorem r_tupS (G : St E F H L) (hs : xs.length ≤ sizeLine) (q : ∀ p H', Same H H' → St E F H' ((p, .tup xs) :: L) → Q (.ref p) H') : RTup Q xs H := ⟨hs, fun p hp => q p _ (same_new hp) (G.new hp)⟩
theorem r_lstS (G : St E F H L) (hs : xs.length ≤ sizeLine) (q : ∀ p H', Same H H' → St E F H' ((p, .lst xs) :: L) → Q (.ref p) H') : RLst Q xs H := ⟨hs, fun p hp => q p _ (same_new hp) (G.new hp)⟩
theorem r_append (G : St E F H L) (u : Upd L p (.lst xs) (.lst (xs ++ [v])) L') (hs : xs.length < sizeLine) (q : ∀ H', St E F H' L' → Q .non H') : rAppend (.ref p) [v] H Q :=
  ⟨p, xs, v, rfl, rfl, G.get u.mem, hs, q _ (G.put u)⟩
theorem r_pop (G : St E F H L) (u : Upd L p (.lst (xs ++ [v])) (.lst xs) L') (q : ∀ H', St E F H' L' → Q v H') : rPop (.ref p) [] H Q :=
  ⟨p, xs ++ [v], v, rfl, rfl, G.get u.mem, by simp, by rw [List.dropLast_concat]; exact q _ (G.put u)⟩
theorem r_reverse (G : St E F H L) (u : Upd L p (.lst xs) (.lst xs.reverse) L') (q : ∀ H', St E F H' L' → Q .non H') : rReverse (.ref p) [] H Q :=
  ⟨p, xs, rfl, rfl, G.get u.mem, q _ (G.put u)⟩
theorem r_setL {k : Int} {j : Nat} {QH : Hp → Prop} (G : St E F H L) (hj : ixN xs.length k = some j) (u : Upd L p (.lst xs) (.lst (xs.set j v)) L') (q : ∀ H', St E F H' L' → QH H') : rSetL (.ref p) (.int k) v H QH :=
  ⟨p, xs, k, j, rfl, rfl, G.get u.mem, hj, q _ (G.put u)⟩
theorem r_slL {lo hi : Option Int} (G : St E F H L) (h : SqL K H p xs) (q : ∀ p' H', St E F H' ((p', .lst (cutV xs lo hi)) :: L) → Q (.ref p') H') : rSlL K (.ref p) lo hi H Q :=
  ⟨p, xs, rfl, h, fun p' hp => q p' _ (G.new hp)⟩
theorem r_cat {p2 : Addr} {ys : List V} (G : St E F H L) (m1 : (p, HO.lst xs) ∈ L) (m2 : (p2, HO.lst ys) ∈ L) (hs : xs.length + ys.length ≤ sizeLine) (q : ∀ p' H', St E F H' ((p', .lst (xs ++ ys)) :: L) → Q (.ref p') H') : rCat (.ref p) (.ref p2) H Q :=
  ⟨p, p2, xs, ys, rfl, rfl, G.get m1, G.get m2, hs, fun p' hp => q p' _ (G.new hp)⟩
-- walks
theorem r_il {a : Addr} {R : It → Hp → Prop} (h : SqL K H a xs) (q : R (Itl K a) H) : RIL K (.ref a) H R := ⟨a, rfl, ⟨xs, h⟩, q⟩
theorem r_it {a : Addr} {R : It → Hp → Prop} (h : SqT K H a xs) (q : R (Itt K a) H) : RIT K (.ref a) H R := ⟨a, rfl, ⟨xs, h⟩, q⟩
theorem r_i1 {j : Int} {R : It → Hp → Prop} (h : -(2 ^ 62) ≤ j ∧ j < 2 ^ 62) (q : R (Itr 0 j.toNat) H) : RI1 [.int j] H R := ⟨j, rfl, h.1, h.2, q⟩
theorem r_i2 {i j : Int} {R : It → Hp → Prop} (h : -(2 ^ 62) ≤ i ∧ i < 2 ^ 62 ∧ -(2 ^ 62) ≤ j ∧ j < 2 ^ 62) (q : R (Itr i (j - i).toNat) H) : RI2 [.int i, .int j] H R := ⟨i, j, rfl, h, q⟩
theorem r_forL {a : Addr} {i0 : Nat} (Pv : Nat → L2.St → Hp → Prop) (h0 : Pv 0 σ H) (hl : ∀ i σ H, i ≤ xs.length → Pv i σ H → SqL K H a xs)
    (hs : ∀ i x σ H, xs[i]? = some x → Pv i σ H → t ⟨Pv (i + 1), r, n, Pv (i + 1)⟩ (σ.set i0 (some x)) H) (hd : ∀ σ H, Pv xs.length σ H → n σ H) : RFor (Itl K a) (gName i0) t ⟨n, r, b, c⟩ σ H :=
  for_list (D := ⟨n, r, b, c⟩) Pv h0 hl hs hd
theorem r_forT {a : Addr} {i0 : Nat} (Pv : Nat → L2.St → Hp → Prop) (h0 : Pv 0 σ H) (hl : ∀ i σ H, i ≤ xs.length → Pv i σ H → SqT K H a xs)
    (hs : ∀ i x σ H, xs[i]? = some x → Pv i σ H → t ⟨Pv (i + 1), r, n, Pv (i + 1)⟩ (σ.set i0 (some x)) H) (hd : ∀ σ H, Pv xs.length σ H → n σ H) : RFor (Itt K a) (gName i0) t ⟨n, r, b, c⟩ σ H :=
  for_tup (D := ⟨n, r, b, c⟩) Pv h0 hl hs hd
theorem r_forR {lo : Int} {m i0 : Nat} (Pv : Nat → L2.St → Hp → Prop) (h0 : Pv 0 σ H)
    (hs : ∀ i σ H, i < m → Pv i σ H → t ⟨Pv (i + 1), r, n, Pv (i + 1)⟩ (σ.set i0 (some (.int (lo + i)))) H) (hd : ∀ σ H, Pv m σ H → n σ H) : RFor (Itr lo m) (gName i0) t ⟨n, r, b, c⟩ σ H :=
  for_range (D := ⟨n, r, b, c⟩) Pv h0 hs hd
end
/-! ## the steps by themselves -/
section
set_option hygiene false
local macro_rules | `(tactic| walk_at "g1") => `(tactic| first
  | with_reducible refine w_seq ?_ | with_reducible refine w_asg ?_ | with_reducible refine w_var rfl ?_ | with_reducible refine w_c ?_ | with_reducible refine w_op ?_
  | with_reducible refine r_I0 ?_ | with_reducible refine w_test ?_ | with_reducible refine r_b ?_ | with_reducible refine w_if ?_ | with_reducible refine w_cons ?_ | with_reducible refine w_nil ?_
  | with_reducible refine w_ret ?_)
end
end SL

set_option Elab.async false
set_option linter.all false
set_option maxRecDepth 100000
set_option maxHeartbeats 4000000
namespace SL
open PySem L2
abbrev rAddI : R2 := rI0 fun i j => .int (i + j)
abbrev rSubI : R2 := rI0 fun i j => .int (i - j)
abbrev rMulI : R2 := rI CMulW fun i j => .int (i * j)
abbrev rDivI : R2 := rI CDivW fun i j => .int (i / j)
abbrev rModI : R2 := rI (fun _ j => 0 < j) fun i j => .int (i % j)
abbrev rPowI : R2 := rI CPow fun i j => .int (i ^ j.toNat)
abbrev rShlI : R2 := rI CShl fun i j => .int (i * 2 ^ j.toNat)
abbrev rShrI : R2 := rI (fun _ j => 0 ≤ j) fun i j => .int (i / 2 ^ j.toNat)
abbrev rAndI : R2 := rI0 fun i j => .int (Builtin.bitAnd i j)
abbrev rOrI : R2 := rI0 fun i j => .int (Builtin.bitOr i j)
abbrev rXorI : R2 := rI0 fun i j => .int (Builtin.bitXor i j)
abbrev rNegI : V → Hp → VK → Prop := rU fun i => .int (-i)
abbrev rLtI : R2 := rI0 fun i j => .bl (decide (i < j))
abbrev rLeI : R2 := rI0 fun i j => .bl (decide (i ≤ j))
abbrev rGtI : R2 := rI0 fun i j => .bl (decide (j < i))
abbrev rGeI : R2 := rI0 fun i j => .bl (decide (j ≤ i))
def rIsNone : R2 := fun x y H Q => y = .non ∧ Q (.bl (decide (x = .non))) H
def rNotNone : R2 := fun x y H Q => y = .non ∧ Q (.bl (!decide (x = .non))) H
def rInt1 : List V → Hp → VK → Prop := fun xs H Q => (∃ i, xs = [.int i] ∧ Q (.int i) H) ∨ ∃ k, xs = [.bl k] ∧ Q (.int (if k then 1 else 0)) H
def rListOf (K : PySem.W.Frag) : List V → Hp → VK → Prop := fun xs H Q => ∃ p ys, xs = [.ref p] ∧ (SqL K H p ys ∨ SqT K H p ys) ∧ ∀ l, H l = none → Q (.ref l) (upd H l (.lst ys))
def rTupOf (K : PySem.W.Frag) : List V → Hp → VK → Prop := fun xs H Q => ∃ p ys, xs = [.ref p] ∧ ((SqL K H p ys ∧ ∀ l, H l = none → Q (.ref l) (upd H l (.tup ys))) ∨ (SqT K H p ys ∧ Q (.ref p) H))
def rMax2 : List V → Hp → VK → Prop := fun xs H Q => ∃ i j, xs = [.int i, .int j] ∧ Q (.int (if j > i then j else i)) H
def rMin2 : List V → Hp → VK → Prop := fun xs H Q => ∃ i j, xs = [.int i, .int j] ∧ Q (.int (if j < i then j else i)) H
def rLenStr : List V → Hp → VK → Prop := fun xs H Q => ∃ z, xs = [.str z] ∧ z.length ≤ sizeLine ∧ Q (.int z.length) H
def rAddS : R2 := fun x y H Q => ∃ i j, x = .str i ∧ y = .str j ∧ i.length + j.length ≤ sizeLine ∧ Q (.str (i ++ j)) H
abbrev iAddI : TIp := ipI fun i j => i + j
abbrev iSubI : TIp := ipI fun i j => i - j
def tTru (K : PySem.W.Frag) (ta : TE) : TT := fun σ H Q => ta σ H fun x H' => ∃ k, TruV K x H' k ∧ Q k H'
def tRs (C : Addr) (E : XK) : TS := fun _ _ H => E (.ref C) none H
/-- what holds of an error wherever it was raised in the suite -/
def wAll (W : WX) : XK := fun cls d H => ∀ σ, W cls d σ H
theorem passes_all {X : Cx} {W : WX} (tk : Takes X W) : Passes (L2.CX X.prog X.w) X (wAll W) := passes_call tk fun _ _ σ _ h => h σ
section
variable {n b c : L2.St → Hp → Prop} {r : VK} {σ : L2.St} {H H' : Hp} {Q : VK} {x y v : V} {K : PySem.W.Frag} {E : En} {F : Hp} {L L' : Led} {p : Addr} {xs : List V}
theorem r_mul {i j : Int} {m k : Nat} (hi : i.natAbs < 2 ^ m) (hj : j.natAbs < 2 ^ k) (q : Q (.int (i * j)) H) (hm : 0 < m := by decide) (hk : 0 < k := by decide) (hs : m + k ≤ 1000000 := by decide) : rI CMulW (fun i j => .int (i * j)) (.int i) (.int j) H Q :=
  r_I (wide_mul hi hj hm hk hs) q
theorem r_div {i j : Int} (hj : 0 < j) (hb : j.natAbs < 2 ^ 200) (q : Q (.int (i / j)) H) : rI CDivW (fun i j => .int (i / j)) (.int i) (.int j) H Q :=
  r_I (wide_div hj hb (by decide) (by decide)) q
theorem r_isnone (q : Q (.bl (decide (x = .non))) H) : rIsNone x .non H Q := ⟨rfl, q⟩
theorem r_notnone (q : Q (.bl (!decide (x = .non))) H) : rNotNone x .non H Q := ⟨rfl, q⟩
theorem r_int1 {i : Int} (q : Q (.int i) H) : rInt1 [.int i] H Q := .inl ⟨i, rfl, q⟩
theorem r_int1b {k : Bool} (q : Q (.int (if k then 1 else 0)) H) : rInt1 [.bl k] H Q := .inr ⟨k, rfl, q⟩
theorem r_listof (G : St E F H L) (h : SqL K H p xs ∨ SqT K H p xs) (q : ∀ p' H', St E F H' ((p', .lst xs) :: L) → Q (.ref p') H') : rListOf K [.ref p] H Q :=
  ⟨p, xs, rfl, h, fun p' hp => q p' _ (G.new hp)⟩
theorem r_tupofL (G : St E F H L) (h : SqL K H p xs) (q : ∀ p' H', St E F H' ((p', .tup xs) :: L) → Q (.ref p') H') : rTupOf K [.ref p] H Q :=
  ⟨p, xs, rfl, .inl ⟨h, fun p' hp => q p' _ (G.new hp)⟩⟩
theorem r_tupofT (h : SqT K H p xs) (q : Q (.ref p) H) : rTupOf K [.ref p] H Q := ⟨p, xs, rfl, .inr ⟨h, q⟩⟩
theorem r_max2 {i j : Int} (q : Q (.int (if j > i then j else i)) H) : rMax2 [.int i, .int j] H Q := ⟨i, j, rfl, q⟩
theorem r_min2 {i j : Int} (q : Q (.int (if j < i then j else i)) H) : rMin2 [.int i, .int j] H Q := ⟨i, j, rfl, q⟩
theorem r_ipI {f : Int → Int → Int} {i j : Int} (q : Q (.int (f i j)) H) : ipI f (.int i) (.int j) H Q := ⟨i, j, rfl, rfl, q⟩
theorem w_tru {ta : TE} {QB : Bool → Hp → Prop} (h : ta σ H fun x H' => ∃ k, TruV K x H' k ∧ QB k H') : tTru K ta σ H QB := h
theorem w_rs {C : Addr} {X : XK} (h : X (.ref C) none H) : tRs C X ⟨n, r, b, c⟩ σ H := h
theorem w_gsub {te ti : TE} {t : TSet} {v : V} {QN : L2.St → Hp → Prop} (h : te σ H fun o H1 => ti σ H1 fun i H2 => t o i v H2 fun H3 => QN σ H3) : gSub te ti t v σ H QN := h
theorem w_asgG {te : TE} {g : TG} (h : te σ H fun v H1 => g v σ H1 n) : tAsg te g ⟨n, r, b, c⟩ σ H := h
end
/-! ## lists of ints, the draws -/
abbrev iv (ns : List Int) : List V := ns.map V.int
theorem iv_len {ns : List Int} : (iv ns).length = ns.length := List.length_map ..
theorem iv_get {ns : List Int} {i : Nat} {x : V} (h : (iv ns)[i]? = some x) : ∃ z, ns[i]? = some z ∧ x = .int z := by
  rw [List.getElem?_map] at h
  cases e : ns[i]? with
  | none => rw [e] at h; cases h
  | some z => rw [e] at h; exact ⟨z, rfl, (Option.some.inj h).symm⟩
theorem atI_iv {ns : List Int} {i : Int} (h0 : 0 ≤ i) (h1 : i < ns.length) : atI (iv ns) i = some (.int (ns.getD i.toNat 0)) := by
  have e : ((i.toNat : Nat) : Int) = i := by omega
  have hlt : i.toNat < ns.length := by omega
  have g : (iv ns)[i.toNat]? = some (.int (ns.getD i.toNat 0)) := by
    rw [List.getElem?_map, List.getElem?_eq_getElem hlt, List.getD_eq_getElem?_getD, List.getElem?_eq_getElem hlt]; rfl
  have q := atI_nat g
  rw [e] at q
  exact q
theorem ixN_of {n : Nat} {i : Int} (h0 : 0 ≤ i) (h1 : i < n) : ixN n i = some i.toNat := by
  unfold ixN; rw [if_pos h0, if_pos h1]
structure Dok (ds : List Int) : Prop where
  len : ds.length ≤ 1000
  rng : ∀ d ∈ ds, 0 ≤ d ∧ d < 1000
end SL

set_option Elab.async false
set_option linter.all false
set_option maxRecDepth 100000
set_option maxHeartbeats 4000000
namespace SL
open PySem L2
section

set_option hygiene false
local macro_rules | `(tactic| walk_at "m") => `(tactic| first | exact List.Mem.head _ | (refine List.Mem.tail _ ?_; walk_at "m"))
local macro_rules | `(tactic| walk_at "u") => `(tactic| first | exact Upd.head | (apply Upd.tail; walk_at "u"))
local macro_rules | `(tactic| walk_at "tk") => `(tactic| first | exact Tak.head | (apply Tak.tail; walk_at "tk"))
local macro_rules | `(tactic| walk_at "l") => `(tactic| first | assumption | exact lS (St.fh (by assumption)) (by assumption) | exact SqL.of (St.get (by assumption) (by walk_at "m")))
local macro_rules | `(tactic| walk_at "t") => `(tactic| first | assumption | exact tS (St.fh (by assumption)) (by assumption) | exact SqT.of (St.get (by assumption) (by walk_at "m")))
local macro_rules | `(tactic| walk_at "lt") => `(tactic| first | exact .inl (by walk_at "l") | exact .inr (by walk_at "t"))
local macro_rules | `(tactic| walk_at "sz") => `(tactic| first | (show _ ≤ sizeLine; decide) | exact sz (by simp) | exact szl (by simp) | exact sz (by omega) | exact szl (by omega) | exact sz (by simp; omega) | exact szl (by simp; omega))
local macro_rules | `(tactic| walk_at "c") => `(tactic| first | assumption | decide | omega)
local macro_rules | `(tactic| walk_at "g1") => `(tactic| with_reducible first
  | refine w_seq ?_ | refine w_asg ?_ | refine w_c ?_ | refine w_op ?_
  | refine r_I0 ?_ | refine w_test ?_ | refine r_b ?_ | refine w_if ?_ | refine w_cons ?_ | refine w_nil ?_
  | refine w_ret ?_ | refine w_drop ?_ | refine w_cb ?_ | refine w_call ?_ | refine w_next ?_ | refine w_tup ?_ | refine w_lst ?_ | refine w_bm ?_ | refine w_bm0 ?_
  | refine w_and ?_ | refine w_or ?_ | refine w_not ?_ | refine w_andV ?_ | refine w_orV ?_ | refine w_notV ?_ | refine w_tB ?_ | refine w_un ?_ | refine r_U ?_
  | refine w_for ?_ | refine w_iL ?_ | refine w_iT ?_ | refine w_i1 ?_ | refine w_i2 ?_ | refine w_sl ?_ | refine w_part ?_ | refine w_nopart ?_ | refine r_part ?_
  | refine r_eqI ?_ | refine r_neI ?_ | refine r_eqS ?_ | refine r_neS ?_ | refine r_eqB ?_ | refine r_neB ?_ | refine r_ifT ?_ | refine r_ifF ?_ | refine r_ifNt ?_ | refine r_ifNf ?_ | refine r_ifRN ?_ | refine r_ifNRN ?_ | refine r_ifNN ?_ | refine r_ifNNN ?_
  | refine w_ifE ?_ | refine r_int1 ?_ | refine r_int1b ?_ | refine r_isnone ?_ | refine r_notnone ?_ | refine r_max2 ?_ | refine r_min2 ?_ | refine r_ipI ?_ | refine w_tru ?_ | refine w_rs ?_
  | refine w_retN ?_ | refine w_break ?_ | refine w_cont ?_ | refine w_callS ?_ | refine w_asgG ?_ | refine w_gsub ?_)
local macro_rules | `(tactic| walk_at "g2") => `(tactic| first
  | ((with_reducible refine' w_var ?hv ?_); (case hv => rfl)) | ((with_reducible refine' w_aug ?hv ?_); (case hv => rfl))
  | ((with_reducible show rLen _ _ _ _); refine r_len (by walk_at "lt") ?_)
  | (with_reducible refine r_I ?cnd ?_; (case cnd => first | decide | omega | assumption | (unfold CPow; decide)))
  | ((with_reducible show RTy _ _ _ _ _); refine r_tyL (by walk_at "l") ?_)
  | (with_reducible refine r_ifDT (by walk_at "c") ?_) | (with_reducible refine r_ifDF (by walk_at "c") ?_)
  | (with_reducible refine r_ifNT (by walk_at "c") ?_) | (with_reducible refine r_ifNF (by walk_at "c") ?_))
local macro_rules | `(tactic| walk_at "go") => `(tactic| repeat (first | walk_at "g1" | walk_at "g2"))

abbrev F2 : L2.St → Hp → Prop := fun _ _ => False
abbrev D0 (Q : VK) : Ends := ⟨fun _ H' => Q .non H', Q, F2, F2⟩
/-! ### take -/
def cp_take (K : PySem.W.Frag) : Sp := fun vs H Q E => ∃ (p : Addr) (ds : List Int) (l : Int), vs = [.ref p, .int l] ∧
  (H p = some (.lst (iv ds)) ∧ Dok ds ∧ 0 < l ∧ ∀ i H' ds', 0 ≤ i → i < l → Dok ds' → SameB p H H' → H' p = some (.lst (iv ds')) → Q (.int i) H')
def ct_take (K : PySem.W.Frag) : TS := (tSeq (tIfS (tTest (tOp rEq (tCB (rLen K) (tCons (tVar 0) tNil)) (tC (.int (0))))) (tRet (tC (.int (0)))) tNext)
 (tRet (tOp rModI (tCB rInt1 (tCons (tBM0 K "list" rPop (tVar 0)) tNil)) (tVar 1))))
theorem cv_take {K : PySem.W.Frag} {vs : List V} {H : Hp} {Q : VK} {E : XK} (h : cp_take K vs H Q E) : ct_take K (D0 Q) (start ["draws", "limit"] vs) H := by
  obtain ⟨p, ds, l, rfl, hp, hd, hl, k⟩ := h
  have G := St.init1 (F := fun _ => none) (fun _ _ e => nomatch e) hp rfl
  unfold ct_take
  show tSeq _ _ (D0 Q) [some (.ref p), some (.int l)] H
  unfold D0
  walk_at "go"
  rw [iv_len]
  refine r_ifD (fun h => ?_) (fun h => ?_)
  · walk_at "go"
    exact k 0 H ds (by omega) hl hd (fun _ _ _ e => e) hp
  · have hne : ds ≠ [] := fun e => h (by rw [e]; rfl)
    obtain ⟨d1, z, rfl⟩ : ∃ d1 z, ds = d1 ++ [z] := ⟨ds.dropLast, ds.getLast hne, (List.dropLast_concat_getLast hne).symm⟩
    rw [show iv (d1 ++ [z]) = iv d1 ++ [.int z] from by simp] at G
    walk_at "go"
    refine r_pop G (by walk_at "u") fun H' G' => ?_
    walk_at "go"
    have hd' : Dok d1 := ⟨by have := hd.len; simp at this; omega, fun d m => hd.rng d (List.mem_append_left _ m)⟩
    exact k _ H' d1 (Int.emod_nonneg _ (by omega)) (Int.emod_lt_of_pos _ hl) hd' (G'.grB (by walk_at "m")).hh (G'.get (by walk_at "m"))
theorem u_take {K : PySem.W.Frag} {H F : Hp} {Q : VK} {X : XK} {E : En} {L : Led} {L' : List Int → Led} {p : Addr} {ds : List Int} {l : Int} (G : St E F H L) (u : ∀ ds', Upd L p (.lst (iv ds)) (.lst (iv ds')) (L' ds')) (hd : Dok ds) (hl : 0 < l)
    (q : ∀ i ds' H', 0 ≤ i → i < l → Dok ds' → St E F H' (L' ds') → Q (.int i) H') : cp_take K [.ref p, .int l] H Q X :=
  ⟨p, ds, l, rfl, G.get (u ds).mem, hd, hl, fun i H' ds' h0 h1 hd' hs hp => q i ds' H' h0 h1 hd' (G.putB (u ds') hs hp)⟩
/-! ### draws -/
def cp_draws (K : PySem.W.Frag) : Sp := fun vs H Q E => ∃ (a : Addr) (ns : List Int) (c : Int), vs = [.ref a, .int c] ∧
  (SqL K H a (iv ns) ∧ ns.length ≤ 63 ∧ 0 ≤ c ∧ c ≤ 1000 ∧ ∀ p H' ds, H p = none → Same H H' → H' p = some (.lst (iv ds)) → Dok ds → Q (.ref p) H')
def ct_draws (K : PySem.W.Frag) : TS := (tSeq (tAsg (tCB (rListOf K) (tCons (tVar 0) tNil)) (gName 2))
 (tSeq (tIfS (tTest (tOp rEq (tCB (rLen K) (tCons (tVar 2) tNil)) (tC (.int (0))))) (tAsg (tLst (tCons (tC (.int (7))) tNil)) (gName 2)) tNext)
 (tSeq (tAsg (tLst tNil) (gName 3))
 (tSeq (tAsg (tC (.int (12345))) (gName 4))
 (tSeq (tFor (iRng1 (tCons (tVar 1) tNil)) (gName 5) (tSeq (tAsg (tOp rModI (tVar 5) (tCB (rLen K) (tCons (tVar 2) tNil))) (gName 6))
 (tSeq (tAsg (tOp (rIxL K) (tVar 2) (tVar 6)) (gName 7))
 (tSeq (tAsg (tOp rModI (tCB rInt1 (tCons (tOp rAddI (tOp rAddI (tOp rAddI (tOp rMulI (tVar 4) (tC (.int (48271)))) (tOp rMulI (tOp rModI (tCB rInt1 (tCons (tVar 7) tNil)) (tC (.int (1000003)))) (tC (.int (69621))))) (tOp rMulI (tVar 5) (tC (.int (7919))))) (tC (.int (11)))) tNil)) (tC (.int (2147483647)))) (gName 4))
 (tSeq (tAsg (tOp rModI (tCB rInt1 (tCons (tOp rAddI (tOp rAddI (tOp rMulI (tVar 4) (tVar 4)) (tOp rMulI (tC (.int (31))) (tVar 4))) (tVar 5)) tNil)) (tC (.int (1000003)))) (gName 8))
 (tIfS (tTest (tOp rGeI (tVar 7) (tOp rPowI (tC (.int (10))) (tC (.int (18)))))) (tSeq (tDrop (tBM K "list" rAppend (tVar 3) (tCons (tOp rModI (tCB rInt1 (tCons (tVar 7) tNil)) (tC (.int (1000)))) tNil)))
 (tAsg (tOp rDivI (tVar 7) (tC (.int (1000)))) (gSub (tVar 2) (tVar 6) rSetL))) (tDrop (tBM K "list" rAppend (tVar 3) (tCons (tOp rModI (tCB rInt1 (tCons (tVar 8) tNil)) (tC (.int (1000)))) tNil)))))))))
 (tSeq (tDrop (tBM0 K "list" rReverse (tVar 3)))
 (tRet (tVar 3))))))))
theorem nab {i : Int} (h0 : 0 ≤ i) (h1 : i < 4294967296) : i.natAbs < 2 ^ 32 := by
  have : (2 : Nat) ^ 32 = 4294967296 := by decide
  omega
theorem iv_snoc {ns : List Int} {z : Int} : iv ns ++ [.int z] = iv (ns ++ [z]) := by simp
theorem iv_set {ns : List Int} {j : Nat} {z : Int} : (iv ns).set j (.int z) = iv (ns.set j z) := by simp [List.map_set]
theorem cv_draws {K : PySem.W.Frag} {vs : List V} {H : Hp} {Q : VK} {E : XK} (h : cp_draws K vs H Q E) : ct_draws K (D0 Q) (start ["script", "count", "cells", "found", "mixed", "k", "j", "cell", "again"] vs) H := by
  obtain ⟨a, ns, c, rfl, ha, hn, hc0, hc1, k⟩ := h
  have G := St.init (Same.refl H)
  unfold ct_draws
  show tSeq _ _ (D0 Q) [some (.ref a), some (.int c), none, none, none, none, none, none, none] H
  unfold D0
  walk_at "go"
  refine r_listof G (.inl ha) fun p1 H1 G1 => ?_
  walk_at "go"
  -- from here on: some list of ints at p1 that is not empty
  suffices S : ∀ (p1 : Addr) (cs : List Int) (H1 : Hp) (L : Led), St ⟨H, H⟩ H H1 ((p1, .lst (iv cs)) :: L) → 0 < cs.length → cs.length ≤ 63 →
      tSeq (tAsg (tLst tNil) (gName 3)) (tSeq (tAsg (tC (.int 12345)) (gName 4)) _) ⟨fun _ H' => Q .non H', Q, F2, F2⟩ [some (.ref a), some (.int c), some (.ref p1), none, none, none, none, none, none] H1 from by
    rw [iv_len]
    refine r_ifD (fun h => ?_) (fun h => ?_)
    · walk_at "go"
      refine r_lst G1 (by walk_at "sz") fun p2 H2 G2 => ?_
      exact S p2 [7] H2 _ G2 (by decide) (by decide)
    · walk_at "g1"
      exact S p1 ns H1 [] G1 (by omega) hn
  intro p1 cs H1 L G1 hc hc63
  walk_at "go"
  refine r_lst G1 (by walk_at "sz") fun p2 H2 G2 => ?_
  walk_at "go"
  refine r_i1 (by omega) ?_
  refine r_forR (fun i σ H' => ∃ (cs' ds : List Int) (m : Int) (v5 v6 v7 v8 : Option V), σ = [some (.ref a), some (.int c), some (.ref p1), some (.ref p2), some (.int m), v5, v6, v7, v8] ∧
      St ⟨H, H⟩ H H' ((p2, .lst (iv ds)) :: (p1, .lst (iv cs')) :: L) ∧ cs'.length = cs.length ∧ ds.length = i ∧ (∀ d ∈ ds, 0 ≤ d ∧ d < 1000) ∧ 0 ≤ m ∧ m < 2147483647)
    ⟨cs, [], 12345, none, none, none, none, rfl, G2, rfl, rfl, (fun _ h => nomatch h), by omega, by omega⟩ ?_ ?_
  · rintro i σ H' hi ⟨cs', ds, m, v5, v6, v7, v8, rfl, G3, hl, hdl, hr, hm0, hm1⟩
    have hi' : (i : Int) < 1000 := by omega
    have hcl : (0 : Int) < (iv cs').length := by rw [iv_len]; omega
    walk_at "go"
    generalize hj : (0 + (i : Int)) % ((iv cs').length : Int) = j
    have hj0 : 0 ≤ j := by rw [← hj]; exact Int.emod_nonneg _ (by omega)
    have hj1 : j < (cs'.length : Int) := by rw [← hj, iv_len]; rw [iv_len] at hcl; exact Int.emod_lt_of_pos _ hcl
    refine r_ixL (by walk_at "l") (atI_iv hj0 hj1) ?_
    generalize cs'.getD j.toNat 0 = z
    walk_at "go"
    refine r_mul (m := 32) (k := 32) (nab hm0 (by omega)) (by decide) ?_
    walk_at "go"
    have hz0 : 0 ≤ z % 1000003 := Int.emod_nonneg _ (by decide)
    have hz1 : z % 1000003 < 1000003 := Int.emod_lt_of_pos _ (by decide)
    refine r_mul (m := 32) (k := 32) (nab hz0 (by omega)) (by decide) ?_
    walk_at "go"
    refine r_mul (m := 32) (k := 32) (nab (by omega) (by omega)) (by decide) ?_
    walk_at "go"
    generalize hM : (m * 48271 + z % 1000003 * 69621 + (0 + (i : Int)) * 7919 + 11) % 2147483647 = m'
    have hm0' : 0 ≤ m' := by rw [← hM]; exact Int.emod_nonneg _ (by decide)
    have hm1' : m' < 2147483647 := by rw [← hM]; exact Int.emod_lt_of_pos _ (by decide)
    refine r_mul (m := 32) (k := 32) (nab hm0' (by omega)) (nab hm0' (by omega)) ?_
    walk_at "go"
    refine r_mul (m := 32) (k := 32) (by decide) (nab hm0' (by omega)) ?_
    walk_at "go"
    generalize (m' * m' + 31 * m' + (0 + (i : Int))) % 1000003 = w
    refine r_ifD (fun h => ?_) (fun h => ?_)
    · walk_at "go"
      refine r_append G3 (by walk_at "u") (szl (by rw [iv_len]; omega)) fun H4 G4 => ?_
      walk_at "go"
      refine r_div (by decide) (by decide) ?_
      walk_at "go"
      refine r_setL (xs := iv cs') G4 (ixN_of hj0 (by rw [iv_len]; exact hj1)) (by walk_at "u") fun H5 G5 => ?_
      rw [iv_snoc, iv_set] at G5
      refine ⟨_, _, m', _, _, _, _, rfl, G5, by rw [List.length_set]; exact hl, by simp [hdl], ?_, hm0', hm1'⟩
      intro d hd
      rcases List.mem_append.mp hd with q | q
      · exact hr d q
      · rw [List.mem_singleton.mp q]
        exact ⟨Int.emod_nonneg _ (by decide), Int.emod_lt_of_pos _ (by decide)⟩
    · walk_at "go"
      refine r_append G3 (by walk_at "u") (szl (by rw [iv_len]; omega)) fun H4 G4 => ?_
      rw [iv_snoc] at G4
      refine ⟨_, _, m', _, _, _, _, rfl, G4, hl, by simp [hdl], ?_, hm0', hm1'⟩
      intro d hd
      rcases List.mem_append.mp hd with q | q
      · exact hr d q
      · rw [List.mem_singleton.mp q]
        exact ⟨Int.emod_nonneg _ (by decide), Int.emod_lt_of_pos _ (by decide)⟩
  · rintro σ H' ⟨cs', ds, m, v5, v6, v7, v8, rfl, G3, hl, hdl, hr, hm0, hm1⟩
    walk_at "go"
    refine r_reverse G3 (by walk_at "u") fun H4 G4 => ?_
    walk_at "go"
    rw [show (iv ds).reverse = iv ds.reverse from by simp] at G4
    refine k p2 H4 ds.reverse ?_ G4.bh (G4.get (by walk_at "m")) ⟨by rw [List.length_reverse]; omega, fun d hd => hr d (List.mem_reverse.mp hd)⟩
    exact (G4.own _ (by walk_at "m")).2.2
theorem u_draws {K : PySem.W.Frag} {H F : Hp} {Q : VK} {X : XK} {E : En} {L : Led} {a : Addr} {ns : List Int} {c : Int} (G : St E F H L) (ha : SqL K H a (iv ns)) (hn : ns.length ≤ 63) (h0 : 0 ≤ c) (h1 : c ≤ 1000)
    (q : ∀ p ds H', Dok ds → St E F H' ((p, .lst (iv ds)) :: L) → Q (.ref p) H') : cp_draws K [.ref a, .int c] H Q X :=
  ⟨a, ns, c, rfl, ha, hn, h0, h1, fun p H' ds hn hs hp hd => q p ds H' hd (G.add hs hn hp)⟩
end
end SL

set_option Elab.async false
set_option linter.all false
set_option maxRecDepth 100000
set_option maxHeartbeats 4000000
namespace L2
open PySem PySem.Spec PyProof.Rows
/-! ## a list or a tuple is walked -/
def SqB (K : PySem.W.Frag) (H : Hp) (a : Addr) (xs : List V) : Bool → Prop
  | true => SqL K H a xs
  | false => SqT K H a xs
def Itb (K : PySem.W.Frag) (a : Addr) : Bool → It
  | true => Itl K a
  | false => Itt K a
def RISq (K : PySem.W.Frag) (x : V) (H : Hp) (R : It → Hp → Prop) : Prop := ∃ (a : Addr) (b : Bool) (xs : List V), x = .ref a ∧ SqB K H a xs b ∧ R (Itb K a b) H
def iSeq (K : PySem.W.Frag) (tl : TE) : TI := fun σ H R => tl σ H fun x H1 => RISq K x H1 R
section
variable {X : Cx} {tg : Expr}
theorem pi_seq {l : Expr} {tl : TE} (hl : PE X l tl) : PI X tg l (iSeq X.K tl) := by
  refine ⟨fun pins s σ H R I h => thn (hl.run pins s σ H _ I h) fun v s1 hq => ?_⟩
  obtain ⟨x, H1, I1, rx, a, b, xs, e, sq, q⟩ := hq
  subst e
  obtain rfl : v = Value.ref a := rx
  have fp : ∀ c ∈ [s1.heap.objs.size], FpOk X pins H1 c := fun c hc => by
    rw [List.mem_singleton.mp hc]
    exact I1.fpOk (Nat.le_refl _) (I1.hok.fresh (Nat.le_refl _))
  have old : ∀ (o : Obj), Inv X pins σ H1 { s1 with heap := s1.heap.push o } := fun o => I1.kept (t' := s1.toks) fun _ _ z => Heap.get?_push_of_some _ z
  cases b with
  | true =>
    obtain ⟨its, _, p, _⟩ := I1.list (show SqL X.K H1 a xs from sq)
    exact wpAny_pyIter_list p.isList ⟨_, [s1.heap.objs.size], _, Itl X.K a, H1, rfl, old _, turn_list a _, ⟨_, Heap.get?_push_size _ rfl, rfl, rfl⟩, fp, q⟩
  | false =>
    obtain ⟨its, _, p, _⟩ := I1.tuple (show SqT X.K H1 a xs from sq)
    exact wpAny_pyIter_tuple (show s1.heap.IsTuple a its.toArray from p) ⟨_, [s1.heap.objs.size], _, Itt X.K a, H1, rfl, old _, turn_tuple a _, ⟨_, Heap.get?_push_size _ rfl, rfl, rfl⟩, fp, q⟩
end
end L2
namespace SL
open PySem L2
section

set_option hygiene false
local macro_rules | `(tactic| walk_at "m") => `(tactic| first | exact List.Mem.head _ | (refine List.Mem.tail _ ?_; walk_at "m"))
local macro_rules | `(tactic| walk_at "u") => `(tactic| first | exact Upd.head | (apply Upd.tail; walk_at "u"))
local macro_rules | `(tactic| walk_at "tk") => `(tactic| first | exact Tak.head | (apply Tak.tail; walk_at "tk"))
local macro_rules | `(tactic| walk_at "l") => `(tactic| first | assumption | exact lS (St.fh (by assumption)) (by assumption) | exact SqL.of (St.get (by assumption) (by walk_at "m")))
local macro_rules | `(tactic| walk_at "t") => `(tactic| first | assumption | exact tS (St.fh (by assumption)) (by assumption) | exact SqT.of (St.get (by assumption) (by walk_at "m")))
local macro_rules | `(tactic| walk_at "lt") => `(tactic| first | exact .inl (by walk_at "l") | exact .inr (by walk_at "t"))
local macro_rules | `(tactic| walk_at "sz") => `(tactic| first | (show _ ≤ sizeLine; decide) | exact sz (by simp) | exact szl (by simp) | exact sz (by omega) | exact szl (by omega) | exact sz (by simp; omega) | exact szl (by simp; omega))
local macro_rules | `(tactic| walk_at "c") => `(tactic| first | assumption | decide | omega)
local macro_rules | `(tactic| walk_at "g1") => `(tactic| with_reducible first
  | refine w_seq ?_ | refine w_asg ?_ | refine w_c ?_ | refine w_op ?_
  | refine r_I0 ?_ | refine w_test ?_ | refine r_b ?_ | refine w_if ?_ | refine w_cons ?_ | refine w_nil ?_
  | refine w_ret ?_ | refine w_drop ?_ | refine w_cb ?_ | refine w_call ?_ | refine w_next ?_ | refine w_tup ?_ | refine w_lst ?_ | refine w_bm ?_ | refine w_bm0 ?_
  | refine w_and ?_ | refine w_or ?_ | refine w_not ?_ | refine w_andV ?_ | refine w_orV ?_ | refine w_notV ?_ | refine w_tB ?_ | refine w_un ?_ | refine r_U ?_
  | refine w_for ?_ | refine w_iL ?_ | refine w_iT ?_ | refine w_i1 ?_ | refine w_i2 ?_ | refine w_sl ?_ | refine w_part ?_ | refine w_nopart ?_ | refine r_part ?_
  | refine r_eqI ?_ | refine r_neI ?_ | refine r_eqS ?_ | refine r_neS ?_ | refine r_eqB ?_ | refine r_neB ?_ | refine r_ifT ?_ | refine r_ifF ?_ | refine r_ifNt ?_ | refine r_ifNf ?_ | refine r_ifRN ?_ | refine r_ifNRN ?_ | refine r_ifNN ?_ | refine r_ifNNN ?_
  | refine w_ifE ?_ | refine r_int1 ?_ | refine r_int1b ?_ | refine r_isnone ?_ | refine r_notnone ?_ | refine r_max2 ?_ | refine r_min2 ?_ | refine r_ipI ?_ | refine w_tru ?_ | refine w_rs ?_
  | refine w_retN ?_ | refine w_break ?_ | refine w_cont ?_ | refine w_callS ?_ | refine w_asgG ?_ | refine w_gsub ?_)
local macro_rules | `(tactic| walk_at "g2") => `(tactic| first
  | ((with_reducible refine' w_var ?hv ?_); (case hv => rfl)) | ((with_reducible refine' w_aug ?hv ?_); (case hv => rfl))
  | ((with_reducible show rLen _ _ _ _); refine r_len (by walk_at "lt") ?_)
  | (with_reducible refine r_I ?cnd ?_; (case cnd => first | decide | omega | assumption | (unfold CPow; decide)))
  | ((with_reducible show RTy _ _ _ _ _); refine r_tyL (by walk_at "l") ?_)
  | (with_reducible refine r_ifDT (by walk_at "c") ?_) | (with_reducible refine r_ifDF (by walk_at "c") ?_)
  | (with_reducible refine r_ifNT (by walk_at "c") ?_) | (with_reducible refine r_ifNF (by walk_at "c") ?_))
local macro_rules | `(tactic| walk_at "go") => `(tactic| repeat (first | walk_at "g1" | walk_at "g2"))

variable {n b c : L2.St → Hp → Prop} {r : VK} {σ : L2.St} {H H' : Hp} {Q : VK} {t : TS} {te : TE} {x y v : V} {K : PySem.W.Frag} {E : En} {F : Hp} {L L' : Led} {p a : Addr} {xs : List V} {k : Bool}
theorem qS (e : Same H H') (h : SqB K H a xs k) : SqB K H' a xs k := by
  cases k with
  | true => exact lS e h
  | false => exact tS e h
theorem qor (h : SqB K H a xs k) : SqL K H a xs ∨ SqT K H a xs := by
  cases k with
  | true => exact .inl h
  | false => exact .inr h
theorem w_iSq {R : It → Hp → Prop} (h : te σ H fun x H1 => RISq K x H1 R) : iSeq K te σ H R := h
theorem r_isq {R : It → Hp → Prop} (h : SqB K H a xs k) (q : R (Itb K a k) H) : RISq K (.ref a) H R := ⟨a, k, xs, rfl, h, q⟩
theorem r_forB {i0 : Nat} (Pv : Nat → L2.St → Hp → Prop) (h0 : Pv 0 σ H) (hl : ∀ i σ H, i ≤ xs.length → Pv i σ H → SqB K H a xs k)
    (hs : ∀ i x σ H, xs[i]? = some x → Pv i σ H → t ⟨Pv (i + 1), r, n, Pv (i + 1)⟩ (σ.set i0 (some x)) H) (hd : ∀ σ H, Pv xs.length σ H → n σ H) : RFor (Itb K a k) (gName i0) t ⟨n, r, b, c⟩ σ H := by
  cases k with
  | true => exact r_forL Pv h0 hl hs hd
  | false => exact r_forT Pv h0 hl hs hd
/-! ## comprehensions -/
def RApp (D : Addr) (y : V) (H : Hp) (P : Hp → Prop) : Prop := ∃ acc, H D = some (.lst acc) ∧ acc.length < sizeLine ∧ P (upd H D (.lst (acc ++ [y])))
def RLc (J : It) (g : TG) (tt : TT) (te : TE) (vs : List Nat) (σ : L2.St) (Q : VK) (H1 : Hp) : Prop := ∀ D, H1 D = none → ∃ W : Nat → Nat → Hp → Prop, (∃ m, W 0 m (upd H1 D (.lst []))) ∧ ∀ i m H, W i m H →
  (J.stop i H ∧ Q (.ref D) H) ∨ (J.go i H ∧ ∃ Nx : Hp → Prop, (∀ H', Nx H' → ∃ m', m' < m ∧ W (i + 1) m' H') ∧ ∀ x H', J.yld i H x H' → g x (wipe σ vs) H' fun σ2 H2 => wipe σ2 vs = wipe σ vs ∧ tt σ2 H2 fun b H3 =>
    if b = true then te σ2 H3 fun y H4 => RApp D y H4 Nx else Nx H3)
theorem w_lc {wi : TI} {g : TG} {tt : TT} {vs : List Nat} (h : wi σ H fun J H1 => RLc J g tt te vs σ Q H1) : tLc wi g tt te vs σ H Q := h
theorem r_app {P : Hp → Prop} {acc : List V} (G : St E F H L) (u : Upd L p (.lst acc) (.lst (acc ++ [y])) L') (hs : acc.length < sizeLine) (q : ∀ H', St E F H' L' → P H') : RApp p y H P :=
  ⟨acc, G.get u.mem, hs, q _ (G.put u)⟩
theorem wipe_set1 {σ : L2.St} {i : Nat} {v : Option V} : wipe ((wipe σ [i]).set i v) [i] = wipe σ [i] := by
  show ((σ.set i none).set i v).set i none = σ.set i none
  rw [List.set_set, List.set_set]
theorem yes_of {σ : L2.St} {H : Hp} {A B : Hp → Prop} (h : A H) : tYes σ H fun b H3 => if b = true then A H3 else B H3 := by
  show (if true = true then A H else B H)
  rw [if_pos rfl]
  exact h
/-- over a list or a tuple, no test -/
theorem r_lcB {i0 : Nat} (G : St E F H L) (Pv : Addr → Nat → Hp → Prop) (h0 : ∀ D H', St E F H' ((D, .lst []) :: L) → Pv D 0 H') (hl : ∀ D i H', i ≤ xs.length → Pv D i H' → SqB K H' a xs k)
    (hs : ∀ D i x H', xs[i]? = some x → Pv D i H' → te ((wipe σ [i0]).set i0 (some x)) H' fun y H4 => RApp D y H4 (Pv D (i + 1))) (hd : ∀ D H', Pv D xs.length H' → Q (.ref D) H') : RLc (Itb K a k) (gName i0) tYes te [i0] σ Q H := by
  intro D hD
  have h0' := h0 D _ (G.new hD)
  cases k with
  | true => exact lc_list (K := K) (a := a) (xs := xs) (Qd := fun H' => Q (.ref D) H') (Pv D) h0' (hl D) (fun i x H' hi p => ⟨wipe_set1, yes_of (hs D i x H' hi p)⟩) (hd D)
  | false => exact lc_tup (K := K) (a := a) (xs := xs) (Qd := fun H' => Q (.ref D) H') (Pv D) h0' (hl D) (fun i x H' hi p => ⟨wipe_set1, yes_of (hs D i x H' hi p)⟩) (hd D)
theorem r_lcR {lo : Int} {m i0 : Nat} (G : St E F H L) (Pv : Addr → Nat → Hp → Prop) (h0 : ∀ D H', St E F H' ((D, .lst []) :: L) → Pv D 0 H')
    (hs : ∀ D i H', i < m → Pv D i H' → te ((wipe σ [i0]).set i0 (some (.int (lo + i)))) H' fun y H4 => RApp D y H4 (Pv D (i + 1))) (hd : ∀ D H', Pv D m H' → Q (.ref D) H') : RLc (Itr lo m) (gName i0) tYes te [i0] σ Q H := by
  intro D hD
  exact lc_range (Qd := fun H' => Q (.ref D) H') (Pv D) (h0 D _ (G.new hD)) (fun i H' hi p => ⟨wipe_set1, yes_of (hs D i H' hi p)⟩) (hd D)
/-- .. with a test -/
theorem r_lcBT {i0 : Nat} {tt : TT} (G : St E F H L) (Pv : Addr → Nat → Hp → Prop) (h0 : ∀ D H', St E F H' ((D, .lst []) :: L) → Pv D 0 H') (hl : ∀ D i H', i ≤ xs.length → Pv D i H' → SqB K H' a xs k)
    (hs : ∀ D i x H', xs[i]? = some x → Pv D i H' → tt ((wipe σ [i0]).set i0 (some x)) H' fun b H3 => RIf b (te ((wipe σ [i0]).set i0 (some x)) H3 fun y H4 => RApp D y H4 (Pv D (i + 1))) (Pv D (i + 1) H3)) (hd : ∀ D H', Pv D xs.length H' → Q (.ref D) H') : RLc (Itb K a k) (gName i0) tt te [i0] σ Q H := by
  intro D hD
  have h0' := h0 D _ (G.new hD)
  cases k with
  | true => exact lc_list (K := K) (a := a) (xs := xs) (Qd := fun H' => Q (.ref D) H') (Pv D) h0' (hl D) (fun i x H' hi p => ⟨wipe_set1, hs D i x H' hi p⟩) (hd D)
  | false => exact lc_tup (K := K) (a := a) (xs := xs) (Qd := fun H' => Q (.ref D) H') (Pv D) h0' (hl D) (fun i x H' hi p => ⟨wipe_set1, hs D i x H' hi p⟩) (hd D)
theorem r_lcRT {lo : Int} {m i0 : Nat} {tt : TT} (G : St E F H L) (Pv : Addr → Nat → Hp → Prop) (h0 : ∀ D H', St E F H' ((D, .lst []) :: L) → Pv D 0 H')
    (hs : ∀ D i H', i < m → Pv D i H' → tt ((wipe σ [i0]).set i0 (some (.int (lo + i)))) H' fun b H3 => RIf b (te ((wipe σ [i0]).set i0 (some (.int (lo + i)))) H3 fun y H4 => RApp D y H4 (Pv D (i + 1))) (Pv D (i + 1) H3)) (hd : ∀ D H', Pv D m H' → Q (.ref D) H') : RLc (Itr lo m) (gName i0) tt te [i0] σ Q H := by
  intro D hD
  exact lc_range (Qd := fun H' => Q (.ref D) H') (Pv D) (h0 D _ (G.new hD)) (fun i H' hi p => ⟨wipe_set1, hs D i H' hi p⟩) (hd D)
theorem take_snoc {α : Type} : ∀ {l : List α} {i : Nat} {x : α}, l[i]? = some x → l.take (i + 1) = l.take i ++ [x]
  | [], i, x, h => by simp at h
  | y :: l, 0, x, h => by
    have e : y = x := Option.some.inj h
    rw [e]; rfl
  | y :: l, i + 1, x, h => by
    have ih := take_snoc (l := l) (i := i) (x := x) h
    rw [List.take_succ_cons, ih]; rfl
/-- each item on its own, nothing else happens -/
theorem r_lcM {i0 : Nat} (f : V → V) (hsz : xs.length ≤ 1000000) (G : St E F H L) (hx : SqB K H a xs k)
    (hs : ∀ D (i : Nat) x acc H' (Q' : VK), xs[i]? = some x → Same H H' → St E F H' ((D, .lst acc) :: L) → Q' (f x) H' → te ((wipe σ [i0]).set i0 (some x)) H' Q')
    (q : ∀ D H', Same H H' → St E F H' ((D, .lst (xs.map f)) :: L) → Q (.ref D) H') : RLc (Itb K a k) (gName i0) tYes te [i0] σ Q H := by
  intro D0 hD0
  have G0 := St.init (Same.refl H)
  refine r_lcB (L := []) G0 (fun D i H' => H D = none ∧ Same H H' ∧ H' D = some (.lst ((xs.take i).map f))) (fun D H' G' => ⟨(G'.own _ (by walk_at "m")).2.2, G'.bh, G'.get (by walk_at "m")⟩) (fun D i H' _ h => qS h.2.1 hx) (fun D i x H' hi h => ?_) (fun D H' h => ?_) D0 hD0
  · have G' : St E F H' ((D, .lst ((xs.take i).map f)) :: L) := G.add h.2.1 h.1 h.2.2
    refine hs D i x _ H' _ hi h.2.1 G' ⟨_, h.2.2, szl (by rw [List.length_map, List.length_take]; omega), h.1, fun b o e => ?_, ?_⟩
    · rw [upd_ne (ne_of_none e h.1)]; exact h.2.1 b o e
    · rw [upd_same, take_snoc hi, List.map_append]; rfl
  · refine q D H' h.2.1 ?_
    have := G.add h.2.1 h.1 h.2.2
    rw [List.take_length] at this
    exact this
end
end SL

set_option Elab.async false
set_option linter.all false
set_option maxRecDepth 100000
set_option maxHeartbeats 4000000

namespace PySem
open Sem (wp)
section
variable {prog : Program} {w : World} {A : Around} {E : Value → Shared → Prop} {RR : Result → Shared → Prop} {J : Addr} {fo wo : List Addr} {sz : Nat} {PP : Nat → Value → Prop} {ST : Nat → Heap → Prop} {kw : List (Str × Value)}
/-- the rest of max, from the second item on; whatever default was given -/
theorem mm_max_rest (Wk : Walks prog w A.in1 J fo wo sz PP ST) (bt : Nat → Nat → Bool) (cm : CmpOf prog w A.in1 .Gt PP bt) (B : Addr) (nB : B ∉ fo) :
    ∀ (d j : Nat) (s : Shared) (u : Value) (c : Nat), sz - (j + 1) = d → j + 1 ≤ sz → ST (j + 1) s.heap → PP (argBest bt j) u →
    s.heap.get? B = some { cls := .type "list", dict := none, data := .seq #[u, u] c, slots := #[] } →
    (∀ v h1 t1, PP (argBest bt (sz - 1)) v → (∀ b o, b ∉ wo → b ≠ B → s.heap.get? b = some o → h1.get? b = some o) → RR (.ok (.ret v)) { s with heap := h1, toks := t1 }) →
    codeAny (model prog w) A (.builtin "max.loop" ⟨[.ref J, .none, .ref B], kw⟩) RR s := by
  have nBw : B ∉ wo := fun h => nB (Wk.sub _ h)
  have nm : (toString "max" ++ toString ".loop" : String) = "max.loop" := by decide
  intro d
  induction d with
  | zero =>
    intro j s u c e1 e2 e3 e4 e5 fin
    have last : j + 1 = sz := by omega
    refine codeAny_builtin F.entry_max_loop ?_
    rw [Around.under_plainId F.plain_max_loop _]
    show wpAny _ A.in1 (seqItems? (.ref B) >>= _) _ _ s
    refine wpAny_bind (wpAny_seqItems e5 rfl ?_)
    show wpAny _ A.in1 (tryCatch (pyNext (.ref J)) _ >>= _) _ _ s
    refine wpAny_bind (wpAny_tryCatch (Wk.done s _ _ (last ▸ e3) fun h1 t1 kp => ?_))
    have e6 := kp B _ nBw e5
    show wpAny _ A.in1 (updateSeq B (fun _ => #[]) >>= _) _ _ _
    refine wpAny_bind ?_
    refine wpAny_updateSeq e6 rfl (wpAny_bind (wpAny_letGo (wpAny_pure ?_)))
    exact fin u _ t1 (by rw [← last]; exact e4) fun b o q1 q2 q3 => (Heap.get?_update_other _ _ (Ne.symm q2)).trans (kp b o q1 q3)
  | succ d ih =>
    intro j s u c e1 e2 e3 e4 e5 fin
    have more : j + 1 < sz := by omega
    refine codeAny_builtin F.entry_max_loop ?_
    rw [Around.under_plainId F.plain_max_loop _]
    show wpAny _ A.in1 (seqItems? (.ref B) >>= _) _ _ s
    refine wpAny_bind (wpAny_seqItems e5 rfl ?_)
    show wpAny _ A.in1 (tryCatch (pyNext (.ref J)) _ >>= _) _ _ s
    refine wpAny_bind (wpAny_tryCatch (Wk.item (j + 1) s _ _ more e3 fun v h1 t1 pv s1 kp => ?_))
    have e6 := kp B _ nBw e5
    show wpAny _ A.in1 (tryCatch (holding [v, v] (richCompare .Gt v u >>= _)) _ >>= _) _ _ _
    refine wpAny_bind (wpAny_tryCatch (wpAny_holding (wpAny_bind (cm (j + 1) (argBest bt j) v u _ _ _ pv e4 ?_))))
    refine wpAny_bind (wpAny_holding (wpAny_truthy_bool ?_))
    refine wpAny_bind (wpAny_letGo (wpAny_pure ?_))
    cases better : bt (j + 1) (argBest bt j) with
    | true =>
      simp only [if_true]
      refine wpAny_bind ?_
      refine wpAny_updateSeq e6 rfl (wpAny_bind (wpAny_letGo ?_))
      rw [nm]
      refine wpAny_pure ⟨plainId_quiet F.plain_max_loop _, ih (j + 1) _ v _ (by omega) more (Wk.frame _ _ _ s1 fun b q o z => ?_) (by simp only [argBest, better, if_true]; exact pv) (Heap.get?_update_self _ e6 rfl) fun v1 h2 t2 q1 q2 => ?_⟩
      · exact (Heap.get?_update_other _ _ (fun z : B = b => nB (by rw [z]; exact q))).trans z
      · exact fin v1 h2 t2 q1 fun b o z1 z2 z3 => q2 b o z1 z2 ((Heap.get?_update_other _ _ (Ne.symm z2)).trans (kp b o z1 z3))
    | false =>
      simp only [Bool.false_eq_true, if_false]
      refine wpAny_bind (wpAny_letGo ?_)
      rw [nm]
      refine wpAny_pure ⟨plainId_quiet F.plain_max_loop _, ih (j + 1) _ u c (by omega) more s1 (by simp only [argBest, better, Bool.false_eq_true, if_false]; exact e4) e6 fun v1 h2 t2 q1 q2 => ?_⟩
      exact fin v1 h2 t2 q1 fun b o z1 z2 z3 => q2 b o z1 z2 (kp b o z1 z3)
theorem mm_max_all (Wk : Walks prog w A.in1 J fo wo sz PP ST) (bt : Nat → Nat → Bool) (cm : CmpOf prog w A.in1 .Gt PP bt) (B : Addr) (nB : B ∉ fo) {s : Shared} {c : Nat} (e3 : ST 0 s.heap)
    (e5 : s.heap.get? B = some { cls := .type "list", dict := none, data := .seq #[] c, slots := #[] }) {dv : Value} (hkw : sz = 0 → kw = [(Str.ofString "default", dv)])
    (fin : ∀ v h1 t1, (0 < sz → PP (argBest bt (sz - 1)) v) → (sz = 0 → v = dv) → (∀ b o, b ∉ wo → b ≠ B → s.heap.get? b = some o → h1.get? b = some o) → RR (.ok (.ret v)) { s with heap := h1, toks := t1 }) :
    codeAny (model prog w) A (.builtin "max.loop" ⟨[.ref J, .none, .ref B], kw⟩) RR s := by
  have nBw : B ∉ wo := fun h => nB (Wk.sub _ h)
  have nm : (toString "max" ++ toString ".loop" : String) = "max.loop" := by decide
  refine codeAny_builtin F.entry_max_loop ?_
  rw [Around.under_plainId F.plain_max_loop _]
  show wpAny _ A.in1 (seqItems? (.ref B) >>= _) _ _ s
  refine wpAny_bind (wpAny_seqItems e5 rfl ?_)
  show wpAny _ A.in1 (tryCatch (pyNext (.ref J)) _ >>= _) _ _ s
  by_cases none : sz = 0
  · have hk := hkw none
    subst hk
    refine wpAny_bind (wpAny_tryCatch (Wk.done s _ _ (by rw [none]; exact e3) fun h1 t1 kp => ?_))
    show wpAny _ A.in1 (rule (toString "max" ++ toString ".default") >>= _) _ _ _
    refine wpAny_bind (wpAny_rule ?_)
    exact wpAny_pure (fin dv h1 t1 (fun z => absurd z (by omega)) (fun _ => rfl) fun b o q1 q2 q3 => kp b o q1 q3)
  · have some0 : 0 < sz := by omega
    refine wpAny_bind (wpAny_tryCatch (Wk.item 0 s _ _ some0 e3 fun v h1 t1 pv s1 kp => ?_))
    have e6 := kp B _ nBw e5
    show wpAny _ A.in1 (updateSeq B (fun _ => #[v, v]) >>= _) _ _ _
    refine wpAny_bind ?_
    refine wpAny_updateSeq e6 rfl ?_
    rw [nm]
    refine wpAny_pure ⟨plainId_quiet F.plain_max_loop _, mm_max_rest Wk bt cm B nB _ 0 _ v _ rfl some0 (Wk.frame _ _ _ s1 fun b q o z => ?_) pv (Heap.get?_update_self _ e6 rfl) fun v1 h2 t2 q1 q2 => ?_⟩
    · exact (Heap.get?_update_other _ _ (fun z : B = b => nB (by rw [z]; exact q))).trans z
    · exact fin v1 h2 t2 (fun _ => q1) (fun z => absurd z none) fun b o z1 z2 z3 => q2 b o z1 z2 ((Heap.get?_update_other _ _ (Ne.symm z2)).trans (kp b o z1 z3))
theorem F.mm_max_d (a v : Value) : argsOk "max" ⟨[a], [(Str.ofString "default", v)]⟩ := by unfold argsOk; kernel_rfl
/-- max(x), max(x, default=d) -/
theorem mm_max {s : Shared} {x : Value} {Q : Value → Shared → Prop} {kw : List (Str × Value)} {dv : Value} (hkw : kw = [] ∨ kw = [(Str.ofString "default", dv)])
    (h : wpAny (model prog w) A.in1 (pyIter x) (fun it s2 => ∃ J fo wo sz PP ST bt, it = .ref J ∧ Walks prog w A.in1 J fo wo sz PP ST ∧ ST 0 s2.heap ∧ (∀ b ∈ fo, b < s2.heap.objs.size) ∧ (sz = 0 → kw = [(Str.ofString "default", dv)]) ∧ CmpOf prog w A.in1 .Gt PP bt ∧
      ∀ v h1 t1, (0 < sz → PP (argBest bt (sz - 1)) v) → (sz = 0 → v = dv) → (∀ b o, b ∉ wo → s2.heap.get? b = some o → h1.get? b = some o) → Q v { s2 with heap := h1, toks := t1 }) E s) :
    wpAny (model prog w) A (call (.builtin "max") [x] kw) Q E s := by
  have nm : (toString "max" ++ toString ".loop" : String) = "max.loop" := by decide
  have go : ∀ (it : Value) (s2 : Shared), (∃ J fo wo sz PP ST bt, it = .ref J ∧ Walks prog w A.in1 J fo wo sz PP ST ∧ ST 0 s2.heap ∧ (∀ b ∈ fo, b < s2.heap.objs.size) ∧ (sz = 0 → kw = [(Str.ofString "default", dv)]) ∧ CmpOf prog w A.in1 .Gt PP bt ∧
      ∀ v h1 t1, (0 < sz → PP (argBest bt (sz - 1)) v) → (sz = 0 → v = dv) → (∀ b o, b ∉ wo → s2.heap.get? b = some o → h1.get? b = some o) → Q v { s2 with heap := h1, toks := t1 }) →
      codeAny (model prog w) A (.builtin "max.loop" ⟨[it, .none, .ref s2.heap.objs.size], kw⟩) (fun r s' => match r with | .ok (.ret v) => Q v s' | .ok _ => False | .error e => E e s')
        { s2 with heap := s2.heap.push { cls := .type "list", data := .seq #[] } } := by
    rintro it s2 ⟨J, fo, wo, sz, PP, ST, bt, rfl, Wk, st, lt, hd, cm, q⟩
    have nB : s2.heap.objs.size ∉ fo := fun z => Nat.lt_irrefl _ (lt _ z)
    refine mm_max_all (s := { s2 with heap := s2.heap.push { cls := .type "list", data := .seq #[] } }) (dv := dv) Wk bt cm s2.heap.objs.size nB (Wk.frame _ _ _ st fun b _ o e => Heap.get?_push_of_some _ e) (Heap.get?_push_size _ rfl) hd fun v h1 t1 q1 q2 q3 => ?_
    exact q v h1 t1 q1 q2 fun b o z1 z2 => q3 b o z1 (Nat.ne_of_lt (Heap.lt_size z2)) (Heap.get?_push_of_some _ z2)
  rcases hkw with z | z
  · subst z
    refine call_function_tree F.kind_max F.plain_max F.entry_max (F.args_max1 _) ?_
    show wpAny _ A.in1 (Builtin.Builtins.bindParams "max" ["key", "default"] 0 ⟨[], []⟩ >>= _) _ _ s
    refine wpAny_bind (wpAny_of_eq (show Builtin.Builtins.bindParams "max" ["key", "default"] 0 ⟨[], []⟩ = pure [none, none] from rfl) ?_)
    refine wpAny_bind (wpAny_pure ?_)
    refine wpAny_bind (wpAny_mono h (fun it s2 hh => ?_) fun _ _ e => e)
    refine wpAny_bind (wpAny_newObj_type ?_)
    rw [nm]
    exact wpAny_pure ⟨plainId_quiet F.plain_max_loop _, go it s2 hh⟩
  · subst z
    refine PyProof.Rows.kmk_tree F.kind_max F.plain_max F.entry_max (F.mm_max_d _ _) ?_
    show wpAny _ A.in1 (Builtin.Builtins.bindParams "max" ["key", "default"] 0 ⟨[], [(Str.ofString "default", dv)]⟩ >>= _) _ _ s
    refine wpAny_bind (wpAny_of_eq (show Builtin.Builtins.bindParams "max" ["key", "default"] 0 ⟨[], [(Str.ofString "default", dv)]⟩ = pure [none, some dv] from rfl) ?_)
    refine wpAny_bind (wpAny_pure ?_)
    refine wpAny_bind (wpAny_mono h (fun it s2 hh => ?_) fun _ _ e => e)
    refine wpAny_bind (wpAny_newObj_type ?_)
    rw [nm]
    exact wpAny_pure ⟨plainId_quiet F.plain_max_loop _, go it s2 hh⟩
end
end PySem

namespace PySem
open Sem (wp)
section
variable {prog : Program} {w : World} {A : Around} {E : Value → Shared → Prop} {RR : Result → Shared → Prop} {J : Addr} {fo wo : List Addr} {sz : Nat} {PP : Nat → Value → Prop} {ST : Nat → Heap → Prop} {kw : List (Str × Value)}
/-- the rest of min, from the second item on; whatever default was given -/
theorem mm_min_rest (Wk : Walks prog w A.in1 J fo wo sz PP ST) (bt : Nat → Nat → Bool) (cm : CmpOf prog w A.in1 .Lt PP bt) (B : Addr) (nB : B ∉ fo) :
    ∀ (d j : Nat) (s : Shared) (u : Value) (c : Nat), sz - (j + 1) = d → j + 1 ≤ sz → ST (j + 1) s.heap → PP (argBest bt j) u →
    s.heap.get? B = some { cls := .type "list", dict := none, data := .seq #[u, u] c, slots := #[] } →
    (∀ v h1 t1, PP (argBest bt (sz - 1)) v → (∀ b o, b ∉ wo → b ≠ B → s.heap.get? b = some o → h1.get? b = some o) → RR (.ok (.ret v)) { s with heap := h1, toks := t1 }) →
    codeAny (model prog w) A (.builtin "min.loop" ⟨[.ref J, .none, .ref B], kw⟩) RR s := by
  have nBw : B ∉ wo := fun h => nB (Wk.sub _ h)
  have nm : (toString "min" ++ toString ".loop" : String) = "min.loop" := by decide
  intro d
  induction d with
  | zero =>
    intro j s u c e1 e2 e3 e4 e5 fin
    have last : j + 1 = sz := by omega
    refine codeAny_builtin F.entry_min_loop ?_
    rw [Around.under_plainId F.plain_min_loop _]
    show wpAny _ A.in1 (seqItems? (.ref B) >>= _) _ _ s
    refine wpAny_bind (wpAny_seqItems e5 rfl ?_)
    show wpAny _ A.in1 (tryCatch (pyNext (.ref J)) _ >>= _) _ _ s
    refine wpAny_bind (wpAny_tryCatch (Wk.done s _ _ (last ▸ e3) fun h1 t1 kp => ?_))
    have e6 := kp B _ nBw e5
    show wpAny _ A.in1 (updateSeq B (fun _ => #[]) >>= _) _ _ _
    refine wpAny_bind ?_
    refine wpAny_updateSeq e6 rfl (wpAny_bind (wpAny_letGo (wpAny_pure ?_)))
    exact fin u _ t1 (by rw [← last]; exact e4) fun b o q1 q2 q3 => (Heap.get?_update_other _ _ (Ne.symm q2)).trans (kp b o q1 q3)
  | succ d ih =>
    intro j s u c e1 e2 e3 e4 e5 fin
    have more : j + 1 < sz := by omega
    refine codeAny_builtin F.entry_min_loop ?_
    rw [Around.under_plainId F.plain_min_loop _]
    show wpAny _ A.in1 (seqItems? (.ref B) >>= _) _ _ s
    refine wpAny_bind (wpAny_seqItems e5 rfl ?_)
    show wpAny _ A.in1 (tryCatch (pyNext (.ref J)) _ >>= _) _ _ s
    refine wpAny_bind (wpAny_tryCatch (Wk.item (j + 1) s _ _ more e3 fun v h1 t1 pv s1 kp => ?_))
    have e6 := kp B _ nBw e5
    show wpAny _ A.in1 (tryCatch (holding [v, v] (richCompare .Lt v u >>= _)) _ >>= _) _ _ _
    refine wpAny_bind (wpAny_tryCatch (wpAny_holding (wpAny_bind (cm (j + 1) (argBest bt j) v u _ _ _ pv e4 ?_))))
    refine wpAny_bind (wpAny_holding (wpAny_truthy_bool ?_))
    refine wpAny_bind (wpAny_letGo (wpAny_pure ?_))
    cases better : bt (j + 1) (argBest bt j) with
    | true =>
      simp only [if_true]
      refine wpAny_bind ?_
      refine wpAny_updateSeq e6 rfl (wpAny_bind (wpAny_letGo ?_))
      rw [nm]
      refine wpAny_pure ⟨plainId_quiet F.plain_min_loop _, ih (j + 1) _ v _ (by omega) more (Wk.frame _ _ _ s1 fun b q o z => ?_) (by simp only [argBest, better, if_true]; exact pv) (Heap.get?_update_self _ e6 rfl) fun v1 h2 t2 q1 q2 => ?_⟩
      · exact (Heap.get?_update_other _ _ (fun z : B = b => nB (by rw [z]; exact q))).trans z
      · exact fin v1 h2 t2 q1 fun b o z1 z2 z3 => q2 b o z1 z2 ((Heap.get?_update_other _ _ (Ne.symm z2)).trans (kp b o z1 z3))
    | false =>
      simp only [Bool.false_eq_true, if_false]
      refine wpAny_bind (wpAny_letGo ?_)
      rw [nm]
      refine wpAny_pure ⟨plainId_quiet F.plain_min_loop _, ih (j + 1) _ u c (by omega) more s1 (by simp only [argBest, better, Bool.false_eq_true, if_false]; exact e4) e6 fun v1 h2 t2 q1 q2 => ?_⟩
      exact fin v1 h2 t2 q1 fun b o z1 z2 z3 => q2 b o z1 z2 (kp b o z1 z3)
theorem mm_min_all (Wk : Walks prog w A.in1 J fo wo sz PP ST) (bt : Nat → Nat → Bool) (cm : CmpOf prog w A.in1 .Lt PP bt) (B : Addr) (nB : B ∉ fo) {s : Shared} {c : Nat} (e3 : ST 0 s.heap)
    (e5 : s.heap.get? B = some { cls := .type "list", dict := none, data := .seq #[] c, slots := #[] }) {dv : Value} (hkw : sz = 0 → kw = [(Str.ofString "default", dv)])
    (fin : ∀ v h1 t1, (0 < sz → PP (argBest bt (sz - 1)) v) → (sz = 0 → v = dv) → (∀ b o, b ∉ wo → b ≠ B → s.heap.get? b = some o → h1.get? b = some o) → RR (.ok (.ret v)) { s with heap := h1, toks := t1 }) :
    codeAny (model prog w) A (.builtin "min.loop" ⟨[.ref J, .none, .ref B], kw⟩) RR s := by
  have nBw : B ∉ wo := fun h => nB (Wk.sub _ h)
  have nm : (toString "min" ++ toString ".loop" : String) = "min.loop" := by decide
  refine codeAny_builtin F.entry_min_loop ?_
  rw [Around.under_plainId F.plain_min_loop _]
  show wpAny _ A.in1 (seqItems? (.ref B) >>= _) _ _ s
  refine wpAny_bind (wpAny_seqItems e5 rfl ?_)
  show wpAny _ A.in1 (tryCatch (pyNext (.ref J)) _ >>= _) _ _ s
  by_cases none : sz = 0
  · have hk := hkw none
    subst hk
    refine wpAny_bind (wpAny_tryCatch (Wk.done s _ _ (by rw [none]; exact e3) fun h1 t1 kp => ?_))
    show wpAny _ A.in1 (rule (toString "min" ++ toString ".default") >>= _) _ _ _
    refine wpAny_bind (wpAny_rule ?_)
    exact wpAny_pure (fin dv h1 t1 (fun z => absurd z (by omega)) (fun _ => rfl) fun b o q1 q2 q3 => kp b o q1 q3)
  · have some0 : 0 < sz := by omega
    refine wpAny_bind (wpAny_tryCatch (Wk.item 0 s _ _ some0 e3 fun v h1 t1 pv s1 kp => ?_))
    have e6 := kp B _ nBw e5
    show wpAny _ A.in1 (updateSeq B (fun _ => #[v, v]) >>= _) _ _ _
    refine wpAny_bind ?_
    refine wpAny_updateSeq e6 rfl ?_
    rw [nm]
    refine wpAny_pure ⟨plainId_quiet F.plain_min_loop _, mm_min_rest Wk bt cm B nB _ 0 _ v _ rfl some0 (Wk.frame _ _ _ s1 fun b q o z => ?_) pv (Heap.get?_update_self _ e6 rfl) fun v1 h2 t2 q1 q2 => ?_⟩
    · exact (Heap.get?_update_other _ _ (fun z : B = b => nB (by rw [z]; exact q))).trans z
    · exact fin v1 h2 t2 (fun _ => q1) (fun z => absurd z none) fun b o z1 z2 z3 => q2 b o z1 z2 ((Heap.get?_update_other _ _ (Ne.symm z2)).trans (kp b o z1 z3))
theorem F.mm_min_d (a v : Value) : argsOk "min" ⟨[a], [(Str.ofString "default", v)]⟩ := by unfold argsOk; kernel_rfl
/-- min(x), min(x, default=d) -/
theorem mm_min {s : Shared} {x : Value} {Q : Value → Shared → Prop} {kw : List (Str × Value)} {dv : Value} (hkw : kw = [] ∨ kw = [(Str.ofString "default", dv)])
    (h : wpAny (model prog w) A.in1 (pyIter x) (fun it s2 => ∃ J fo wo sz PP ST bt, it = .ref J ∧ Walks prog w A.in1 J fo wo sz PP ST ∧ ST 0 s2.heap ∧ (∀ b ∈ fo, b < s2.heap.objs.size) ∧ (sz = 0 → kw = [(Str.ofString "default", dv)]) ∧ CmpOf prog w A.in1 .Lt PP bt ∧
      ∀ v h1 t1, (0 < sz → PP (argBest bt (sz - 1)) v) → (sz = 0 → v = dv) → (∀ b o, b ∉ wo → s2.heap.get? b = some o → h1.get? b = some o) → Q v { s2 with heap := h1, toks := t1 }) E s) :
    wpAny (model prog w) A (call (.builtin "min") [x] kw) Q E s := by
  have nm : (toString "min" ++ toString ".loop" : String) = "min.loop" := by decide
  have go : ∀ (it : Value) (s2 : Shared), (∃ J fo wo sz PP ST bt, it = .ref J ∧ Walks prog w A.in1 J fo wo sz PP ST ∧ ST 0 s2.heap ∧ (∀ b ∈ fo, b < s2.heap.objs.size) ∧ (sz = 0 → kw = [(Str.ofString "default", dv)]) ∧ CmpOf prog w A.in1 .Lt PP bt ∧
      ∀ v h1 t1, (0 < sz → PP (argBest bt (sz - 1)) v) → (sz = 0 → v = dv) → (∀ b o, b ∉ wo → s2.heap.get? b = some o → h1.get? b = some o) → Q v { s2 with heap := h1, toks := t1 }) →
      codeAny (model prog w) A (.builtin "min.loop" ⟨[it, .none, .ref s2.heap.objs.size], kw⟩) (fun r s' => match r with | .ok (.ret v) => Q v s' | .ok _ => False | .error e => E e s')
        { s2 with heap := s2.heap.push { cls := .type "list", data := .seq #[] } } := by
    rintro it s2 ⟨J, fo, wo, sz, PP, ST, bt, rfl, Wk, st, lt, hd, cm, q⟩
    have nB : s2.heap.objs.size ∉ fo := fun z => Nat.lt_irrefl _ (lt _ z)
    refine mm_min_all (s := { s2 with heap := s2.heap.push { cls := .type "list", data := .seq #[] } }) (dv := dv) Wk bt cm s2.heap.objs.size nB (Wk.frame _ _ _ st fun b _ o e => Heap.get?_push_of_some _ e) (Heap.get?_push_size _ rfl) hd fun v h1 t1 q1 q2 q3 => ?_
    exact q v h1 t1 q1 q2 fun b o z1 z2 => q3 b o z1 (Nat.ne_of_lt (Heap.lt_size z2)) (Heap.get?_push_of_some _ z2)
  rcases hkw with z | z
  · subst z
    refine call_function_tree F.kind_min F.plain_min F.entry_min (F.args_min1 _) ?_
    show wpAny _ A.in1 (Builtin.Builtins.bindParams "min" ["key", "default"] 0 ⟨[], []⟩ >>= _) _ _ s
    refine wpAny_bind (wpAny_of_eq (show Builtin.Builtins.bindParams "min" ["key", "default"] 0 ⟨[], []⟩ = pure [none, none] from rfl) ?_)
    refine wpAny_bind (wpAny_pure ?_)
    refine wpAny_bind (wpAny_mono h (fun it s2 hh => ?_) fun _ _ e => e)
    refine wpAny_bind (wpAny_newObj_type ?_)
    rw [nm]
    exact wpAny_pure ⟨plainId_quiet F.plain_min_loop _, go it s2 hh⟩
  · subst z
    refine PyProof.Rows.kmk_tree F.kind_min F.plain_min F.entry_min (F.mm_min_d _ _) ?_
    show wpAny _ A.in1 (Builtin.Builtins.bindParams "min" ["key", "default"] 0 ⟨[], [(Str.ofString "default", dv)]⟩ >>= _) _ _ s
    refine wpAny_bind (wpAny_of_eq (show Builtin.Builtins.bindParams "min" ["key", "default"] 0 ⟨[], [(Str.ofString "default", dv)]⟩ = pure [none, some dv] from rfl) ?_)
    refine wpAny_bind (wpAny_pure ?_)
    refine wpAny_bind (wpAny_mono h (fun it s2 hh => ?_) fun _ _ e => e)
    refine wpAny_bind (wpAny_newObj_type ?_)
    rw [nm]
    exact wpAny_pure ⟨plainId_quiet F.plain_min_loop _, go it s2 hh⟩
end
end PySem

namespace L2
open PySem PySem.Spec PyProof.Rows
section
variable {X : Cx}
/-- max of a list or tuple of ints that is not empty; with a default: of any -/
def rB_max (K : PySem.W.Frag) : List V → Hp → VK → Prop := fun vs H Q => ∃ (a : Addr) (k : Bool) (ns : List Int), vs = [V.ref a] ∧ SqB K H a (ns.map V.int) k ∧ 0 < ns.length ∧ ∀ m, m ∈ ns → (∀ y ∈ ns, y ≤ m) → Q (.int m) H
def rD_max (K : PySem.W.Frag) : List V → List V → Hp → VK → Prop := fun vs zs H Q => ∃ (a : Addr) (k : Bool) (ns : List Int) (d : Int), vs = [V.ref a] ∧ zs = [V.int d] ∧ SqB K H a (ns.map V.int) k ∧
  ∀ m, (ns = [] → m = d) → (ns ≠ [] → m ∈ ns ∧ ∀ y ∈ ns, y ≤ m) → Q (.int m) H
theorem mm_core_max {pins : List (Addr × Obj)} {s : Shared} {σ : L2.St} {H : Hp} {Q : VK} (hc : X.calm = true) (I : Inv X pins σ H s) {a : Addr} {k : Bool} {ns : List Int} {kw : List (Str × Value)} {dv : Value} {d : Int} (hkw : kw = [] ∨ kw = [(Str.ofString "default", dv)])
    (h0 : ns.length = 0 → kw = [(Str.ofString "default", dv)]) (hd : ns.length = 0 → ∃ t, dv = .int d t) (hs : SqB X.K H a (ns.map V.int) k) (q : ∀ m, (ns = [] → m = d) → (ns ≠ [] → m ∈ ns ∧ ∀ y ∈ ns, y ≤ m) → Q (.int m) H) :
    wpAny (model X.prog X.w) X.A (call (.builtin "max") [.ref a] kw) (EP X pins σ Q) X.xe s := by
  have fin : ∀ (its : List Value), Vals (ns.map V.int) its → ∀ (xs : Array (Int × Tok)), its.toArray = intItems xs → ∀ (v : Value) (h1 : Heap) (t1 : Nat), (0 < xs.size → (intItems xs)[argBest (fun i j => decide (numAt xs i > numAt xs j)) (xs.size - 1)]? = some v) → (xs.size = 0 → v = dv) →
      (∀ b o, s.heap.get? b = some o → h1.get? b = some o) → EP X pins σ Q v { s with heap := h1, toks := t1 } := by
    intro its rv xs e v h1 t1 q1 q2 q3
    have hi := rv.ints
    have hn : numsOf (intItems xs).toList = ns := by rw [← e]; exact hi.numsOf
    rw [nums_intItems] at hn
    have hl : ns.length = xs.size := by rw [← hn]; simp
    by_cases z : xs.size = 0
    · obtain ⟨t, et⟩ := hd (by rw [hl]; exact z)
      rw [q2 z, et]
      have ne : ns = [] := List.eq_nil_of_length_eq_zero (by rw [hl]; exact z)
      exact ⟨.int d, H, I.kept q3, ⟨_, rfl⟩, q d (fun _ => rfl) fun w => absurd ne w⟩
    · have hv := q1 (by omega)
      obtain ⟨t, rfl⟩ := intItems_at hv
      obtain ⟨b1, b2⟩ := argBest_gt (numAt xs) (xs.size - 1)
      refine ⟨.int _, H, I.kept q3, ⟨_, rfl⟩, q _ (fun w => absurd (by rw [← hl, w]; rfl) z) fun _ => ⟨?_, fun y hy => ?_⟩⟩
      · rw [← hn, numAt_eq]; exact PySem.getD_mem (by rw [List.length_map, Array.length_toList]; omega)
      · rw [← hn] at hy
        obtain ⟨j, hj, rfl⟩ := mem_getD hy
        rw [List.length_map, Array.length_toList] at hj
        rw [← numAt_eq]; exact b2 j (by omega)
  have hh := I.ok.hd hc
  cases k with
  | true =>
    obtain ⟨its, rv, p, _⟩ := I.list (show SqL X.K H a (ns.map V.int) from hs)
    obtain ⟨xs, e⟩ := rv.ints.allInts.items
    have hl : ns.length = xs.size := by
      have h1 := rv.length
      have h2 : its.toArray.size = xs.size := by rw [e]; simp [intItems]
      simp at h1 h2
      omega
    have p' := p.isList
    rw [e] at p'
    refine mm_max hkw (iter_intList p' fun s₂ e2 st hfp hlI => ?_)
    subst e2
    refine ⟨_, _, _, _, _, _, _, rfl, Walks.list (A := X.A.in1) hh _ a hlI (intItems xs), st, hfp, (fun z => h0 (by rw [hl]; simpa [intItems] using z)), CmpOf.ints_gt (numAt xs) (fun _ _ => intItems_at), fun v h1 t1 q1 q2 q3 => ?_⟩
    exact fin its rv xs e v h1 t1 (fun z => by simpa [intItems] using q1 (by simpa [intItems] using z)) (fun z => q2 (by simpa [intItems] using z)) (old_kept q3)
  | false =>
    obtain ⟨its, rv, p, _⟩ := I.tuple (show SqT X.K H a (ns.map V.int) from hs)
    obtain ⟨xs, e⟩ := rv.ints.allInts.items
    have hl : ns.length = xs.size := by
      have h1 := rv.length
      have h2 : its.toArray.size = xs.size := by rw [e]; simp [intItems]
      simp at h1 h2
      omega
    have p' : s.heap.IsTuple a (intItems xs) := by rw [← e]; exact p
    have hlt : a < s.heap.objs.size := by obtain ⟨_, z, _⟩ := p'; exact Heap.lt_size z
    refine mm_max hkw (wpAny_pyIter_tuple p' ?_)
    refine ⟨s.heap.objs.size, _, _, _, _, _, _, rfl, Walks.tuple (A := X.A.in1) hh _ a (Nat.ne_of_lt hlt) (intItems xs), ⟨⟨_, Heap.get?_push_size _ rfl, rfl, rfl⟩, p'.push _⟩, fun b hb => ?_, (fun z => h0 (by rw [hl]; simpa [intItems] using z)), CmpOf.ints_gt (numAt xs) (fun _ _ => intItems_at), fun v h1 t1 q1 q2 q3 => ?_⟩
    · show b < (s.heap.push _).objs.size
      rw [Heap.size_push]
      rcases List.mem_cons.mp hb with z | z
      · rw [z]; exact Nat.lt_succ_self _
      · rw [List.mem_singleton.mp z]; exact Nat.lt_succ_of_lt hlt
    · refine fin its rv xs e v h1 t1 (fun z => by simpa [intItems] using q1 (by simpa [intItems] using z)) (fun z => q2 (by simpa [intItems] using z)) fun b o z => q3 b o (fun y => ?_) (Heap.get?_push_of_some _ z)
      rw [List.mem_singleton.mp y] at z
      exact absurd (Heap.lt_size z) (Nat.lt_irrefl _)
theorem cB_max (hc : X.calm = true) : CallR X (.builtin "max") (rB_max X.K) := by
  intro pins s σ H vs us Q I r h
  obtain ⟨a, k, ns, rfl, hs, hne, q⟩ := h
  rw [Vals.ref1 r]
  exact mm_core_max (kw := []) (dv := .none) (d := 0) hc I (.inl rfl) (fun z => absurd z (by omega)) (fun z => absurd z (by omega)) hs fun m _ h2 => (h2 (fun z => by rw [z] at hne; cases hne)).elim (q m)
theorem cD_max (hc : X.calm = true) : CallRK X (.builtin "max") [Str.ofString "default"] (rD_max X.K) := by
  intro pins s σ H vs zs us ws Q I r rz h
  obtain ⟨a, k, ns, d, rfl, rfl, hs, q⟩ := h
  rw [Vals.ref1 r]
  cases rz with
  | cons r1 r2 =>
    cases r2
    obtain ⟨t, rfl⟩ := r1
    exact mm_core_max (dv := .int d t) (d := d) hc I (.inr rfl) (fun _ => rfl) (fun _ => ⟨t, rfl⟩) hs q
end
end L2

namespace L2
open PySem PySem.Spec PyProof.Rows
section
variable {X : Cx}
/-- min of a list or tuple of ints that is not empty; with a default: of any -/
def rB_min (K : PySem.W.Frag) : List V → Hp → VK → Prop := fun vs H Q => ∃ (a : Addr) (k : Bool) (ns : List Int), vs = [V.ref a] ∧ SqB K H a (ns.map V.int) k ∧ 0 < ns.length ∧ ∀ m, m ∈ ns → (∀ y ∈ ns, m ≤ y) → Q (.int m) H
def rD_min (K : PySem.W.Frag) : List V → List V → Hp → VK → Prop := fun vs zs H Q => ∃ (a : Addr) (k : Bool) (ns : List Int) (d : Int), vs = [V.ref a] ∧ zs = [V.int d] ∧ SqB K H a (ns.map V.int) k ∧
  ∀ m, (ns = [] → m = d) → (ns ≠ [] → m ∈ ns ∧ ∀ y ∈ ns, m ≤ y) → Q (.int m) H
theorem mm_core_min {pins : List (Addr × Obj)} {s : Shared} {σ : L2.St} {H : Hp} {Q : VK} (hc : X.calm = true) (I : Inv X pins σ H s) {a : Addr} {k : Bool} {ns : List Int} {kw : List (Str × Value)} {dv : Value} {d : Int} (hkw : kw = [] ∨ kw = [(Str.ofString "default", dv)])
    (h0 : ns.length = 0 → kw = [(Str.ofString "default", dv)]) (hd : ns.length = 0 → ∃ t, dv = .int d t) (hs : SqB X.K H a (ns.map V.int) k) (q : ∀ m, (ns = [] → m = d) → (ns ≠ [] → m ∈ ns ∧ ∀ y ∈ ns, m ≤ y) → Q (.int m) H) :
    wpAny (model X.prog X.w) X.A (call (.builtin "min") [.ref a] kw) (EP X pins σ Q) X.xe s := by
  have fin : ∀ (its : List Value), Vals (ns.map V.int) its → ∀ (xs : Array (Int × Tok)), its.toArray = intItems xs → ∀ (v : Value) (h1 : Heap) (t1 : Nat), (0 < xs.size → (intItems xs)[argBest (fun i j => decide (numAt xs i < numAt xs j)) (xs.size - 1)]? = some v) → (xs.size = 0 → v = dv) →
      (∀ b o, s.heap.get? b = some o → h1.get? b = some o) → EP X pins σ Q v { s with heap := h1, toks := t1 } := by
    intro its rv xs e v h1 t1 q1 q2 q3
    have hi := rv.ints
    have hn : numsOf (intItems xs).toList = ns := by rw [← e]; exact hi.numsOf
    rw [nums_intItems] at hn
    have hl : ns.length = xs.size := by rw [← hn]; simp
    by_cases z : xs.size = 0
    · obtain ⟨t, et⟩ := hd (by rw [hl]; exact z)
      rw [q2 z, et]
      have ne : ns = [] := List.eq_nil_of_length_eq_zero (by rw [hl]; exact z)
      exact ⟨.int d, H, I.kept q3, ⟨_, rfl⟩, q d (fun _ => rfl) fun w => absurd ne w⟩
    · have hv := q1 (by omega)
      obtain ⟨t, rfl⟩ := intItems_at hv
      obtain ⟨b1, b2⟩ := argBest_lt (numAt xs) (xs.size - 1)
      refine ⟨.int _, H, I.kept q3, ⟨_, rfl⟩, q _ (fun w => absurd (by rw [← hl, w]; rfl) z) fun _ => ⟨?_, fun y hy => ?_⟩⟩
      · rw [← hn, numAt_eq]; exact PySem.getD_mem (by rw [List.length_map, Array.length_toList]; omega)
      · rw [← hn] at hy
        obtain ⟨j, hj, rfl⟩ := mem_getD hy
        rw [List.length_map, Array.length_toList] at hj
        rw [← numAt_eq]; exact b2 j (by omega)
  have hh := I.ok.hd hc
  cases k with
  | true =>
    obtain ⟨its, rv, p, _⟩ := I.list (show SqL X.K H a (ns.map V.int) from hs)
    obtain ⟨xs, e⟩ := rv.ints.allInts.items
    have hl : ns.length = xs.size := by
      have h1 := rv.length
      have h2 : its.toArray.size = xs.size := by rw [e]; simp [intItems]
      simp at h1 h2
      omega
    have p' := p.isList
    rw [e] at p'
    refine mm_min hkw (iter_intList p' fun s₂ e2 st hfp hlI => ?_)
    subst e2
    refine ⟨_, _, _, _, _, _, _, rfl, Walks.list (A := X.A.in1) hh _ a hlI (intItems xs), st, hfp, (fun z => h0 (by rw [hl]; simpa [intItems] using z)), CmpOf.ints_lt (numAt xs) (fun _ _ => intItems_at), fun v h1 t1 q1 q2 q3 => ?_⟩
    exact fin its rv xs e v h1 t1 (fun z => by simpa [intItems] using q1 (by simpa [intItems] using z)) (fun z => q2 (by simpa [intItems] using z)) (old_kept q3)
  | false =>
    obtain ⟨its, rv, p, _⟩ := I.tuple (show SqT X.K H a (ns.map V.int) from hs)
    obtain ⟨xs, e⟩ := rv.ints.allInts.items
    have hl : ns.length = xs.size := by
      have h1 := rv.length
      have h2 : its.toArray.size = xs.size := by rw [e]; simp [intItems]
      simp at h1 h2
      omega
    have p' : s.heap.IsTuple a (intItems xs) := by rw [← e]; exact p
    have hlt : a < s.heap.objs.size := by obtain ⟨_, z, _⟩ := p'; exact Heap.lt_size z
    refine mm_min hkw (wpAny_pyIter_tuple p' ?_)
    refine ⟨s.heap.objs.size, _, _, _, _, _, _, rfl, Walks.tuple (A := X.A.in1) hh _ a (Nat.ne_of_lt hlt) (intItems xs), ⟨⟨_, Heap.get?_push_size _ rfl, rfl, rfl⟩, p'.push _⟩, fun b hb => ?_, (fun z => h0 (by rw [hl]; simpa [intItems] using z)), CmpOf.ints_lt (numAt xs) (fun _ _ => intItems_at), fun v h1 t1 q1 q2 q3 => ?_⟩
    · show b < (s.heap.push _).objs.size
      rw [Heap.size_push]
      rcases List.mem_cons.mp hb with z | z
      · rw [z]; exact Nat.lt_succ_self _
      · rw [List.mem_singleton.mp z]; exact Nat.lt_succ_of_lt hlt
    · refine fin its rv xs e v h1 t1 (fun z => by simpa [intItems] using q1 (by simpa [intItems] using z)) (fun z => q2 (by simpa [intItems] using z)) fun b o z => q3 b o (fun y => ?_) (Heap.get?_push_of_some _ z)
      rw [List.mem_singleton.mp y] at z
      exact absurd (Heap.lt_size z) (Nat.lt_irrefl _)
theorem cB_min (hc : X.calm = true) : CallR X (.builtin "min") (rB_min X.K) := by
  intro pins s σ H vs us Q I r h
  obtain ⟨a, k, ns, rfl, hs, hne, q⟩ := h
  rw [Vals.ref1 r]
  exact mm_core_min (kw := []) (dv := .none) (d := 0) hc I (.inl rfl) (fun z => absurd z (by omega)) (fun z => absurd z (by omega)) hs fun m _ h2 => (h2 (fun z => by rw [z] at hne; cases hne)).elim (q m)
theorem cD_min (hc : X.calm = true) : CallRK X (.builtin "min") [Str.ofString "default"] (rD_min X.K) := by
  intro pins s σ H vs zs us ws Q I r rz h
  obtain ⟨a, k, ns, d, rfl, rfl, hs, q⟩ := h
  rw [Vals.ref1 r]
  cases rz with
  | cons r1 r2 =>
    cases r2
    obtain ⟨t, rfl⟩ := r1
    exact mm_core_min (dv := .int d t) (d := d) hc I (.inr rfl) (fun _ => rfl) (fun _ => ⟨t, rfl⟩) hs q
end
end L2

set_option Elab.async false
set_option linter.all false
set_option maxRecDepth 100000
set_option maxHeartbeats 4000000
namespace SL
open PySem L2
section

set_option hygiene false
local macro_rules | `(tactic| walk_at "m") => `(tactic| first | exact List.Mem.head _ | (refine List.Mem.tail _ ?_; walk_at "m"))
local macro_rules | `(tactic| walk_at "u") => `(tactic| first | exact Upd.head | (apply Upd.tail; walk_at "u"))
local macro_rules | `(tactic| walk_at "tk") => `(tactic| first | exact Tak.head | (apply Tak.tail; walk_at "tk"))
local macro_rules | `(tactic| walk_at "l") => `(tactic| first | assumption | exact lS (St.fh (by assumption)) (by assumption) | exact SqL.of (St.get (by assumption) (by walk_at "m")))
local macro_rules | `(tactic| walk_at "t") => `(tactic| first | assumption | exact tS (St.fh (by assumption)) (by assumption) | exact SqT.of (St.get (by assumption) (by walk_at "m")))
local macro_rules | `(tactic| walk_at "lt") => `(tactic| first | exact .inl (by walk_at "l") | exact .inr (by walk_at "t"))
local macro_rules | `(tactic| walk_at "sz") => `(tactic| first | (show _ ≤ sizeLine; decide) | exact sz (by simp) | exact szl (by simp) | exact sz (by omega) | exact szl (by omega) | exact sz (by simp; omega) | exact szl (by simp; omega))
local macro_rules | `(tactic| walk_at "c") => `(tactic| first | assumption | decide | omega)
local macro_rules | `(tactic| walk_at "g1") => `(tactic| with_reducible first
  | refine w_seq ?_ | refine w_asg ?_ | refine w_c ?_ | refine w_op ?_
  | refine r_I0 ?_ | refine w_test ?_ | refine r_b ?_ | refine w_if ?_ | refine w_cons ?_ | refine w_nil ?_
  | refine w_ret ?_ | refine w_drop ?_ | refine w_cb ?_ | refine w_call ?_ | refine w_next ?_ | refine w_tup ?_ | refine w_lst ?_ | refine w_bm ?_ | refine w_bm0 ?_
  | refine w_and ?_ | refine w_or ?_ | refine w_not ?_ | refine w_andV ?_ | refine w_orV ?_ | refine w_notV ?_ | refine w_tB ?_ | refine w_un ?_ | refine r_U ?_
  | refine w_for ?_ | refine w_iL ?_ | refine w_iT ?_ | refine w_i1 ?_ | refine w_i2 ?_ | refine w_sl ?_ | refine w_part ?_ | refine w_nopart ?_ | refine r_part ?_
  | refine r_eqI ?_ | refine r_neI ?_ | refine r_eqS ?_ | refine r_neS ?_ | refine r_eqB ?_ | refine r_neB ?_ | refine r_ifT ?_ | refine r_ifF ?_ | refine r_ifNt ?_ | refine r_ifNf ?_ | refine r_ifRN ?_ | refine r_ifNRN ?_ | refine r_ifNN ?_ | refine r_ifNNN ?_
  | refine w_ifE ?_ | refine r_int1 ?_ | refine r_int1b ?_ | refine r_isnone ?_ | refine r_notnone ?_ | refine r_max2 ?_ | refine r_min2 ?_ | refine r_ipI ?_ | refine w_tru ?_ | refine w_rs ?_
  | refine w_retN ?_ | refine w_break ?_ | refine w_cont ?_ | refine w_callS ?_ | refine w_asgG ?_ | refine w_gsub ?_)
local macro_rules | `(tactic| walk_at "g2") => `(tactic| first
  | ((with_reducible refine' w_var ?hv ?_); (case hv => rfl)) | ((with_reducible refine' w_aug ?hv ?_); (case hv => rfl))
  | ((with_reducible show rLen _ _ _ _); refine r_len (by walk_at "lt") ?_)
  | (with_reducible refine r_I ?cnd ?_; (case cnd => first | decide | omega | assumption | (unfold CPow; decide)))
  | ((with_reducible show RTy _ _ _ _ _); refine r_tyL (by walk_at "l") ?_)
  | (with_reducible refine r_ifDT (by walk_at "c") ?_) | (with_reducible refine r_ifDF (by walk_at "c") ?_)
  | (with_reducible refine r_ifNT (by walk_at "c") ?_) | (with_reducible refine r_ifNF (by walk_at "c") ?_))
local macro_rules | `(tactic| walk_at "go") => `(tactic| repeat (first | walk_at "g1" | walk_at "g2"))

variable {n b c : L2.St → Hp → Prop} {r : VK} {σ : L2.St} {H H' : Hp} {Q : VK} {t : TS} {te ta tb : TE} {x y v : V} {K : PySem.W.Frag} {E : En} {F F' : Hp} {L L' L1 L2 : Led} {p a : Addr} {xs ys : List V} {ns ms : List Int} {k : Bool} {QB : Bool → Hp → Prop} {C dx : Addr} {fs : List (Str × V)} {f : Str} {o : HO}
/-! ## min and max -/
theorem r_maxB (hs : SqB K H a (iv ns) k) (hn : 0 < ns.length) (q : ∀ m, m ∈ ns → (∀ y ∈ ns, y ≤ m) → Q (.int m) H) : rB_max K [.ref a] H Q := ⟨a, k, ns, rfl, hs, hn, q⟩
theorem r_minB (hs : SqB K H a (iv ns) k) (hn : 0 < ns.length) (q : ∀ m, m ∈ ns → (∀ y ∈ ns, m ≤ y) → Q (.int m) H) : rB_min K [.ref a] H Q := ⟨a, k, ns, rfl, hs, hn, q⟩
theorem r_maxD {d : Int} (hs : SqB K H a (iv ns) k) (q : ∀ m, (ns = [] → m = d) → (ns ≠ [] → m ∈ ns ∧ ∀ y ∈ ns, y ≤ m) → Q (.int m) H) : rD_max K [.ref a] [.int d] H Q := ⟨a, k, ns, d, rfl, rfl, hs, q⟩
theorem r_minD {d : Int} (hs : SqB K H a (iv ns) k) (q : ∀ m, (ns = [] → m = d) → (ns ≠ [] → m ∈ ns ∧ ∀ y ∈ ns, m ≤ y) → Q (.int m) H) : rD_min K [.ref a] [.int d] H Q := ⟨a, k, ns, d, rfl, rfl, hs, q⟩
theorem w_ckw {R : List V → List V → Hp → VK → Prop} {tr tk : TA} (h : tr σ H fun vs H1 => tk σ H1 fun zs H2 => R vs zs H2 Q) : tCKw R tr tk σ H Q := h
/-! ## isinstance -/
theorem r_isi {a b : String} {r : Bool} (ty : TyX K H x (.type a)) (h : kitB a b = some r) (q : Q (.bl r) H) : rIsi K [x, .ty b] H Q := ⟨x, .ty b, .type a, .type b, r, rfl, .ty b, ty, kit_ty h, q⟩
theorem tyB (h : SqB K H a xs k) : TyX K H (.ref a) (.type (if k then "list" else "tuple")) := by
  cases k with
  | true =>
    rcases (show SqL K H a xs from h) with (h | ⟨o, h⟩) | ⟨o, its, n, e, c, _⟩
    · exact .base (.lst h)
    · exact .base (.frz h)
    · exact .kList e c
  | false =>
    rcases (show SqT K H a xs from h) with (h | ⟨o, h⟩) | ⟨o, its, n, e, c, _⟩
    · exact .base (.tup h)
    · exact .fTuple h
    · exact .kTuple e c
theorem r_isiT (h : SqT K H a xs) (q : Q (.bl true) H) : rIsi K [.ref a, .ty "tuple"] H Q := r_isi (tyB (k := false) h) (by decide +kernel) q
theorem r_isiL (h : SqL K H a xs) (q : Q (.bl true) H) : rIsi K [.ref a, .ty "list"] H Q := r_isi (tyB (k := true) h) (by decide +kernel) q
theorem r_isiI {i : Int} (q : Q (.bl true) H) : rIsi K [.int i, .ty "int"] H Q := r_isi (.base (.int i)) (by decide +kernel) q
theorem r_isiIb {i : Int} (q : Q (.bl false) H) : rIsi K [.int i, .ty "bool"] H Q := r_isi (.base (.int i)) (by decide +kernel) q
theorem r_isiB {i : Bool} (q : Q (.bl true) H) : rIsi K [.bl i, .ty "bool"] H Q := r_isi (.base (.bl i)) (by decide +kernel) q
theorem r_isin_ref (q : Q (.bl false) H) : rIsNone (.ref a) .non H Q := r_isnone (by rw [decide_eq_false (fun z => nomatch z)]; exact q)
theorem r_isin_non (q : Q (.bl true) H) : rIsNone .non .non H Q := r_isnone (by rw [decide_eq_true rfl]; exact q)
theorem r_notn_ref (q : Q (.bl true) H) : rNotNone (.ref a) .non H Q := r_notnone (by rw [decide_eq_false (fun z => nomatch z)]; exact q)
theorem r_notn_non (q : Q (.bl false) H) : rNotNone .non .non H Q := r_notnone (by rw [decide_eq_true rfl]; exact q)
/-! ## fields, instances -/
def RFld (K : PySem.W.Frag) (f : Str) (x : V) (H : Hp) (Q : VK) : Prop := ∃ a C dx fs v, x = .ref a ∧ H a = some (.ins C dx fs) ∧ Cls K C ∧ NoAttr K C f ∧ fs.lookup f = some v ∧ Q v H
theorem w_fld (h : te σ H fun x H1 => RFld K f x H1 Q) : tFld K te f σ H Q := h
theorem r_fld (h : H a = some (.ins C dx fs)) (c : Cls K C) (nf : NoAttr K C f) (e : fs.lookup f = some v) (q : Q v H) : RFld K f (.ref a) H Q := ⟨a, C, dx, fs, v, rfl, h, c, nf, e, q⟩
def RSFld (K : PySem.W.Frag) (f : Str) (x y : V) (H : Hp) (P : Hp → Prop) : Prop := ∃ a C dx fs, x = .ref a ∧ H a = some (.ins C dx fs) ∧ Cls K C ∧ NoAttr K C f ∧ fs.length < 1000 ∧ P (upd H a (.ins C dx (putF f y fs)))
theorem w_sfld (h : tb σ H fun y H1 => ta σ H1 fun x H2 => RSFld K f x y H2 (n σ)) : sFld K ta tb f ⟨n, r, b, c⟩ σ H := h
theorem r_sfld {P : Hp → Prop} {fs' : List (Str × V)} (G : St E F H L) (cl : Cls K C) (nf : NoAttr K C f) (u : Upd L a (.ins C dx fs) (.ins C dx fs') L') (e : putF f y fs = fs') (hl : fs.length < 1000) (q : ∀ H', St E F H' L' → P H') : RSFld K f (.ref a) y H P :=
  ⟨a, C, dx, fs, rfl, G.get u.mem, cl, nf, hl, by rw [e]; exact q _ (G.put u)⟩
def RMk (C : Addr) (sp : Sp) (vs : List V) (H : Hp) (Q : VK) (X : XK) : Prop := ∀ x dx, H x = none → H dx = none → dx ≠ x → sp (.ref x :: vs) (upd (upd H dx (.own x)) x (.ins C dx [])) (fun v H2 => v = .non ∧ Q (.ref x) H2) X
theorem w_mk {sp : Sp} {X : XK} {tr : TA} (h : tr σ H fun vs H1 => RMk C sp vs H1 Q X) : tMake C sp [] X tr σ H Q := by
  have e : ∀ vs H1, RMk C sp vs H1 Q X → RMk C sp (vs ++ []) H1 Q X := fun vs H1 h => by rw [List.append_nil]; exact h
  show tr σ H fun vs H1 => RMk C sp (vs ++ []) H1 Q X
  simpa only [List.append_nil] using h
theorem r_mk {sp : Sp} {X : XK} {vs : List V} (G : St E F H L) (q : ∀ x dx H', St E F H' ((x, .ins C dx []) :: (dx, .own x) :: L) → sp (.ref x :: vs) H' (fun v H2 => v = .non ∧ Q (.ref x) H2) X) : RMk C sp vs H Q X := by
  intro x dx hx hd ne
  have G1 := G.new (o := .own x) hd
  exact q x dx _ (G1.new (by rw [upd_ne (Ne.symm ne)]; exact hx))
/-! ## more of the ledger -/
theorem St.perm (G : St E F H L) (pm : L'.Perm L) : St E F H L' := ⟨G.bh, G.fh, G.ff, G.pr, fun x hx => G.own x (pm.mem_iff.mp hx), (pm.map _).nodup_iff.mpr G.nd⟩
theorem St.frzs : ∀ {L1 : Led} {F : Hp}, St E F H (L1 ++ L2) → ∃ F', Same F F' ∧ (∀ x ∈ L1, F' x.1 = some x.2) ∧ St E F' H L2
  | [], F, G => ⟨F, Same.refl _, (fun _ h => nomatch h), G⟩
  | (a, o) :: r, F, G => by
    obtain ⟨F1, s1, h1, G1⟩ := G.frz (L' := r ++ L2) Tak.head
    obtain ⟨F2, s2, h2, G2⟩ := St.frzs G1
    refine ⟨F2, s1.trans s2, fun x hx => ?_, G2⟩
    rcases List.mem_cons.mp hx with q | q
    · subst q; exact s2 _ _ h1
    · exact h2 x q
theorem Tak.perm (t : Tak L a o L') : ((a, o) :: L').Perm L := by
  induction t with
  | head => exact List.Perm.refl _
  | tail _ ih => exact (List.Perm.swap _ _ _).trans (List.Perm.cons _ ih)
theorem St.front (G : St E F H L) (t : Tak L a o L') : St E F H ((a, o) :: L') := G.perm t.perm
theorem St.toEnd {x : Addr × HO} (G : St E F H (x :: L)) : St E F H (L ++ [x]) := G.perm (List.perm_append_comm (l₂ := [x]))
theorem St.same (G : St E F H L) : Same E.H H := G.bh
/-! ## data -/
abbrev dI (ns : List Int) : List PyData := ns.map PyData.int
theorem dpa_iv : ∀ {ns : List Int}, DpAll K H (iv ns) (dI ns)
  | [] => .nil
  | _ :: _ => .cons (.int _) dpa_iv
theorem dp_ints (h : SqL K H a (iv ns)) : Dp K H (.ref a) (.list (dI ns)) := .lst h dpa_iv
theorem dpT_ints (h : SqT K H a (iv ns)) : Dp K H (.ref a) (.tuple (dI ns)) := .tup h dpa_iv
theorem dpa_map {α : Type} {g : α → V} {d : α → PyData} : ∀ {xs : List α}, (∀ x ∈ xs, Dp K H (g x) (d x)) → DpAll K H (xs.map g) (xs.map d)
  | [], _ => .nil
  | x :: xs, h => .cons (h x List.mem_cons_self) (dpa_map fun y hy => h y (List.mem_cons_of_mem _ hy))
theorem eqvAll_map {α : Type} [DecidableEq α] {d : α → PyData} (h : ∀ x y, PyData.eqv (d x) (d y) = decide (x = y)) : ∀ (xs ys : List α), PyData.eqvAll (xs.map d) (ys.map d) = decide (xs = ys)
  | [], [] => rfl
  | [], _ :: _ => by simp [PyData.eqvAll]
  | _ :: _, [] => by simp [PyData.eqvAll]
  | x :: xs, y :: ys => by
    rw [List.map_cons, List.map_cons, PyData.eqvAll, h, eqvAll_map h xs ys]
    by_cases e : x = y <;> by_cases e2 : xs = ys <;> simp [e, e2]
theorem eqv_int (i j : Int) : PyData.eqv (.int i) (.int j) = decide (i = j) := by simp [PyData.eqv, Bool.beq_eq_decide_eq]
theorem eqvAll_ints (xs ys : List Int) : PyData.eqvAll (dI xs) (dI ys) = decide (xs = ys) := eqvAll_map eqv_int xs ys
theorem eqv_list (xs ys : List PyData) : PyData.eqv (.list xs) (.list ys) = PyData.eqvAll xs ys := by rw [PyData.eqv]
theorem eqv_tuple (xs ys : List PyData) : PyData.eqv (.tuple xs) (.tuple ys) = PyData.eqvAll xs ys := by rw [PyData.eqv]
theorem eqvAll_nil : PyData.eqvAll [] [] = true := rfl
theorem eqvAll_cons (x y : PyData) (xs ys : List PyData) : PyData.eqvAll (x :: xs) (y :: ys) = (PyData.eqv x y && PyData.eqvAll xs ys) := by rw [PyData.eqvAll]
/-- laid and not deep -/
structure Shp (m : Nat) (d : PyData) : Prop where
  lay : d.canLay0 = true
  dep : d.depth ≤ m
theorem Shp.ok {m : Nat} {d : PyData} (h : Shp m d) (hm : m ≤ 64) : SeqAt.shaped d = true := by
  unfold SeqAt.shaped
  rw [h.lay, decide_eq_true (Nat.le_trans h.dep hm)]; rfl
theorem Shp.mono {m m' : Nat} {d : PyData} (h : Shp m d) (hm : m ≤ m') : Shp m' d := ⟨h.lay, Nat.le_trans h.dep hm⟩
theorem eqv_self {m : Nat} {d : PyData} (h : Shp m d) : PyData.eqv d d = true := PySem.SeqAt.eqv_refl d h.lay
theorem shp_int {i : Int} : Shp 0 (.int i) := ⟨rfl, Nat.le_refl _⟩
theorem shp_bool {i : Bool} : Shp 0 (.bool i) := ⟨rfl, Nat.le_refl _⟩
theorem shp_none : Shp 0 .none := ⟨rfl, Nat.le_refl _⟩
structure ShpA (m : Nat) (ds : List PyData) : Prop where
  lay : PyData.canLayAll0 ds = true
  dep : PyData.depthAll ds ≤ m
theorem shpa_nil {m : Nat} : ShpA m [] := ⟨rfl, Nat.zero_le _⟩
theorem shpa_cons {m : Nat} {d : PyData} {ds : List PyData} (h : Shp m d) (h2 : ShpA m ds) : ShpA m (d :: ds) := by
  refine ⟨?_, ?_⟩
  · rw [PyData.canLayAll0, h.lay, h2.lay]; rfl
  · rw [PyData.depthAll]; exact Nat.max_le.mpr ⟨h.dep, h2.dep⟩
theorem shpa_map {α : Type} {m : Nat} {d : α → PyData} : ∀ {xs : List α}, (∀ x ∈ xs, Shp m (d x)) → ShpA m (xs.map d)
  | [], _ => shpa_nil
  | x :: xs, h => shpa_cons (h x List.mem_cons_self) (shpa_map fun y hy => h y (List.mem_cons_of_mem _ hy))
theorem shp_list {m : Nat} {ds : List PyData} (h : ShpA m ds) : Shp (m + 1) (.list ds) := ⟨by rw [PyData.canLay0]; exact h.lay, by rw [PyData.depth]; exact Nat.succ_le_succ h.dep⟩
theorem shp_tuple {m : Nat} {ds : List PyData} (h : ShpA m ds) : Shp (m + 1) (.tuple ds) := ⟨by rw [PyData.canLay0]; exact h.lay, by rw [PyData.depth]; exact Nat.succ_le_succ h.dep⟩
theorem shpa_ints {m : Nat} : ShpA m (dI ns) := shpa_map fun _ _ => shp_int.mono (Nat.zero_le _)
theorem r_eqD {d e : PyData} {m m' : Nat} {k : Bool} (h1 : Dp K H x d) (h2 : Dp K H y e) (s1 : Shp m d) (s2 : Shp m' e) (hk : PyData.eqv d e = k) (q : Q (.bl k) H) (hm : m ≤ 64 := by decide) (hm' : m' ≤ 64 := by decide) : rEqD K x y H Q :=
  ⟨d, e, h1, h2, s1.ok hm, s2.ok hm', by rw [hk]; exact q⟩
theorem r_neD {d e : PyData} {m m' : Nat} {k : Bool} (h1 : Dp K H x d) (h2 : Dp K H y e) (s1 : Shp m d) (s2 : Shp m' e) (hk : PyData.eqv d e = k) (q : Q (.bl (!k)) H) (hm : m ≤ 64 := by decide) (hm' : m' ≤ 64 := by decide) : rNeD K x y H Q :=
  ⟨d, e, h1, h2, s1.ok hm, s2.ok hm', by rw [hk]; exact q⟩
theorem sIx_nat {n d k : Nat} : HT.sIx n d (some (k : Int)) = min k n := by
  unfold HT.sIx
  simp
  omega
theorem cut_from {k : Nat} : cutV xs (some (k : Int)) none = xs.drop k := by
  unfold cutV
  rw [sIx_nat, show HT.sIx xs.length xs.length none = xs.length from rfl]
  by_cases h : k ≤ xs.length
  · rw [Nat.min_eq_left h, List.take_of_length_le (by simp)]
  · rw [Nat.min_eq_right (by omega), List.drop_of_length_le (by omega), List.drop_of_length_le (by omega)]; simp
theorem cut_to {k : Nat} : cutV xs none (some (k : Int)) = xs.take k := by
  unfold cutV
  rw [sIx_nat, show HT.sIx xs.length 0 none = 0 from rfl, List.drop_zero, Nat.sub_zero]
  by_cases h : k ≤ xs.length
  · rw [Nat.min_eq_left h]
  · rw [Nat.min_eq_right (by omega), List.take_of_length_le (by omega), List.take_of_length_le (by omega)]
/-! ## rows: lists of lists of ints -/
inductive Rows (K : PySem.W.Frag) (H : Hp) (k : Bool) : List Addr → List (List Int) → Prop
  | nil : Rows K H k [] []
  | cons {a as ns rs} : SqB K H a (iv ns) k → Rows K H k as rs → Rows K H k (a :: as) (ns :: rs)
theorem Rows.len {as : List Addr} {rs : List (List Int)} (h : Rows K H k as rs) : as.length = rs.length := by
  induction h with
  | nil => rfl
  | cons _ _ ih => rw [List.length_cons, List.length_cons, ih]
theorem Rows.mono {as : List Addr} {rs : List (List Int)} (e : Same H H') (h : Rows K H k as rs) : Rows K H' k as rs := by
  induction h with
  | nil => exact .nil
  | cons h1 _ ih => exact .cons (qS e h1) ih
theorem Rows.at {as : List Addr} {rs : List (List Int)} (h : Rows K H k as rs) : ∀ {i : Nat} {a : Addr}, as[i]? = some a → ∃ ns, rs[i]? = some ns ∧ SqB K H a (iv ns) k := by
  induction h with
  | nil => intro i a e; simp at e
  | cons h1 _ ih =>
    intro i a e
    cases i with
    | zero => rw [List.getElem?_cons_zero] at e; cases e; exact ⟨_, rfl, h1⟩
    | succ i => exact ih (by simpa using e)
theorem Rows.snoc {as : List Addr} {rs : List (List Int)} (h : Rows K H k as rs) (h2 : SqB K H a (iv ns) k) : Rows K H k (as ++ [a]) (rs ++ [ns]) := by
  induction h with
  | nil => exact .cons h2 .nil
  | cons h1 _ ih => exact .cons h1 ih
theorem Rows.set {as : List Addr} {rs : List (List Int)} (h : Rows K H k as rs) (h2 : SqB K H a (iv ns) k) : ∀ {j : Nat}, Rows K H k (as.set j a) (rs.set j ns) := by
  induction h with
  | nil => intro j; exact .nil
  | cons h1 hr ih =>
    intro j
    cases j with
    | zero => exact .cons h2 hr
    | succ j => exact .cons h1 ih
abbrev dRow : Bool → List Int → PyData
  | true, ns => .list (dI ns)
  | false, ns => .tuple (dI ns)
theorem Rows.dp {as : List Addr} {rs : List (List Int)} (h : Rows K H k as rs) : DpAll K H (as.map V.ref) (rs.map (dRow k)) := by
  induction h with
  | nil => exact .nil
  | cons h1 _ ih =>
    refine .cons ?_ ih
    cases k with
    | true => exact dp_ints h1
    | false => exact dpT_ints h1
theorem eqv_row {k : Bool} (xs ys : List Int) : PyData.eqv (dRow k xs) (dRow k ys) = decide (xs = ys) := by
  cases k with
  | true => rw [dRow, dRow, eqv_list, eqvAll_ints]
  | false => rw [dRow, dRow, eqv_tuple, eqvAll_ints]
theorem shp_row {k : Bool} : Shp 1 (dRow k ns) := by
  cases k with
  | true => exact shp_list shpa_ints
  | false => exact shp_tuple shpa_ints
abbrev rv (as : List Addr) : List V := as.map V.ref
theorem rv_len {as : List Addr} : (rv as).length = as.length := List.length_map ..
theorem rv_get {as : List Addr} {i : Nat} {x : V} (h : (rv as)[i]? = some x) : ∃ z, as[i]? = some z ∧ x = .ref z := by
  rw [List.getElem?_map] at h
  cases e : as[i]? with
  | none => rw [e] at h; cases h
  | some z => rw [e] at h; exact ⟨z, rfl, (Option.some.inj h).symm⟩
end
end SL

set_option Elab.async false
set_option linter.all false
set_option maxRecDepth 100000
set_option maxHeartbeats 4000000
namespace SL
open PySem L2
section

set_option hygiene false
local macro_rules | `(tactic| walk_at "m") => `(tactic| first | exact List.Mem.head _ | (refine List.Mem.tail _ ?_; walk_at "m"))
local macro_rules | `(tactic| walk_at "u") => `(tactic| first | exact Upd.head | (apply Upd.tail; walk_at "u"))
local macro_rules | `(tactic| walk_at "tk") => `(tactic| first | exact Tak.head | (apply Tak.tail; walk_at "tk"))
local macro_rules | `(tactic| walk_at "l") => `(tactic| first | assumption | exact lS (St.fh (by assumption)) (by assumption) | exact SqL.of (St.get (by assumption) (by walk_at "m")))
local macro_rules | `(tactic| walk_at "t") => `(tactic| first | assumption | exact tS (St.fh (by assumption)) (by assumption) | exact SqT.of (St.get (by assumption) (by walk_at "m")))
local macro_rules | `(tactic| walk_at "lt") => `(tactic| first | exact .inl (by walk_at "l") | exact .inr (by walk_at "t"))
local macro_rules | `(tactic| walk_at "sz") => `(tactic| first | (show _ ≤ sizeLine; decide) | exact sz (by simp) | exact szl (by simp) | exact sz (by omega) | exact szl (by omega) | exact sz (by simp; omega) | exact szl (by simp; omega))
local macro_rules | `(tactic| walk_at "c") => `(tactic| first | assumption | decide | omega)
local macro_rules | `(tactic| walk_at "g1") => `(tactic| with_reducible first
  | refine w_seq ?_ | refine w_asg ?_ | refine w_c ?_ | refine w_op ?_
  | refine r_I0 ?_ | refine w_test ?_ | refine r_b ?_ | refine w_if ?_ | refine w_cons ?_ | refine w_nil ?_
  | refine w_ret ?_ | refine w_drop ?_ | refine w_cb ?_ | refine w_call ?_ | refine w_next ?_ | refine w_tup ?_ | refine w_lst ?_ | refine w_bm ?_ | refine w_bm0 ?_
  | refine w_and ?_ | refine w_or ?_ | refine w_not ?_ | refine w_andV ?_ | refine w_orV ?_ | refine w_notV ?_ | refine w_tB ?_ | refine w_un ?_ | refine r_U ?_
  | refine w_for ?_ | refine w_iL ?_ | refine w_iT ?_ | refine w_i1 ?_ | refine w_i2 ?_ | refine w_sl ?_ | refine w_part ?_ | refine w_nopart ?_ | refine r_part ?_
  | refine r_eqI ?_ | refine r_neI ?_ | refine r_eqS ?_ | refine r_neS ?_ | refine r_eqB ?_ | refine r_neB ?_ | refine r_ifT ?_ | refine r_ifF ?_ | refine r_ifNt ?_ | refine r_ifNf ?_ | refine r_ifRN ?_ | refine r_ifNRN ?_ | refine r_ifNN ?_ | refine r_ifNNN ?_
  | refine w_ifE ?_ | refine r_int1 ?_ | refine r_int1b ?_ | refine r_isnone ?_ | refine r_notnone ?_ | refine r_max2 ?_ | refine r_min2 ?_ | refine r_ipI ?_ | refine w_tru ?_ | refine w_rs ?_
  | refine w_retN ?_ | refine w_break ?_ | refine w_cont ?_ | refine w_callS ?_ | refine w_asgG ?_ | refine w_gsub ?_)
local macro_rules | `(tactic| walk_at "g2") => `(tactic| first
  | ((with_reducible refine' w_var ?hv ?_); (case hv => rfl)) | ((with_reducible refine' w_aug ?hv ?_); (case hv => rfl))
  | ((with_reducible show rLen _ _ _ _); refine r_len (by walk_at "lt") ?_)
  | (with_reducible refine r_I ?cnd ?_; (case cnd => first | decide | omega | assumption | (unfold CPow; decide)))
  | ((with_reducible show RTy _ _ _ _ _); refine r_tyL (by walk_at "l") ?_)
  | (with_reducible refine r_ifDT (by walk_at "c") ?_) | (with_reducible refine r_ifDF (by walk_at "c") ?_)
  | (with_reducible refine r_ifNT (by walk_at "c") ?_) | (with_reducible refine r_ifNF (by walk_at "c") ?_))
local macro_rules | `(tactic| walk_at "go") => `(tactic| repeat (first | walk_at "g1" | walk_at "g2"))

variable {n b c : L2.St → Hp → Prop} {r : VK} {σ : L2.St} {H H' : Hp} {Q : VK} {t : TS} {te ta tb : TE} {x y v : V} {K : PySem.W.Frag} {E : En} {F F' : Hp} {L L' L1 L2 : Led} {p a : Addr} {xs ys : List V} {ns ms : List Int} {k : Bool} {o o' : HO}
/-! ## the law's promise, calls that hand back what they made -/
def spL (K : PySem.W.Frag) : Sp := fun vs H Q E => ∃ (a : Addr) (ns : List Int), vs = [.ref a] ∧ (SqL K H a (iv ns) ∧ ns.length ≤ 63 ∧ ∀ H', Q (.bl true) H')
structure Own (H H' : Hp) (L : Led) : Prop where
  hh : Same H H'
  own : ∀ x ∈ L, H' x.1 = some x.2 ∧ H x.1 = none
  nd : (L.map (·.1)).Nodup
structure OwnB (p : Addr) (H H' : Hp) (o' : HO) (L : Led) : Prop where
  hh : SameB p H H'
  hp : H' p = some o'
  own : ∀ x ∈ L, H' x.1 = some x.2 ∧ H x.1 = none
  nd : (L.map (·.1)).Nodup
theorem nd_app {L1 L2 : Led} (h1 : (L1.map (·.1)).Nodup) (h2 : (L2.map (·.1)).Nodup) (h : ∀ x ∈ L1, ∀ y ∈ L2, x.1 ≠ y.1) : ((L1 ++ L2).map (·.1)).Nodup := by
  rw [List.map_append, List.nodup_append]
  refine ⟨h1, h2, fun a ha b hb => ?_⟩
  obtain ⟨x, hx, rfl⟩ := List.mem_map.mp ha
  obtain ⟨y, hy, rfl⟩ := List.mem_map.mp hb
  exact h x hx y hy
theorem St.addL (G : St E F H L) (w : Own H H' L1) : St E F H' (L1 ++ L) := by
  have G1 := G.grow w.hh
  refine ⟨G1.bh, G1.fh, G1.ff, G1.pr, fun x hx => ?_, nd_app w.nd G.nd fun x hx y hy e => ?_⟩
  · rcases List.mem_append.mp hx with q | q
    · obtain ⟨h1, h2⟩ := w.own x q
      exact ⟨h1, free_of G.fh h2, free_of G.bh h2⟩
    · exact G1.own x q
  · have h1 := (w.own x hx).2
    rw [e, (G.own y hy).1] at h1
    cases h1
theorem St.addLB (G : St E F H L) (u : Upd L p o o' L') (w : OwnB p H H' o' L1) : St E F H' (L1 ++ L') := by
  have G1 := G.putB u w.hh w.hp
  refine ⟨G1.bh, G1.fh, G1.ff, G1.pr, fun x hx => ?_, nd_app w.nd G1.nd fun x hx y hy e => ?_⟩
  · rcases List.mem_append.mp hx with q | q
    · obtain ⟨h1, h2⟩ := w.own x q
      exact ⟨h1, free_of G.fh h2, free_of G.bh h2⟩
    · exact G1.own x q
  · have h1 := (w.own x hx).2
    have : y.1 ∈ L.map (·.1) := by rw [← u.fst]; exact List.mem_map.mpr ⟨y, hy, rfl⟩
    obtain ⟨z, hz, q⟩ := List.mem_map.mp this
    have q' : z.1 = y.1 := q
    rw [e, ← q', (G.own z hz).1] at h1
    cases h1
theorem St.toOwn (G : St ⟨F, H⟩ F' H' L) : Own H H' L := ⟨G.bh, fun x hx => ⟨(G.own x hx).1, (G.own x hx).2.2⟩, G.nd⟩
theorem St.toOwnB (G : St ⟨F, del H p⟩ F' H' ((p, o') :: L)) : OwnB p H H' o' L := by
  have hn := G.nd
  rw [List.map_cons, List.nodup_cons] at hn
  refine ⟨fun b u h e => G.bh b u (by rw [show (En.mk F (del H p)).H = del H p from rfl, del_ne h]; exact e), G.get List.mem_cons_self, fun x hx => ?_, hn.2⟩
  obtain ⟨h1, _, h3⟩ := G.own x (List.mem_cons_of_mem _ hx)
  have ne : x.1 ≠ p := fun e => hn.1 (List.mem_map.mpr ⟨x, hx, e⟩)
  exact ⟨h1, by rw [show (En.mk F (del H p)).H = del H p from rfl, del_ne ne] at h3; exact h3⟩
theorem St.same1 (G : St ⟨F, del H p⟩ F' H' L) (m : (p, o) ∈ L) (h : H p = some o) : Same H H' := fun b u e => by
  by_cases c : b = p
  · subst c; rw [h] at e; cases e; exact G.get m
  · exact G.bh b u (by rw [show (En.mk F (del H p)).H = del H p from rfl, del_ne c]; exact e)
/-- an instance is no list and no tuple -/
theorem sq_del {C dx : Addr} {fs : List (Str × V)} (h : H p = some (.ins C dx fs)) (s : SqB K H a xs k) : SqB K (del H p) a xs k := by
  cases k with
  | true =>
    rcases s with (s | ⟨z, s⟩) | s
    · exact .inl (.inl (by rw [del_ne (ne_of s h (fun z => nomatch z))]; exact s))
    · exact .inl (.inr ⟨z, by rw [del_ne (ne_of s h (fun z => nomatch z))]; exact s⟩)
    · exact .inr s
  | false =>
    rcases s with (s | ⟨z, s⟩) | s
    · exact .inl (.inl (by rw [del_ne (ne_of s h (fun z => nomatch z))]; exact s))
    · exact .inl (.inr ⟨z, by rw [del_ne (ne_of s h (fun z => nomatch z))]; exact s⟩)
    · exact .inr s
theorem Rows.del {C dx : Addr} {fs : List (Str × V)} {as : List Addr} {rs : List (List Int)} (h : H p = some (.ins C dx fs)) (s : Rows K H k as rs) : Rows K (del H p) k as rs := by
  induction s with
  | nil => exact .nil
  | cons h1 _ ih => exact .cons (sq_del h h1) ih
/-! ## rows that are owned -/
def rowL : List Addr → List (List Int) → Led
  | a :: as, r :: rs => (a, .lst (iv r)) :: rowL as rs
  | _, _ => []
theorem rowL_rows {as : List Addr} {rs : List (List Int)} (hl : as.length = rs.length) (h : ∀ x ∈ rowL as rs, H x.1 = some x.2) : Rows K H true as rs := by
  induction as generalizing rs with
  | nil => cases rs with
    | nil => exact .nil
    | cons _ _ => cases hl
  | cons a as ih => cases rs with
    | nil => cases hl
    | cons r rs => exact .cons (show SqL K H a (iv r) from SqL.of (h _ List.mem_cons_self)) (ih (by simpa using hl) fun x hx => h x (List.mem_cons_of_mem _ hx))
theorem rowL_upd : ∀ {as : List Addr} {rs : List (List Int)} {j : Nat} {a : Addr} {r r' : List Int}, as[j]? = some a → rs[j]? = some r → Upd (rowL as rs) a (.lst (iv r)) (.lst (iv r')) (rowL as (rs.set j r'))
  | [], _, _, _, _, _, h, _ => by simp at h
  | _ :: _, [], _, _, _, _, _, h => by simp at h
  | a :: as, r :: rs, 0, a', r0, r', h1, h2 => by
    simp at h1 h2
    subst h1 h2
    exact .head
  | a :: as, r :: rs, j + 1, a', r0, r', h1, h2 => .tail (rowL_upd (by simpa using h1) (by simpa using h2))
theorem rowL_snoc : ∀ {as : List Addr} {rs : List (List Int)} {a : Addr} {r : List Int}, as.length = rs.length → rowL (as ++ [a]) (rs ++ [r]) = rowL as rs ++ [(a, .lst (iv r))]
  | [], [], _, _, _ => rfl
  | [], _ :: _, _, _, h => by cases h
  | _ :: _, [], _, _, h => by cases h
  | x :: as, y :: rs, a, r, h => by
    show (x, HO.lst (iv y)) :: rowL (as ++ [a]) (rs ++ [r]) = (x, HO.lst (iv y)) :: (rowL as rs ++ [(a, .lst (iv r))])
    rw [rowL_snoc (by simpa using h)]
theorem Upd.app {L0 : Led} (u : Upd L a o o' L') : Upd (L0 ++ L) a o o' (L0 ++ L') := by
  induction L0 with
  | nil => exact u
  | cons x r ih => exact .tail ih
theorem Upd.appL {L0 : Led} (u : Upd L a o o' L') : Upd (L ++ L0) a o o' (L' ++ L0) := by
  induction u with
  | head => exact .head
  | tail _ ih => exact .tail ih
/-! ## integers in a tuple -/
def cp_is_integer (K : PySem.W.Frag) : Sp := fun vs H Q E => ∃ (i : Int), vs = [.int i] ∧ (Q (.bl true) H)
theorem u_isint {K : PySem.W.Frag} {i : Int} {H : Hp} {Q : VK} {X : XK} (q : Q (.bl true) H) : cp_is_integer K [.int i] H Q X := ⟨i, rfl, q⟩
def ct_is_integer (K : PySem.W.Frag) : TS := (tRet (tAndV (tCB (rIsi K) (tCons (tVar 0) (tCons (tC (.ty "int")) tNil))) (tNotV (tCB (rIsi K) (tCons (tVar 0) (tCons (tC (.ty "bool")) tNil))))))
theorem cv_is_integer {K : PySem.W.Frag} {vs : List V} {H : Hp} {Q : VK} {E : XK} (h : cp_is_integer K vs H Q E) : ct_is_integer K (D0 Q) (start ["actual"] vs) H := by
  obtain ⟨i, rfl, q⟩ := h
  unfold ct_is_integer
  show tRet _ (D0 Q) [some (.int i)] H
  unfold D0
  walk_at "go"
  refine r_isiI ?_
  walk_at "go"
  refine r_isiIb ?_
  walk_at "go"
  exact q
def cp_integers (K : PySem.W.Frag) : Sp := fun vs H Q E => ∃ (a : Addr) (ns : List Int) (lo hi : Int), vs = [.ref a, .int lo, .int hi] ∧ (SqT K H a (iv ns) ∧ ((∀ z ∈ ns, lo ≤ z ∧ z < hi) → Q (.bl true) H) ∧ (¬ (∀ z ∈ ns, lo ≤ z ∧ z < hi) → Q (.bl false) H))
def ct_integers (K : PySem.W.Frag) : TS := (tSeq (tIfS (tNot (tB (tCB (rIsi K) (tCons (tVar 0) (tCons (tC (.ty "tuple")) tNil))))) (tRet (tC (.bl false))) tNext)
 (tSeq (tFor (iTup K (tVar 0)) (gName 3) (tIfS (tOr (tNot (tB (tCall (cp_is_integer K) [] E0 (tCons (tVar 3) tNil)))) (tOr (tTest (tOp rLtI (tVar 3) (tVar 1))) (tTest (tOp rGeI (tVar 3) (tVar 2))))) (tRet (tC (.bl false))) tNext))
 (tRet (tC (.bl true)))))
theorem cv_integers {K : PySem.W.Frag} {vs : List V} {H : Hp} {Q : VK} {E : XK} (h : cp_integers K vs H Q E) : ct_integers K (D0 Q) (start ["actual", "low", "high", "item"] vs) H := by
  obtain ⟨a, ns, lo, hi, rfl, ha, q1, q2⟩ := h
  unfold ct_integers
  show tSeq _ _ (D0 Q) [some (.ref a), some (.int lo), some (.int hi), none] H
  unfold D0
  walk_at "go"
  refine r_isiT ha ?_
  walk_at "go"
  refine r_it ha ?_
  refine r_forT (xs := iv ns) (fun i σ H' => H' = H ∧ (∃ v, σ = [some (.ref a), some (.int lo), some (.int hi), v]) ∧ ∀ z ∈ ns.take i, lo ≤ z ∧ z < hi) ⟨rfl, ⟨_, rfl⟩, (fun _ h => by simp at h)⟩ (fun _ _ _ _ h => h.1 ▸ ha) ?_ ?_
  · rintro i x σ H' hi' ⟨rfl, ⟨v, rfl⟩, hz⟩
    obtain ⟨z, hz1, rfl⟩ := iv_get hi'
    walk_at "go"
    refine u_isint ?_
    walk_at "go"
    have hm : z ∈ ns := List.mem_of_getElem? hz1
    refine r_ifD (fun h => ?_) (fun h => ?_)
    · walk_at "go"
      exact q2 fun w => absurd (w z hm).1 (by omega)
    · walk_at "go"
      refine r_ifD (fun h2 => ?_) (fun h2 => ?_)
      · walk_at "go"
        exact q2 fun w => absurd (w z hm).2 (by omega)
      · walk_at "go"
        refine ⟨rfl, ⟨_, rfl⟩, fun y hy => ?_⟩
        rw [take_snoc hz1] at hy
        rcases List.mem_append.mp hy with q | q
        · exact hz y q
        · rw [List.mem_singleton.mp q]; omega
  · rintro σ H' ⟨rfl, ⟨v, rfl⟩, hz⟩
    walk_at "go"
    refine q1 fun z hz' => hz z ?_
    rw [iv_len, List.take_length]; exact hz'
end
end SL

set_option Elab.async false
set_option linter.all false
set_option maxRecDepth 100000
set_option maxHeartbeats 4000000
namespace L2
open PySem PySem.Spec PyProof.Rows
/-! ## an error that has a name -/
def wAllN (n : Nat) (W : WX) : XK := fun cls d H => ∀ σ : St, σ.length = n → W cls d σ H
theorem passes_allN {X : Cx} {W : WX} {n : Nat} (tk : Takes X W) (hn : X.N.length = n) : Passes (L2.CX X.prog X.w) X (wAllN n W) :=
  fun _ σ _ _ e s' I c => tk e s' (XE.of_call I (fun cls d H' h => h σ (I.len.trans hn)) c)
def rIsE' (K : PySem.W.Frag) (a : Addr) (cls : Value) (d : Option Addr) : List V → Hp → VK → Prop := fun xs H Q => ∃ D, cls = .ref D ∧ d = none ∧ ExcC K D ∧ rIsE K D a xs H Q
theorem call_isE' {X : Cx} {a : Addr} {cls : Value} {d : Option Addr} {oe : Obj} {pn : List (Addr × Obj)} (hz : Zc cls d oe) (hf : ∃ vs, oe.data = .fields vs) : CallR (X.suite a ((a, oe) :: pn)) (.builtin "isinstance") (rIsE' X.K a cls d) := by
  intro pins s σ H xs us Q I r h
  obtain ⟨D, rfl, rfl, C, q⟩ := h
  exact call_isE C hz hf pins s σ H xs us Q I r q
theorem kit_true {K : PySem.W.Frag} {R S : Addr} (h1 : PySem.W.hasDictIn K S = true) (ht : PySem.W.typeIn K (.ref S) = some (.type "type")) (h2 : PySem.W.subIn K (.ref R) (.ref S) = some true) : PySem.W.kitOne K (.ref R) (.ref S) = some true := by
  obtain ⟨cd, hc, _⟩ := PySem.W.any_some h1
  have e2 : ((PySem.W.clsIn K S).isSome && PySem.W.typeIn K (.ref S) == some (.type "type")) = true := by rw [hc, ht] <;> rfl
  unfold PySem.W.kitOne
  split
  · rfl
  · show (if ((PySem.W.clsIn K S).isSome && PySem.W.typeIn K (.ref S) == some (.type "type")) = true then PySem.W.subIn K (.ref R) (.ref S) else none) = some true
    rw [if_pos e2]; exact h2
theorem kit_self {K : PySem.W.Frag} {R : Addr} : PySem.W.kitOne K (.ref R) (.ref R) = some true := by
  unfold PySem.W.kitOne
  rw [if_pos (by simp)]
/-! ## a comprehension in a comprehension -/
def relabelS (scope sc : Scope) : Scope :=
  { scope with names := scope.names.map fun (n, k) => if (k == .free && sc.kind == .function && sc.names.lookup n == some .cell) then (n, .cell) else (n, k) }
theorem blk_in {N : List Str} {env : Env} {sc0 scope0 scope : Scope} {cl : List (Str × Addr)} {C : Addr} {own : List (Str × Nat)} (he : env.scope = sc0) (h : blkC N (relabelS scope0 sc0) scope own = true) : BlkOk N (compEnvC scope0 cl C env).scope scope own := by
  subst he
  exact blkOk_by h
end L2
namespace SL
open PySem L2
section

set_option hygiene false
local macro_rules | `(tactic| walk_at "m") => `(tactic| first | exact List.Mem.head _ | (refine List.Mem.tail _ ?_; walk_at "m"))
local macro_rules | `(tactic| walk_at "u") => `(tactic| first | exact Upd.head | (apply Upd.tail; walk_at "u"))
local macro_rules | `(tactic| walk_at "tk") => `(tactic| first | exact Tak.head | (apply Tak.tail; walk_at "tk"))
local macro_rules | `(tactic| walk_at "l") => `(tactic| first | assumption | exact lS (St.fh (by assumption)) (by assumption) | exact SqL.of (St.get (by assumption) (by walk_at "m")))
local macro_rules | `(tactic| walk_at "t") => `(tactic| first | assumption | exact tS (St.fh (by assumption)) (by assumption) | exact SqT.of (St.get (by assumption) (by walk_at "m")))
local macro_rules | `(tactic| walk_at "lt") => `(tactic| first | exact .inl (by walk_at "l") | exact .inr (by walk_at "t"))
local macro_rules | `(tactic| walk_at "sz") => `(tactic| first | (show _ ≤ sizeLine; decide) | exact sz (by simp) | exact szl (by simp) | exact sz (by omega) | exact szl (by omega) | exact sz (by simp; omega) | exact szl (by simp; omega))
local macro_rules | `(tactic| walk_at "c") => `(tactic| first | assumption | decide | omega)
local macro_rules | `(tactic| walk_at "g1") => `(tactic| with_reducible first
  | refine w_seq ?_ | refine w_asg ?_ | refine w_c ?_ | refine w_op ?_
  | refine r_I0 ?_ | refine w_test ?_ | refine r_b ?_ | refine w_if ?_ | refine w_cons ?_ | refine w_nil ?_
  | refine w_ret ?_ | refine w_drop ?_ | refine w_cb ?_ | refine w_call ?_ | refine w_next ?_ | refine w_tup ?_ | refine w_lst ?_ | refine w_bm ?_ | refine w_bm0 ?_
  | refine w_and ?_ | refine w_or ?_ | refine w_not ?_ | refine w_andV ?_ | refine w_orV ?_ | refine w_notV ?_ | refine w_tB ?_ | refine w_un ?_ | refine r_U ?_
  | refine w_for ?_ | refine w_iL ?_ | refine w_iT ?_ | refine w_i1 ?_ | refine w_i2 ?_ | refine w_sl ?_ | refine w_part ?_ | refine w_nopart ?_ | refine r_part ?_
  | refine r_eqI ?_ | refine r_neI ?_ | refine r_eqS ?_ | refine r_neS ?_ | refine r_eqB ?_ | refine r_neB ?_ | refine r_ifT ?_ | refine r_ifF ?_ | refine r_ifNt ?_ | refine r_ifNf ?_ | refine r_ifRN ?_ | refine r_ifNRN ?_ | refine r_ifNN ?_ | refine r_ifNNN ?_
  | refine w_ifE ?_ | refine r_int1 ?_ | refine r_int1b ?_ | refine r_isnone ?_ | refine r_notnone ?_ | refine r_max2 ?_ | refine r_min2 ?_ | refine r_ipI ?_ | refine w_tru ?_ | refine w_rs ?_
  | refine w_retN ?_ | refine w_break ?_ | refine w_cont ?_ | refine w_callS ?_ | refine w_asgG ?_ | refine w_gsub ?_ | refine w_fld ?_ | refine w_sfld ?_ | refine w_mk ?_ | refine w_lc ?_ | refine w_iSq ?_ | refine u_isint ?_ | refine w_dnew ?_ | refine w_dnotin ?_ | refine w_din ?_ | refine w_dget ?_ | refine w_dput ?_ | refine w_ckw ?_)
local macro_rules | `(tactic| walk_at "g2") => `(tactic| first
  | ((with_reducible refine' w_var ?hv ?_); (case hv => rfl)) | ((with_reducible refine' w_aug ?hv ?_); (case hv => rfl))
  | ((with_reducible show rLen _ _ _ _); refine r_len (by walk_at "lt") ?_)
  | (with_reducible refine r_I ?cnd ?_; (case cnd => first | decide | omega | assumption | (unfold CPow; decide)))
  | ((with_reducible show RTy _ _ _ _ _); refine r_tyL (by walk_at "l") ?_)
  | (with_reducible refine r_ifDT (by walk_at "c") ?_) | (with_reducible refine r_ifDF (by walk_at "c") ?_)
  | (with_reducible refine r_ifNT (by walk_at "c") ?_) | (with_reducible refine r_ifNF (by walk_at "c") ?_))
local macro_rules | `(tactic| walk_at "go") => `(tactic| repeat (first | walk_at "g1" | walk_at "g2"))

variable {n b c : L2.St → Hp → Prop} {r : VK} {σ : L2.St} {H H' : Hp} {Q : VK} {t : TS} {te ta tb : TE} {x y v : V} {K : PySem.W.Frag} {E : En} {F F' : Hp} {L L' L1 L2 : Led} {p a : Addr} {xs ys : List V} {ns ms : List Int} {k : Bool} {o o' : HO}
theorem r_isE {D S : Addr} {b : Bool} (C : ExcC K D) (h : PySem.W.kitOne K (.ref D) (.ref S) = some b) (q : Q (.bl b) H) : rIsE' K a (.ref D) none [.ref a, .ref S] H Q := ⟨D, rfl, rfl, C, .ref S, .ref S, b, rfl, fun u r => r, h, q⟩
theorem r_isiC {C : Addr} (ty : TyX K H (.ref a) (.ref C)) (q : Q (.bl true) H) : rIsi K [.ref a, .ref C] H Q := ⟨.ref a, .ref C, .ref C, .ref C, true, rfl, .own C, ty, kit_self, q⟩
theorem r_all {bs : List Bool} (h : SqL K H a (bs.map V.bl)) (q : Q (.bl (bs.all id)) H) : rAll K [.ref a] H Q := ⟨a, bs, rfl, h, q⟩
theorem r_any {bs : List Bool} (h : SqL K H a (bs.map V.bl)) (q : Q (.bl (bs.any id)) H) : rAny K [.ref a] H Q := ⟨a, bs, rfl, h, q⟩
theorem set_slot {i n : Nat} {v : Option V} (h : σ.length = n) (hi : i < n) : (σ.set i v)[i]? = some v := List.getElem?_set_self (by omega)
/-! ## calls that hand back what they own -/
theorem St.join (G : St E F H L) (w : St ⟨F, H⟩ F' H' L1) : St E F' H' (L1 ++ L) := by
  have G1 : St E F' H' L := G.call w.gr
  refine ⟨G1.bh, G1.fh, G1.ff, G1.pr, fun x hx => ?_, nd_app w.nd G.nd fun x hx y hy e => ?_⟩
  · rcases List.mem_append.mp hx with q | q
    · obtain ⟨h1, h2, h3⟩ := w.own x q
      exact ⟨h1, h2, free_of G.bh h3⟩
    · exact G1.own x q
  · have h1 : H x.1 = none := (w.own x hx).2.2
    rw [e, (G.own y hy).1] at h1
    cases h1
theorem St.joinB (G : St E F H L) (u : Upd L p o o' L') (w : St ⟨F, del H p⟩ F' H' ((p, o') :: L1)) : St E F' H' (L1 ++ L') := by
  have G1 : St E F' H' L' := G.callB u (w.grB List.mem_cons_self) (w.get List.mem_cons_self)
  have hn := w.nd
  rw [List.map_cons, List.nodup_cons] at hn
  have hf : ∀ x ∈ L1, H' x.1 = some x.2 ∧ F' x.1 = none ∧ H x.1 = none := fun x q => by
    obtain ⟨h1, h2, h3⟩ := w.own x (List.mem_cons_of_mem _ q)
    have ne : x.1 ≠ p := fun e => hn.1 (List.mem_map.mpr ⟨x, q, e⟩)
    exact ⟨h1, h2, by rw [← del_ne (H := H) ne]; exact h3⟩
  refine ⟨G1.bh, G1.fh, G1.ff, G1.pr, fun x hx => ?_, nd_app hn.2 G1.nd fun x hx y hy e => ?_⟩
  · rcases List.mem_append.mp hx with q | q
    · obtain ⟨h1, h2, h3⟩ := hf x q
      exact ⟨h1, h2, free_of G.bh h3⟩
    · exact G1.own x q
  · have h1 := (hf x hx).2.2
    have : y.1 ∈ L.map (·.1) := by rw [← u.fst]; exact List.mem_map.mpr ⟨y, hy, rfl⟩
    obtain ⟨z, hz, q⟩ := List.mem_map.mp this
    have q' : z.1 = y.1 := q
    rw [e, ← q', (G.own z hz).1] at h1
    cases h1
theorem St.dropL {L1 : Led} (G : St E F H (L1 ++ L)) : St E F H L := ⟨G.bh, G.fh, G.ff, G.pr, fun x hx => G.own x (List.mem_append_right _ hx), by have := G.nd; rw [List.map_append, List.nodup_append] at this; exact this.2.1⟩
/-! ## lists of refs that are owned -/
def rowV : List Addr → List (List V) → Led
  | a :: as, r :: rs => (a, .lst r) :: rowV as rs
  | _, _ => []
theorem rowV_upd : ∀ {as : List Addr} {rs : List (List V)} {j : Nat} {a : Addr} {r r' : List V}, as[j]? = some a → rs[j]? = some r → Upd (rowV as rs) a (.lst r) (.lst r') (rowV as (rs.set j r'))
  | [], _, _, _, _, _, h, _ => by simp at h
  | _ :: _, [], _, _, _, _, _, h => by simp at h
  | a :: as, r :: rs, 0, a', r0, r', h1, h2 => by
    simp at h1 h2
    subst h1 h2
    exact .head
  | a :: as, r :: rs, j + 1, a', r0, r', h1, h2 => .tail (rowV_upd (by simpa using h1) (by simpa using h2))
theorem rowV_snoc : ∀ {as : List Addr} {rs : List (List V)} {a : Addr} {r : List V}, as.length = rs.length → rowV (as ++ [a]) (rs ++ [r]) = rowV as rs ++ [(a, .lst r)]
  | [], [], _, _, _ => rfl
  | [], _ :: _, _, _, h => by cases h
  | _ :: _, [], _, _, h => by cases h
  | x :: as, y :: rs, a, r, h => by
    show (x, HO.lst y) :: rowV (as ++ [a]) (rs ++ [r]) = (x, HO.lst y) :: (rowV as rs ++ [(a, .lst r)])
    rw [rowV_snoc (by simpa using h)]
/-! ## a list in the heap or a tuple in the frozen part -/
def SqX (K : PySem.W.Frag) (F H : Hp) (a : Addr) (xs : List V) : Prop := SqL K H a xs ∨ SqT K F a xs
theorem SqX.mono (e : Same F F') (e2 : Same H H') (h : SqX K F H a xs) : SqX K F' H' a xs := by
  rcases h with h | h
  · exact .inl (lS e2 h)
  · exact .inr (tS e h)
theorem SqX.bb (e : Same F H) (h : SqX K F H a xs) : ∃ k, SqB K H a xs k := by
  rcases h with h | h
  · exact ⟨true, h⟩
  · exact ⟨false, tS e h⟩
theorem SqX.bs (h : SqX K F H a xs) : ∃ k, ∀ H', Same H H' → Same F H' → SqB K H' a xs k := by
  rcases h with h | h
  · exact ⟨true, fun _ e _ => lS e h⟩
  · exact ⟨false, fun _ _ e => tS e h⟩
theorem SqX.or (e : Same F H) (h : SqX K F H a xs) : SqL K H a xs ∨ SqT K H a xs := by
  rcases h with h | h
  · exact .inl h
  · exact .inr (tS e h)
theorem SqX.del {C dx : Addr} {fs : List (Str × V)} (e : H p = some (.ins C dx fs)) (h : SqX K F H a xs) : SqX K F (del H p) a xs := by
  rcases h with h | h
  · exact .inl (sq_del (k := true) e h)
  · exact .inr h
theorem r_tupX (G : St E F H L) (h : SqX K F H a xs) (q : ∀ F' H' t, Same F F' → Same H H' → SqT K F' t xs → St E F' H' L → Q (.ref t) H') : rTupOf K [.ref a] H Q := by
  rcases h with h | h
  · refine ⟨a, xs, rfl, .inl ⟨h, fun p hp => ?_⟩⟩
    obtain ⟨F1, s1, ht, G2⟩ := (G.new (o := .tup xs) hp).frz Tak.head
    exact q F1 _ _ s1 (same_new hp) (SqT.of ht) G2
  · exact r_tupofT (tS G.fh h) (q F H a (Same.refl _) (Same.refl _) h G)
inductive LeafX (K : PySem.W.Frag) (F H : Hp) : List Addr → List (List Int) → Prop
  | nil : LeafX K F H [] []
  | cons {a as ns rs} : SqX K F H a (iv ns) → LeafX K F H as rs → LeafX K F H (a :: as) (ns :: rs)
theorem LeafX.mono {as : List Addr} {rs : List (List Int)} (e : Same F F') (e2 : Same H H') (h : LeafX K F H as rs) : LeafX K F' H' as rs := by
  induction h with
  | nil => exact .nil
  | cons h1 _ ih => exact .cons (h1.mono e e2) ih
theorem LeafX.len {as : List Addr} {rs : List (List Int)} (h : LeafX K F H as rs) : as.length = rs.length := by
  induction h with
  | nil => rfl
  | cons _ _ ih => rw [List.length_cons, List.length_cons, ih]
theorem LeafX.del {C dx : Addr} {fs : List (Str × V)} {as : List Addr} {rs : List (List Int)} (e : H p = some (.ins C dx fs)) (h : LeafX K F H as rs) : LeafX K F (SL.del H p) as rs := by
  induction h with
  | nil => exact .nil
  | cons h1 _ ih => exact .cons (h1.del e) ih
theorem LeafX.at {as : List Addr} {rs : List (List Int)} (h : LeafX K F H as rs) : ∀ {i : Nat} {a : Addr}, as[i]? = some a → ∃ ns, rs[i]? = some ns ∧ SqX K F H a (iv ns) := by
  induction h with
  | nil => intro i a e; simp at e
  | cons h1 _ ih =>
    intro i a e
    cases i with
    | zero => rw [List.getElem?_cons_zero] at e; cases e; exact ⟨_, rfl, h1⟩
    | succ i => exact ih (by simpa using e)
theorem LeafX.ofL {as : List Addr} {rs : List (List Int)} (h : Rows K H true as rs) : LeafX K F H as rs := by
  induction h with
  | nil => exact .nil
  | cons h1 _ ih => exact .cons (.inl h1) ih
theorem LeafX.ofT {as : List Addr} {rs : List (List Int)} (h : Rows K F false as rs) : LeafX K F H as rs := by
  induction h with
  | nil => exact .nil
  | cons h1 _ ih => exact .cons (.inr h1) ih
inductive RowsX (K : PySem.W.Frag) (F H : Hp) : List Addr → List (List (List Int)) → Prop
  | nil : RowsX K F H [] []
  | cons {a as bs r rs} : SqX K F H a (rv bs) → LeafX K F H bs r → RowsX K F H as rs → RowsX K F H (a :: as) (r :: rs)
theorem RowsX.mono {as : List Addr} {rs : List (List (List Int))} (e : Same F F') (e2 : Same H H') (h : RowsX K F H as rs) : RowsX K F' H' as rs := by
  induction h with
  | nil => exact .nil
  | cons h1 h2 _ ih => exact .cons (h1.mono e e2) (h2.mono e e2) ih
theorem RowsX.len {as : List Addr} {rs : List (List (List Int))} (h : RowsX K F H as rs) : as.length = rs.length := by
  induction h with
  | nil => rfl
  | cons _ _ _ ih => rw [List.length_cons, List.length_cons, ih]
theorem RowsX.del {C dx : Addr} {fs : List (Str × V)} {as : List Addr} {rs : List (List (List Int))} (e : H p = some (.ins C dx fs)) (h : RowsX K F H as rs) : RowsX K F (SL.del H p) as rs := by
  induction h with
  | nil => exact .nil
  | cons h1 h2 _ ih => exact .cons (h1.del e) (h2.del e) ih
theorem RowsX.at {as : List Addr} {rs : List (List (List Int))} (h : RowsX K F H as rs) : ∀ {i : Nat} {a : Addr}, as[i]? = some a → ∃ bs r, rs[i]? = some r ∧ SqX K F H a (rv bs) ∧ LeafX K F H bs r := by
  induction h with
  | nil => intro i a e; simp at e
  | cons h1 h2 _ ih =>
    intro i a e
    cases i with
    | zero => rw [List.getElem?_cons_zero] at e; cases e; exact ⟨_, _, rfl, h1, h2⟩
    | succ i => exact ih (by simpa using e)
/-! ## rows of rows, all lists or all tuples -/
inductive Rows2 (K : PySem.W.Frag) (H : Hp) (k : Bool) : List Addr → List (List (List Int)) → Prop
  | nil : Rows2 K H k [] []
  | cons {a as bs r rs} : SqB K H a (rv bs) k → Rows K H k bs r → Rows2 K H k as rs → Rows2 K H k (a :: as) (r :: rs)
theorem Rows2.mono {as : List Addr} {rs : List (List (List Int))} (e : Same H H') (h : Rows2 K H k as rs) : Rows2 K H' k as rs := by
  induction h with
  | nil => exact .nil
  | cons h1 h2 _ ih => exact .cons (qS e h1) (h2.mono e) ih
theorem Rows2.len {as : List Addr} {rs : List (List (List Int))} (h : Rows2 K H k as rs) : as.length = rs.length := by
  induction h with
  | nil => rfl
  | cons _ _ _ ih => rw [List.length_cons, List.length_cons, ih]
theorem Rows2.at {as : List Addr} {rs : List (List (List Int))} (h : Rows2 K H k as rs) : ∀ {i : Nat} {a : Addr}, as[i]? = some a → ∃ bs r, rs[i]? = some r ∧ SqB K H a (rv bs) k ∧ Rows K H k bs r := by
  induction h with
  | nil => intro i a e; simp at e
  | cons h1 h2 _ ih =>
    intro i a e
    cases i with
    | zero => rw [List.getElem?_cons_zero] at e; cases e; exact ⟨_, _, rfl, h1, h2⟩
    | succ i => exact ih (by simpa using e)
theorem Rows2.snoc {as : List Addr} {bs : List Addr} {r : List (List Int)} {rs : List (List (List Int))} (h : Rows2 K H k as rs) (h1 : SqB K H a (rv bs) k) (h2 : Rows K H k bs r) : Rows2 K H k (as ++ [a]) (rs ++ [r]) := by
  induction h with
  | nil => exact .cons h1 h2 .nil
  | cons q1 q2 _ ih => exact .cons q1 q2 ih
theorem Rows2.set {as : List Addr} {bs : List Addr} {r : List (List Int)} {rs : List (List (List Int))} (h : Rows2 K H k as rs) (h1 : SqB K H a (rv bs) k) (h2 : Rows K H k bs r) : ∀ {j : Nat}, Rows2 K H k (as.set j a) (rs.set j r) := by
  induction h with
  | nil => intro j; exact .nil
  | cons q1 q2 hr ih =>
    intro j
    cases j with
    | zero => exact .cons h1 h2 hr
    | succ j => exact .cons q1 q2 ih
theorem _root_.SL.Rows.take {as : List Addr} {rs : List (List Int)} (h : Rows K H k as rs) : ∀ {n : Nat}, Rows K H k (as.take n) (rs.take n) := by
  induction h with
  | nil => intro n; rw [List.take_nil, List.take_nil]; exact .nil
  | cons h1 _ ih =>
    intro n
    cases n with
    | zero => exact .nil
    | succ n => exact .cons h1 ih
theorem Rows2.toX {as : List Addr} {rs : List (List (List Int))} (h : Rows2 K H true as rs) : RowsX K F H as rs := by
  induction h with
  | nil => exact .nil
  | cons h1 h2 _ ih => exact .cons (.inl h1) (.ofL h2) ih
theorem Rows2.toXT {as : List Addr} {rs : List (List (List Int))} (h : Rows2 K F false as rs) : RowsX K F H as rs := by
  induction h with
  | nil => exact .nil
  | cons h1 h2 _ ih => exact .cons (.inr h1) (.ofT h2) ih
abbrev dRow2 (r : List (List Int)) : PyData := .list (r.map (dRow true))
theorem Rows2.dp {as : List Addr} {rs : List (List (List Int))} (h : Rows2 K H true as rs) : DpAll K H (as.map V.ref) (rs.map dRow2) := by
  induction h with
  | nil => exact .nil
  | cons h1 h2 _ ih => exact .cons (.lst h1 h2.dp) ih
theorem shp_row2 {r : List (List Int)} : Shp 2 (dRow2 r) := shp_list (shpa_map fun _ _ => shp_row)
theorem eqv_row2 (xs ys : List (List Int)) : PyData.eqv (dRow2 xs) (dRow2 ys) = decide (xs = ys) := by
  rw [dRow2, dRow2, eqv_list]
  exact eqvAll_map eqv_row xs ys
/-- frozen leaves -/
inductive Leaf (K : PySem.W.Frag) (H : Hp) : List (List Addr) → List (List (List Int)) → Prop
  | nil : Leaf K H [] []
  | cons {bs r bss rs} : Rows K H true bs r → Leaf K H bss rs → Leaf K H (bs :: bss) (r :: rs)
theorem Leaf.mono {bss : List (List Addr)} {rs : List (List (List Int))} (e : Same H H') (h : Leaf K H bss rs) : Leaf K H' bss rs := by
  induction h with
  | nil => exact .nil
  | cons h1 _ ih => exact .cons (h1.mono e) ih
theorem Leaf.len {bss : List (List Addr)} {rs : List (List (List Int))} (h : Leaf K H bss rs) : bss.length = rs.length := by
  induction h with
  | nil => rfl
  | cons _ _ ih => rw [List.length_cons, List.length_cons, ih]
theorem Leaf.snoc {bs : List Addr} {r : List (List Int)} {bss : List (List Addr)} {rs : List (List (List Int))} (h : Leaf K H bss rs) (h1 : Rows K H true bs r) : Leaf K H (bss ++ [bs]) (rs ++ [r]) := by
  induction h with
  | nil => exact .cons h1 .nil
  | cons q1 _ ih => exact .cons q1 ih
theorem Leaf.set {bs : List Addr} {r : List (List Int)} {bss : List (List Addr)} {rs : List (List (List Int))} (h : Leaf K H bss rs) (h1 : Rows K H true bs r) : ∀ {j : Nat}, Leaf K H (bss.set j bs) (rs.set j r) := by
  induction h with
  | nil => intro j; exact .nil
  | cons q1 hr ih =>
    intro j
    cases j with
    | zero => exact .cons h1 hr
    | succ j => exact .cons q1 ih
theorem Leaf.at {bss : List (List Addr)} {rs : List (List (List Int))} (h : Leaf K H bss rs) : ∀ {i : Nat} {r : List (List Int)}, rs[i]? = some r → ∃ bs, bss[i]? = some bs ∧ Rows K H true bs r := by
  induction h with
  | nil => intro i a e; simp at e
  | cons h1 _ ih =>
    intro i a e
    cases i with
    | zero => rw [List.getElem?_cons_zero] at e; cases e; exact ⟨_, rfl, h1⟩
    | succ i => exact ih (by simpa using e)
theorem Rows2.of {as : List Addr} {bss : List (List Addr)} {rs : List (List (List Int))} (h : Leaf K H bss rs) (hl : as.length = bss.length) (hv : ∀ x ∈ rowV as (bss.map rv), H x.1 = some x.2) : Rows2 K H true as rs := by
  induction h generalizing as with
  | nil => cases as with
    | nil => exact .nil
    | cons _ _ => cases hl
  | cons h1 _ ih => cases as with
    | nil => cases hl
    | cons a as => exact .cons (show SqL K H a _ from SqL.of (hv _ List.mem_cons_self)) h1 (ih (by simpa using hl) fun x hx => hv x (List.mem_cons_of_mem _ hx))
/-! ## ascending lists of states -/
def asc (c : Int) : Int → List Int → Bool
  | _, [] => true
  | b, x :: xs => decide (b < x) && decide (x < c) && asc c x xs
theorem asc_iff {c : Int} : ∀ {ns : List Int} {b : Int}, asc c b ns = true ↔ (∀ x ∈ ns, b < x ∧ x < c) ∧ ns.Pairwise (· < ·)
  | [], b => by simp [asc]
  | x :: xs, b => by
    rw [asc, Bool.and_eq_true, Bool.and_eq_true, decide_eq_true_eq, decide_eq_true_eq, asc_iff (ns := xs) (b := x), List.pairwise_cons]
    constructor
    · rintro ⟨⟨h1, h2⟩, h3, h4⟩
      refine ⟨fun y hy => ?_, fun y hy => (h3 y hy).1, h4⟩
      rcases List.mem_cons.mp hy with e | e
      · subst e; exact ⟨h1, h2⟩
      · have := h3 y e; omega
    · rintro ⟨h1, h2, h3⟩
      exact ⟨h1 x List.mem_cons_self, fun y hy => ⟨h2 y hy, (h1 y (List.mem_cons_of_mem _ hy)).2⟩, h3⟩
theorem asc_mono {c c' b : Int} {ns : List Int} (h : asc c b ns = true) (hc : c ≤ c') : asc c' b ns = true := by
  obtain ⟨h1, h2⟩ := asc_iff.mp h
  exact asc_iff.mpr ⟨fun x hx => by have := h1 x hx; omega, h2⟩
theorem asc_snoc {c : Int} {ns : List Int} (h : asc c (-1) ns = true) (hc : 0 ≤ c) : asc (c + 1) (-1) (ns ++ [c]) = true := by
  obtain ⟨h1, h2⟩ := asc_iff.mp h
  refine asc_iff.mpr ⟨fun x hx => ?_, ?_⟩
  · rcases List.mem_append.mp hx with q | q
    · have := h1 x q; omega
    · rw [List.mem_singleton.mp q]; omega
  · rw [List.pairwise_append]
    exact ⟨h2, List.pairwise_singleton _ _, fun x hx y hy => by rw [List.mem_singleton.mp hy]; exact (h1 x hx).2⟩
theorem asc_len {c b : Int} : ∀ {ns : List Int}, asc c b ns = true → b < c → b + ns.length ≤ c - 1 + 0
  | [], _, hb => by simp; omega
  | x :: xs, h, hb => by
    rw [asc, Bool.and_eq_true, Bool.and_eq_true, decide_eq_true_eq, decide_eq_true_eq] at h
    have := asc_len h.2 h.1.2
    rw [List.length_cons]
    omega
theorem asc_get {ns : List Int} (h : ns.Pairwise (· < ·)) {i j : Nat} (hij : i < j) (hj : j < ns.length) : ns.getD i 0 < ns.getD j 0 := by
  have := List.pairwise_iff_getElem.mp h i j (by omega) hj hij
  rw [List.getD_eq_getElem?_getD, List.getD_eq_getElem?_getD, List.getElem?_eq_getElem (by omega), List.getElem?_eq_getElem hj]
  exact this
theorem drop_cons {α : Type} : ∀ {l : List α} {i : Nat} {x : α}, l[i]? = some x → l.drop i = x :: l.drop (i + 1)
  | [], i, x, h => by simp at h
  | y :: l, 0, x, h => by
    have e : y = x := Option.some.inj h
    rw [e]; rfl
  | y :: l, i + 1, x, h => by
    have ih := drop_cons (l := l) (i := i) (x := x) h
    rw [List.drop_succ_cons, ih]; rfl
/-! ## Buchi automata -/
structure Aok (m : Int) (is cs : List Int) (rs : List (List (List Int))) : Prop where
  m1 : 1 ≤ m
  ne : 0 < rs.length
  ai : asc rs.length (-1) is = true
  ac : asc rs.length (-1) cs = true
  rr : ∀ r ∈ rs, (r.length : Int) = m ∧ ∀ x ∈ r, asc rs.length (-1) x = true
def auF (m : Int) (ia ca ra : Addr) : List (Str × V) := [("letters", .int m), ("initial", .ref ia), ("accepting", .ref ca), ("rows", .ref ra)]
structure AuAt (K : PySem.W.Frag) (C : Addr) (F : Hp) (x : Addr) (m : Int) (is cs : List Int) (rs : List (List (List Int))) : Prop where
  ex : ∃ dx ia ca ra as, F x = some (.ins C dx (auF m ia ca ra)) ∧ SqT K F ia (iv is) ∧ SqT K F ca (iv cs) ∧ SqT K F ra (rv as) ∧ Rows2 K F false as rs
theorem AuAt.mono {C x : Addr} {m : Int} {is cs : List Int} {rs : List (List (List Int))} (e : Same F F') (h : AuAt K C F x m is cs rs) : AuAt K C F' x m is cs rs := by
  obtain ⟨dx, ia, ca, ra, as, h1, h2, h3, h4, h5⟩ := h.ex
  exact ⟨⟨dx, ia, ca, ra, as, e _ _ h1, tS e h2, tS e h3, tS e h4, h5.mono e⟩⟩
theorem la_letters {m : Int} {ia ca ra : Addr} : (auF m ia ca ra).lookup ("letters" : Str) = some (.int m) := rfl
theorem la_initial {m : Int} {ia ca ra : Addr} : (auF m ia ca ra).lookup ("initial" : Str) = some (.ref ia) := rfl
theorem la_accepting {m : Int} {ia ca ra : Addr} : (auF m ia ca ra).lookup ("accepting" : Str) = some (.ref ca) := rfl
theorem la_rows {m : Int} {ia ca ra : Addr} : (auF m ia ca ra).lookup ("rows" : Str) = some (.ref ra) := rfl
end
end SL

set_option Elab.async false
set_option linter.all false
set_option maxRecDepth 100000
set_option maxHeartbeats 4000000
namespace SL
open PySem L2
section

set_option hygiene false
local macro_rules | `(tactic| walk_at "m") => `(tactic| first | exact List.Mem.head _ | (refine List.Mem.tail _ ?_; walk_at "m"))
local macro_rules | `(tactic| walk_at "u") => `(tactic| first | exact Upd.head | (apply Upd.tail; walk_at "u"))
local macro_rules | `(tactic| walk_at "tk") => `(tactic| first | exact Tak.head | (apply Tak.tail; walk_at "tk"))
local macro_rules | `(tactic| walk_at "l") => `(tactic| first | assumption | exact lS (St.fh (by assumption)) (by assumption) | exact SqL.of (St.get (by assumption) (by walk_at "m")))
local macro_rules | `(tactic| walk_at "t") => `(tactic| first | assumption | exact tS (St.fh (by assumption)) (by assumption) | exact SqT.of (St.get (by assumption) (by walk_at "m")))
local macro_rules | `(tactic| walk_at "lt") => `(tactic| first | exact .inl (by walk_at "l") | exact .inr (by walk_at "t"))
local macro_rules | `(tactic| walk_at "sz") => `(tactic| first | (show _ ≤ sizeLine; decide) | exact sz (by simp) | exact szl (by simp) | exact sz (by omega) | exact szl (by omega) | exact sz (by simp; omega) | exact szl (by simp; omega))
local macro_rules | `(tactic| walk_at "c") => `(tactic| first | assumption | decide | omega)
local macro_rules | `(tactic| walk_at "g1") => `(tactic| with_reducible first
  | refine w_seq ?_ | refine w_asg ?_ | refine w_c ?_ | refine w_op ?_
  | refine r_I0 ?_ | refine w_test ?_ | refine r_b ?_ | refine w_if ?_ | refine w_cons ?_ | refine w_nil ?_
  | refine w_ret ?_ | refine w_drop ?_ | refine w_cb ?_ | refine w_call ?_ | refine w_next ?_ | refine w_tup ?_ | refine w_lst ?_ | refine w_bm ?_ | refine w_bm0 ?_
  | refine w_and ?_ | refine w_or ?_ | refine w_not ?_ | refine w_andV ?_ | refine w_orV ?_ | refine w_notV ?_ | refine w_tB ?_ | refine w_un ?_ | refine r_U ?_
  | refine w_for ?_ | refine w_iL ?_ | refine w_iT ?_ | refine w_i1 ?_ | refine w_i2 ?_ | refine w_sl ?_ | refine w_part ?_ | refine w_nopart ?_ | refine r_part ?_
  | refine r_eqI ?_ | refine r_neI ?_ | refine r_eqS ?_ | refine r_neS ?_ | refine r_eqB ?_ | refine r_neB ?_ | refine r_ifT ?_ | refine r_ifF ?_ | refine r_ifNt ?_ | refine r_ifNf ?_ | refine r_ifRN ?_ | refine r_ifNRN ?_ | refine r_ifNN ?_ | refine r_ifNNN ?_
  | refine w_ifE ?_ | refine r_int1 ?_ | refine r_int1b ?_ | refine r_isnone ?_ | refine r_notnone ?_ | refine r_max2 ?_ | refine r_min2 ?_ | refine r_ipI ?_ | refine w_tru ?_ | refine w_rs ?_
  | refine w_retN ?_ | refine w_break ?_ | refine w_cont ?_ | refine w_callS ?_ | refine w_asgG ?_ | refine w_gsub ?_ | refine w_fld ?_ | refine w_sfld ?_ | refine w_mk ?_ | refine w_lc ?_ | refine w_iSq ?_ | refine u_isint ?_ | refine w_dnew ?_ | refine w_dnotin ?_ | refine w_din ?_ | refine w_dget ?_ | refine w_dput ?_ | refine w_ckw ?_)
local macro_rules | `(tactic| walk_at "g2") => `(tactic| first
  | ((with_reducible refine' w_var ?hv ?_); (case hv => rfl)) | ((with_reducible refine' w_aug ?hv ?_); (case hv => rfl))
  | ((with_reducible show rLen _ _ _ _); refine r_len (by walk_at "lt") ?_)
  | (with_reducible refine r_I ?cnd ?_; (case cnd => first | decide | omega | assumption | (unfold CPow; decide)))
  | ((with_reducible show RTy _ _ _ _ _); refine r_tyL (by walk_at "l") ?_)
  | (with_reducible refine r_ifDT (by walk_at "c") ?_) | (with_reducible refine r_ifDF (by walk_at "c") ?_)
  | (with_reducible refine r_ifNT (by walk_at "c") ?_) | (with_reducible refine r_ifNF (by walk_at "c") ?_))
local macro_rules | `(tactic| walk_at "go") => `(tactic| repeat (first | walk_at "g1" | walk_at "g2"))

variable {n b c : L2.St → Hp → Prop} {r : VK} {σ : L2.St} {H H' : Hp} {Q : VK} {t : TS} {te ta tb ty td tv : TE} {x y v : V} {K : PySem.W.Frag} {E : En} {F F' : Hp} {L L' L1 : Led} {p a : Addr} {xs ys : List V} {ns ms : List Int} {k : Bool} {kvs : List (Key × V)} {i : Int}
/-! ## dicts with integers as keys -/
def RDNew (H : Hp) (Q : VK) : Prop := ∀ p, H p = none → Q (.ref p) (upd H p (.dK []))
theorem w_dnew (h : RDNew H Q) : tDNewK σ H Q := h
theorem r_dnew (G : St E F H L) (q : ∀ p H', St E F H' ((p, .dK []) :: L) → Q (.ref p) H') : RDNew H Q := fun p hp => q p _ (G.new hp)
def RDN (x y : V) (H : Hp) (Q : VK) : Prop := ∃ a o, x = .ref a ∧ DGet H a y o ∧ Q (.bl (!o.isSome)) H
def RDI (x y : V) (H : Hp) (Q : VK) : Prop := ∃ a o, x = .ref a ∧ DGet H a y o ∧ Q (.bl o.isSome) H
def RDG (x y : V) (H : Hp) (Q : VK) : Prop := ∃ a v, x = .ref a ∧ DGet H a y (some v) ∧ Q v H
def RDP (x y v : V) (H : Hp) (P : Hp → Prop) : Prop := ∃ a H4, x = .ref a ∧ DPut H a y v H4 ∧ P H4
theorem w_dnotin (h : ty σ H fun y H1 => td σ H1 fun x H2 => RDN x y H2 Q) : tDNotIn ty td σ H Q := h
theorem w_din (h : ty σ H fun y H1 => td σ H1 fun x H2 => RDI x y H2 Q) : tDIn ty td σ H Q := h
theorem w_dget (h : td σ H fun x H1 => ty σ H1 fun y H2 => RDG x y H2 Q) : tDGet td ty σ H Q := h
theorem w_dput (h : tv σ H fun v H1 => td σ H1 fun x H2 => ty σ H2 fun y H3 => RDP x y v H3 (n σ)) : sDPut td ty tv ⟨n, r, b, c⟩ σ H := h
theorem r_dnot (h : H a = some (.dK kvs)) (q : Q (.bl (!(valV kvs (.inl i)).isSome)) H) : RDN (.ref a) (.int i) H Q := ⟨a, _, rfl, DGet.k (k := .inl i) h, q⟩
theorem r_din (h : H a = some (.dK kvs)) (q : Q (.bl (valV kvs (.inl i)).isSome) H) : RDI (.ref a) (.int i) H Q := ⟨a, _, rfl, DGet.k (k := .inl i) h, q⟩
theorem r_dget (h : H a = some (.dK kvs)) (e : valV kvs (.inl i) = some v) (q : Q v H) : RDG (.ref a) (.int i) H Q := ⟨a, v, rfl, by rw [← e]; exact DGet.k (k := .inl i) h, q⟩
theorem r_dput {P : Hp → Prop} (G : St E F H L) (u : Upd L a (.dK kvs) (.dK (putK kvs (.inl i) v)) L') (hs : kvs.length < sizeLine) (q : ∀ H', St E F H' L' → P H') : RDP (.ref a) (.int i) v H P := ⟨a, _, rfl, DPut.k (k := .inl i) (G.get u.mem) hs, q _ (G.put u)⟩
theorem putK_new {k : Key} (h : valV kvs k = none) : putK kvs k v = kvs ++ [(k, v)] := by
  unfold putK
  rw [valV_any, h]
  rfl
/-- a dict that tells of the first numbers where they stand -/
def kvF (q : Nat → Int) (t : Nat) : List (Key × V) := (List.range t).map fun k => (.inl (q k), .int k)
theorem kvF_succ {q : Nat → Int} {t : Nat} : kvF q (t + 1) = kvF q t ++ [(.inl (q t), .int t)] := by
  unfold kvF; rw [List.range_succ, List.map_append]; rfl
theorem kvF_len {q : Nat → Int} {t : Nat} : (kvF q t).length = t := by unfold kvF; simp
theorem kvF_val {q : Nat → Int} {t : Nat} {z : Int} : (∃ k, k < t ∧ q k = z ∧ valV (kvF q t) (.inl z) = some (.int k)) ∨ (valV (kvF q t) (.inl z) = none ∧ ∀ k, k < t → q k ≠ z) := by
  induction t with
  | zero => exact .inr ⟨rfl, fun k h => absurd h (Nat.not_lt_zero _)⟩
  | succ t ih =>
    have e : valV (kvF q (t + 1)) (.inl z) = (valV (kvF q t) (.inl z)).or (valV [((.inl (q t) : Key), V.int t)] (.inl z)) := by
      rw [kvF_succ]
      unfold valV
      rw [List.find?_append]
      cases (List.find? (fun kv => decide (kv.1 = Sum.inl z)) (kvF q t)) <;> rfl
    rcases ih with ⟨k, h1, h2, h3⟩ | ⟨h1, h2⟩
    · exact .inl ⟨k, by omega, h2, by rw [e, h3]; rfl⟩
    · by_cases c : q t = z
      · refine .inl ⟨t, by omega, c, ?_⟩
        rw [e, h1, c, valV_pos rfl]; rfl
      · refine .inr ⟨?_, fun k hk => ?_⟩
        · rw [e, h1, valV_neg (fun w => c (Sum.inl.inj w))]; rfl
        · rcases Nat.lt_succ_iff_lt_or_eq.mp hk with w | w
          · exact h2 k w
          · rw [w]; exact c
/-! ## while -/
def RWb (k : Bool) (Pv : Nat → L2.St → Hp → Prop) (m : Nat) (t : TS) (n : L2.St → Hp → Prop) (r : VK) (σ : L2.St) (H : Hp) : Prop :=
  if k = true then ∃ N : L2.St → Hp → Prop, (∀ σ' H', N σ' H' → ∃ m', m' < m ∧ Pv m' σ' H') ∧ t { nx := N, rt := r, bk := n, ct := N } σ H else n σ H
theorem r_while {c' : TT} (Pv : Nat → L2.St → Hp → Prop) (m : Nat) (h0 : Pv m σ H) (hs : ∀ m σ H, Pv m σ H → c' σ H fun k H1 => RWb k Pv m t n r σ H1) : tWhile c' t ⟨n, r, b, c⟩ σ H := ⟨Pv, ⟨m, h0⟩, hs⟩
theorem r_wb {Pv : Nat → L2.St → Hp → Prop} {m : Nat} (h1 : k = true → t ⟨fun σ' H' => ∃ m', m' < m ∧ Pv m' σ' H', r, n, fun σ' H' => ∃ m', m' < m ∧ Pv m' σ' H'⟩ σ H) (h2 : k = false → n σ H) : RWb k Pv m t n r σ H := by
  unfold RWb
  cases k with
  | true => rw [if_pos rfl]; exact ⟨_, fun _ _ h => h, h1 rfl⟩
  | false => rw [if_neg Bool.false_ne_true]; exact h2 rfl
/-! ## few places -/
theorem nodup_few : ∀ {n : Nat} {l : List Int}, l.Nodup → (∀ x ∈ l, 0 ≤ x ∧ x < n) → l.length ≤ n
  | 0, [], _, _ => Nat.le_refl _
  | 0, x :: l, _, h => by have := h x List.mem_cons_self; omega
  | n + 1, l, hn, h => by
    by_cases c : (n : Int) ∈ l
    · have e := List.length_erase_of_mem c
      have ih := nodup_few (n := n) (l := l.erase n) (hn.erase _) fun x hx => by
        have h1 := (List.Nodup.mem_erase_iff hn).mp hx
        have := h x h1.2
        have : x ≠ n := h1.1
        omega
      omega
    · have ih := nodup_few (n := n) (l := l) hn fun x hx => by
        have := h x hx
        have : x ≠ n := fun w => c (w ▸ hx)
        omega
      omega
def Inj (q : Nat → Int) (t : Nat) : Prop := ∀ a b, a < t → b < t → q a = q b → a = b
theorem inj_few {q : Nat → Int} {t n : Nat} (h : Inj q t) (hb : ∀ k, 0 ≤ q k ∧ q k < n) : t ≤ n := by
  have := nodup_few (n := n) (l := (List.range t).map q) (by
    unfold List.Nodup
    rw [List.pairwise_map]
    refine List.Pairwise.imp_of_mem (R := (· ≠ ·)) (fun {a b} ha hb ne w => ne (h a b (List.mem_range.mp ha) (List.mem_range.mp hb) w)) List.nodup_range) (fun x hx => by
    obtain ⟨k, _, rfl⟩ := List.mem_map.mp hx
    exact hb k)
  simpa using this
theorem pigeon {q : Nat → Int} {n : Nat} (hb : ∀ k, 0 ≤ q k ∧ q k < n) : ∃ i r, i < r ∧ r ≤ n ∧ q i = q r := by
  by_cases c : ∃ i r, i < r ∧ r ≤ n ∧ q i = q r
  · exact c
  · exfalso
    have : Inj q (n + 1) := fun a b ha hb e => by
      rcases Nat.lt_trichotomy a b with w | w | w
      · exact absurd ⟨a, b, w, by omega, e⟩ c
      · exact w
      · exact absurd ⟨b, a, w, by omega, e.symm⟩ c
    have := inj_few this hb
    omega
def InfBest (g : Nat → Int) (M : Int) : Prop := (∀ N, ∃ k, N ≤ k ∧ g k = M) ∧ ∃ N, ∀ k, N ≤ k → g k ≤ M
theorem InfBest.uniq {g : Nat → Int} {M M' : Int} (h : InfBest g M) (h' : InfBest g M') : M = M' := by
  obtain ⟨h1, N, h2⟩ := h
  obtain ⟨h3, N', h4⟩ := h'
  obtain ⟨k, k1, k2⟩ := h1 (max N N')
  obtain ⟨l, l1, l2⟩ := h3 (max N N')
  have a1 := h4 k (by omega)
  have a2 := h2 l (by omega)
  omega
theorem inf_best {q g : Nat → Int} {i r k0 : Nat} {M : Int} (hq : ∀ a b, q a = q b → q (a + 1) = q (b + 1)) (hg : ∀ a b, q a = q b → g a = g b) (e : q i = q r) (hir : i < r) (hb : ∀ k, i ≤ k → k < r → g k ≤ M) (hk : i ≤ k0) (hM : g k0 = M) : InfBest g M := by
  have per : ∀ s, q (i + s) = q (r + s) := fun s => by
    induction s with
    | zero => exact e
    | succ s ih => exact hq _ _ ih
  have per2 : ∀ k, i ≤ k → q (k + (r - i)) = q k := fun k h => by
    have := per (k - i)
    rw [show i + (k - i) = k from by omega, show r + (k - i) = k + (r - i) from by omega] at this
    exact this.symm
  have per3 : ∀ N, q (k0 + N * (r - i)) = q k0 := fun N => by
    induction N with
    | zero => rw [Nat.zero_mul]; rfl
    | succ N ih => rw [Nat.succ_mul, ← Nat.add_assoc, per2 _ (by omega), ih]
  have le : ∀ (f k : Nat), k ≤ f → i ≤ k → g k ≤ M := fun f => by
    induction f with
    | zero => intro k h1 h2; exact hb k h2 (by omega)
    | succ f ih =>
      intro k h1 h2
      by_cases c : k < r
      · exact hb k h2 c
      · have := per2 (k - (r - i)) (by omega)
        rw [show k - (r - i) + (r - i) = k from by omega] at this
        rw [hg _ _ this]
        exact ih _ (by omega) (by omega)
  refine ⟨fun N => ⟨k0 + N * (r - i), ?_, by rw [hg _ _ (per3 N)]; exact hM⟩, i, fun k h => le k k (Nat.le_refl _) h⟩
  have : N * 1 ≤ N * (r - i) := Nat.mul_le_mul_left _ (by omega)
  omega
/-! ## runs of parity automata -/
def mx (i j : Int) : Int := if j > i then j else i
theorem mx_le {i j : Int} : i ≤ mx i j ∧ j ≤ mx i j ∧ (mx i j = i ∨ mx i j = j) := by
  unfold mx
  split <;> omega
def stp (rs : List (List Int)) (s z : Int) : Int := (rs.getD s.toNat []).getD z.toNat 0
def gp (ps : List Int) (s : Int) : Int := ps.getD s.toNat 0
def run (rs : List (List Int)) (s : Int) (zs : List Int) : Int := zs.foldl (stp rs) s
def lb (rs : List (List Int)) (ps : List Int) : Int → List Int → Int → Int
  | _, [], b => b
  | s, z :: zs, b => lb rs ps (stp rs s z) zs (mx b (gp ps (stp rs s z)))
def qk (rs : List (List Int)) (ls : List Int) (s : Int) : Nat → Int
  | 0 => s
  | k + 1 => run rs (qk rs ls s k) ls
def gk (rs : List (List Int)) (ps ls : List Int) (s : Int) (k : Nat) : Int := lb rs ps (qk rs ls s k) ls 0
theorem run_snoc {rs : List (List Int)} {s z : Int} {zs : List Int} : run rs s (zs ++ [z]) = stp rs (run rs s zs) z := by
  unfold run; rw [List.foldl_append]; rfl
theorem lb_snoc {rs : List (List Int)} {ps : List Int} : ∀ {zs : List Int} {s z b : Int}, lb rs ps s (zs ++ [z]) b = mx (lb rs ps s zs b) (gp ps (stp rs (run rs s zs) z))
  | [], _, _, _ => rfl
  | y :: zs, s, z, b => by
    show lb rs ps (stp rs s y) (zs ++ [z]) _ = _
    rw [lb_snoc]; rfl
theorem lb_mx {rs : List (List Int)} {ps : List Int} : ∀ {zs : List Int} {s b : Int}, 0 ≤ b → lb rs ps s zs b = mx b (lb rs ps s zs 0) ∧ 0 ≤ lb rs ps s zs 0
  | [], s, b, hb => by refine ⟨?_, Int.le_refl _⟩; unfold lb mx; split <;> omega
  | z :: zs, s, b, hb => by
    have e1 := mx_le (i := b) (j := gp ps (stp rs s z))
    have e2 := mx_le (i := 0) (j := gp ps (stp rs s z))
    have i1 := lb_mx (rs := rs) (ps := ps) (zs := zs) (s := stp rs s z) (b := mx b (gp ps (stp rs s z))) (by omega)
    have i2 := lb_mx (rs := rs) (ps := ps) (zs := zs) (s := stp rs s z) (b := mx 0 (gp ps (stp rs s z))) (by omega)
    have e3 : lb rs ps s (z :: zs) b = lb rs ps (stp rs s z) zs (mx b (gp ps (stp rs s z))) := rfl
    have e4 : lb rs ps s (z :: zs) 0 = lb rs ps (stp rs s z) zs (mx 0 (gp ps (stp rs s z))) := rfl
    rw [e3, e4, i1.1, i2.1]
    generalize lb rs ps (stp rs s z) zs 0 = u at *
    generalize gp ps (stp rs s z) = w at *
    unfold mx
    refine ⟨?_, ?_⟩
    · repeat' split
      all_goals omega
    · repeat' split
      all_goals omega
theorem gk_pos {rs : List (List Int)} {ps ls : List Int} {s : Int} {k : Nat} : 0 ≤ gk rs ps ls s k := (lb_mx (b := 0) (Int.le_refl _)).2
theorem qk_next {rs : List (List Int)} {ls : List Int} {s : Int} {a b : Nat} (h : qk rs ls s a = qk rs ls s b) : qk rs ls s (a + 1) = qk rs ls s (b + 1) := by
  show run rs (qk rs ls s a) ls = run rs (qk rs ls s b) ls
  rw [h]
theorem gk_same {rs : List (List Int)} {ps ls : List Int} {s : Int} {a b : Nat} (h : qk rs ls s a = qk rs ls s b) : gk rs ps ls s a = gk rs ps ls s b := by
  unfold gk; rw [h]
/-- a lasso -/
structure LasAt (K : PySem.W.Frag) (H : Hp) (w : Addr) (hs ls : List Int) : Prop where
  ex : ∃ h l, SqT K H w [.ref h, .ref l] ∧ SqT K H h (iv hs) ∧ SqT K H l (iv ls)
theorem LasAt.mono {w : Addr} {hs ls : List Int} (e : Same H H') (h : LasAt K H w hs ls) : LasAt K H' w hs ls := by
  obtain ⟨h1, l, q1, q2, q3⟩ := h.ex
  exact ⟨⟨h1, l, tS e q1, tS e q2, tS e q3⟩⟩
theorem atI_rv {as : List Addr} {i : Int} {a : Addr} (h0 : 0 ≤ i) (h : as[i.toNat]? = some a) : atI (rv as) i = some (.ref a) := by
  have e : ((i.toNat : Nat) : Int) = i := by omega
  have q := atI_nat (xs := rv as) (j := i.toNat) (v := .ref a) (by rw [List.getElem?_map, h]; rfl)
  rw [e] at q
  exact q
theorem r_ifnn {k : Bool} {A B : Prop} (h : B) : RIf (decide (V.bl k = V.non)) A B := by rw [decide_eq_false (fun z => nomatch z)]; exact r_ifF h
end
end SL

set_option Elab.async false
set_option linter.all false
set_option maxRecDepth 100000
set_option maxHeartbeats 4000000
/-! words without end, borders and roots: numbers and lists alone -/
namespace SL
def Bd (x : Nat → Int) (n b : Nat) : Prop := b < n ∧ ∀ i, i < b → x i = x (n - b + i)
structure LBd (x : Nat → Int) (n b : Nat) : Prop where
  bd : Bd x n b
  mx : ∀ c, Bd x n c → c ≤ b
theorem bd_zero {x : Nat → Int} {n : Nat} (h : 0 < n) : Bd x n 0 := ⟨h, fun i h => absurd h (Nat.not_lt_zero _)⟩
theorem bd_trans {x : Nat → Int} {n b c : Nat} (h1 : Bd x n b) (h2 : Bd x b c) : Bd x n c := by
  obtain ⟨a1, a2⟩ := h1
  obtain ⟨b1, b2⟩ := h2
  refine ⟨by omega, fun i hi => ?_⟩
  rw [b2 i hi, a2 (b - c + i) (by omega)]
  congr 1
  omega
theorem bd_sub {x : Nat → Int} {n b c : Nat} (h1 : Bd x n b) (h2 : Bd x n c) (h : c < b) : Bd x b c := by
  obtain ⟨a1, a2⟩ := h1
  obtain ⟨b1, b2⟩ := h2
  refine ⟨h, fun i hi => ?_⟩
  rw [b2 i hi, a2 (b - c + i) (by omega)]
  congr 1
  omega
theorem bd_succ {x : Nat → Int} {n c : Nat} : Bd x (n + 1) (c + 1) ↔ Bd x n c ∧ x c = x n := by
  constructor
  · rintro ⟨h1, h2⟩
    refine ⟨⟨by omega, fun i hi => ?_⟩, ?_⟩
    · rw [h2 i (by omega)]; congr 1; omega
    · rw [h2 c (by omega)]; congr 1; omega
  · rintro ⟨⟨h1, h2⟩, h3⟩
    refine ⟨by omega, fun i hi => ?_⟩
    rcases Nat.lt_succ_iff_lt_or_eq.mp hi with q | q
    · rw [h2 i q]; congr 1; omega
    · subst q; rw [h3]; congr 1; omega
/-- a candidate while the border of the next prefix is looked for -/
structure Cand (x : Nat → Int) (k b : Nat) : Prop where
  bd : Bd x k b
  mx : ∀ c, Bd x (k + 1) (c + 1) → c ≤ b
theorem cand_of {x : Nat → Int} {k b : Nat} (h : LBd x k b) : Cand x k b := ⟨h.bd, fun c hc => h.mx c (bd_succ.mp hc).1⟩
theorem cand_step {x : Nat → Int} {k b b' : Nat} (h : Cand x k b) (ne : x k ≠ x b) (h' : LBd x b b') : Cand x k b' := by
  refine ⟨bd_trans h.bd h'.bd, fun c hc => ?_⟩
  obtain ⟨h1, h2⟩ := bd_succ.mp hc
  have h3 := h.mx c hc
  have h4 : c ≠ b := fun e => ne (by rw [← e, h2])
  exact h'.mx c (bd_sub h.bd h1 (by omega))
theorem cand_yes {x : Nat → Int} {k b : Nat} (h : Cand x k b) (e : x k = x b) : LBd x (k + 1) (b + 1) := by
  refine ⟨bd_succ.mpr ⟨h.bd, e.symm⟩, fun c hc => ?_⟩
  cases c with
  | zero => omega
  | succ c => have := h.mx c hc; omega
theorem cand_no {x : Nat → Int} {k : Nat} (h : Cand x k 0) (ne : x k ≠ x 0) : LBd x (k + 1) 0 := by
  refine ⟨bd_zero (by omega), fun c hc => ?_⟩
  cases c with
  | zero => omega
  | succ c =>
    have := h.mx c hc
    have e : c = 0 := by omega
    subst e
    exact absurd (bd_succ.mp hc).2.symm ne
/-! ## periods -/
def Per (x : Nat → Int) (n p : Nat) : Prop := ∀ i, i + p < n → x (i + p) = x i
theorem per_bd {x : Nat → Int} {n p : Nat} (h1 : 1 ≤ p) (h2 : p ≤ n) : Per x n p ↔ Bd x n (n - p) := by
  constructor
  · intro h
    refine ⟨by omega, fun i hi => ?_⟩
    have := h i (by omega)
    rw [← this]; congr 1; omega
  · rintro ⟨_, h⟩ i hi
    have := h i (by omega)
    rw [this]; congr 1; omega
theorem per_all {x : Nat → Int} {n p : Nat} (h : n ≤ p) : Per x n p := fun i hi => by omega
structure LPer (x : Nat → Int) (n p : Nat) : Prop where
  p1 : 1 ≤ p
  pn : p ≤ n
  per : Per x n p
  mn : ∀ q, 1 ≤ q → Per x n q → p ≤ q
theorem lper_of {x : Nat → Int} {n b : Nat} (h : LBd x n b) : LPer x n (n - b) := by
  have hb := h.bd.1
  refine ⟨by omega, by omega, (per_bd (by omega) (by omega)).mpr (by rw [show n - (n - b) = b from by omega]; exact h.bd), fun q hq hp => ?_⟩
  by_cases c : q ≤ n
  · have := h.mx _ ((per_bd hq c).mp hp)
    omega
  · omega
theorem per_diff {x : Nat → Int} {n p q : Nat} (hp : Per x n p) (hq : Per x n q) (h : p ≤ q) (hn : p + q ≤ n) : Per x n (q - p) := by
  intro i hi
  by_cases c : i + q < n
  · have h1 := hq i c
    have h2 := hp (i + (q - p)) (by omega)
    rw [show i + (q - p) + p = i + q from by omega] at h2
    rw [← h2, h1]
  · have h1 := hq (i - p) (by omega)
    have h2 := hp (i - p) (by omega)
    rw [show i - p + p = i from by omega] at h2
    rw [show i + (q - p) = i - p + q from by omega, h1, h2]
theorem per_dvd {x : Nat → Int} {n p : Nat} (h : LPer x n p) : ∀ (f q : Nat), q ≤ f → 1 ≤ q → Per x n q → p + q ≤ n → p ∣ q
  | 0, q, h1, h2, _, _ => by omega
  | f + 1, q, h1, h2, h3, h4 => by
    have h5 := h.mn q h2 h3
    by_cases c : q = p
    · rw [c]; exact Nat.dvd_refl _
    · have h6 := per_dvd h f (q - p) (by have := h.p1; omega) (by omega) (per_diff h.per h3 h5 h4) (by omega)
      have h7 := Nat.dvd_add h6 (Nat.dvd_refl p)
      rw [show q - p + p = q from by omega] at h7
      exact h7
/-- the shortest word of which a word of n letters is a power has p letters -/
structure IsRoot (x : Nat → Int) (n p : Nat) : Prop where
  p1 : 1 ≤ p
  dv : p ∣ n
  per : Per x n p
  mn : ∀ q, 1 ≤ q → q ∣ n → Per x n q → p ≤ q
theorem root_of {x : Nat → Int} {n p : Nat} (h0 : 0 < n) (h : LPer x n p) : IsRoot x n (if n % p = 0 then p else n) := by
  split
  · rename_i c
    exact ⟨h.p1, Nat.dvd_of_mod_eq_zero c, h.per, fun q hq _ hp => h.mn q hq hp⟩
  · rename_i c
    refine ⟨h0, Nat.dvd_refl _, per_all (Nat.le_refl _), fun q hq hd hp => ?_⟩
    by_cases e : q = n
    · omega
    · exfalso
      have hle := Nat.le_of_dvd h0 hd
      obtain ⟨k, hk⟩ := hd
      have k2 : 2 ≤ k := by
        rcases Nat.lt_or_ge k 2 with z | z
        · rcases (show k = 0 ∨ k = 1 by omega) with y | y
          · rw [y] at hk; omega
          · rw [y] at hk; omega
        · exact z
      have h2 : q * 2 ≤ q * k := Nat.mul_le_mul_left _ k2
      have h3 := h.mn q hq hp
      have h4 := per_dvd h q q (Nat.le_refl _) hq hp (by omega)
      have h5 : p ∣ n := Nat.dvd_trans h4 ⟨k, hk⟩
      exact c (Nat.mod_eq_zero_of_dvd h5)
theorem IsRoot.uniq {x : Nat → Int} {n p q : Nat} (h : IsRoot x n p) (h' : IsRoot x n q) : p = q := by
  have h1 := h.mn q h'.p1 h'.dv h'.per
  have h2 := h'.mn p h.p1 h.dv h.per
  omega
/-- a letter of a periodic word stands in its first period -/
theorem per_mod {x : Nat → Int} {n p : Nat} (h : Per x n p) (hp : 1 ≤ p) : ∀ (f i : Nat), i ≤ f → i < n → x i = x (i % p)
  | 0, i, h1, h2 => by
    have : i = 0 := by omega
    subst this
    rw [Nat.zero_mod]
  | f + 1, i, h1, h2 => by
    by_cases c : i < p
    · rw [Nat.mod_eq_of_lt c]
    · have := h (i - p) (by omega)
      rw [show i - p + p = i from by omega] at this
      rw [this, per_mod h hp f (i - p) (by omega) (by omega), ← Nat.mod_eq_sub_mod (by omega)]
/-! ## words of lassos -/
abbrev fx (ns : List Int) : Nat → Int := fun i => ns.getD i 0
def wd (hs ls : List Int) (i : Nat) : Int := if i < hs.length then fx hs i else fx ls ((i - hs.length) % ls.length)
def SameW (hs ls hs' ls' : List Int) : Prop := ∀ i, wd hs ls i = wd hs' ls' i
/-- the normal form -/
structure Nf (hs ls : List Int) : Prop where
  ne : 0 < ls.length
  rt : IsRoot (fx ls) ls.length ls.length
  lst : ∀ k, hs.length = k + 1 → fx hs k ≠ fx ls (ls.length - 1)
theorem wd_root {hs ls : List Int} {p : Nat} (h : IsRoot (fx ls) ls.length p) : SameW hs ls hs (ls.take p) := by
  intro i
  unfold wd
  have hd := h.dv
  by_cases hn : ls.length = 0
  · have e : ls = [] := List.length_eq_zero_iff.mp hn
    subst e; simp
  have hp : p ≤ ls.length := Nat.le_of_dvd (by omega) hd
  have hl : (ls.take p).length = p := by rw [List.length_take]; omega
  split
  · rfl
  · rw [hl]
    have h1 := per_mod h.per h.p1 _ ((i - hs.length) % ls.length) (Nat.le_refl _) (Nat.mod_lt _ (by omega))
    rw [h1, Nat.mod_mod_of_dvd _ hd]
    show ls.getD _ 0 = (ls.take p).getD _ 0
    have h2 : (i - hs.length) % p < p := Nat.mod_lt _ (by have := h.p1; omega)
    rw [List.getD_eq_getElem?_getD, List.getD_eq_getElem?_getD, List.getElem?_take, if_pos h2]
/-! ## read round and round -/
def rI (x : Nat → Int) (p : Nat) (z : Int) : Int := x (z % (p : Int)).toNat
theorem rI_nat {x : Nat → Int} {p i : Nat} (h : i < p) : rI x p i = x i := by
  unfold rI
  rw [show (i : Int) % (p : Int) = ((i % p : Nat) : Int) from (Int.natCast_emod i p).symm, Nat.mod_eq_of_lt h]
  rfl
theorem rI_mod {x : Nat → Int} {p : Nat} {z z' : Int} (h : z % (p : Int) = z' % (p : Int)) : rI x p z = rI x p z' := by unfold rI; rw [h]
theorem rI_add {x : Nat → Int} {p : Nat} {z : Int} : rI x p (z + p) = rI x p z := rI_mod (by rw [Int.add_emod_right])
theorem rI_natmod {x : Nat → Int} {p i : Nat} (hp : 0 < p) : x (i % p) = rI x p i := by
  unfold rI
  rw [show (i : Int) % (p : Int) = ((i % p : Nat) : Int) from (Int.natCast_emod i p).symm]
  rfl
theorem rI_per {x : Nat → Int} {p q : Nat} (hq : 1 ≤ q) (hp : 0 < p) (hd : q ∣ p) (h : Per x p q) (z : Int) : rI x p (z + q) = rI x p z := by
  have h0 : 0 ≤ z % (p : Int) := Int.emod_nonneg _ (by omega)
  have h1 : z % (p : Int) < p := Int.emod_lt_of_pos _ (by omega)
  have hle := Nat.le_of_dvd hp hd
  obtain ⟨i, hi⟩ : ∃ i : Nat, z % (p : Int) = i := ⟨(z % (p : Int)).toNat, by omega⟩
  have e1 : rI x p z = x i := by unfold rI; rw [hi]; rfl
  have e2 : (z + q) % (p : Int) = ((i : Int) + q) % p := by rw [← hi, Int.emod_add_emod]
  have hip : i < p := by omega
  by_cases c : i + q < p
  · have e3 : rI x p (z + q) = x (i + q) := by
      unfold rI
      rw [e2, show ((i : Int) + q) % (p : Int) = (i : Int) + q from Int.emod_eq_of_lt (by omega) (by omega)]
      rfl
    rw [e1, e3, h i c]
  · have e3 : rI x p (z + q) = x (i + q - p) := by
      unfold rI
      rw [e2, show ((i : Int) + q) % (p : Int) = (i : Int) + q - p from by
        rw [show (i : Int) + q = ((i : Int) + q - p) + p from by omega, Int.add_emod_right, Int.emod_eq_of_lt (by omega) (by omega)]
        omega]
      congr 1
      omega
    obtain ⟨k, hk⟩ := hd
    rw [e1, e3, per_mod h hq _ i (Nat.le_refl _) hip, per_mod h hq _ (i + q - p) (Nat.le_refl _) (by omega)]
    congr 1
    have e4 : (i + q - p + p) % q = (i + q) % q := by congr 1; omega
    rw [Nat.add_mod_right, hk, Nat.add_mul_mod_self_left] at e4
    rw [hk]
    exact e4
/-- a loop begins earlier -/
def rotL (ls : List Int) (cut : Nat) : List Int := ls.drop cut ++ ls.take cut
theorem rotL_len {ls : List Int} {cut : Nat} : (rotL ls cut).length = ls.length := by unfold rotL; rw [List.length_append, List.length_drop, List.length_take]; omega
theorem rotL_at {ls : List Int} {cut i : Nat} (hc : cut ≤ ls.length) (hi : i < ls.length) : fx (rotL ls cut) i = rI (fx ls) ls.length ((i : Int) + cut) := by
  have hr : fx (rotL ls cut) i = if i < ls.length - cut then fx ls (i + cut) else fx ls (i + cut - ls.length) := by
    show (rotL ls cut).getD i 0 = _
    unfold rotL
    rw [List.getD_eq_getElem?_getD, List.getElem?_append, List.length_drop]
    split
    · rw [List.getElem?_drop, Nat.add_comm cut i]; rfl
    · rw [List.getElem?_take, if_pos (by omega), show i - (ls.length - cut) = i + cut - ls.length from by omega]; rfl
  rw [hr]
  split
  · rw [show (i : Int) + cut = ((i + cut : Nat) : Int) from by omega, rI_nat (by omega)]
  · rw [show (i : Int) + cut = ((i + cut - ls.length : Nat) : Int) + (ls.length : Nat) from by omega, rI_add, rI_nat (by omega)]
/-- what the search for the shortest head ends with -/
theorem nf_of {hs R : List Int} {kept moved cut : Nat} (h0 : 0 < R.length) (hR : IsRoot (fx R) R.length R.length) (hk : kept + moved = hs.length) (hm : ∀ t, t < moved → fx hs (hs.length - 1 - t) = rI (fx R) R.length (-1 - (t : Int)))
    (hx : 0 < kept → fx hs (kept - 1) ≠ rI (fx R) R.length (-1 - (moved : Int))) (hc : (cut : Int) = R.length - (moved : Int) % R.length) : Nf (hs.take kept) (rotL R cut) ∧ SameW hs R (hs.take kept) (rotL R cut) := by
  have hcle : cut ≤ R.length := by have : 0 ≤ (moved : Int) % R.length := Int.emod_nonneg _ (by omega); omega
  have hkl : (hs.take kept).length = kept := by rw [List.length_take]; omega
  have hcm : ∀ z : Int, rI (fx R) R.length (z + cut) = rI (fx R) R.length (z - moved) := fun z => by
    rw [hc, show z + ((R.length : Int) - (moved : Int) % R.length) = (z - (moved : Int) % R.length) + (R.length : Nat) from by omega, rI_add]
    exact rI_mod (by rw [Int.sub_emod_emod])
  have hrot : ∀ i : Nat, i < R.length → fx (rotL R cut) i = rI (fx R) R.length ((i : Int) - moved) := fun i hi => by rw [rotL_at hcle hi, hcm]
  have hmod : ∀ i : Nat, fx (rotL R cut) (i % R.length) = rI (fx R) R.length ((i : Int) - moved) := fun i => by
    rw [hrot _ (Nat.mod_lt _ h0)]
    exact rI_mod (by rw [Int.natCast_emod, Int.emod_sub_emod])
  refine ⟨⟨by rw [rotL_len]; exact h0, ⟨by rw [rotL_len]; omega, Nat.dvd_refl _, per_all (Nat.le_refl _), fun q hq hd hp => ?_⟩, fun k hk2 => ?_⟩, fun i => ?_⟩
  · rw [rotL_len] at hd hp ⊢
    refine hR.mn q hq hd fun i hi => ?_
    have h1 := rI_per hq h0 hd hp ((i : Int) + moved)
    have h2 : ∀ z : Int, rI (fx (rotL R cut)) R.length z = rI (fx R) R.length (z - moved) := fun z => by
      have z0 : 0 ≤ z % (R.length : Int) := Int.emod_nonneg _ (by omega)
      have z1 : z % (R.length : Int) < R.length := Int.emod_lt_of_pos _ (by omega)
      obtain ⟨j, hj⟩ : ∃ j : Nat, z % (R.length : Int) = j := ⟨(z % (R.length : Int)).toNat, by omega⟩
      have : rI (fx (rotL R cut)) R.length z = fx (rotL R cut) j := by unfold rI; rw [hj]; rfl
      rw [this, hrot j (by omega), ← hj]
      exact rI_mod (by rw [Int.emod_sub_emod])
    rw [h2, h2, show (i : Int) + moved + q - moved = ((i + q : Nat) : Int) from by omega, show (i : Int) + moved - moved = (i : Int) from by omega, rI_nat hi, rI_nat (by omega)] at h1
    exact h1
  · rw [hkl] at hk2
    rw [rotL_len, hrot _ (by omega)]
    have e1 : fx (hs.take kept) k = fx hs k := by
      show (hs.take kept).getD k 0 = hs.getD k 0
      rw [List.getD_eq_getElem?_getD, List.getD_eq_getElem?_getD, List.getElem?_take, if_pos (by omega)]
    rw [e1, show (((R.length - 1 : Nat) : Int) - moved) = (-1 - (moved : Int)) + (R.length : Nat) from by omega, rI_add]
    have := hx (by omega)
    rw [show kept - 1 = k from by omega] at this
    exact this
  · unfold wd
    rw [hkl, rotL_len]
    by_cases c1 : i < kept
    · rw [if_pos c1, if_pos (by omega)]
      show hs.getD i 0 = (hs.take kept).getD i 0
      rw [List.getD_eq_getElem?_getD, List.getD_eq_getElem?_getD, List.getElem?_take, if_pos c1]
    · rw [if_neg c1, hmod]
      by_cases c2 : i < hs.length
      · rw [if_pos c2]
        have := hm (hs.length - 1 - i) (by omega)
        rw [show hs.length - 1 - (hs.length - 1 - i) = i from by omega] at this
        rw [this]
        congr 1
        omega
      · rw [if_neg c2, rI_natmod (x := fx R) h0]
        congr 1
        omega
end SL

set_option Elab.async false
set_option linter.all false
set_option maxRecDepth 100000
set_option maxHeartbeats 4000000
namespace L2
open PySem PySem.Spec PyProof.Rows
/-! ## a part of a list or of a tuple -/
def rSlQ (K : PySem.W.Frag) : V → Option Int → Option Int → Hp → VK → Prop := fun x lo hi H Q => rSlL K x lo hi H Q ∨ rSlA K x lo hi H Q
theorem sl_seq {X : Cx} : SlR X (rSlQ X.K) := sl_list.or sl_tupA
end L2
namespace SL
open PySem L2
section

set_option hygiene false
local macro_rules | `(tactic| walk_at "m") => `(tactic| first | exact List.Mem.head _ | (refine List.Mem.tail _ ?_; walk_at "m"))
local macro_rules | `(tactic| walk_at "u") => `(tactic| first | exact Upd.head | (apply Upd.tail; walk_at "u"))
local macro_rules | `(tactic| walk_at "tk") => `(tactic| first | exact Tak.head | (apply Tak.tail; walk_at "tk"))
local macro_rules | `(tactic| walk_at "l") => `(tactic| first | assumption | exact lS (St.fh (by assumption)) (by assumption) | exact SqL.of (St.get (by assumption) (by walk_at "m")))
local macro_rules | `(tactic| walk_at "t") => `(tactic| first | assumption | exact tS (St.fh (by assumption)) (by assumption) | exact SqT.of (St.get (by assumption) (by walk_at "m")))
local macro_rules | `(tactic| walk_at "lt") => `(tactic| first | exact .inl (by walk_at "l") | exact .inr (by walk_at "t"))
local macro_rules | `(tactic| walk_at "sz") => `(tactic| first | (show _ ≤ sizeLine; decide) | exact sz (by simp) | exact szl (by simp) | exact sz (by omega) | exact szl (by omega) | exact sz (by simp; omega) | exact szl (by simp; omega))
local macro_rules | `(tactic| walk_at "c") => `(tactic| first | assumption | decide | omega)
local macro_rules | `(tactic| walk_at "g1") => `(tactic| with_reducible first
  | refine w_seq ?_ | refine w_asg ?_ | refine w_c ?_ | refine w_op ?_
  | refine r_I0 ?_ | refine w_test ?_ | refine r_b ?_ | refine w_if ?_ | refine w_cons ?_ | refine w_nil ?_
  | refine w_ret ?_ | refine w_drop ?_ | refine w_cb ?_ | refine w_call ?_ | refine w_next ?_ | refine w_tup ?_ | refine w_lst ?_ | refine w_bm ?_ | refine w_bm0 ?_
  | refine w_and ?_ | refine w_or ?_ | refine w_not ?_ | refine w_andV ?_ | refine w_orV ?_ | refine w_notV ?_ | refine w_tB ?_ | refine w_un ?_ | refine r_U ?_
  | refine w_for ?_ | refine w_iL ?_ | refine w_iT ?_ | refine w_i1 ?_ | refine w_i2 ?_ | refine w_sl ?_ | refine w_part ?_ | refine w_nopart ?_ | refine r_part ?_
  | refine r_eqI ?_ | refine r_neI ?_ | refine r_eqS ?_ | refine r_neS ?_ | refine r_eqB ?_ | refine r_neB ?_ | refine r_ifT ?_ | refine r_ifF ?_ | refine r_ifNt ?_ | refine r_ifNf ?_ | refine r_ifRN ?_ | refine r_ifNRN ?_ | refine r_ifNN ?_ | refine r_ifNNN ?_
  | refine w_ifE ?_ | refine r_int1 ?_ | refine r_int1b ?_ | refine r_isnone ?_ | refine r_notnone ?_ | refine r_max2 ?_ | refine r_min2 ?_ | refine r_ipI ?_ | refine w_tru ?_ | refine w_rs ?_
  | refine w_retN ?_ | refine w_break ?_ | refine w_cont ?_ | refine w_callS ?_ | refine w_asgG ?_ | refine w_gsub ?_ | refine w_fld ?_ | refine w_sfld ?_ | refine w_mk ?_ | refine w_lc ?_ | refine w_iSq ?_ | refine u_isint ?_ | refine w_dnew ?_ | refine w_dnotin ?_ | refine w_din ?_ | refine w_dget ?_ | refine w_dput ?_ | refine w_ckw ?_)
local macro_rules | `(tactic| walk_at "g2") => `(tactic| first
  | ((with_reducible refine' w_var ?hv ?_); (case hv => rfl)) | ((with_reducible refine' w_aug ?hv ?_); (case hv => rfl))
  | ((with_reducible show rLen _ _ _ _); refine r_len (by walk_at "lt") ?_)
  | (with_reducible refine r_I ?cnd ?_; (case cnd => first | decide | omega | assumption | (unfold CPow; decide)))
  | ((with_reducible show RTy _ _ _ _ _); refine r_tyL (by walk_at "l") ?_)
  | (with_reducible refine r_ifDT (by walk_at "c") ?_) | (with_reducible refine r_ifDF (by walk_at "c") ?_)
  | (with_reducible refine r_ifNT (by walk_at "c") ?_) | (with_reducible refine r_ifNF (by walk_at "c") ?_))
local macro_rules | `(tactic| walk_at "go") => `(tactic| repeat (first | walk_at "g1" | walk_at "g2"))

variable {n b c : L2.St → Hp → Prop} {r : VK} {σ : L2.St} {H H' : Hp} {Q : VK} {t : TS} {te ta tb : TE} {x y v : V} {K : PySem.W.Frag} {E : En} {F F' : Hp} {L L' L1 : Led} {p a : Addr} {xs ys : List V} {ns ms : List Int} {k : Bool} {lo hi : Option Int}
theorem cut_full (h : HT.sIx xs.length 0 lo = 0 ∧ HT.sIx xs.length xs.length hi = xs.length) : cutV xs lo hi = xs := by
  unfold cutV
  rw [h.1, h.2]
  simp
/-- a part of a tuple, that lies still -/
theorem r_slAX (G : St E F H L) (h : SqT K F a xs) (q : ∀ F' H' t, Same F F' → Same H H' → SqT K F' t (cutV xs lo hi) → St E F' H' L → Q (.ref t) H') : rSlA K (.ref a) lo hi H Q := by
  refine ⟨a, xs, rfl, tS G.fh h, fun w => ?_, fun _ p hp => ?_⟩
  · exact q F H a (Same.refl _) (Same.refl _) (by rw [cut_full w]; exact h) G
  · obtain ⟨F1, s1, ht, G2⟩ := (G.new (o := .tup (cutV xs lo hi)) hp).frz Tak.head
    exact q F1 _ p s1 (same_new hp) (SqT.of ht) G2
/-- a part of a list or a tuple -/
theorem r_slX (G : St E F H L) (h : SqX K F H a xs) (q : ∀ F' H' t, Same F F' → Same H H' → SqX K F' F' t (cutV xs lo hi) → St E F' H' L → Q (.ref t) H') : rSlQ K (.ref a) lo hi H Q := by
  rcases h with h | h
  · refine .inl ⟨a, xs, rfl, h, fun p hp => ?_⟩
    obtain ⟨F1, s1, ht, G2⟩ := (G.new (o := .lst (cutV xs lo hi)) hp).frz Tak.head
    exact q F1 _ p s1 (same_new hp) (.inl (SqL.of ht)) G2
  · exact .inr (r_slAX G h fun F' H' t s1 s2 ht G' => q F' H' t s1 s2 (.inr ht) G')
theorem r_catAX {a2 : Addr} (G : St E F H L) (h : SqT K F a xs) (h2 : SqT K F a2 ys) (hs : xs.length + ys.length ≤ sizeLine) (q : ∀ F' H' t, Same F F' → Same H H' → SqT K F' t (xs ++ ys) → St E F' H' L → Q (.ref t) H') : rCatA K (.ref a) (.ref a2) H Q := by
  refine ⟨a, a2, xs, ys, rfl, rfl, tS G.fh h, tS G.fh h2, hs, fun e => ?_, fun _ e => ?_, fun _ _ p hp => ?_⟩
  · subst e; exact q F H a2 (Same.refl _) (Same.refl _) h2 G
  · subst e; exact q F H a (Same.refl _) (Same.refl _) (by rw [List.append_nil]; exact h) G
  · obtain ⟨F1, s1, ht, G2⟩ := (G.new (o := .tup (xs ++ ys)) hp).frz Tak.head
    exact q F1 _ p s1 (same_new hp) (SqT.of ht) G2
theorem r_ixQ {i : Int} (h : SqL K H a xs ∨ SqT K H a xs) (e : atI xs i = some v) (q : Q v H) : rIx K (.ref a) (.int i) H Q := by
  rcases h with h | h
  · exact .inl (r_ixL h e q)
  · exact .inr (.inl (r_ixT h e q))
theorem r_rep {m : Int} (G : St E F H L) (u : (a, HO.lst xs) ∈ L) (h0 : 0 ≤ m) (h1 : m < 2 ^ 63) (hs : xs.length * m.toNat ≤ sizeLine) (q : ∀ p H', St E F H' ((p, .lst (List.replicate m.toNat xs).flatten) :: L) → Q (.ref p) H') : rRep (.ref a) (.int m) H Q :=
  ⟨a, m, xs, rfl, rfl, G.get u, by omega, h1, hs, fun p hp => q p _ (G.new hp)⟩
theorem flat_one {α : Type} {z : α} : ∀ {m : Nat}, (List.replicate m [z]).flatten = List.replicate m z
  | 0 => rfl
  | m + 1 => by rw [List.replicate_succ, List.flatten_cons, flat_one, List.replicate_succ]; rfl
theorem r_wA {Pv : Nat → L2.St → Hp → Prop} {m : Nat} (h1 : t ⟨fun σ' H' => ∃ m', m' < m ∧ Pv m' σ' H', r, n, fun σ' H' => ∃ m', m' < m ∧ Pv m' σ' H'⟩ σ H) : RWb true Pv m t n r σ H := r_wb (fun _ => h1) (fun z => by cases z)
theorem r_wB {Pv : Nat → L2.St → Hp → Prop} {m : Nat} (h2 : n σ H) : RWb false Pv m t n r σ H := r_wb (fun z => by cases z) (fun _ => h2)
theorem r_wD {p : Prop} [Decidable p] {Pv : Nat → L2.St → Hp → Prop} {m : Nat} (h1 : p → t ⟨fun σ' H' => ∃ m', m' < m ∧ Pv m' σ' H', r, n, fun σ' H' => ∃ m', m' < m ∧ Pv m' σ' H'⟩ σ H) (h2 : ¬ p → n σ H) : RWb (decide p) Pv m t n r σ H := r_wb (fun z => h1 (of_decide_eq_true z)) (fun z => h2 (of_decide_eq_false z))
theorem r_wN {p : Prop} [Decidable p] {Pv : Nat → L2.St → Hp → Prop} {m : Nat} (h1 : ¬ p → t ⟨fun σ' H' => ∃ m', m' < m ∧ Pv m' σ' H', r, n, fun σ' H' => ∃ m', m' < m ∧ Pv m' σ' H'⟩ σ H) (h2 : p → n σ H) : RWb (!decide p) Pv m t n r σ H := r_wb (fun z => h1 (by simpa using z)) (fun z => h2 (by simpa using z))
theorem w_rng2n {n' : Nat} {R : It → Hp → Prop} {i : Int} (h : -(2 ^ 62) ≤ i ∧ i < 2 ^ 62 ∧ (n' : Int) < 2 ^ 62) (q : R (Itr i ((n' : Int) - i).toNat) H) : RI2 [.int i, .int n'] H R := r_i2 (by omega) q
end
end SL

set_option Elab.async false
set_option linter.all false
set_option maxRecDepth 100000
set_option maxHeartbeats 4000000
namespace L2
open PySem PySem.Spec PyProof.Rows
/-! ## several except clauses, each with a name for its error or without one -/
def hEnds (D : Ends) : Option Nat → Ends
  | none => D
  | some i => ⟨fun σ1 H1 => D.nx (σ1.set i none) H1, D.rt, fun σ1 H1 => D.bk (σ1.set i none) H1, fun σ1 H1 => D.ct (σ1.set i none) H1⟩
def hSt (σ : St) (a : Addr) : Option Nat → St
  | none => σ
  | some i => σ.set i (some (.ref a))
abbrev Hdl := Value × Option Nat × (Addr → Value → Option Addr → TS)
def wHds (K : PySem.W.Frag) (Wo : WX) (D : Ends) : List Hdl → WX
  | [] => Wo
  | h :: r => fun cls d σ H => ∃ b, PySem.W.exmOne K cls h.1 = some b ∧ (b = true → ∀ a, H a = none → h.2.2 a cls d (hEnds D h.2.1) (hSt σ a h.2.1) H) ∧ (b = false → wHds K Wo D r cls d σ H)
/-- the name of a clause and its slot -/
def NameIn (X : Cx) : Option Str → Option Nat → Prop
  | none, none => True
  | some n, some i => X.N[i]? = some n ∧ X.env.kindOf n = some .local
  | _, _ => False
inductive HdsN (X : Cx) : List ExceptHandler → List Hdl → Prop
  | nil : HdsN X [] []
  | cons {x : Str} {c : Value} {s : Option Nat} {on : Option Str} {ts : Addr → Value → Option Addr → TS} {q₀ : Stmt} {qs : List Stmt} {p1 p2 : Pos} {hr : List ExceptHandler} {lr : List Hdl} (hn : NameIn X on s) (hc : Names X x c)
      (hq : ∀ (a : Addr) (oe : Obj) (cls : Value) (d : Option Addr) (pn : List (Addr × Obj)), Zc cls d oe → (∃ vs, oe.data = .fields vs) → PSs (X.suite a ((a, oe) :: pn)) (q₀ :: qs) (ts a cls d)) (rest : HdsN X hr lr) :
      HdsN X (.ExceptHandler (some (.Name x p1)) on (q₀ :: qs) p2 :: hr) ((c, s, ts) :: lr)
theorem flow_back {X : Cx} {pins : List (Addr × Obj)} {D : Ends} {a : Addr} {q : Addr × Obj} {f : Flow} {s6 : Shared} (ok : X.Ok) (h : SP (X.suite a (q :: (X.pn ++ pins))) [] D f s6) : SP X pins D f s6 := by
  cases f with
  | ret u =>
    obtain ⟨v, σ1, H1, S, r, w⟩ := h
    exact ⟨v, σ1, H1, S.unsuite ok, r, w⟩
  | next => obtain ⟨σ1, H1, S, w⟩ := h; exact ⟨σ1, H1, S.unsuite ok, w⟩
  | brk => obtain ⟨σ1, H1, S, w⟩ := h; exact ⟨σ1, H1, S.unsuite ok, w⟩
  | cont => obtain ⟨σ1, H1, S, w⟩ := h; exact ⟨σ1, H1, S.unsuite ok, w⟩
theorem flow_try {X : Cx} {pins : List (Addr × Obj)} {xe : Value → Shared → Prop} {D : Ends} {f : Flow} {s1 : Shared} (ok : X.Ok) (h : SP (X.tr (X.pn ++ pins) xe) [] D f s1) : SP X pins D f s1 := by
  cases f with
  | ret u =>
    obtain ⟨v, σ1, H1, S, r, w⟩ := h
    exact ⟨v, σ1, H1, S.ofTry ok, r, w⟩
  | next => obtain ⟨σ1, H1, S, w⟩ := h; exact ⟨σ1, H1, S.ofTry ok, w⟩
  | brk => obtain ⟨σ1, H1, S, w⟩ := h; exact ⟨σ1, H1, S.ofTry ok, w⟩
  | cont => obtain ⟨σ1, H1, S, w⟩ := h; exact ⟨σ1, H1, S.ofTry ok, w⟩
theorem ps_try_hds {X : Cx} {body : List Stmt} {hh : ExceptHandler} {hr : List ExceptHandler} {l : List Hdl} {pos : Pos} {tb : WX → TS} {Wo : WX} (stk : X.stack = X.env :: X.outer) (fr : X.env.frame = some X.env.locals) (nd : X.N.Nodup) (tk : Takes X Wo)
    (hb : ∀ (W : WX) (pn : List (Addr × Obj)) (xe : Value → Shared → Prop), Takes (X.tr pn xe) W → PassesOwn (model X.prog X.w) X.A X.env xe → PSs (X.tr pn xe) body (tb W)) (cl : HdsN X (hh :: hr) l) :
    PS X (.Try body (hh :: hr) [] [] pos) (fun D σ H => tb (wHds X.K Wo D l) D σ H) := by
  refine ⟨fun pins s σ H D I q => ?_⟩
  have okX := I.ok
  have frx : X.A.frames = some (X.env :: X.outer) := okX.frames.trans (congrArg some stk)
  let down : Value → Shared → Prop := fun e t1 => wpAny (model X.prog X.w) X.A (noteFrame e X.env) (fun _ t2 => wpAny (model X.prog X.w) X.A (setFlight e none) (fun _ t3 => wpAny (model X.prog X.w) X.A (handleBy e X.env (hh :: hr)) (SP X pins D) X.xe t3) X.xe t2) X.xe t1
  have caught : Takes (X.tr (X.pn ++ pins) down) (wHds X.K Wo D l) := by
    rintro u t ⟨a, B, tI, _, σ1, H1, cls, d, rfl, J0, nb, up, sky, na, os, ag, wish⟩
    have J := J0.ofTry okX
    have sky1 : Sky B (X.env :: X.outer) a (Zc cls d) X.env.locals t.heap := stk ▸ sky
    show wpAny (model X.prog X.w) X.A (noteFrame (.ref a) X.env) _ _ _
    refine Sky.land Zc.steady frx fr sky1 fun hA flA upA => ?_
    have JA : Inv X pins σ1 H1 { t with heap := hA } := J.landed nb flA.1 (up.trans upA) os ag
    obtain ⟨oeA, vsA, getA, zcA, fieldsA⟩ := flA.there
    have away : a ∉ frs (X.env :: X.outer) := fun mem => by
      obtain ⟨_, o1, g1, no⟩ := flA.2.2.1.mem mem
      rw [getA] at g1
      cases g1
      exact no _ fieldsA
    have aL : a ≠ X.env.locals := fun z => away (List.mem_filterMap.mpr ⟨X.env, List.mem_cons_self, by rw [fr, z]⟩)
    have aF : a ∉ X.fs := fun mem => by
      obtain ⟨e, he, z⟩ := List.mem_filterMap.mp mem
      exact away (List.mem_filterMap.mpr ⟨e, List.mem_cons_of_mem _ he, z⟩)
    have SA := JA.suite getA fieldsA na aL aF
    have walk : ∀ {hs' : List ExceptHandler} {l' : List Hdl}, HdsN X hs' l' → wHds X.K Wo D l' cls d σ1 H1 → wpAny (model X.prog X.w) X.A (handleBy (.ref a) X.env hs') (SP X pins D) X.xe { t with heap := hA } := fun cl' => by
      induction cl' with
      | nil =>
        intro w'
        obtain ⟨_, _, _, oe, vs, U, oU, us, g0, _, f0, at1, _⟩ := id flA
        refine wpAny_handleBy_nil ?_
        unfold PySem.passOn
        refine wpAny_bind (wpAny_field g0 f0 at1 ?_)
        have out : wpAny (model X.prog X.w) X.A (setFlight (.ref a) X.env.frame) (fun _ t4 => wpAny (model X.prog X.w) X.A (throw (.ref a) : Sem Flow) (SP X pins D) X.xe t4) X.xe { t with heap := hA } := by
          rw [fr]
          exact HandSPX.setFlight_upZ flA fun hB heldB upB => wpAny_throw (tk _ _ ⟨a, B, tI, pins, σ1, H1, cls, d, rfl, J, nb, (up.trans upA).trans upB, .inr (.inr (by rw [stk]; exact heldB)), na, os, ag, w'⟩)
        rw [if_neg (show ¬ (Value.ref U == Value.none) = true from by simp)]
        first
          | exact wpAny_bind (wpAny_pure (wpAny_bind out))
          | exact wpAny_bind out
      | @cons x c s on ts q₀ qs p1 p2 hr' lr' hn hc hq rest ih =>
        rintro ⟨b, m, yes, no⟩
        have lt : PySem.W.Looks (model X.prog X.w) hA (typeOf (.ref a)) cls := fun A' Q' E' t' k' q' => wpAny_typeOf_ref (k' _ _ getA) (by rw [zcA.1]; exact q')
        have name : ∀ {Q1 E1 : Value → Shared → Prop}, Q1 c { t with heap := hA } → wpAny (model X.prog X.w) (X.A.mark (some (.ref a))) (eval (.Name x p1) X.env) Q1 E1 { t with heap := hA } := fun {Q1 E1} z => by
          rcases hc with ⟨g, dbg, glob | ⟨ng, bl, nn⟩⟩
          · exact ld_glob (X := X.suite a ((a, oeA) :: (X.pn ++ pins))) SA g glob z dbg
          · exact ld_blt (X := X.suite a ((a, oeA) :: (X.pn ++ pins))) SA g ng bl z nn dbg
        refine wpAny_handleBy_cons (codeAny_handlers_test (name ((PySem.W.exm_one (M := model X.prog X.w) JA.kIn lt m).here ?_))) (by intro z; cases z)
        cases b with
        | false => exact ih (no rfl)
        | true =>
          have begin_ : ∀ {hB : Heap}, HandSPX.FlyingZ B (X.env :: X.outer) a (Zc cls d) hB → t.heap.UpToSlots hB → ∃ oe, Zc cls d oe ∧ (∃ vs, oe.data = .fields vs) ∧ Inv (X.suite a ((a, oe) :: (X.pn ++ pins))) [] σ1 H1 { t with heap := hB } := fun {hB} flB upB => by
            obtain ⟨oe, vs, g, z, f⟩ := flB.there
            have JB : Inv X pins σ1 H1 { t with heap := hB } := J.landed nb flB.1 (up.trans upB) os ag
            exact ⟨oe, z, ⟨vs, f⟩, JB.suite g f na aL aF⟩
          have go := yes rfl a na
          match on, s, hn with
          | none, none, _ =>
            refine codeAny_handlers_suite (HandSPX.lands_againZ flA fun hB flB upB => ?_)
            obtain ⟨oe, z, f, S⟩ := begin_ flB (upA.trans upB)
            exact wpAny_mono ((hq a oe cls d (X.pn ++ pins) z f).run [] _ _ H1 _ S go) (fun fl t6 r => flow_back okX r) (fun _ _ w' => False.elim w')
          | some n, some i, ⟨hi, hl⟩ =>
            refine codeAny_handlers_suite_as (HandSPX.lands_againZ flA fun hB flB upB => ?_)
            obtain ⟨oe, z, f, S⟩ := begin_ flB (upA.trans upB)
            refine store_ok (X := X.suite a ((a, oe) :: (X.pn ++ pins))) (v := .ref a) S nd hi (.inl hl) rfl (fun t5 S5 => ?_) (.inr hl)
            refine wpAny_mono ((hq a oe cls d (X.pn ++ pins) z f).run [] t5 _ H1 _ S5 go) (fun fl t6 r => ?_) (fun _ _ w' => False.elim w')
            have fin : ∀ {σ6 : St} {H6 : Hp} {R : Shared → Prop}, Inv (X.suite a ((a, oe) :: (X.pn ++ pins))) [] σ6 H6 t6 → (∀ t7, Inv X pins (σ6.set i none) H6 t7 → R t7) → wpAny (model X.prog X.w) X.A (do bindName X.env n .none; unbindBehindTheSuite X.env n p2) (fun _ t7 => R t7) X.xe t6 := fun S6 k6 => gone_ok (S6.unsuite okX) nd hi hl k6
            cases fl with
            | ret u => obtain ⟨v, σ6, H6, S6, rv6, w6⟩ := r; exact fin S6 fun t7 J7 => ⟨v, _, _, J7, rv6, w6⟩
            | next => obtain ⟨σ6, H6, S6, w6⟩ := r; exact fin S6 fun t7 J7 => ⟨_, _, J7, w6⟩
            | brk => obtain ⟨σ6, H6, S6, w6⟩ := r; exact fin S6 fun t7 J7 => ⟨_, _, J7, w6⟩
            | cont => obtain ⟨σ6, H6, S6, w6⟩ := r; exact fin S6 fun t7 J7 => ⟨_, _, J7, w6⟩
    exact walk cl wish
  refine wpAny_Try_except (wpAny_mono ((hb _ (X.pn ++ pins) down caught PassesOwn.looking).run [] s σ H D (I.toTry _) q) (fun f s1 r => ?_) (fun e s1 z => z))
  have r1 : SP X pins D f s1 := flow_try okX r
  cases f with
  | next => exact wpAny_execs_nil r1
  | ret u => exact r1
  | brk => exact r1
  | cont => exact r1
end L2

set_option Elab.async false
set_option linter.all false
set_option maxRecDepth 100000
set_option maxHeartbeats 4000000
namespace L2
open PySem PySem.Spec PyProof.Rows
theorem kit_false {K : PySem.W.Frag} {R S : Addr} (h1 : PySem.W.hasDictIn K S = true) (ht : PySem.W.typeIn K (.ref S) = some (.type "type")) (hr : PySem.W.subIn K (.ref R) (.ref R) = some true) (h2 : PySem.W.subIn K (.ref R) (.ref S) = some false) : PySem.W.kitOne K (.ref R) (.ref S) = some false := by
  obtain ⟨cd, hc, _⟩ := PySem.W.any_some h1
  have e2 : ((PySem.W.clsIn K S).isSome && PySem.W.typeIn K (.ref S) == some (.type "type")) = true := by rw [hc, ht] <;> rfl
  have ne : ¬ (Value.ref R == Value.ref S) = true := fun z => by
    have e : R = S := Value.ref.inj (beq_iff_eq.mp z)
    subst e
    rw [hr] at h2
    cases h2
  unfold PySem.W.kitOne
  rw [if_neg ne]
  show (if ((PySem.W.clsIn K S).isSome && PySem.W.typeIn K (.ref S) == some (.type "type")) = true then PySem.W.subIn K (.ref R) (.ref S) else none) = some false
  rw [if_pos e2]; exact h2
theorem kit_tyT {K : PySem.W.Frag} {R : Addr} {T : String} (hm : PySem.W.kitMeta T = true) (h : PySem.W.subIn K (.ref R) (.type T) = some true) : PySem.W.kitOne K (.ref R) (.type T) = some true := by
  unfold PySem.W.kitOne
  split
  · rfl
  · show (if PySem.W.kitMeta T = true then PySem.W.subIn K (.ref R) (.type T) else none) = some true
    rw [if_pos hm]; exact h
end L2
namespace SL
open PySem L2
section

set_option hygiene false
local macro_rules | `(tactic| walk_at "m") => `(tactic| first | exact List.Mem.head _ | (refine List.Mem.tail _ ?_; walk_at "m"))
local macro_rules | `(tactic| walk_at "u") => `(tactic| first | exact Upd.head | (apply Upd.tail; walk_at "u"))
local macro_rules | `(tactic| walk_at "tk") => `(tactic| first | exact Tak.head | (apply Tak.tail; walk_at "tk"))
local macro_rules | `(tactic| walk_at "l") => `(tactic| first | assumption | exact lS (St.fh (by assumption)) (by assumption) | exact SqL.of (St.get (by assumption) (by walk_at "m")))
local macro_rules | `(tactic| walk_at "t") => `(tactic| first | assumption | exact tS (St.fh (by assumption)) (by assumption) | exact SqT.of (St.get (by assumption) (by walk_at "m")))
local macro_rules | `(tactic| walk_at "lt") => `(tactic| first | exact .inl (by walk_at "l") | exact .inr (by walk_at "t"))
local macro_rules | `(tactic| walk_at "sz") => `(tactic| first | (show _ ≤ sizeLine; decide) | exact sz (by simp) | exact szl (by simp) | exact sz (by omega) | exact szl (by omega) | exact sz (by simp; omega) | exact szl (by simp; omega))
local macro_rules | `(tactic| walk_at "c") => `(tactic| first | assumption | decide | omega)
local macro_rules | `(tactic| walk_at "g1") => `(tactic| with_reducible first
  | refine w_seq ?_ | refine w_asg ?_ | refine w_c ?_ | refine w_op ?_
  | refine r_I0 ?_ | refine w_test ?_ | refine r_b ?_ | refine w_if ?_ | refine w_cons ?_ | refine w_nil ?_
  | refine w_ret ?_ | refine w_drop ?_ | refine w_cb ?_ | refine w_call ?_ | refine w_next ?_ | refine w_tup ?_ | refine w_lst ?_ | refine w_bm ?_ | refine w_bm0 ?_
  | refine w_and ?_ | refine w_or ?_ | refine w_not ?_ | refine w_andV ?_ | refine w_orV ?_ | refine w_notV ?_ | refine w_tB ?_ | refine w_un ?_ | refine r_U ?_
  | refine w_for ?_ | refine w_iL ?_ | refine w_iT ?_ | refine w_i1 ?_ | refine w_i2 ?_ | refine w_sl ?_ | refine w_part ?_ | refine w_nopart ?_ | refine r_part ?_
  | refine r_eqI ?_ | refine r_neI ?_ | refine r_eqS ?_ | refine r_neS ?_ | refine r_eqB ?_ | refine r_neB ?_ | refine r_ifT ?_ | refine r_ifF ?_ | refine r_ifNt ?_ | refine r_ifNf ?_ | refine r_ifRN ?_ | refine r_ifNRN ?_ | refine r_ifNN ?_ | refine r_ifNNN ?_
  | refine w_ifE ?_ | refine r_int1 ?_ | refine r_int1b ?_ | refine r_isnone ?_ | refine r_notnone ?_ | refine r_max2 ?_ | refine r_min2 ?_ | refine r_ipI ?_ | refine w_tru ?_ | refine w_rs ?_
  | refine w_retN ?_ | refine w_break ?_ | refine w_cont ?_ | refine w_callS ?_ | refine w_asgG ?_ | refine w_gsub ?_ | refine w_fld ?_ | refine w_sfld ?_ | refine w_mk ?_ | refine w_lc ?_ | refine w_iSq ?_ | refine u_isint ?_ | refine w_dnew ?_ | refine w_dnotin ?_ | refine w_din ?_ | refine w_dget ?_ | refine w_dput ?_ | refine w_ckw ?_)
local macro_rules | `(tactic| walk_at "g2") => `(tactic| first
  | ((with_reducible refine' w_var ?hv ?_); (case hv => rfl)) | ((with_reducible refine' w_aug ?hv ?_); (case hv => rfl))
  | ((with_reducible show rLen _ _ _ _); refine r_len (by walk_at "lt") ?_)
  | (with_reducible refine r_I ?cnd ?_; (case cnd => first | decide | omega | assumption | (unfold CPow; decide)))
  | ((with_reducible show RTy _ _ _ _ _); refine r_tyL (by walk_at "l") ?_)
  | (with_reducible refine r_ifDT (by walk_at "c") ?_) | (with_reducible refine r_ifDF (by walk_at "c") ?_)
  | (with_reducible refine r_ifNT (by walk_at "c") ?_) | (with_reducible refine r_ifNF (by walk_at "c") ?_))
local macro_rules | `(tactic| walk_at "go") => `(tactic| repeat (first | walk_at "g1" | walk_at "g2"))

variable {n b c : L2.St → Hp → Prop} {r : VK} {σ : L2.St} {H H' : Hp} {Q : VK} {t : TS} {te ta tb : TE} {x y v : V} {K : PySem.W.Frag} {E : En} {F F' : Hp} {L L' L1 : Led} {p a : Addr} {xs ys : List V} {ns ms : List Int} {k : Bool} {lo hi : Option Int}
theorem r_isET {D : Addr} {T : String} (C : ExcC K D) (h : PySem.W.kitOne K (.ref D) (.type T) = some k) (q : Q (.bl k) H) : rIsE' K a (.ref D) none [.ref a, .ty T] H Q := ⟨D, rfl, rfl, C, .ty T, .type T, k, rfl, fun u r => r, h, q⟩
theorem r_repT {m : Int} (G : St E F H L) (h : SqT K F a xs) (ne : xs ≠ []) (h0 : 2 ≤ m) (h1 : m ≤ 1000) (hl : xs.length ≤ 1000) (q : ∀ p H', St E F H' ((p, .tup (List.replicate m.toNat xs).flatten) :: L) → Q (.ref p) H') : rRepT K (.ref a) (.int m) H Q :=
  ⟨a, m, xs, rfl, rfl, tS G.fh h, ne, h0, h1, hl, fun p hp => q p _ (G.new hp)⟩
theorem atI_last (h : 0 < ns.length) : atI (iv ns) (-1) = some (.int (ns.getD (ns.length - 1) 0)) := by
  have e : (iv ns)[ns.length - 1]? = some (.int (ns.getD (ns.length - 1) 0)) := by
    rw [List.getElem?_map, List.getElem?_eq_getElem (by omega), List.getD_eq_getElem?_getD, List.getElem?_eq_getElem (by omega)]; rfl
  have q : ixN ns.length (-1) = some (ns.length - 1) := by
    unfold ixN
    rw [if_neg (by decide)]
    first
      | (rw [if_pos (by omega)]; congr 1; omega)
      | (split <;> (first | (congr 1; omega) | omega))
  unfold atI
  rw [iv_len, q]
  exact e
theorem eqv_str (x y : Str) : PyData.eqv (.str x) (.str y) = decide (x = y) := by simp [PyData.eqv, Bool.beq_eq_decide_eq]
theorem eqv_bool (x y : Bool) : PyData.eqv (.bool x) (.bool y) = decide (x = y) := by simp [PyData.eqv, Bool.beq_eq_decide_eq]
theorem shp_str {z : Str} (h : (PyData.str z).canLay0 = true) : Shp 0 (.str z) := ⟨h, Nat.le_refl _⟩
theorem flat_at {α : Type} {l : List α} : ∀ {m i : Nat}, i < l.length → 0 < m → ((List.replicate m l).flatten)[i]? = l[i]?
  | 0, _, _, h => absurd h (by decide)
  | m + 1, i, h, _ => by rw [List.replicate_succ, List.flatten_cons, List.getElem?_append_left h]
theorem flat_add {α : Type} {l : List α} : ∀ {m i : Nat}, i < l.length * m → ((List.replicate (m + 1) l).flatten)[i + l.length]? = ((List.replicate (m + 1) l).flatten)[i]?
  | 0, i, h => by simp at h
  | m + 1, i, h => by
    have e1 : ((List.replicate (m + 2) l).flatten)[i + l.length]? = ((List.replicate (m + 1) l).flatten)[i]? := by
      rw [List.replicate_succ, List.flatten_cons, List.getElem?_append_right (by omega), Nat.add_sub_cancel]
    by_cases c : i < l.length
    · rw [e1, flat_at c (by omega), flat_at c (by omega)]
    · rw [e1]
      have e2 : ((List.replicate (m + 2) l).flatten)[i]? = ((List.replicate (m + 1) l).flatten)[i - l.length]? := by
        rw [List.replicate_succ, List.flatten_cons, List.getElem?_append_right (by omega)]
      rw [e2]
      have := flat_add (l := l) (m := m) (i := i - l.length) (by rw [Nat.mul_succ] at h; omega)
      rw [show i - l.length + l.length = i from by omega] at this
      exact this
end
end SL

set_option Elab.async false
set_option linter.all false
set_option maxRecDepth 100000
set_option maxHeartbeats 4000000
/-! a word without end has one normal form: numbers and lists alone -/
namespace SL
theorem wd_head {hs ls : List Int} {i : Nat} (h : i < hs.length) : wd hs ls i = fx hs i := by unfold wd; rw [if_pos h]
theorem wd_loop {hs ls : List Int} {j : Nat} (h : j < ls.length) : wd hs ls (hs.length + j) = fx ls j := by
  unfold wd
  rw [if_neg (by omega), show hs.length + j - hs.length = j from by omega, Nat.mod_eq_of_lt h]
theorem wd_per {hs ls : List Int} {i : Nat} (h : hs.length ≤ i) : wd hs ls (i + ls.length) = wd hs ls i := by
  unfold wd
  rw [if_neg (by omega), if_neg (by omega), show i + ls.length - hs.length = i - hs.length + ls.length from by omega, Nat.add_mod_right]
theorem gcd_per {w : Nat → Int} {n : Nat} : ∀ (f p q : Nat), p + q ≤ f → 1 ≤ p → 1 ≤ q → (∀ i, n ≤ i → w (i + p) = w i) → (∀ i, n ≤ i → w (i + q) = w i) → ∀ i, n ≤ i → w (i + Nat.gcd p q) = w i
  | 0, p, q, h, h1, _, _, _ => by omega
  | f + 1, p, q, h, h1, h2, hp, hq => by
    rcases Nat.lt_trichotomy p q with c | c | c
    · have := gcd_per f p (q - p) (by omega) h1 (by omega) hp (fun i hi => by
        have e1 := hp (i + (q - p)) (by omega)
        rw [show i + (q - p) + p = i + q from by omega, hq i hi] at e1
        exact e1.symm)
      rw [Nat.gcd_sub_self_right (by omega)] at this
      exact this
    · subst c
      rw [Nat.gcd_self]
      exact hp
    · have := gcd_per f (p - q) q (by omega) (by omega) h2 (fun i hi => by
        have e1 := hq (i + (p - q)) (by omega)
        rw [show i + (p - q) + q = i + p from by omega, hp i hi] at e1
        exact e1.symm) hq
      rw [Nat.gcd_comm, Nat.gcd_sub_self_right (by omega), Nat.gcd_comm] at this
      exact this
theorem per_mul {w : Nat → Int} {m p : Nat} (h : ∀ i, m ≤ i → w (i + p) = w i) (i : Nat) (hi : m ≤ i) : ∀ k, w (i + k * p) = w i
  | 0 => by rw [Nat.zero_mul]; rfl
  | k + 1 => by rw [Nat.succ_mul, ← Nat.add_assoc, h _ (by omega), per_mul h i hi k]
theorem tail_back {w : Nat → Int} {n m p d : Nat} (p1 : 1 ≤ p) (hp : ∀ i, m ≤ i → w (i + p) = w i) (hd : ∀ i, n ≤ i → w (i + d) = w i) (i : Nat) (hi : m ≤ i) : w (i + d) = w i := by
  have h1 := per_mul hp i hi n
  have h2 := per_mul hp (i + d) (by omega) n
  have h3 : n * 1 ≤ n * p := Nat.mul_le_mul_left _ p1
  rw [← h2, show i + d + n * p = i + n * p + d from by omega, hd _ (by omega), h1]
theorem root_le {hs ls : List Int} {d : Nat} (nf : Nf hs ls) (d1 : 1 ≤ d) (dv : d ∣ ls.length) (h : ∀ i, hs.length ≤ i → wd hs ls (i + d) = wd hs ls i) : ls.length ≤ d :=
  nf.rt.mn d d1 dv fun i hi => by
    have := h (hs.length + i) (by omega)
    rw [show hs.length + i + d = hs.length + (i + d) from by omega, wd_loop hi, wd_loop (by omega)] at this
    exact this
theorem nf_len {h1 l1 h2 l2 : List Int} (n1 : Nf h1 l1) (n2 : Nf h2 l2) (hS : SameW h1 l1 h2 l2) : l1.length = l2.length := by
  have p1 := n1.ne
  have p2 := n2.ne
  have e : wd h1 l1 = wd h2 l2 := funext hS
  have a1 : ∀ i, h1.length ≤ i → wd h1 l1 (i + l1.length) = wd h1 l1 i := fun i hi => wd_per hi
  have a2 : ∀ i, h2.length ≤ i → wd h1 l1 (i + l2.length) = wd h1 l1 i := fun i hi => by rw [e]; exact wd_per hi
  have g := gcd_per (w := wd h1 l1) (n := max h1.length h2.length) _ l1.length l2.length (Nat.le_refl _) p1 p2 (fun i hi => a1 i (by omega)) (fun i hi => a2 i (by omega))
  have gp : 1 ≤ Nat.gcd l1.length l2.length := Nat.gcd_pos_of_pos_left _ p1
  have b1 := root_le n1 gp (Nat.gcd_dvd_left _ _) (tail_back p1 a1 g)
  have b2 := root_le n2 gp (Nat.gcd_dvd_right _ _) (by rw [← e]; exact tail_back p2 a2 g)
  have c1 := Nat.le_of_dvd p1 (Nat.gcd_dvd_left l1.length l2.length)
  have c2 := Nat.le_of_dvd p2 (Nat.gcd_dvd_right l1.length l2.length)
  omega
theorem nf_head {h1 l1 h2 l2 : List Int} (n1 : Nf h1 l1) (n2 : Nf h2 l2) (hS : SameW h1 l1 h2 l2) : h2.length ≤ h1.length := by
  rcases Nat.lt_or_ge h1.length h2.length with c | c
  · exfalso
    have el := nf_len n1 n2 hS
    have p2 := n2.ne
    refine n2.lst (h2.length - 1) (by omega) ?_
    have q1 := wd_per (hs := h1) (ls := l1) (i := h2.length - 1) (by omega)
    rw [hS, hS, el, show h2.length - 1 + l2.length = h2.length + (l2.length - 1) from by omega, wd_loop (by omega), wd_head (by omega)] at q1
    exact q1.symm
  · exact c
theorem fx_ext {xs ys : List Int} (hl : xs.length = ys.length) (h : ∀ i, i < xs.length → fx xs i = fx ys i) : xs = ys := by
  refine List.ext_getElem hl fun i h1 h2 => ?_
  have := h i h1
  have e1 : fx xs i = xs[i] := by show xs.getD i 0 = _; rw [List.getD_eq_getElem?_getD, List.getElem?_eq_getElem h1]; rfl
  have e2 : fx ys i = ys[i] := by show ys.getD i 0 = _; rw [List.getD_eq_getElem?_getD, List.getElem?_eq_getElem h2]; rfl
  rw [← e1, ← e2]
  exact this
/-- two normal forms of one word are one -/
theorem nf_uniq {h1 l1 h2 l2 : List Int} (n1 : Nf h1 l1) (n2 : Nf h2 l2) (hS : SameW h1 l1 h2 l2) : h1 = h2 ∧ l1 = l2 := by
  have el := nf_len n1 n2 hS
  have a := nf_head n1 n2 hS
  have b := nf_head n2 n1 fun i => (hS i).symm
  refine ⟨fx_ext (by omega) fun i hi => ?_, fx_ext el fun i hi => ?_⟩
  · have := hS i
    rw [wd_head hi, wd_head (by omega)] at this
    exact this
  · have := hS (h1.length + i)
    rw [wd_loop hi, show h1.length + i = h2.length + i from by omega, wd_loop (by omega)] at this
    exact this
/-- words that are alike long enough are the same -/
theorem same_of {h1 l1 h2 l2 : List Int} (p1 : 0 < l1.length) (p2 : 0 < l2.length) (h : ∀ i, i < max h1.length h2.length + l1.length + l2.length → wd h1 l1 i = wd h2 l2 i) : SameW h1 l1 h2 l2 := by
  have all : ∀ (f i : Nat), i ≤ f → wd h1 l1 i = wd h2 l2 i := fun f => by
    induction f with
    | zero => intro i hi; exact h i (by omega)
    | succ f ih =>
      intro i hi
      by_cases c : i < max h1.length h2.length + l1.length + l2.length
      · exact h i c
      · have a1 := wd_per (hs := h1) (ls := l1) (i := i - l1.length) (by omega)
        have a2 := wd_per (hs := h2) (ls := l2) (i := i - l2.length) (by omega)
        have a3 := wd_per (hs := h1) (ls := l1) (i := i - l2.length - l1.length) (by omega)
        have a4 := wd_per (hs := h2) (ls := l2) (i := i - l2.length - l1.length) (by omega)
        rw [show i - l1.length + l1.length = i from by omega] at a1
        rw [show i - l2.length + l2.length = i from by omega] at a2
        rw [show i - l2.length - l1.length + l1.length = i - l2.length from by omega] at a3
        rw [show i - l2.length - l1.length + l2.length = i - l1.length from by omega] at a4
        rw [a1, a2, ih (i - l1.length) (by omega), a4, ← ih (i - l2.length - l1.length) (by omega), ← a3, ih (i - l2.length) (by omega)]
  exact fun i => all i i (Nat.le_refl _)
end SL

set_option Elab.async false
set_option linter.all false
set_option maxRecDepth 100000
set_option maxHeartbeats 4000000
namespace L2
open PySem PySem.Spec PyProof.Rows
/-! ## the least common multiple of two small numbers -/
def rLcm : List V → Hp → VK → Prop := fun vs H Q => ∃ a b : Nat, vs = [.int (a : Int), .int (b : Int)] ∧ (0 < a ∧ a < 2 ^ 20 ∧ 0 < b ∧ b < 2 ^ 20) ∧ Q (.int ((Nat.lcm a b : Nat) : Int)) H
theorem lcm_small {a b : Nat} (h1 : a < 2 ^ 20) (h2 : b < 2 ^ 20) : ((Nat.lcm a b : Nat) : Int).natAbs.log2 < bitsLine := by
  have h : Nat.lcm a b < 2 ^ 41 := by
    have h3 : Nat.lcm a b ≤ a * b := Nat.div_le_self _ _
    have h4 : a * b ≤ 2 ^ 20 * 2 ^ 20 := Nat.mul_le_mul (by omega) (by omega)
    have : (2 : Nat) ^ 20 * 2 ^ 20 = 1099511627776 := by decide
    have : (2 : Nat) ^ 41 = 2199023255552 := by decide
    omega
  have h5 : (Nat.lcm a b).log2 ≤ 40 := PySem.W.mg_log h
  exact Nat.lt_of_le_of_lt h5 (by decide)
theorem cr_lcm {X : Cx} : CallR X (.builtin "math.lcm") rLcm := by
  intro pins s σ H vs us Q I r h
  obtain ⟨a, b, rfl, ⟨h1, h2, h3, h4⟩, q⟩ := h
  obtain ⟨t, u, rfl⟩ := Vals.int2 r
  have e : (((Nat.lcm 1 (a : Int).natAbs).lcm (b : Int).natAbs : Nat) : Int) = ((Nat.lcm a b : Nat) : Int) := by
    show (((Nat.lcm 1 a).lcm b : Nat) : Int) = _
    rw [Nat.lcm_one_left]
  have w64 : (2 : Nat) ^ 20 < 2 ^ 64 := by decide
  refine PySem.W.mg_lcm (show a < 2 ^ 64 by omega) (show b < 2 ^ 64 by omega) (by rw [e]; exact lcm_small h2 h4) ?_
  rw [e]
  exact ⟨.int _, H, I.tok _, ⟨_, rfl⟩, q⟩
end L2
namespace SL
open PySem L2
/-! ## words from words -/
theorem wd_cut {f : Nat → Int} {s p : Nat} (p0 : 0 < p) (hf : ∀ i, s ≤ i → f (i + p) = f i) (i : Nat) : wd (((List.range (s + p)).map f).take s) (((List.range (s + p)).map f).drop s) i = f i := by
  have g : ∀ j, j < s + p → ((List.range (s + p)).map f)[j]? = some (f j) := fun j hj => by rw [List.getElem?_map, List.getElem?_range hj]; rfl
  have l1 : (((List.range (s + p)).map f).take s).length = s := by simp
  have l2 : (((List.range (s + p)).map f).drop s).length = p := by simp
  unfold wd
  rw [l1, l2]
  split
  · rename_i h
    show (((List.range (s + p)).map f).take s).getD i 0 = f i
    rw [List.getD_eq_getElem?_getD, List.getElem?_take, if_pos h, g i (by omega)]; rfl
  · rename_i h
    have hm := Nat.mod_lt (i - s) p0
    show (((List.range (s + p)).map f).drop s).getD ((i - s) % p) 0 = f i
    rw [List.getD_eq_getElem?_getD, List.getElem?_drop, g _ (by omega)]
    show f (s + (i - s) % p) = f i
    have := per_mul (w := f) (m := s) (p := p) hf (s + (i - s) % p) (by omega) ((i - s) / p)
    rw [← this]
    congr 1
    have := Nat.mod_add_div (i - s) p
    rw [Nat.mul_comm] at this
    omega
theorem wd_drop {hs ls : List Int} {t : Nat} (h : t ≤ hs.length) (i : Nat) : wd (hs.drop t) ls i = wd hs ls (i + t) := by
  unfold wd
  rw [List.length_drop]
  by_cases c : i < hs.length - t
  · rw [if_pos c, if_pos (by omega)]
    show (hs.drop t).getD i 0 = hs.getD (i + t) 0
    rw [List.getD_eq_getElem?_getD, List.getD_eq_getElem?_getD, List.getElem?_drop, Nat.add_comm]
  · rw [if_neg c, if_neg (by omega), show i - (hs.length - t) = i + t - hs.length from by omega]
theorem wd_rot {hs ls : List Int} {t : Nat} (h0 : 0 < ls.length) (h : hs.length ≤ t) (i : Nat) : wd [] (rotL ls ((t - hs.length) % ls.length)) i = wd hs ls (i + t) := by
  have hc := Nat.mod_lt (t - hs.length) h0
  have hi := Nat.mod_lt i h0
  unfold wd
  rw [if_neg (by simp), if_neg (by omega), rotL_len]
  show fx (rotL ls _) ((i - 0) % ls.length) = _
  rw [Nat.sub_zero, rotL_at (by omega) hi]
  show fx ls ((((i % ls.length : Nat) : Int) + (((t - hs.length) % ls.length : Nat) : Int)) % (ls.length : Int)).toNat = _
  congr 1
  rw [← Int.natCast_add, ← Int.natCast_emod, ← Nat.add_mod]
  show ((((i + (t - hs.length)) % ls.length : Nat)) : Int).toNat = _
  rw [Int.toNat_natCast]
  congr 1
  omega
theorem wd_map {g : Int → Int} {hs ls : List Int} (h0 : 0 < ls.length) (i : Nat) : wd (hs.map g) (ls.map g) i = g (wd hs ls i) := by
  have gt : ∀ (xs : List Int) (j : Nat), j < xs.length → fx (xs.map g) j = g (fx xs j) := fun xs j hj => by
    show (xs.map g).getD j 0 = g (xs.getD j 0)
    rw [List.getD_eq_getElem?_getD, List.getD_eq_getElem?_getD, List.getElem?_map, List.getElem?_eq_getElem hj]; rfl
  unfold wd
  rw [List.length_map, List.length_map]
  split
  · exact gt _ _ (by assumption)
  · exact gt _ _ (Nat.mod_lt _ h0)
theorem wd_mem {hs ls : List Int} (h0 : 0 < ls.length) (i : Nat) : wd hs ls i ∈ hs ++ ls := by
  have gm : ∀ (xs : List Int) (j : Nat), j < xs.length → fx xs j ∈ xs := fun xs j hj => by
    show xs.getD j 0 ∈ xs
    rw [List.getD_eq_getElem?_getD, List.getElem?_eq_getElem hj]
    exact List.getElem_mem _
  unfold wd
  split
  · exact List.mem_append_left _ (gm _ _ (by assumption))
  · exact List.mem_append_right _ (gm _ _ (Nat.mod_lt _ h0))
theorem wd_dvd {hs ls : List Int} {p : Nat} (hd : ls.length ∣ p) (i : Nat) (h : hs.length ≤ i) : wd hs ls (i + p) = wd hs ls i := by
  obtain ⟨c, rfl⟩ := hd
  rw [Nat.mul_comm]
  exact per_mul (w := wd hs ls) (m := hs.length) (p := ls.length) (fun j hj => wd_per hj) i h c
/-- a word is known by its letters -/
theorem mem_wdH {hs ls : List Int} {z : Int} (h : z ∈ hs) : ∃ i, z = wd hs ls i := by
  obtain ⟨i, hi⟩ := List.mem_iff_getElem?.mp h
  have hl := (List.getElem?_eq_some_iff.mp hi).1
  refine ⟨i, ?_⟩
  rw [wd_head hl]
  show z = hs.getD i 0
  rw [List.getD_eq_getElem?_getD, hi]; rfl
theorem mem_wdL {hs ls : List Int} {z : Int} (h : z ∈ ls) : ∃ i, z = wd hs ls i := by
  obtain ⟨i, hi⟩ := List.mem_iff_getElem?.mp h
  have hl := (List.getElem?_eq_some_iff.mp hi).1
  refine ⟨hs.length + i, ?_⟩
  rw [wd_loop hl]
  show z = ls.getD i 0
  rw [List.getD_eq_getElem?_getD, hi]; rfl
theorem r_lcm {a b : Nat} {H : Hp} {Q : VK} (h : 0 < a ∧ a < 2 ^ 20 ∧ 0 < b ∧ b < 2 ^ 20) (q : Q (.int ((Nat.lcm a b : Nat) : Int)) H) : rLcm [.int (a : Int), .int (b : Int)] H Q := ⟨a, b, rfl, h, q⟩
end SL

set_option Elab.async false
set_option linter.all false
set_option maxRecDepth 100000
set_option maxHeartbeats 4000000
namespace L2
open PySem PySem.Spec PyProof.Rows
/-! ## an instance is called -/
theorem FnOk.rawN {P : Program} {w : World} {K : PySem.W.Frag} {mg : Str → Option Value} {base : Heap} {CX : CXT} {k : Nat} {f : Addr} {fd : FuncData} {ps : List Str} {sp : Sp} (F : FnOk P w K mg base CX k f fd ps sp) (hb : Binds K fd ps []) : FnR P w K mg base CX k f sp :=
  (F.raw hb .nil).imp fun vs H Q E h => by simpa using h
def tCallO2 (C : Addr) (sp : Sp) (E : XK) (tf : TE) (t : TA) : TE := fun σ H Q => tf σ H fun y H1 => ∃ a, y = V.ref a ∧ t σ H1 fun vs H2 => (∃ dx fs, H2 a = some (.ins C dx fs)) ∧ sp (V.ref a :: vs) H2 Q E
abbrev CallO2 := StX.CallO
theorem pe_callO2 {X : Cx} {CX : CXT} {k : Nat} {C g : Addr} {sp : Sp} {E : XK} {fe e : Expr} {es : List Expr} {tf : TE} {t : TA} {pos : Pos} (hf : PE X fe tf) (c : CallO2 X.K C g) (F : FnR X.prog X.w X.K X.mg X.base CX k g sp) (hr : Room k X.A) (hx : Passes CX X E) (ha : PA X (e :: es) t)
    (ht : eval (.Call fe (e :: es) [] pos) X.env = (do callWith pos (← eval fe X.env) [] (backTo pos (starEach (e :: es) X.env)) (backToKw pos (keywordEach [] X.env))) := by rfl)
    (he : starEach (e :: es) X.env = (false, eval e X.env) :: starEach es X.env := by rfl) (hpl : (backTo pos (starEach es X.env)).any (·.1) = false := by rfl) : PE X (.Call fe (e :: es) [] pos) (tCallO2 C sp E tf t) := by
  refine ⟨fun pins s σ H Q I h => ?_⟩
  refine Call_ (thn (hf.run pins s σ H _ I h) fun u s1 ⟨y, H1, I1, ry, a, ey, q⟩ => ?_) ht
  subst ey
  obtain rfl : u = Value.ref a := ry
  refine StX.callO_with (thn (ha.run pos pins s1 σ H1 _ I1 q) fun us s2 ⟨vs, H2, I2, r, hi, q2⟩ => ?_) he hpl
  have hi' : StX.InsC X H2 a C := .inr hi
  obtain ⟨ox, od, J, hd⟩ := StX.insC_at I2 hi'
  exact ⟨⟨C, ox, od, J, hd⟩, StX.run_callO c F hr hx I2 hi' r q2⟩
end L2
namespace SL
open PySem L2
section

set_option hygiene false
local macro_rules | `(tactic| walk_at "m") => `(tactic| first | exact List.Mem.head _ | (refine List.Mem.tail _ ?_; walk_at "m"))
local macro_rules | `(tactic| walk_at "u") => `(tactic| first | exact Upd.head | (apply Upd.tail; walk_at "u"))
local macro_rules | `(tactic| walk_at "tk") => `(tactic| first | exact Tak.head | (apply Tak.tail; walk_at "tk"))
local macro_rules | `(tactic| walk_at "l") => `(tactic| first | assumption | exact lS (St.fh (by assumption)) (by assumption) | exact SqL.of (St.get (by assumption) (by walk_at "m")))
local macro_rules | `(tactic| walk_at "t") => `(tactic| first | assumption | exact tS (St.fh (by assumption)) (by assumption) | exact SqT.of (St.get (by assumption) (by walk_at "m")))
local macro_rules | `(tactic| walk_at "lt") => `(tactic| first | exact .inl (by walk_at "l") | exact .inr (by walk_at "t"))
local macro_rules | `(tactic| walk_at "sz") => `(tactic| first | (show _ ≤ sizeLine; decide) | exact sz (by simp) | exact szl (by simp) | exact sz (by omega) | exact szl (by omega) | exact sz (by simp; omega) | exact szl (by simp; omega))
local macro_rules | `(tactic| walk_at "c") => `(tactic| first | assumption | decide | omega)
local macro_rules | `(tactic| walk_at "g1") => `(tactic| with_reducible first
  | refine w_seq ?_ | refine w_asg ?_ | refine w_c ?_ | refine w_op ?_
  | refine r_I0 ?_ | refine w_test ?_ | refine r_b ?_ | refine w_if ?_ | refine w_cons ?_ | refine w_nil ?_
  | refine w_ret ?_ | refine w_drop ?_ | refine w_cb ?_ | refine w_call ?_ | refine w_next ?_ | refine w_tup ?_ | refine w_lst ?_ | refine w_bm ?_ | refine w_bm0 ?_
  | refine w_and ?_ | refine w_or ?_ | refine w_not ?_ | refine w_andV ?_ | refine w_orV ?_ | refine w_notV ?_ | refine w_tB ?_ | refine w_un ?_ | refine r_U ?_
  | refine w_for ?_ | refine w_iL ?_ | refine w_iT ?_ | refine w_i1 ?_ | refine w_i2 ?_ | refine w_sl ?_ | refine w_part ?_ | refine w_nopart ?_ | refine r_part ?_
  | refine r_eqI ?_ | refine r_neI ?_ | refine r_eqS ?_ | refine r_neS ?_ | refine r_eqB ?_ | refine r_neB ?_ | refine r_ifT ?_ | refine r_ifF ?_ | refine r_ifNt ?_ | refine r_ifNf ?_ | refine r_ifRN ?_ | refine r_ifNRN ?_ | refine r_ifNN ?_ | refine r_ifNNN ?_
  | refine w_ifE ?_ | refine r_int1 ?_ | refine r_int1b ?_ | refine r_isnone ?_ | refine r_notnone ?_ | refine r_max2 ?_ | refine r_min2 ?_ | refine r_ipI ?_ | refine w_tru ?_ | refine w_rs ?_
  | refine w_retN ?_ | refine w_break ?_ | refine w_cont ?_ | refine w_callS ?_ | refine w_asgG ?_ | refine w_gsub ?_ | refine w_fld ?_ | refine w_sfld ?_ | refine w_mk ?_ | refine w_lc ?_ | refine w_iSq ?_ | refine u_isint ?_ | refine w_dnew ?_ | refine w_dnotin ?_ | refine w_din ?_ | refine w_dget ?_ | refine w_dput ?_ | refine w_ckw ?_)
local macro_rules | `(tactic| walk_at "g2") => `(tactic| first
  | ((with_reducible refine' w_var ?hv ?_); (case hv => rfl)) | ((with_reducible refine' w_aug ?hv ?_); (case hv => rfl))
  | ((with_reducible show rLen _ _ _ _); refine r_len (by walk_at "lt") ?_)
  | (with_reducible refine r_I ?cnd ?_; (case cnd => first | decide | omega | assumption | (unfold CPow; decide)))
  | ((with_reducible show RTy _ _ _ _ _); refine r_tyL (by walk_at "l") ?_)
  | (with_reducible refine r_ifDT (by walk_at "c") ?_) | (with_reducible refine r_ifDF (by walk_at "c") ?_)
  | (with_reducible refine r_ifNT (by walk_at "c") ?_) | (with_reducible refine r_ifNF (by walk_at "c") ?_))
local macro_rules | `(tactic| walk_at "go") => `(tactic| repeat (first | walk_at "g1" | walk_at "g2"))

variable {n b c : L2.St → Hp → Prop} {r : VK} {σ : L2.St} {H H' : Hp} {Q : VK} {t : TS} {te ta tb : TE} {x y v : V} {K : PySem.W.Frag} {E : En} {F F' : Hp} {L L' L1 : Led} {p a : Addr} {xs ys : List V} {ns ms : List Int} {k : Bool} {i j : Int}
/-- for i, x in enumerate(xs) -/
theorem r_forE {i0 j0 : Nat} (Pv : Nat → L2.St → Hp → Prop) (h0 : Pv 0 σ H) (hl : ∀ i σ H, i ≤ xs.length → Pv i σ H → SqL K H a xs)
    (hs : ∀ i x σ H H', xs[i]? = some x → Pv i σ H → Same H H' → t ⟨Pv (i + 1), r, n, Pv (i + 1)⟩ ((σ.set i0 (some (.int (i : Nat)))).set j0 (some x)) H') (hd : ∀ σ H, Pv xs.length σ H → n σ H) : RFor (Ite K a) (gTup K 2 (gCons (gName i0) (gCons (gName j0) gNil))) t ⟨n, r, b, c⟩ σ H := by
  refine L2.for_it (D := ⟨n, r, b, c⟩) L2.walk_enum Pv h0 hl (fun i x σ H H' hi p y => ?_) hd
  obtain ⟨T, u, w, rfl, hT, rfl, e1, e2⟩ := y
  have e1' : V.int (i : Nat) = u := Option.some.inj e1
  subst e1'
  refine ⟨T, _, rfl, SqT.of upd_same, rfl, ?_⟩
  exact ⟨_, _, rfl, _, _, rfl, rfl, hs i w σ H _ e2 p (same_new hT)⟩
theorem w_iE {ta : TA} {R : It → Hp → Prop} (h : ta σ H fun vs H1 => ∃ a xs, vs = [.ref a] ∧ SqL K H1 a xs ∧ R (Ite K a) H1) : iEnum K ta σ H R := h
theorem St.clr (G : St E F H L) : St E F H [] := ⟨G.bh, G.fh, G.ff, G.pr, (fun _ h => nomatch h), List.nodup_nil⟩
theorem w_callO2 {C : Addr} {sp : Sp} {X : XK} {tf : TE} {ta : TA} (h : tf σ H fun y H1 => ∃ a, y = V.ref a ∧ ta σ H1 fun vs H2 => (∃ dx fs, H2 a = some (.ins C dx fs)) ∧ sp (V.ref a :: vs) H2 Q X) : tCallO2 C sp X tf ta σ H Q := h
theorem inV_leads {l : Int} : inV (.int l) [.int (-3), .int (-2), .int (-1), .int 0, .int 1, .int 2] = decide (-3 ≤ l ∧ l ≤ 2) := by
  have h : ∀ k : Int, eqV (.int k) (.int l) = decide (k = l) := fun k => by
    show (k == l) = _
    by_cases q : k = l
    · subst q; simp
    · rw [decide_eq_false q]; simpa using q
  unfold inV
  simp only [List.any_cons, List.any_nil, h, Bool.or_false]
  by_cases q : -3 ≤ l ∧ l ≤ 2
  · rw [decide_eq_true q]
    have : l = -3 ∨ l = -2 ∨ l = -1 ∨ l = 0 ∨ l = 1 ∨ l = 2 := by omega
    rcases this with e | e | e | e | e | e <;> subst e <;> decide
  · rw [decide_eq_false q]
    rw [decide_eq_false (by omega), decide_eq_false (by omega), decide_eq_false (by omega), decide_eq_false (by omega), decide_eq_false (by omega), decide_eq_false (by omega)]
    rfl
theorem r_notinI (hs : SqL K H a xs ∨ SqT K H a xs) (hf : xs.all flatV = true) (q : Q (.bl (!inV (.int i) xs)) H) : rIn K true (.int i) (.ref a) H Q := ⟨a, xs, rfl, hs, rfl, hf, q⟩
/-! ## dicts from integers to integers -/
def kvG (q g : Nat → Int) (t : Nat) : List (Key × V) := (List.range t).map fun k => (.inl (q k), .int (g k))
theorem kvG_succ {q g : Nat → Int} {t : Nat} : kvG q g (t + 1) = kvG q g t ++ [(.inl (q t), .int (g t))] := by
  unfold kvG; rw [List.range_succ, List.map_append]; rfl
theorem kvG_len {q g : Nat → Int} {t : Nat} : (kvG q g t).length = t := by unfold kvG; simp
theorem kvG_val {q g : Nat → Int} {t : Nat} {z : Int} : (∃ k, k < t ∧ q k = z ∧ valV (kvG q g t) (.inl z) = some (.int (g k))) ∨ (valV (kvG q g t) (.inl z) = none ∧ ∀ k, k < t → q k ≠ z) := by
  induction t with
  | zero => exact .inr ⟨rfl, fun k h => absurd h (Nat.not_lt_zero _)⟩
  | succ t ih =>
    have e : valV (kvG q g (t + 1)) (.inl z) = (valV (kvG q g t) (.inl z)).or (valV [((.inl (q t) : Key), V.int (g t))] (.inl z)) := by
      rw [kvG_succ]
      unfold valV
      rw [List.find?_append]
      cases (List.find? (fun kv => decide (kv.1 = Sum.inl z)) (kvG q g t)) <;> rfl
    rcases ih with ⟨k, h1, h2, h3⟩ | ⟨h1, h2⟩
    · exact .inl ⟨k, by omega, h2, by rw [e, h3]; rfl⟩
    · by_cases c : q t = z
      · refine .inl ⟨t, by omega, c, ?_⟩
        rw [e, h1, c, valV_pos rfl]; rfl
      · refine .inr ⟨?_, fun k hk => ?_⟩
        · rw [e, h1, valV_neg (fun w => c (Sum.inl.inj w))]; rfl
        · rcases Nat.lt_succ_iff_lt_or_eq.mp hk with w | w
          · exact h2 k w
          · rw [w]; exact c
/-! ## machines -/
structure Mok (m o l : Int) (os : List Int) (rs : List (List (List Int))) : Prop where
  m1 : 1 ≤ m
  o1 : 1 ≤ o
  l0 : -3 ≤ l
  l1 : l ≤ 2
  ol : (os.length : Int) = if -l > 0 then -l else 0
  ob : ∀ z ∈ os, 0 ≤ z ∧ z < o
  ne : 0 < rs.length
  rr : ∀ r ∈ rs, (r.length : Int) = m ∧ ∀ x ∈ r, (0 ≤ x.getD 0 0 ∧ x.getD 0 0 < rs.length) ∧ 0 ≤ x.getD 1 0 ∧ x.getD 1 0 < o
def maF (m o l : Int) (oa ra : Addr) : List (Str × V) := [("inputs", .int m), ("outputs", .int o), ("lead", .int l), ("opening", .ref oa), ("rows", .ref ra)]
structure MaAt (K : PySem.W.Frag) (C : Addr) (F : Hp) (x : Addr) (m o l : Int) (os : List Int) (rs : List (List (List Int))) : Prop where
  ex : ∃ dx oa ra as, F x = some (.ins C dx (maF m o l oa ra)) ∧ SqT K F oa (iv os) ∧ SqT K F ra (rv as) ∧ Rows2 K F false as rs
  p2 : ∀ r ∈ rs, ∀ x ∈ r, x.length = 2
theorem MaAt.mono {C x : Addr} {m o l : Int} {os : List Int} {rs : List (List (List Int))} (e : Same F F') (h : MaAt K C F x m o l os rs) : MaAt K C F' x m o l os rs := by
  obtain ⟨dx, oa, ra, as, h1, h2, h3, h4⟩ := h.ex
  exact ⟨⟨dx, oa, ra, as, e _ _ h1, tS e h2, tS e h3, h4.mono e⟩, h.p2⟩
theorem lm_inputs {m o l : Int} {oa ra : Addr} : (maF m o l oa ra).lookup ("inputs" : Str) = some (.int m) := rfl
theorem lm_outputs {m o l : Int} {oa ra : Addr} : (maF m o l oa ra).lookup ("outputs" : Str) = some (.int o) := rfl
theorem lm_lead {m o l : Int} {oa ra : Addr} : (maF m o l oa ra).lookup ("lead" : Str) = some (.int l) := rfl
theorem lm_opening {m o l : Int} {oa ra : Addr} : (maF m o l oa ra).lookup ("opening" : Str) = some (.ref oa) := rfl
theorem lm_rows {m o l : Int} {oa ra : Addr} : (maF m o l oa ra).lookup ("rows" : Str) = some (.ref ra) := rfl
/-- rows that are lists of tuples, all frozen -/
inductive RowsLT (K : PySem.W.Frag) (H : Hp) : List Addr → List (List (List Int)) → Prop
  | nil : RowsLT K H [] []
  | cons {a as bs r rs} : SqL K H a (rv bs) → Rows K H false bs r → RowsLT K H as rs → RowsLT K H (a :: as) (r :: rs)
theorem RowsLT.mono {as : List Addr} {rs : List (List (List Int))} (e : Same H H') (h : RowsLT K H as rs) : RowsLT K H' as rs := by
  induction h with
  | nil => exact .nil
  | cons h1 h2 _ ih => exact .cons (lS e h1) (h2.mono e) ih
theorem RowsLT.len {as : List Addr} {rs : List (List (List Int))} (h : RowsLT K H as rs) : as.length = rs.length := by
  induction h with
  | nil => rfl
  | cons _ _ _ ih => rw [List.length_cons, List.length_cons, ih]
theorem RowsLT.at {as : List Addr} {rs : List (List (List Int))} (h : RowsLT K H as rs) : ∀ {i : Nat} {a : Addr}, as[i]? = some a → ∃ bs r, rs[i]? = some r ∧ SqL K H a (rv bs) ∧ Rows K H false bs r := by
  induction h with
  | nil => intro i a e; simp at e
  | cons h1 h2 _ ih =>
    intro i a e
    cases i with
    | zero => rw [List.getElem?_cons_zero] at e; cases e; exact ⟨_, _, rfl, h1, h2⟩
    | succ i => exact ih (by simpa using e)
theorem RowsLT.snoc {as : List Addr} {bs : List Addr} {r : List (List Int)} {rs : List (List (List Int))} (h : RowsLT K H as rs) (h1 : SqL K H a (rv bs)) (h2 : Rows K H false bs r) : RowsLT K H (as ++ [a]) (rs ++ [r]) := by
  induction h with
  | nil => exact .cons h1 h2 .nil
  | cons q1 q2 _ ih => exact .cons q1 q2 ih
theorem RowsLT.toX {as : List Addr} {rs : List (List (List Int))} (e : Same F H) (h : RowsLT K F as rs) : RowsX K F H as rs := by
  induction h with
  | nil => exact .nil
  | cons h1 h2 _ ih => exact .cons (.inl (lS e h1)) (.ofT h2) ih
def cellM (rs : List (List (List Int))) (s z : Int) : List Int := (rs.getD s.toNat []).getD z.toNat []
def nxt (rs : List (List (List Int))) (s z : Int) : Int := (cellM rs s z).getD 0 0
def outM (rs : List (List (List Int))) (s z : Int) : Int := (cellM rs s z).getD 1 0
def smM (rs : List (List (List Int))) (f : Nat → Int) : Nat → Int
  | 0 => 0
  | k + 1 => nxt rs (smM rs f k) (f k)
def emM (rs : List (List (List Int))) (f : Nat → Int) (k : Nat) : Int := outM rs (smM rs f k) (f k)
/-- what is said in turn i -/
def sd (os : List Int) (l : Int) (e : Nat → Int) (i : Nat) : Int := if (i : Int) + l < 0 then fx os i else e ((i : Int) + l).toNat
theorem two_of {x : List Int} (h : x.length = 2) : x = [x.getD 0 0, x.getD 1 0] := by
  match x, h with
  | [a, b], _ => rfl
theorem stp_okM {m o l : Int} {os : List Int} {rs : List (List (List Int))} (OK : Mok m o l os rs) (p2 : ∀ r ∈ rs, ∀ x ∈ r, x.length = 2) {s z : Int} (hs : 0 ≤ s ∧ s < rs.length) (hz : 0 ≤ z ∧ z < m) :
    ∃ r, rs[s.toNat]? = some r ∧ r[z.toNat]? = some [nxt rs s z, outM rs s z] ∧ (r.length : Int) = m ∧ (0 ≤ nxt rs s z ∧ nxt rs s z < rs.length) ∧ 0 ≤ outM rs s z ∧ outM rs s z < o := by
  have hl : s.toNat < rs.length := by omega
  have hm := List.getElem_mem hl
  obtain ⟨h1, h2⟩ := OK.rr _ hm
  have hz2 : z.toNat < rs[s.toNat].length := by omega
  have hx := List.getElem_mem hz2
  have e : cellM rs s z = rs[s.toNat][z.toNat] := by
    unfold cellM
    rw [List.getD_eq_getElem?_getD (l := rs), List.getElem?_eq_getElem hl, Option.getD_some, List.getD_eq_getElem?_getD, List.getElem?_eq_getElem hz2]; rfl
  obtain ⟨a, b⟩ := h2 _ hx
  rw [← e] at a b
  refine ⟨_, List.getElem?_eq_getElem hl, ?_, h1, a, b⟩
  rw [List.getElem?_eq_getElem hz2, ← e]
  have := p2 _ hm _ hx
  rw [← e] at this
  rw [two_of this]; rfl
theorem st_ok {m o l : Int} {os : List Int} {rs : List (List (List Int))} (OK : Mok m o l os rs) (p2 : ∀ r ∈ rs, ∀ x ∈ r, x.length = 2) {f : Nat → Int} {N : Nat} (hf : ∀ i, i < N → 0 ≤ f i ∧ f i < m) : ∀ k, k ≤ N → 0 ≤ smM rs f k ∧ smM rs f k < rs.length
  | 0, _ => ⟨Int.le_refl _, by have := OK.ne; show (0 : Int) < _; omega⟩
  | k + 1, h => by
    obtain ⟨_, _, _, _, q, _⟩ := stp_okM OK p2 (st_ok OK p2 hf k (by omega)) (hf k (by omega))
    exact q
theorem st_per {rs : List (List (List Int))} {f : Nat → Int} {b p : Nat} (hf : ∀ i, b ≤ i → f (i + p) = f i) (hs : smM rs f (b + p) = smM rs f b) : ∀ d, smM rs f (b + d + p) = smM rs f (b + d)
  | 0 => hs
  | d + 1 => by
    show smM rs f (b + d + 1 + p) = nxt rs (smM rs f (b + d)) (f (b + d))
    rw [show b + d + 1 + p = (b + d + p) + 1 from by omega]
    show nxt rs (smM rs f (b + d + p)) (f (b + d + p)) = _
    rw [st_per hf hs d, hf _ (by omega)]
theorem em_per {rs : List (List (List Int))} {f : Nat → Int} {b p : Nat} (hf : ∀ i, b ≤ i → f (i + p) = f i) (hs : smM rs f (b + p) = smM rs f b) (i : Nat) (h : b ≤ i) : emM rs f (i + p) = emM rs f i := by
  obtain ⟨d, rfl⟩ : ∃ d, i = b + d := ⟨i - b, by omega⟩
  unfold emM
  rw [st_per hf hs d, hf _ h]
theorem em_ext {rs : List (List (List Int))} {f g : Nat → Int} {N : Nat} (h : ∀ i, i < N → f i = g i) : ∀ k, k ≤ N → smM rs f k = smM rs g k
  | 0, _ => rfl
  | k + 1, hk => by
    show nxt rs (smM rs f k) (f k) = nxt rs (smM rs g k) (g k)
    rw [em_ext h k (by omega), h k (by omega)]
theorem wd_front {fs hs ls : List Int} (i : Nat) : wd (fs ++ hs) ls (i + fs.length) = wd hs ls i := by
  have e : (fs ++ hs).drop fs.length = hs := List.drop_left' rfl
  have q := wd_drop (hs := fs ++ hs) (ls := ls) (t := fs.length) (by simp) i
  rw [e] at q
  exact q.symm
theorem wd_app {fs hs ls : List Int} (i : Nat) (h : i < fs.length) : wd (fs ++ hs) ls i = fx fs i := by
  rw [wd_head (by rw [List.length_append]; omega)]
  show (fs ++ hs).getD i 0 = fs.getD i 0
  rw [List.getD_eq_getElem?_getD, List.getD_eq_getElem?_getD, List.getElem?_append_left h]
def saidL (os : List Int) (l : Int) (rs : List (List (List Int))) (f : Nat → Int) (n : Nat) : List Int := os ++ ((List.range n).map (emM rs f)).drop l.toNat
theorem saidL_succ {os : List Int} {l : Int} {rs : List (List (List Int))} {f : Nat → Int} {n : Nat} : saidL os l rs f (n + 1) = if (n : Int) ≥ l then saidL os l rs f n ++ [emM rs f n] else saidL os l rs f n := by
  unfold saidL
  rw [List.range_succ, List.map_append]
  split
  · rw [List.drop_append_of_le_length (by simp; omega), List.append_assoc]; rfl
  · rw [List.drop_eq_nil_of_le (by simp; omega), List.drop_eq_nil_of_le (by simp; omega)]
end
end SL

set_option Elab.async false
set_option linter.all false
set_option maxRecDepth 100000
set_option maxHeartbeats 4000000
namespace L2
open PySem PySem.Spec PyProof.Rows
/-! ## a tuple once -/
theorem tuple_mul1 (l : Addr) (items : Array Value) (n : Nat) (dd : Option Addr) (sl : Array (Option Value)) (u : Tok) :
    Meets (Builtin.«tuple.__mul__» ⟨[.ref l, .int 1 u], []⟩) (fun _ R s => s.heap.get? l = some { cls := .type "tuple", dict := dd, data := .seq items n, slots := sl } ∧
      R (.ok (.ret (Value.ref l))) s) :=
  .of_wp fun prog w A R s h => by
    obtain ⟨hp, g, d, tk, os⟩ := s
    obtain ⟨hl, h⟩ := h
    have f1 := AutoSeq1.idx_int
    have c1 : (items.isEmpty || (1 : Int) == 1) = true := by simp
    wp_walk using wpAny_loadPart' hl
    repeat (first
      | (refine wpAny_ite_false (decide_eq_false (by decide)) ?_; wp_walk using wpAny_loadPart' hl)
      | (refine wpAny_ite_true (decide_eq_true c1) ?_; wp_walk using wpAny_loadPart' hl))
    exact ⟨_, rfl, h⟩
def rRepT1 (K : PySem.W.Frag) : R2 := fun x y H Q => ∃ l xs, x = .ref l ∧ y = .int 1 ∧ SqT K H l xs ∧ Q (.ref l) H
theorem op_repT1 {X : Cx} : OpR X (binaryOp .Mult) (rRepT1 X.K) := by
  intro pins s σ H x y v u Q I rx ry h
  obtain ⟨l, xs, rfl, rfl, hT, q⟩ := h
  cases rx
  obtain ⟨t, rfl⟩ := ry
  obtain ⟨its, r, ⟨⟨cls, dd, data, sl⟩, ho, hc, n, hd⟩, hs⟩ := I.tuple hT
  simp only at hc hd
  subst hc hd
  refine wpAny_binaryOp_repeat_ref (T := "tuple") (U := "int") (by decide) ⟨_, ho, rfl⟩ (fun s' => typeIs_int s' 1 t) noFill_tuple_mul F.fills_int_mul F.slot_int_rmul repeat_tuple F.slot_int_index.lookup
    (call_meets F.slot_int_rmul (typeIs_int s 1 t) F.entry_int_rmul (F.args_int_rmul_2 _ _) (int_rmul_tuple 1 t l its.toArray n dd sl)
      ⟨ho, rfl, ⟨_, ho, rfl⟩, call_meets F.slot_tuple_mul ⟨_, ho, rfl⟩ F.entry_tuple_mul (F.args_tuple_mul_2 _ _) (tuple_mul1 l its.toArray n dd sl t) ⟨ho, ?_⟩⟩)
  exact ⟨.ref l, H, I, rfl, q⟩
def rRepTQ (K : PySem.W.Frag) : R2 := fun x y H Q => rRepT1 K x y H Q ∨ rRepT K x y H Q
theorem op_repTQ {X : Cx} : OpR X (binaryOp .Mult) (rRepTQ X.K) := by
  intro pins s σ H x y v u Q I rx ry h
  rcases h with h | h
  · exact op_repT1 pins s σ H x y v u Q I rx ry h
  · exact op_repT pins s σ H x y v u Q I rx ry h
end L2
namespace SL
open PySem L2
section

set_option hygiene false
local macro_rules | `(tactic| walk_at "m") => `(tactic| first | exact List.Mem.head _ | (refine List.Mem.tail _ ?_; walk_at "m"))
local macro_rules | `(tactic| walk_at "u") => `(tactic| first | exact Upd.head | (apply Upd.tail; walk_at "u"))
local macro_rules | `(tactic| walk_at "tk") => `(tactic| first | exact Tak.head | (apply Tak.tail; walk_at "tk"))
local macro_rules | `(tactic| walk_at "l") => `(tactic| first | assumption | exact lS (St.fh (by assumption)) (by assumption) | exact SqL.of (St.get (by assumption) (by walk_at "m")))
local macro_rules | `(tactic| walk_at "t") => `(tactic| first | assumption | exact tS (St.fh (by assumption)) (by assumption) | exact SqT.of (St.get (by assumption) (by walk_at "m")))
local macro_rules | `(tactic| walk_at "lt") => `(tactic| first | exact .inl (by walk_at "l") | exact .inr (by walk_at "t"))
local macro_rules | `(tactic| walk_at "sz") => `(tactic| first | (show _ ≤ sizeLine; decide) | exact sz (by simp) | exact szl (by simp) | exact sz (by omega) | exact szl (by omega) | exact sz (by simp; omega) | exact szl (by simp; omega))
local macro_rules | `(tactic| walk_at "c") => `(tactic| first | assumption | decide | omega)
local macro_rules | `(tactic| walk_at "g1") => `(tactic| with_reducible first
  | refine w_seq ?_ | refine w_asg ?_ | refine w_c ?_ | refine w_op ?_
  | refine r_I0 ?_ | refine w_test ?_ | refine r_b ?_ | refine w_if ?_ | refine w_cons ?_ | refine w_nil ?_
  | refine w_ret ?_ | refine w_drop ?_ | refine w_cb ?_ | refine w_call ?_ | refine w_next ?_ | refine w_tup ?_ | refine w_lst ?_ | refine w_bm ?_ | refine w_bm0 ?_
  | refine w_and ?_ | refine w_or ?_ | refine w_not ?_ | refine w_andV ?_ | refine w_orV ?_ | refine w_notV ?_ | refine w_tB ?_ | refine w_un ?_ | refine r_U ?_
  | refine w_for ?_ | refine w_iL ?_ | refine w_iT ?_ | refine w_i1 ?_ | refine w_i2 ?_ | refine w_sl ?_ | refine w_part ?_ | refine w_nopart ?_ | refine r_part ?_
  | refine r_eqI ?_ | refine r_neI ?_ | refine r_eqS ?_ | refine r_neS ?_ | refine r_eqB ?_ | refine r_neB ?_ | refine r_ifT ?_ | refine r_ifF ?_ | refine r_ifNt ?_ | refine r_ifNf ?_ | refine r_ifRN ?_ | refine r_ifNRN ?_ | refine r_ifNN ?_ | refine r_ifNNN ?_
  | refine w_ifE ?_ | refine r_int1 ?_ | refine r_int1b ?_ | refine r_isnone ?_ | refine r_notnone ?_ | refine r_max2 ?_ | refine r_min2 ?_ | refine r_ipI ?_ | refine w_tru ?_ | refine w_rs ?_
  | refine w_retN ?_ | refine w_break ?_ | refine w_cont ?_ | refine w_callS ?_ | refine w_asgG ?_ | refine w_gsub ?_ | refine w_fld ?_ | refine w_sfld ?_ | refine w_mk ?_ | refine w_lc ?_ | refine w_iSq ?_ | refine u_isint ?_ | refine w_dnew ?_ | refine w_dnotin ?_ | refine w_din ?_ | refine w_dget ?_ | refine w_dput ?_ | refine w_ckw ?_)
local macro_rules | `(tactic| walk_at "g2") => `(tactic| first
  | ((with_reducible refine' w_var ?hv ?_); (case hv => rfl)) | ((with_reducible refine' w_aug ?hv ?_); (case hv => rfl))
  | ((with_reducible show rLen _ _ _ _); refine r_len (by walk_at "lt") ?_)
  | (with_reducible refine r_I ?cnd ?_; (case cnd => first | decide | omega | assumption | (unfold CPow; decide)))
  | ((with_reducible show RTy _ _ _ _ _); refine r_tyL (by walk_at "l") ?_)
  | (with_reducible refine r_ifDT (by walk_at "c") ?_) | (with_reducible refine r_ifDF (by walk_at "c") ?_)
  | (with_reducible refine r_ifNT (by walk_at "c") ?_) | (with_reducible refine r_ifNF (by walk_at "c") ?_))
local macro_rules | `(tactic| walk_at "go") => `(tactic| repeat (first | walk_at "g1" | walk_at "g2"))

variable {n b c : L2.St → Hp → Prop} {r : VK} {σ : L2.St} {H H' : Hp} {Q : VK} {K : PySem.W.Frag} {E : En} {F F' : Hp} {L L' L1 : Led} {p a : Addr} {xs ys : List V} {ns ms : List Int}
theorem wd_grow {hs ls : List Int} (h0 : 0 < ls.length) (i : Nat) : wd (hs ++ ls) ls i = wd hs ls i := by
  by_cases c : i < hs.length
  · rw [wd_head (by rw [List.length_append]; omega), wd_head c]
    show (hs ++ ls).getD i 0 = hs.getD i 0
    rw [List.getD_eq_getElem?_getD, List.getD_eq_getElem?_getD, List.getElem?_append_left c]
  · by_cases c2 : i < hs.length + ls.length
    · obtain ⟨j, rfl⟩ : ∃ j, i = hs.length + j := ⟨i - hs.length, by omega⟩
      rw [wd_head (by rw [List.length_append]; omega), wd_loop (by omega)]
      show (hs ++ ls).getD (hs.length + j) 0 = ls.getD j 0
      rw [List.getD_eq_getElem?_getD, List.getD_eq_getElem?_getD, List.getElem?_append_right (by omega)]
      congr 2
      omega
    · unfold wd
      rw [if_neg (by rw [List.length_append]; omega), if_neg c, List.length_append]
      congr 1
      have e : i - hs.length = (i - (hs.length + ls.length)) + ls.length := by omega
      rw [e, Nat.add_mod_right]
theorem em_ok {m o l : Int} {os : List Int} {rs : List (List (List Int))} (OK : Mok m o l os rs) (p2 : ∀ r ∈ rs, ∀ x ∈ r, x.length = 2) {f : Nat → Int} (hf : ∀ i, 0 ≤ f i ∧ f i < m) (k : Nat) : 0 ≤ emM rs f k ∧ emM rs f k < o := by
  obtain ⟨_, _, _, _, _, q⟩ := stp_okM OK p2 (st_ok OK p2 (N := k) (fun i _ => hf i) k (Nat.le_refl _)) (hf k)
  exact q
theorem sd_ok {m o l : Int} {os : List Int} {rs : List (List (List Int))} (OK : Mok m o l os rs) (p2 : ∀ r ∈ rs, ∀ x ∈ r, x.length = 2) {f : Nat → Int} (hf : ∀ i, 0 ≤ f i ∧ f i < m) (k : Nat) : 0 ≤ sd os l (emM rs f) k ∧ sd os l (emM rs f) k < o := by
  unfold sd
  split
  · have ol := OK.ol
    have hk : k < os.length := by split at ol <;> omega
    refine OK.ob _ ?_
    show os.getD k 0 ∈ os
    rw [List.getD_eq_getElem?_getD, List.getElem?_eq_getElem hk]
    exact List.getElem_mem _
  · exact em_ok OK p2 hf _
theorem emc {rs : List (List (List Int))} {cs : List Int} {f : Nat → Int} (h : ∀ i, i < cs.length → f i = fx cs i) (i : Nat) (hi : i < cs.length) : emM rs f i = emM rs (fx cs) i := by
  unfold emM
  rw [em_ext (N := cs.length) h i (by omega), h i hi]
theorem saidL_len {os : List Int} {l : Int} {rs : List (List (List Int))} {f : Nat → Int} {n : Nat} : (saidL os l rs f n).length = os.length + (n - l.toNat) := by unfold saidL; simp
theorem saidL_get {m o l : Int} {os cs : List Int} {rs : List (List (List Int))} (OK : Mok m o l os rs) {f : Nat → Int} (h : ∀ i, i < cs.length → f i = fx cs i) (i : Nat) (hi : i < (saidL os l rs (fx cs) cs.length).length) : (saidL os l rs (fx cs) cs.length).getD i 0 = sd os l (emM rs f) i := by
  have ol := OK.ol
  rw [saidL_len] at hi
  unfold saidL sd
  rw [List.getD_eq_getElem?_getD]
  by_cases c : i < os.length
  · rw [List.getElem?_append_left c, if_pos (by split at ol <;> omega)]
    show os[i]?.getD 0 = os.getD i 0
    rw [List.getD_eq_getElem?_getD]
  · rw [List.getElem?_append_right (by omega), if_neg (by split at ol <;> omega), List.getElem?_drop, List.getElem?_map, List.getElem?_range (by omega)]
    have e : ((i : Int) + l).toNat = l.toNat + (i - os.length) := by split at ol <;> omega
    rw [e, emc h _ (by omega)]; rfl
theorem cellL_at {m o l : Int} {os : List Int} {rs : List (List (List Int))} {as : List Addr} (OK : Mok m o l os rs) (p2 : ∀ r ∈ rs, ∀ x ∈ r, x.length = 2) (hR : RowsLT K F as rs) {s z : Int} (hs : 0 ≤ s ∧ s < rs.length) (hz : 0 ≤ z ∧ z < m) :
    ∃ e bs u, atI (rv as) s = some (.ref e) ∧ SqL K F e (rv bs) ∧ atI (rv bs) z = some (.ref u) ∧ SqT K F u [.int (nxt rs s z), .int (outM rs s z)] := by
  obtain ⟨r, hr, hx, hl, _, _⟩ := stp_okM OK p2 hs hz
  have al := hR.len
  obtain ⟨e, he⟩ : ∃ e, as[s.toNat]? = some e := ⟨_, List.getElem?_eq_getElem (by omega)⟩
  obtain ⟨bs, r', hr', h1, h2⟩ := hR.at he
  rw [hr] at hr'
  cases hr'
  have bl := h2.len
  obtain ⟨u, hu⟩ : ∃ u, bs[z.toNat]? = some u := ⟨_, List.getElem?_eq_getElem (by omega)⟩
  obtain ⟨ns, hn, h3⟩ := h2.at hu
  rw [hx] at hn
  cases hn
  exact ⟨e, bs, u, atI_rv hs.1 he, h1, atI_rv hz.1 hu, h3⟩
/-- where the rounds through the loop began -/
structure Beg (q g : Nat → Int) (n i : Nat) (bs : List Int) : Prop where
  len : bs.length = n
  at_ : ∀ z, z < n → (∃ k, k < i ∧ q k = z ∧ bs.getD z 0 = g k) ∨ (bs.getD z 0 = -1 ∧ ∀ k, k < i → q k ≠ z)
theorem Beg.zero {q g : Nat → Int} {n : Nat} : Beg q g n 0 (List.replicate n (-1)) := ⟨by simp, fun z hz => .inr ⟨by rw [List.getD_eq_getElem?_getD, List.getElem?_replicate, if_pos hz]; rfl, fun k h => absurd h (Nat.not_lt_zero _)⟩⟩
theorem Beg.next {q g : Nat → Int} {n i : Nat} {bs : List Int} (h : Beg q g n i bs) (hq : 0 ≤ q i ∧ q i < n) : Beg q g n (i + 1) (bs.set (q i).toNat (g i)) := by
  refine ⟨by rw [List.length_set]; exact h.len, fun z hz => ?_⟩
  by_cases c : z = (q i).toNat
  · refine .inl ⟨i, by omega, by omega, ?_⟩
    rw [c, List.getD_eq_getElem?_getD, List.getElem?_set_self (by rw [h.len]; omega)]; rfl
  · rw [List.getD_eq_getElem?_getD, List.getElem?_set_ne (by omega), ← List.getD_eq_getElem?_getD]
    rcases h.at_ z hz with ⟨k, h1, h2, h3⟩ | ⟨h1, h2⟩
    · exact .inl ⟨k, by omega, h2, h3⟩
    · refine .inr ⟨h1, fun k hk => ?_⟩
      rcases Nat.lt_succ_iff_lt_or_eq.mp hk with d | d
      · exact h2 k d
      · subst d; omega
end
end SL

set_option Elab.async false
set_option linter.all false
set_option maxRecDepth 100000
set_option maxHeartbeats 4000000
namespace SL
open PySem L2
section

set_option hygiene false
local macro_rules | `(tactic| walk_at "m") => `(tactic| first | exact List.Mem.head _ | (refine List.Mem.tail _ ?_; walk_at "m"))
local macro_rules | `(tactic| walk_at "u") => `(tactic| first | exact Upd.head | (apply Upd.tail; walk_at "u"))
local macro_rules | `(tactic| walk_at "tk") => `(tactic| first | exact Tak.head | (apply Tak.tail; walk_at "tk"))
local macro_rules | `(tactic| walk_at "l") => `(tactic| first | assumption | exact lS (St.fh (by assumption)) (by assumption) | exact SqL.of (St.get (by assumption) (by walk_at "m")))
local macro_rules | `(tactic| walk_at "t") => `(tactic| first | assumption | exact tS (St.fh (by assumption)) (by assumption) | exact SqT.of (St.get (by assumption) (by walk_at "m")))
local macro_rules | `(tactic| walk_at "lt") => `(tactic| first | exact .inl (by walk_at "l") | exact .inr (by walk_at "t"))
local macro_rules | `(tactic| walk_at "sz") => `(tactic| first | (show _ ≤ sizeLine; decide) | exact sz (by simp) | exact szl (by simp) | exact sz (by omega) | exact szl (by omega) | exact sz (by simp; omega) | exact szl (by simp; omega))
local macro_rules | `(tactic| walk_at "c") => `(tactic| first | assumption | decide | omega)
local macro_rules | `(tactic| walk_at "g1") => `(tactic| with_reducible first
  | refine w_seq ?_ | refine w_asg ?_ | refine w_c ?_ | refine w_op ?_
  | refine r_I0 ?_ | refine w_test ?_ | refine r_b ?_ | refine w_if ?_ | refine w_cons ?_ | refine w_nil ?_
  | refine w_ret ?_ | refine w_drop ?_ | refine w_cb ?_ | refine w_call ?_ | refine w_next ?_ | refine w_tup ?_ | refine w_lst ?_ | refine w_bm ?_ | refine w_bm0 ?_
  | refine w_and ?_ | refine w_or ?_ | refine w_not ?_ | refine w_andV ?_ | refine w_orV ?_ | refine w_notV ?_ | refine w_tB ?_ | refine w_un ?_ | refine r_U ?_
  | refine w_for ?_ | refine w_iL ?_ | refine w_iT ?_ | refine w_i1 ?_ | refine w_i2 ?_ | refine w_sl ?_ | refine w_part ?_ | refine w_nopart ?_ | refine r_part ?_
  | refine r_eqI ?_ | refine r_neI ?_ | refine r_eqS ?_ | refine r_neS ?_ | refine r_eqB ?_ | refine r_neB ?_ | refine r_ifT ?_ | refine r_ifF ?_ | refine r_ifNt ?_ | refine r_ifNf ?_ | refine r_ifRN ?_ | refine r_ifNRN ?_ | refine r_ifNN ?_ | refine r_ifNNN ?_
  | refine w_ifE ?_ | refine r_int1 ?_ | refine r_int1b ?_ | refine r_isnone ?_ | refine r_notnone ?_ | refine r_max2 ?_ | refine r_min2 ?_ | refine r_ipI ?_ | refine w_tru ?_ | refine w_rs ?_
  | refine w_retN ?_ | refine w_break ?_ | refine w_cont ?_ | refine w_callS ?_ | refine w_asgG ?_ | refine w_gsub ?_ | refine w_fld ?_ | refine w_sfld ?_ | refine w_mk ?_ | refine w_lc ?_ | refine w_iSq ?_ | refine u_isint ?_ | refine w_dnew ?_ | refine w_dnotin ?_ | refine w_din ?_ | refine w_dget ?_ | refine w_dput ?_ | refine w_ckw ?_)
local macro_rules | `(tactic| walk_at "g2") => `(tactic| first
  | ((with_reducible refine' w_var ?hv ?_); (case hv => rfl)) | ((with_reducible refine' w_aug ?hv ?_); (case hv => rfl))
  | ((with_reducible show rLen _ _ _ _); refine r_len (by walk_at "lt") ?_)
  | (with_reducible refine r_I ?cnd ?_; (case cnd => first | decide | omega | assumption | (unfold CPow; decide)))
  | ((with_reducible show RTy _ _ _ _ _); refine r_tyL (by walk_at "l") ?_)
  | (with_reducible refine r_ifDT (by walk_at "c") ?_) | (with_reducible refine r_ifDF (by walk_at "c") ?_)
  | (with_reducible refine r_ifNT (by walk_at "c") ?_) | (with_reducible refine r_ifNF (by walk_at "c") ?_))
local macro_rules | `(tactic| walk_at "go") => `(tactic| repeat (first | walk_at "g1" | walk_at "g2"))

variable {n b c : L2.St → Hp → Prop} {r : VK} {σ : L2.St} {H H' : Hp} {Q : VK} {K : PySem.W.Frag} {E : En} {F F' : Hp} {L L' L1 : Led} {p a : Addr} {xs ys : List V} {ns ms : List Int} {o : HO}
/-- rows that are lists of tuples, all frozen, and what stands in them -/
inductive RowsR (K : PySem.W.Frag) (H : Hp) : List Addr → List (List Addr) → List (List (List Int)) → Prop
  | nil : RowsR K H [] [] []
  | cons {a as bs bss r rs} : H a = some (.lst (rv bs)) → Rows K H false bs r → RowsR K H as bss rs → RowsR K H (a :: as) (bs :: bss) (r :: rs)
variable {as as' : List Addr} {bss bss' : List (List Addr)} {rs rs' : List (List (List Int))}
theorem RowsR.mono (e : Same H H') (h : RowsR K H as bss rs) : RowsR K H' as bss rs := by
  induction h with
  | nil => exact .nil
  | cons h1 h2 _ ih => exact .cons (e _ _ h1) (h2.mono e) ih
theorem RowsR.len1 (h : RowsR K H as bss rs) : as.length = bss.length := by
  induction h with
  | nil => rfl
  | cons _ _ _ ih => rw [List.length_cons, List.length_cons, ih]
theorem RowsR.len (h : RowsR K H as bss rs) : as.length = rs.length := by
  induction h with
  | nil => rfl
  | cons _ _ _ ih => rw [List.length_cons, List.length_cons, ih]
theorem RowsR.at (h : RowsR K H as bss rs) : ∀ {i : Nat} {a : Addr}, as[i]? = some a → ∃ bs r, bss[i]? = some bs ∧ rs[i]? = some r ∧ H a = some (.lst (rv bs)) ∧ Rows K H false bs r := by
  induction h with
  | nil => intro i a e; simp at e
  | cons h1 h2 _ ih =>
    intro i a e
    cases i with
    | zero => rw [List.getElem?_cons_zero] at e; cases e; exact ⟨_, _, rfl, rfl, h1, h2⟩
    | succ i => exact ih (by simpa using e)
theorem RowsR.app (h : RowsR K H as bss rs) (h' : RowsR K H as' bss' rs') : RowsR K H (as ++ as') (bss ++ bss') (rs ++ rs') := by
  induction h with
  | nil => exact h'
  | cons h1 h2 _ ih => exact .cons h1 h2 ih
theorem RowsR.one {bs : List Addr} {r : List (List Int)} (h1 : H a = some (.lst (rv bs))) (h2 : Rows K H false bs r) : RowsR K H [a] [bs] [r] := .cons h1 h2 .nil
theorem RowsR.take (h : RowsR K H as bss rs) : ∀ (n : Nat), RowsR K H (as.take n) (bss.take n) (rs.take n) := by
  induction h with
  | nil => intro n; rw [List.take_nil, List.take_nil, List.take_nil]; exact .nil
  | cons h1 h2 _ ih =>
    intro n
    cases n with
    | zero => exact .nil
    | succ n => exact .cons h1 h2 (ih n)
theorem RowsR.drop (h : RowsR K H as bss rs) : ∀ (n : Nat), RowsR K H (as.drop n) (bss.drop n) (rs.drop n) := by
  induction h with
  | nil => intro n; rw [List.drop_nil, List.drop_nil, List.drop_nil]; exact .nil
  | cons h1 h2 h3 ih =>
    intro n
    cases n with
    | zero => exact .cons h1 h2 h3
    | succ n => exact ih n
theorem RowsR.lt (h : RowsR K H as bss rs) : RowsLT K H as rs := by
  induction h with
  | nil => exact .nil
  | cons h1 h2 _ ih => exact .cons (SqL.of h1) h2 ih
theorem Rows.drop {k : Bool} {ts : List Addr} {r : List (List Int)} (h : Rows K H k ts r) : ∀ (n : Nat), Rows K H k (ts.drop n) (r.drop n) := by
  induction h with
  | nil => intro n; rw [List.drop_nil, List.drop_nil]; exact .nil
  | cons h1 h2 ih =>
    intro n
    cases n with
    | zero => exact .cons h1 h2
    | succ n => exact ih n
theorem Rows.app {k : Bool} {ts ts' : List Addr} {r r' : List (List Int)} (h : Rows K H k ts r) (h' : Rows K H k ts' r') : Rows K H k (ts ++ ts') (r ++ r') := by
  induction h with
  | nil => exact h'
  | cons h1 _ ih => exact .cons h1 ih
theorem RowsX.own {bs : List Addr} (h : RowsR K F as bss rs) (hl : bs.length = bss.length) (ho : ∀ x ∈ rowV bs (bss.map rv), H x.1 = some x.2) : RowsX K F H bs rs := by
  induction h generalizing bs with
  | nil => cases bs with
    | nil => exact .nil
    | cons _ _ => cases hl
  | cons h1 h2 _ ih => cases bs with
    | nil => cases hl
    | cons b bs => exact .cons (.inl (SqL.of (ho _ List.mem_cons_self))) (.ofT h2) (ih (by simpa using hl) fun x hx => ho x (List.mem_cons_of_mem _ hx))
abbrev dRowT (r : List (List Int)) : PyData := .list (r.map (dRow false))
theorem RowsLT.dp (h : RowsLT K H as rs) : DpAll K H (as.map V.ref) (rs.map dRowT) := by
  induction h with
  | nil => exact .nil
  | cons h1 h2 _ ih => exact .cons (.lst h1 h2.dp) ih
theorem shp_rowT {r : List (List Int)} : Shp 2 (dRowT r) := shp_list (shpa_map fun _ _ => shp_row)
theorem St.only (G : St E F H L) (m : (a, o) ∈ L) : St E F H [(a, o)] := ⟨G.bh, G.fh, G.ff, G.pr, fun x hx => by rw [List.mem_singleton.mp hx]; exact G.own _ m, by simp⟩
/-- rows that are owned, with what stands in them frozen -/
theorem RowsLT.own {bs : List Addr} (e : Same F H) (h : RowsR K F as bss rs) (hl : bs.length = bss.length) (ho : ∀ x ∈ rowV bs (bss.map rv), H x.1 = some x.2) : RowsLT K H bs rs := by
  induction h generalizing bs with
  | nil => cases bs with
    | nil => exact .nil
    | cons _ _ => cases hl
  | cons h1 h2 _ ih => cases bs with
    | nil => cases hl
    | cons b bs => exact .cons (SqL.of (ho _ List.mem_cons_self)) (h2.mono e) (ih (by simpa using hl) fun x hx => ho x (List.mem_cons_of_mem _ hx))
theorem Mok.no {m o l : Int} {os : List Int} {rs : List (List (List Int))} {r : List (List Int)} (hr : r ∈ rs) (h : (r.length : Int) ≠ m) : ¬ Mok m o l os rs := fun w => h (w.rr r hr).1
end
end SL

set_option Elab.async false
set_option linter.all false
set_option maxRecDepth 100000
set_option maxHeartbeats 4000000
namespace L2
open PySem PySem.Spec PyProof.Rows
/-! ## every so many items of a tuple -/
theorem vals_places {xs : List V} {us : List Value} (h : Vals xs us) : ∀ js : List Nat, Vals (js.filterMap (xs[·]?)) (js.filterMap (us[·]?))
  | [] => .nil
  | j :: js => by
    have ih := vals_places h js
    cases hx : xs[j]? with
    | some x =>
      obtain ⟨u, hu, ru⟩ := h.get hx
      simp only [List.filterMap_cons, hx, hu]
      exact .cons ru ih
    | none =>
      have hu : us[j]? = none := by
        rw [List.getElem?_eq_none_iff] at hx ⊢
        rw [← h.length]; exact hx
      simp only [List.filterMap_cons, hx, hu]
      exact ih
def jsOf (l m c : Nat) : List Nat := (List.range c).map fun k => l + k * m
theorem places_step {l m c : Nat} (hl : l < m) (hc : 0 < c) : Builtin.Slice.slicePlaces (l : Int) ((c * m : Nat) : Int) (m : Int) = c := by
  unfold Builtin.Slice.slicePlaces
  have h1 : (m : Int) > 0 := by omega
  have h2 : (l : Int) < ((c * m : Nat) : Int) := by
    have : 1 * m ≤ c * m := Nat.mul_le_mul_right m hc
    omega
  rw [if_pos h1, if_pos h2]
  obtain ⟨d, rfl⟩ : ∃ d, c = d + 1 := ⟨c - 1, by omega⟩
  have e : (((d + 1) * m : Nat) : Int) - (l : Int) - 1 = (m - 1 - l : Nat) + (m : Int) * (d : Int) := by
    rw [Nat.add_mul, Nat.one_mul, Int.natCast_add, Int.natCast_mul, Int.mul_comm]
    omega
  rw [e, Int.add_mul_ediv_left _ _ (by omega), Int.ediv_eq_zero_of_lt (by omega) (by omega)]
  omega
theorem sliceApplied_step {prog : Program} {w : World} {A : Around} {E : Value → Shared → Prop} {s : Shared} {sl : Addr} {vl vu vk : Value} {l m c : Nat} {Q : Int × Int × Nat → Shared → Prop} (hs : s.heap.IsSliceOf sl vl vu vk) (pl : IsPart vl (some (l : Int))) (pu : IsPart vu none) (pk : IsPart vk (some (m : Int))) (hl : l < m) (hc : 0 < c)
    (h : Q ((l : Int), (m : Int), c) s) : wpAny (model prog w) A (Builtin.Slice.sliceApplied (.ref sl) (pure ((c * m : Nat) : Int))) Q E s := by
  obtain ⟨os, hos, hcs, hds⟩ := id hs
  unfold Builtin.Slice.sliceApplied Builtin.Slice.sliceFields
  refine wpAny_bind (wpAny_bind (wpAny_field hos hds (x := vl) rfl (wpAny_bind (wpAny_field hos hds (x := vu) rfl (wpAny_bind (wpAny_field hos hds (x := vk) rfl (wpAny_pure ?_)))))))
  refine wpAny_bind (HT.slicePart_ pk ?_)
  show wpAny _ _ (if (((m : Nat) : Int) == 0) = true then _ else _) _ _ s
  rw [if_neg (by intro q; have := eq_of_beq q; omega)]
  refine wpAny_bind (HT.slicePart_ pl (wpAny_bind (HT.slicePart_ pu (wpAny_bind (wpAny_pure ?_)))))
  have ha : Builtin.Slice.sliceAdjust (some (l : Int)) none (m : Int) ((c * m : Nat) : Int) = ((l : Int), ((c * m : Nat) : Int)) := by
    have h1 : ¬ ((m : Int) < 0) := by omega
    have h2 : (l : Int) ≤ ((c * m : Nat) : Int) := by
      have : 1 * m ≤ c * m := Nat.mul_le_mul_right m hc
      omega
    unfold Builtin.Slice.sliceAdjust
    simp only [h1, if_false]
    refine Prod.ext ?_ rfl
    show (if (l : Int) < 0 then max ((l : Int) + ((c * m : Nat) : Int)) 0 else min (l : Int) ((c * m : Nat) : Int)) = (l : Int)
    rw [if_neg (by omega)]
    omega
  show wpAny _ _ (match Builtin.Slice.sliceAdjust (some (l : Int)) none (m : Int) ((c * m : Nat) : Int) with | (lo, hi) => pure (lo, (m : Int), Builtin.Slice.slicePlaces lo hi (m : Int))) _ _ s
  rw [ha]
  show wpAny _ _ (pure ((l : Int), (m : Int), Builtin.Slice.slicePlaces (l : Int) ((c * m : Nat) : Int) (m : Int))) _ _ s
  rw [places_step hl hc]
  exact wpAny_pure h
theorem pick_step (xs : Array Value) (l m c : Nat) : ((List.range c).filterMap fun (k : Nat) => xs[((l : Int) + (k : Int) * (m : Int)).toNat]?).toArray = ((jsOf l m c).filterMap (xs.toList[·]?)).toArray := by
  unfold jsOf
  rw [List.filterMap_map]
  congr 2
  funext k
  show xs[((l : Int) + (k : Int) * (m : Int)).toNat]? = xs.toList[l + k * m]?
  rw [show ((l : Int) + (k : Int) * (m : Int)).toNat = l + k * m from by rw [← Int.natCast_mul, ← Int.natCast_add]; rfl, Array.getElem?_toList]
theorem getItem_tuple_step {prog : Program} {w : World} {A : Around} {E : Value → Shared → Prop} {s : Shared} {t sl : Addr} {items : Array Value} {vl vu vk : Value} {l m c : Nat} {Q : Value → Shared → Prop} (ht : IsTup s.heap t items) (hs : s.heap.IsSliceOf sl vl vu vk) (pl : IsPart vl (some (l : Int))) (pu : IsPart vu none) (pk : IsPart vk (some (m : Int))) (hl : l < m) (hc : 0 < c)
    (hsize : items.size = c * m) (hm : 1 < m)
    (h : Q (.ref s.heap.objs.size) { s with heap := s.heap.push { cls := .type "tuple", data := .seq ((jsOf l m c).filterMap (items.toList[·]?)).toArray } })
    (hsz : items.size ≤ sizeLine) : wpAny (model prog w) A (getItem (.ref t) (.ref sl)) Q E s := by
  have htake : sizeOk (.seq ((jsOf l m c).filterMap (items.toList[·]?)).toArray) := by
    show ((jsOf l m c).filterMap (items.toList[·]?)).toArray.size ≤ sizeLine
    rw [List.size_toArray]
    have h1 := List.length_filterMap_le (items.toList[·]?) (jsOf l m c)
    have h2 : (jsOf l m c).length = c := by unfold jsOf; simp
    have h3 : c * 1 ≤ c * m := Nat.mul_le_mul_left c (by omega)
    omega
  obtain ⟨os, hos, hcs, hds⟩ := id hs
  have hTs : s.TypeIs (.ref sl) "slice" := ⟨os, hos, hcs⟩
  unfold getItem
  try with_reducible refine wpAny_holding ?_
  first | refine wpAny_bind (wpAny_pure ?_) | skip
  refine wpAny_bind (wpAny_sequenceKey ht.typeIs (by decide) ?_)
  refine wpAny_bind (wpAny_callSpecial?_slot (name := Str.ofString "__getitem__") ht.typeIs PyProof.Rows.slot_tuple_getitem
    (wpAny_call_entry PyProof.Rows.slot_tuple_getitem ht.typeIs entry_tuple_getitem ?_ (args_tuple_getitem _ _)))
  show wpAny _ _ (Builtin.Tuple.tupleItemsOf (.ref t) >>= _) _ _ s
  refine wpAny_bind (tupleItemsOf_ ht ?_)
  refine wpAny_bind (wpAny_typeOf hTs ?_)
  rw [if_pos (by decide)]
  rw [hsize]
  refine wpAny_bind (sliceApplied_step hs pl pu pk hl hc ?_)
  have hno : ¬ (((l : Int) == 0 && (m : Int) == 1 && c == items.size) = true) := by
    intro q
    rw [Bool.and_eq_true, Bool.and_eq_true] at q
    have q1 : (m : Int) = 1 := eq_of_beq q.1.2
    omega
  rw [hsize] at hno
  show wpAny _ _ (if ((l : Int) == 0 && (m : Int) == 1 && c == c * m) = true then _ else _) _ _ s
  rw [if_neg hno, pick_step]
  first
    | exact wpAny_bind (m := Builtin.Tuple.tupleExact _) (wpAny_newObj_type (wpAny_pure ⟨_, rfl, wpAny_pure h⟩) htake)
    | exact wpAny_bind (m := Builtin.Tuple.tupleExact _) (wpAny_newObj_type (wpAny_bind (wpAny_pure (wpAny_pure ⟨_, rfl, wpAny_pure h⟩))) htake)
    | exact wpAny_bind (wpAny_bind (m := Builtin.Tuple.tupleExact _) (wpAny_newObj_type (wpAny_pure (wpAny_pure ⟨_, rfl, wpAny_pure h⟩)) htake))
    | exact wpAny_bind (wpAny_bind (m := Builtin.Tuple.tupleExact _) (wpAny_newObj_type (wpAny_pure ⟨_, rfl, wpAny_pure h⟩) htake))
end L2
namespace L2
open PySem PySem.Spec PyProof.Rows
theorem getItem_tuple_step1 {prog : Program} {w : World} {A : Around} {E : Value → Shared → Prop} {s : Shared} {t sl : Addr} {items : Array Value} {vl vu vk : Value} {c : Nat} {Q : Value → Shared → Prop} (ht : IsTup s.heap t items) (hs : s.heap.IsSliceOf sl vl vu vk) (pl : IsPart vl (some ((0 : Nat) : Int))) (pu : IsPart vu none) (pk : IsPart vk (some ((1 : Nat) : Int))) (hc : 0 < c)
    (hsize : items.size = c) (h : Q (.ref t) s) : wpAny (model prog w) A (getItem (.ref t) (.ref sl)) Q E s := by
  obtain ⟨os, hos, hcs, hds⟩ := id hs
  have hTs : s.TypeIs (.ref sl) "slice" := ⟨os, hos, hcs⟩
  unfold getItem
  try with_reducible refine wpAny_holding ?_
  first | refine wpAny_bind (wpAny_pure ?_) | skip
  refine wpAny_bind (wpAny_sequenceKey ht.typeIs (by decide) ?_)
  refine wpAny_bind (wpAny_callSpecial?_slot (name := Str.ofString "__getitem__") ht.typeIs PyProof.Rows.slot_tuple_getitem
    (wpAny_call_entry PyProof.Rows.slot_tuple_getitem ht.typeIs entry_tuple_getitem ?_ (args_tuple_getitem _ _)))
  show wpAny _ _ (Builtin.Tuple.tupleItemsOf (.ref t) >>= _) _ _ s
  refine wpAny_bind (tupleItemsOf_ ht ?_)
  refine wpAny_bind (wpAny_typeOf hTs ?_)
  rw [if_pos (by decide)]
  rw [show items.size = c * 1 from by omega]
  refine wpAny_bind (sliceApplied_step (l := 0) (m := 1) hs pl pu pk (by decide) hc ?_)
  have hyes : ((((0 : Nat) : Int)) == 0 && (((1 : Nat) : Int)) == 1 && c == c * 1) = true := by simp
  show wpAny _ _ (if ((((0 : Nat) : Int)) == 0 && (((1 : Nat) : Int)) == 1 && c == c * 1) = true then _ else _) _ _ s
  rw [if_pos hyes]
  refine wpAny_bind ?_
  show wpAny _ _ (typeOf (.ref t) >>= fun T => pure (T == .type "tuple")) _ _ s
  refine wpAny_bind (wpAny_typeOf ht.typeIs (wpAny_pure ?_))
  rw [if_pos (by decide)]
  first
    | exact wpAny_bind (wpAny_rule (wpAny_pure ⟨_, rfl, wpAny_pure h⟩))
    | exact wpAny_bind (wpAny_rule (wpAny_bind (wpAny_pure (wpAny_pure ⟨_, rfl, wpAny_pure h⟩))))
/-- t[l::m], t a tuple of c * m items, l below m -/
def rSl3 (K : PySem.W.Frag) : V → Option Int → Option Int → Hp → VK → Prop := fun x lo st H Q => ∃ (a : Addr) (xs : List V) (l m c : Nat), x = .ref a ∧ lo = some (l : Int) ∧ st = some (m : Int) ∧ SqT K H a xs ∧ (l < m ∧ 0 < c ∧ xs.length = c * m) ∧
  (m = 1 → Q (.ref a) H) ∧ (1 < m → ∀ p, H p = none → Q (.ref p) (upd H p (.tup ((jsOf l m c).filterMap (xs[·]?)))))
def tSl3 (r : V → Option Int → Option Int → Hp → VK → Prop) (te : TE) (tl tk : TO) : TE := fun σ H Q => te σ H fun x H1 => tl σ H1 fun lo H2 => tk σ H2 fun st H3 => r x lo st H3 Q
theorem pe_slice3 {X : Cx} {e : Expr} {lo : Option Expr} {ke : Expr} {te : TE} {tl tk : TO} {pos p2 : Pos} (he : PE X e te) (hl : PO X lo tl) (hk : PO X (some ke) tk) : PE X (.Subscript e (.Slice lo none (some ke) p2) pos) (tSl3 (rSl3 X.K) te tl tk) := by
  refine ⟨fun pins s σ H Q I h => ?_⟩
  refine Subscript_ (thn (he.run pins s σ H _ I h) fun v s1 ⟨x, H1, I1, r1, q1⟩ => ?_)
  refine wpAny_Slice (thn (hl.run pins s1 σ H1 _ I1 q1) fun vl s2 ⟨l, H2, I2, pl, q2⟩ => ?_)
  rw [evalPart_none]
  refine wpAny_pure ?_
  refine thn (hk.run pins s2 σ H2 _ I2 q2) fun vk s3 ⟨o2, H3, I3, pk, q3⟩ => ?_
  have I4 : Inv X pins σ H3 { s3 with heap := s3.heap.push { cls := .type "slice", data := .fields #[vl, .none, vk] } } := I3.kept (t' := s3.toks) fun b ob q => Heap.get?_push_of_some _ q
  obtain ⟨a, xs, l', m, c, rfl, rfl, rfl, hx, ⟨h1, h2, h3⟩, k1, k2⟩ := q3
  cases r1
  obtain ⟨its, r, ht, hz⟩ := I4.tuple hx
  have hlen : its.toArray.size = xs.length := by rw [List.size_toArray]; exact r.length.symm
  have hsl : Heap.IsSliceOf (Shared.heap { s3 with heap := s3.heap.push { cls := .type "slice", data := .fields #[vl, .none, vk] } }) s3.heap.objs.size vl .none vk := Heap.IsSliceOf.new ..
  show wpAny (model X.prog X.w) X.A (subscriptTail e (.Slice lo none (some ke) p2) (.ref a) (.ref s3.heap.objs.size)) (EP X pins σ Q) X.xe { s3 with heap := s3.heap.push { cls := .type "slice", data := .fields #[vl, .none, vk] } }
  refine tail_any (ops := [.ref a, .ref s3.heap.objs.size]) ht.typeIs PyProof.Rows.slot_tuple_getitem.lookup ?_ (by with_unfolding_all rfl)
  by_cases hm : m = 1
  · subst hm
    have e0 : l' = 0 := by omega
    subst e0
    exact getItem_tuple_step1 ht hsl pl .none pk h2 (by rw [hlen, h3]; omega) ⟨.ref a, H3, I4, rfl, k1 rfl⟩
  · refine getItem_tuple_step ht hsl pl .none pk h1 h2 (by rw [hlen, h3]) (by omega) ?_ (by rw [hlen]; exact hz)
    refine ⟨.ref _, _, I4.laid (t' := s3.toks) (o := .tup ((jsOf l' m c).filterMap (xs[·]?))) (fun b ob q => Heap.get?_push_of_some _ q) (Nat.le_refl _) ?_, rfl, k2 (by omega) _ (I4.hok.fresh (Nat.le_refl _))⟩
    refine ⟨?_, _, vals_places r (jsOf l' m c), IsTup.new _ _⟩
    have q1 := List.length_filterMap_le (xs[·]?) (jsOf l' m c)
    have q2 : (jsOf l' m c).length = c := by unfold jsOf; simp
    have q3 : c * 1 ≤ c * m := Nat.mul_le_mul_left c (by omega)
    omega
end L2
namespace L2
open PySem PySem.Spec PyProof.Rows
/-- a list that may be locked, and another -/
def rCatD : R2 := fun x y H Q => ∃ l b xs zs, x = .ref l ∧ y = .ref b ∧ Rd H l (.lst xs) ∧ Rd H b (.lst zs) ∧ xs.length + zs.length ≤ sizeLine ∧ ∀ p, H p = none → Q (.ref p) (upd H p (.lst (xs ++ zs)))
theorem op_catD {X : Cx} : OpR X (binaryOp .Add) rCatD := by
  intro pins s σ H x y v u Q I rx ry h
  obtain ⟨l, b, xs, zs, rfl, rfl, hH, hB, hz, q⟩ := h
  cases rx
  cases ry
  obtain ⟨z, its, n, r, e⟩ := hH.ok I.hok
  obtain ⟨z2, its2, n2, r2, e2⟩ := hB.ok I.hok
  have hl := r.length
  have hl2 := r2.length
  refine PySem.P.add_list e e2 ?_ (by rw [List.size_toArray, List.size_toArray]; omega)
  have ea : its.toArray ++ its2.toArray = (its ++ its2).toArray := by simp
  rw [ea]
  exact ⟨.ref _, _, I.lnew (t' := s.toks) (r.append r2) (by rw [List.length_append]; omega), rfl, q _ I.fresh⟩
end L2
namespace SL
open PySem L2
section

set_option hygiene false
local macro_rules | `(tactic| walk_at "m") => `(tactic| first | exact List.Mem.head _ | (refine List.Mem.tail _ ?_; walk_at "m"))
local macro_rules | `(tactic| walk_at "u") => `(tactic| first | exact Upd.head | (apply Upd.tail; walk_at "u"))
local macro_rules | `(tactic| walk_at "tk") => `(tactic| first | exact Tak.head | (apply Tak.tail; walk_at "tk"))
local macro_rules | `(tactic| walk_at "l") => `(tactic| first | assumption | exact lS (St.fh (by assumption)) (by assumption) | exact SqL.of (St.get (by assumption) (by walk_at "m")))
local macro_rules | `(tactic| walk_at "t") => `(tactic| first | assumption | exact tS (St.fh (by assumption)) (by assumption) | exact SqT.of (St.get (by assumption) (by walk_at "m")))
local macro_rules | `(tactic| walk_at "lt") => `(tactic| first | exact .inl (by walk_at "l") | exact .inr (by walk_at "t"))
local macro_rules | `(tactic| walk_at "sz") => `(tactic| first | (show _ ≤ sizeLine; decide) | exact sz (by simp) | exact szl (by simp) | exact sz (by omega) | exact szl (by omega) | exact sz (by simp; omega) | exact szl (by simp; omega))
local macro_rules | `(tactic| walk_at "c") => `(tactic| first | assumption | decide | omega)
local macro_rules | `(tactic| walk_at "g1") => `(tactic| with_reducible first
  | refine w_seq ?_ | refine w_asg ?_ | refine w_c ?_ | refine w_op ?_
  | refine r_I0 ?_ | refine w_test ?_ | refine r_b ?_ | refine w_if ?_ | refine w_cons ?_ | refine w_nil ?_
  | refine w_ret ?_ | refine w_drop ?_ | refine w_cb ?_ | refine w_call ?_ | refine w_next ?_ | refine w_tup ?_ | refine w_lst ?_ | refine w_bm ?_ | refine w_bm0 ?_
  | refine w_and ?_ | refine w_or ?_ | refine w_not ?_ | refine w_andV ?_ | refine w_orV ?_ | refine w_notV ?_ | refine w_tB ?_ | refine w_un ?_ | refine r_U ?_
  | refine w_for ?_ | refine w_iL ?_ | refine w_iT ?_ | refine w_i1 ?_ | refine w_i2 ?_ | refine w_sl ?_ | refine w_part ?_ | refine w_nopart ?_ | refine r_part ?_
  | refine r_eqI ?_ | refine r_neI ?_ | refine r_eqS ?_ | refine r_neS ?_ | refine r_eqB ?_ | refine r_neB ?_ | refine r_ifT ?_ | refine r_ifF ?_ | refine r_ifNt ?_ | refine r_ifNf ?_ | refine r_ifRN ?_ | refine r_ifNRN ?_ | refine r_ifNN ?_ | refine r_ifNNN ?_
  | refine w_ifE ?_ | refine r_int1 ?_ | refine r_int1b ?_ | refine r_isnone ?_ | refine r_notnone ?_ | refine r_max2 ?_ | refine r_min2 ?_ | refine r_ipI ?_ | refine w_tru ?_ | refine w_rs ?_
  | refine w_retN ?_ | refine w_break ?_ | refine w_cont ?_ | refine w_callS ?_ | refine w_asgG ?_ | refine w_gsub ?_ | refine w_fld ?_ | refine w_sfld ?_ | refine w_mk ?_ | refine w_lc ?_ | refine w_iSq ?_ | refine u_isint ?_ | refine w_dnew ?_ | refine w_dnotin ?_ | refine w_din ?_ | refine w_dget ?_ | refine w_dput ?_ | refine w_ckw ?_)
local macro_rules | `(tactic| walk_at "g2") => `(tactic| first
  | ((with_reducible refine' w_var ?hv ?_); (case hv => rfl)) | ((with_reducible refine' w_aug ?hv ?_); (case hv => rfl))
  | ((with_reducible show rLen _ _ _ _); refine r_len (by walk_at "lt") ?_)
  | (with_reducible refine r_I ?cnd ?_; (case cnd => first | decide | omega | assumption | (unfold CPow; decide)))
  | ((with_reducible show RTy _ _ _ _ _); refine r_tyL (by walk_at "l") ?_)
  | (with_reducible refine r_ifDT (by walk_at "c") ?_) | (with_reducible refine r_ifDF (by walk_at "c") ?_)
  | (with_reducible refine r_ifNT (by walk_at "c") ?_) | (with_reducible refine r_ifNF (by walk_at "c") ?_))
local macro_rules | `(tactic| walk_at "go") => `(tactic| repeat (first | walk_at "g1" | walk_at "g2"))

variable {n b c : L2.St → Hp → Prop} {r : VK} {σ : L2.St} {H H' : Hp} {Q : VK} {K : PySem.W.Frag} {E : En} {F F' : Hp} {L L' L1 : Led} {p a : Addr} {xs ys : List V} {ns ms : List Int} {o : HO} {te : TE} {tl tk : TO} {v : V}
theorem w_sl3 {rr : V → Option Int → Option Int → Hp → VK → Prop} (h : te σ H fun x H1 => tl σ H1 fun lo H2 => tk σ H2 fun st H3 => rr x lo st H3 Q) : tSl3 rr te tl tk σ H Q := h
/-- a dict that is a set of integers -/
def kS (ks : List Int) : List (Key × V) := ks.map fun z => (.inl z, .bl true)
theorem kS_val {ks : List Int} {z : Int} : valV (kS ks) (.inl z) = if z ∈ ks then some (.bl true) else none := by
  induction ks with
  | nil => rfl
  | cons y ks ih =>
    by_cases e : y = z
    · subst e
      rw [if_pos List.mem_cons_self]
      exact valV_pos rfl
    · show valV ((.inl y, .bl true) :: kS ks) (.inl z) = _
      rw [valV_neg (fun w => e (Sum.inl.inj w)), ih]
      by_cases m : z ∈ ks
      · rw [if_pos m, if_pos (List.mem_cons_of_mem _ m)]
      · rw [if_neg m, if_neg (fun w => by rcases List.mem_cons.mp w with q | q; exact e q.symm; exact m q)]
def addS (ks : List Int) (z : Int) : List Int := if z ∈ ks then ks else ks ++ [z]
theorem kS_put {ks : List Int} {z : Int} : putK (kS ks) (.inl z) (.bl true) = kS (addS ks z) := by
  unfold addS
  by_cases m : z ∈ ks
  · rw [if_pos m]
    unfold putK
    rw [valV_any, kS_val, if_pos m]
    show (kS ks).map _ = kS ks
    unfold kS
    rw [List.map_map]
    refine List.map_congr_left fun y _ => ?_
    show (if (Sum.inl y : Key) = .inl z then ((Sum.inl y : Key), V.bl true) else (Sum.inl y, V.bl true)) = _
    split <;> rfl
  · rw [if_neg m, putK_new (by rw [kS_val, if_neg m])]
    unfold kS
    rw [List.map_append]; rfl
theorem addS_mem {ks : List Int} {z x : Int} : x ∈ addS ks z ↔ x ∈ ks ∨ x = z := by
  unfold addS
  split
  · exact ⟨.inl, fun h => by rcases h with h | h; exact h; exact h ▸ ‹_›⟩
  · rw [List.mem_append, List.mem_singleton]
theorem addS_nodup {ks : List Int} {z : Int} (h : ks.Nodup) : (addS ks z).Nodup := by
  unfold addS
  split
  · exact h
  · rename_i m
    rw [List.nodup_append]
    exact ⟨h, by simp, fun a ha b hb e => m (by rw [List.mem_singleton.mp hb] at e; exact e ▸ ha)⟩
theorem kS_keys {ks : List Int} : (kS ks).map (fun kv => kV kv.1) = iv ks := by
  unfold kS
  rw [List.map_map]; rfl
theorem kS_len {ks : List Int} : (kS ks).length = ks.length := by unfold kS; simp
theorem r_listdK {ks : List Int} (G : St E F H L) (m : (a, HO.dK (kS ks)) ∈ L) (q : ∀ p H', St E F H' ((p, .lst (iv ks)) :: L) → Q (.ref p) H') : rListD [.ref a] H Q :=
  ⟨a, kS ks, rfl, G.get m, fun p hp => by rw [kS_keys]; exact q p _ (G.new hp)⟩
theorem r_sorted (G : St E F H L) (h : SqL K H a (iv ns)) (hl : ns.length < 64) (q : ∀ ns' p H', ns'.Perm ns → ns'.Pairwise (· ≤ ·) → St E F H' ((p, .lst (iv ns')) :: L) → Q (.ref p) H') : rSorted K [.ref a] H Q :=
  ⟨a, ns, rfl, h, hl, fun ns' p hp hs hn => q ns' p _ hp hs (G.new hn)⟩
theorem asc_of {ns ks : List Int} {n : Int} (hp : ns.Perm ks) (hs : ns.Pairwise (· ≤ ·)) (hn : ks.Nodup) (hb : ∀ x ∈ ks, 0 ≤ x ∧ x < n) : asc n (-1) ns = true := by
  refine asc_iff.mpr ⟨fun x hx => by have := hb x (hp.mem_iff.mp hx); omega, ?_⟩
  have hn' : ns.Nodup := hp.nodup_iff.mpr hn
  refine List.Pairwise.imp ?_ (hs.and hn')
  rintro x y ⟨h1, h2⟩
  have : x ≠ y := h2
  omega
theorem rv_pick {es : List Addr} : ∀ (js : List Nat), js.filterMap ((rv es)[·]?) = rv (js.filterMap (es[·]?))
  | [] => rfl
  | j :: js => by
    have e : (rv es)[j]? = (es[j]?).map V.ref := List.getElem?_map ..
    rw [List.filterMap_cons, List.filterMap_cons, e]
    cases es[j]? with
    | none => exact rv_pick js
    | some z => exact congrArg (V.ref z :: ·) (rv_pick js)
theorem Rows.pick {k : Bool} {es : List Addr} {r : List (List Int)} (h : Rows K H k es r) : ∀ (js : List Nat), Rows K H k (js.filterMap (es[·]?)) (js.filterMap (r[·]?))
  | [] => .nil
  | j :: js => by
    rw [List.filterMap_cons, List.filterMap_cons]
    cases e : es[j]? with
    | none =>
      have : r[j]? = none := by rw [List.getElem?_eq_none_iff] at e ⊢; rw [← h.len]; exact e
      rw [this]; exact h.pick js
    | some z =>
      obtain ⟨ns, h1, h2⟩ := h.at e
      rw [h1]; exact .cons h2 (h.pick js)
/-- lists that are frozen as they are -/
inductive RawL (H : Hp) : List Addr → List (List Int) → Prop
  | nil : RawL H [] []
  | cons {a as ns rs} : H a = some (.lst (iv ns)) → RawL H as rs → RawL H (a :: as) (ns :: rs)
theorem RawL.mono {as : List Addr} {rs : List (List Int)} (e : Same H H') (h : RawL H as rs) : RawL H' as rs := by
  induction h with
  | nil => exact .nil
  | cons h1 _ ih => exact .cons (e _ _ h1) ih
theorem RawL.rows {as : List Addr} {rs : List (List Int)} (h : RawL H as rs) : Rows K H true as rs := by
  induction h with
  | nil => exact .nil
  | cons h1 _ ih => exact .cons (SqL.of h1) ih
theorem RawL.len {as : List Addr} {rs : List (List Int)} (h : RawL H as rs) : as.length = rs.length := by
  induction h with
  | nil => rfl
  | cons _ _ ih => rw [List.length_cons, List.length_cons, ih]
theorem RawL.at {as : List Addr} {rs : List (List Int)} (h : RawL H as rs) : ∀ {i : Nat} {a : Addr}, as[i]? = some a → ∃ ns, rs[i]? = some ns ∧ H a = some (.lst (iv ns)) := by
  induction h with
  | nil => intro i a e; simp at e
  | cons h1 _ ih =>
    intro i a e
    cases i with
    | zero => rw [List.getElem?_cons_zero] at e; cases e; exact ⟨_, rfl, h1⟩
    | succ i => exact ih (by simpa using e)
theorem RawL.snoc {as : List Addr} {rs : List (List Int)} (h : RawL H as rs) (h2 : H a = some (.lst (iv ns))) : RawL H (as ++ [a]) (rs ++ [ns]) := by
  induction h with
  | nil => exact .cons h2 .nil
  | cons h1 _ ih => exact .cons h1 ih
inductive Raw2 (K : PySem.W.Frag) (H : Hp) : List Addr → List (List (List Int)) → Prop
  | nil : Raw2 K H [] []
  | cons {a as bs r rs} : SqL K H a (rv bs) → RawL H bs r → Raw2 K H as rs → Raw2 K H (a :: as) (r :: rs)
theorem Raw2.mono {as : List Addr} {rs : List (List (List Int))} (e : Same H H') (h : Raw2 K H as rs) : Raw2 K H' as rs := by
  induction h with
  | nil => exact .nil
  | cons h1 h2 _ ih => exact .cons (lS e h1) (h2.mono e) ih
theorem Raw2.rows {as : List Addr} {rs : List (List (List Int))} (h : Raw2 K H as rs) : Rows2 K H true as rs := by
  induction h with
  | nil => exact .nil
  | cons h1 h2 _ ih => exact .cons h1 h2.rows ih
theorem Raw2.at {as : List Addr} {rs : List (List (List Int))} (h : Raw2 K H as rs) : ∀ {i : Nat} {a : Addr}, as[i]? = some a → ∃ bs r, rs[i]? = some r ∧ SqL K H a (rv bs) ∧ RawL H bs r := by
  induction h with
  | nil => intro i a e; simp at e
  | cons h1 h2 _ ih =>
    intro i a e
    cases i with
    | zero => rw [List.getElem?_cons_zero] at e; cases e; exact ⟨_, _, rfl, h1, h2⟩
    | succ i => exact ih (by simpa using e)
theorem Raw2.snoc {as : List Addr} {bs : List Addr} {r : List (List Int)} {rs : List (List (List Int))} (h : Raw2 K H as rs) (h1 : SqL K H a (rv bs)) (h2 : RawL H bs r) : Raw2 K H (as ++ [a]) (rs ++ [r]) := by
  induction h with
  | nil => exact .cons h1 h2 .nil
  | cons q1 q2 _ ih => exact .cons q1 q2 ih
/-! ## the law's own search for a good round -/
abbrev bv (bs : List Bool) : List V := bs.map V.bl
theorem bv_len {bs : List Bool} : (bv bs).length = bs.length := List.length_map ..
theorem atI_bv {bs : List Bool} {i : Int} (h0 : 0 ≤ i) (h1 : i < bs.length) : atI (bv bs) i = some (.bl (bs.getD i.toNat false)) := by
  have e : ((i.toNat : Nat) : Int) = i := by omega
  have hlt : i.toNat < bs.length := by omega
  have g : (bv bs)[i.toNat]? = some (.bl (bs.getD i.toNat false)) := by
    rw [List.getElem?_map, List.getElem?_eq_getElem hlt, List.getD_eq_getElem?_getD, List.getElem?_eq_getElem hlt]; rfl
  have q := atI_nat g
  rw [e] at q
  exact q
theorem bv_set {bs : List Bool} {j : Nat} {z : Bool} : (bv bs).set j (.bl z) = bv (bs.set j z) := by simp [List.map_set]
def hit1 (g kept reach : List Bool) (t : Int) : Bool := kept.getD t.toNat false && (g.getD t.toNat false || reach.getD t.toNat false)
def hitM (M : List (List Int)) (g kept reach : List Bool) (k : Nat) : Bool := (M.getD k []).any (hit1 g kept reach)
def stepL (M : List (List Int)) (g kept : List Bool) (rc : List Bool × Bool) (k : Nat) : List Bool × Bool := if kept.getD k false && !(rc.1.getD k false) && hitM M g kept rc.1 k then (rc.1.set k true, true) else rc
def psL (M : List (List Int)) (g kept reach : List Bool) (j : Nat) : List Bool × Bool := ((List.range j).map fun j => M.length - 1 - j).foldl (stepL M g kept) (reach, false)
def againL (M : List (List Int)) (g kept : List Bool) : Nat → List Bool → List Bool
  | 0, reach => reach
  | f + 1, reach => if (psL M g kept reach M.length).2 then againL M g kept f (psL M g kept reach M.length).1 else (psL M g kept reach M.length).1
def turnL (M : List (List Int)) (g : List Bool) : Nat → List Bool → List Bool
  | 0, kept => kept
  | f + 1, kept => if againL M g kept (M.length + 1) (List.replicate M.length false) = kept then kept else turnL M g f (againL M g kept (M.length + 1) (List.replicate M.length false))
def LV (M : List (List Int)) (g : List Bool) (st : List Int) : Bool := st.any fun s => (turnL M g (M.length + 1) (List.replicate M.length true)).getD s.toNat false
theorem any_mem {α : Type} {p : α → Bool} {xs ys : List α} (h : ∀ t, t ∈ xs ↔ t ∈ ys) : xs.any p = ys.any p := by
  rw [Bool.eq_iff_iff, List.any_eq_true, List.any_eq_true]
  exact ⟨fun ⟨x, h1, h2⟩ => ⟨x, (h x).mp h1, h2⟩, fun ⟨x, h1, h2⟩ => ⟨x, (h x).mpr h1, h2⟩⟩
theorem LV_congr {M M' : List (List Int)} (hl : M.length = M'.length) (h : ∀ k t, t ∈ M.getD k [] ↔ t ∈ M'.getD k []) (g : List Bool) (st : List Int) : LV M g st = LV M' g st := by
  have e1 : hitM M = hitM M' := by
    funext g kept reach k
    exact any_mem (h k)
  have e2 : stepL M = stepL M' := by
    funext g kept rc k
    unfold stepL
    rw [e1]
  have e3 : psL M = psL M' := by
    funext g kept reach j
    unfold psL
    rw [e2, hl]
  have e4 : ∀ f g kept reach, againL M g kept f reach = againL M' g kept f reach := fun f => by
    induction f with
    | zero => intros; rfl
    | succ f ih =>
      intro g kept reach
      unfold againL
      rw [e3, hl, ih]
  have e5 : ∀ f g kept, turnL M g f kept = turnL M' g f kept := fun f => by
    induction f with
    | zero => intros; rfl
    | succ f ih =>
      intro g kept
      unfold turnL
      rw [e4, hl, ih]
  unfold LV
  rw [e5, hl]
end
end SL

set_option Elab.async false
set_option linter.all false
set_option maxRecDepth 100000
set_option maxHeartbeats 4000000
namespace LW
open PySem SL
open L2 hiding rLen
structure LasQ (K : PySem.W.Frag) (H : Hp) (w : Addr) (hs ls : List Int) : Prop where
  ex : ∃ h l, SqT K H w [.ref h, .ref l] ∧ (SqL K H h (iv hs) ∨ SqT K H h (iv hs)) ∧ (SqL K H l (iv ls) ∨ SqT K H l (iv ls))
theorem LasQ.of {K : PySem.W.Frag} {H : Hp} {w : Addr} {hs ls : List Int} (h : LasAt K H w hs ls) : LasQ K H w hs ls := by
  obtain ⟨a, b, h1, h2, h3⟩ := h.ex
  exact ⟨⟨a, b, h1, .inr h2, .inr h3⟩⟩
def mvs (rs : List (List (List Int))) (size hl : Nat) (ws : List Int) (q : Nat) : List Int := ((rs.getD (q / size) []).getD (ws.getD (q % size) 0).toNat []).map fun t => t * (size : Int) + ((if q % size + 1 = size then hl else q % size + 1 : Nat) : Int)
def movesOf (rs : List (List (List Int))) (hs ls : List Int) : List (List Int) := (List.range (rs.length * (hs.length + ls.length))).map (mvs rs (hs.length + ls.length) hs.length (hs ++ ls))
def goodsOf (n size : Nat) (cs : List Int) : List Bool := (List.range (n * size)).map fun q => decide (((q / size : Nat) : Int) ∈ cs)
def ACC (rs : List (List (List Int))) (is cs hs ls : List Int) : Bool := LV (movesOf rs hs ls) (goodsOf rs.length (hs.length + ls.length) cs) (is.map fun s => s * ((hs.length + ls.length : Nat) : Int))
def HidOf (m k : Nat) (rs rs' : List (List (List Int))) : Prop := rs'.length = rs.length ∧ ∀ (s : Nat) r r', rs[s]? = some r → rs'[s]? = some r' → ∀ l, l < k → ∀ x, x ∈ r'.getD l [] ↔ ∃ e ∈ (jsOf l k (m / k)).filterMap (r[·]?), x ∈ e
def WidOf (m k : Nat) (rs rs' : List (List (List Int))) : Prop := rs' = rs.map fun r => (List.replicate (k / m) r).flatten
def mgE (k : Nat) (r : List (List Int)) (l : Nat) : List Int := ((List.range r.length).filter fun j => decide (j % k = l)).flatMap fun j => r.getD j []
def mgR (k : Nat) (rs : List (List (List Int))) : List (List (List Int)) := rs.map fun r => (List.range k).map (mgE k r)
def InvT (K : PySem.W.Frag) (F H : Hp) (a b c : Addr) (M : List (List Int)) (g : List Bool) (i : Nat) : L2.St → Hp → Prop := fun σ H' => ∃ F' ka kept v4 v5 v6 v7 v8 v9 v10, σ = [some (.ref a), some (.ref b), some (.ref c), some (.ref ka), v4, v5, v6, v7, v8, v9, v10, none] ∧ Same F F' ∧ SqL K F' ka (bv kept) ∧ kept.length = M.length ∧ turnL M g (M.length + 1) (List.replicate M.length true) = turnL M g (M.length + 1 - i) kept ∧ SL.St ⟨F, H⟩ F' H' []

structure Ads where
  a_ascends : Addr
  fd_ascends : FuncData
  a_Automaton_init : Addr
  fd_Automaton_init : FuncData
  a_hide : Addr
  fd_hide : FuncData
  a_merged : Addr
  fd_merged : FuncData
  a_widen : Addr
  fd_widen : FuncData
  a__law_draws : Addr
  fd__law_draws : FuncData
  a__law_take : Addr
  fd__law_take : FuncData
  a__law_is_integer : Addr
  fd__law_is_integer : FuncData
  a__law_integers : Addr
  fd__law_integers : FuncData
  a__law_lasso : Addr
  fd__law_lasso : FuncData
  a__law_lives : Addr
  fd__law_lives : FuncData
  a__law_ascending : Addr
  fd__law_ascending : FuncData
  a__law_automaton : Addr
  fd__law_automaton : FuncData
  a__law_copy : Addr
  fd__law_copy : FuncData
  a__law_accepts : Addr
  fd__law_accepts : FuncData
  a__law_states : Addr
  fd__law_states : FuncData
  a__law_is_automaton : Addr
  fd__law_is_automaton : FuncData
  a__law_hide_outcome : Addr
  fd__law_hide_outcome : FuncData
  a__law_widen_outcome : Addr
  fd__law_widen_outcome : FuncData
  a__law_merged : Addr
  fd__law_merged : FuncData
  a_law : Addr
  fd_law : FuncData
  C_SynthError : Addr
  C_Mismatch : Addr
  C_InvalidAutomaton : Addr
  C_Automaton : Addr
structure Cl (K : PySem.W.Frag) (A : Ads) : Prop where
  cl_Automaton : Cls K A.C_Automaton
  na_Automaton_letters : NoAttr K A.C_Automaton "letters"
  na_Automaton_initial : NoAttr K A.C_Automaton "initial"
  na_Automaton_accepting : NoAttr K A.C_Automaton "accepting"
  na_Automaton_rows : NoAttr K A.C_Automaton "rows"
  ty_Automaton : ∀ {H : Hp} {a dx : Addr} {fs : List (Str × V)}, H a = some (.ins A.C_Automaton dx fs) → TyX K H (.ref a) (.ref A.C_Automaton)
  em_InvalidAutomaton_Mismatch : PySem.W.exmOne K (.ref A.C_InvalidAutomaton) (.ref A.C_Mismatch) = some false
  em_Mismatch_Mismatch : PySem.W.exmOne K (.ref A.C_Mismatch) (.ref A.C_Mismatch) = some true
def sp_ascends (K : PySem.W.Frag) (A : Ads) : Sp := fun vs H Q E => ∃ (k : Bool) (a : Addr) (ns : List Int) (c : Int), vs = [.ref a, .int c] ∧ (SqB K H a (iv ns) k ∧ Q (.bl (asc c (-1) ns)) H)
def sp_Automaton_init (K : PySem.W.Frag) (A : Ads) : Sp := fun vs H Q E => ∃ (F : Hp) (x dx a b c : Addr) (as : List Addr) (m : Int) (is cs : List Int) (rs : List (List (List Int))), vs = [.ref x, .int m, .ref a, .ref b, .ref c] ∧ (Same F H ∧ F x = none ∧ H x = some (.ins A.C_Automaton dx []) ∧ SqX K F H a (iv is) ∧ SqX K F H b (iv cs) ∧ SqX K F H c (rv as) ∧ RowsX K F H as rs ∧ rs.length ≤ 1000 ∧ (∀ r ∈ rs, r.length ≤ 1000) ∧ (Aok m is cs rs → ∀ F' H' ia ca ra as', GrB x F H F' H' → H' x = some (.ins A.C_Automaton dx (auF m ia ca ra)) → SqT K F' ia (iv is) → SqT K F' ca (iv cs) → SqT K F' ra (rv as') → Rows2 K F' false as' rs → Q .non H') ∧ (¬ Aok m is cs rs → ∀ H', Same H H' → E (.ref A.C_InvalidAutomaton) none H'))
def sp_hide (K : PySem.W.Frag) (A : Ads) : Sp := fun vs H Q E => ∃ (F : Hp) (x : Addr) (m k : Int) (is cs : List Int) (rs : List (List (List Int))), vs = [.ref x, .int k] ∧ (Same F H ∧ AuAt K A.C_Automaton F x m is cs rs ∧ Aok m is cs rs ∧ rs.length ≤ 10 ∧ m ≤ 20 ∧ k ≤ 40 ∧ is.length ≤ 100 ∧ cs.length ≤ 100 ∧ (¬ (1 ≤ k ∧ m % k = 0) → E (.ref A.C_Mismatch) none H) ∧ ((1 ≤ k ∧ m % k = 0) → ∀ F' H' y rs', Aok k is cs rs' → HidOf m.toNat k.toNat rs rs' → AuAt K A.C_Automaton F' y k is cs rs' → St ⟨F, H⟩ F' H' [] → Q (.ref y) H'))
def sp_merged (K : PySem.W.Frag) (A : Ads) : Sp := fun vs H Q E => ∃ (F : Hp) (a : Addr) (es : List Addr) (rs : List (List Int)) (n : Int), vs = [.ref a] ∧ (Same F H ∧ SqT K F a (rv es) ∧ Rows K F false es rs ∧ rs.length ≤ 100 ∧ 0 ≤ n ∧ n ≤ 60 ∧ (∀ r ∈ rs, ∀ x ∈ r, 0 ≤ x ∧ x < n) ∧ ∀ H' b ns, asc n (-1) ns = true → (∀ x, x ∈ ns ↔ ∃ r ∈ rs, x ∈ r) → St ⟨F, H⟩ F H' [(b, .lst (iv ns))] → Q (.ref b) H')
def sp_widen (K : PySem.W.Frag) (A : Ads) : Sp := fun vs H Q E => ∃ (F : Hp) (x : Addr) (m k : Int) (is cs : List Int) (rs : List (List (List Int))), vs = [.ref x, .int k] ∧ (Same F H ∧ AuAt K A.C_Automaton F x m is cs rs ∧ Aok m is cs rs ∧ rs.length ≤ 10 ∧ m ≤ 20 ∧ k ≤ 40 ∧ is.length ≤ 100 ∧ cs.length ≤ 100 ∧ (¬ (1 ≤ k ∧ k % m = 0) → E (.ref A.C_Mismatch) none H) ∧ ((1 ≤ k ∧ k % m = 0) → ∀ F' H' y rs', Aok k is cs rs' → WidOf m.toNat k.toNat rs rs' → AuAt K A.C_Automaton F' y k is cs rs' → St ⟨F, H⟩ F' H' [] → Q (.ref y) H'))
abbrev sp__law_draws (K : PySem.W.Frag) (A : Ads) : Sp := cp_draws K
abbrev sp__law_take (K : PySem.W.Frag) (A : Ads) : Sp := cp_take K
abbrev sp__law_is_integer (K : PySem.W.Frag) (A : Ads) : Sp := cp_is_integer K
abbrev sp__law_integers (K : PySem.W.Frag) (A : Ads) : Sp := cp_integers K
def sp__law_lasso (K : PySem.W.Frag) (A : Ads) : Sp := fun vs H Q E => ∃ (F : Hp) (p : Addr) (ds : List Int) (m mo : Int), vs = [.ref p, .int m, .int mo] ∧ (Same F H ∧ F p = none ∧ H p = some (.lst (iv ds)) ∧ Dok ds ∧ 1 ≤ m ∧ 1 ≤ mo ∧ mo ≤ 10 ∧ ∀ F' H' ds' w hs ls, Dok ds' → LasAt K F' w hs ls → (∀ z ∈ hs, 0 ≤ z ∧ z < m) → (∀ z ∈ ls, 0 ≤ z ∧ z < m) → 0 < ls.length → ls.length ≤ 10 → hs.length ≤ 10 → St ⟨F, del H p⟩ F' H' [(p, .lst (iv ds'))] → Q (.ref w) H')
def sp__law_lives (K : PySem.W.Frag) (A : Ads) : Sp := fun vs H Q E => ∃ (F : Hp) (a b c : Addr) (as : List Addr) (M : List (List Int)) (g : List Bool) (st : List Int), vs = [.ref a, .ref b, .ref c] ∧ (Same F H ∧ SqL K F a (rv as) ∧ Rows K F true as M ∧ SqL K F b (bv g) ∧ SqL K F c (iv st) ∧ M.length ≤ 1000 ∧ g.length = M.length ∧ (∀ ts ∈ M, ∀ t ∈ ts, 0 ≤ t ∧ t < M.length) ∧ (∀ t ∈ st, 0 ≤ t ∧ t < M.length) ∧ ∀ H', Same H H' → Q (.bl (LV M g st)) H')
def sp__law_ascending (K : PySem.W.Frag) (A : Ads) : Sp := fun vs H Q E => ∃ (F : Hp) (p : Addr) (ds : List Int) (l s : Int), vs = [.ref p, .int l, .int s] ∧ (Same F H ∧ F p = none ∧ H p = some (.lst (iv ds)) ∧ Dok ds ∧ 0 ≤ l ∧ l ≤ 1000 ∧ ∀ H' ds' a ns, Dok ds' → asc l (-1) ns = true → St ⟨F, del H p⟩ F H' [(p, .lst (iv ds')), (a, .lst (iv ns))] → Q (.ref a) H')
def sp__law_automaton (K : PySem.W.Frag) (A : Ads) : Sp := fun vs H Q E => ∃ (F : Hp) (p : Addr) (ds : List Int) (m mo : Int), vs = [.ref p, .int m, .int mo] ∧ (Same F H ∧ F p = none ∧ H p = some (.lst (iv ds)) ∧ Dok ds ∧ 1 ≤ m ∧ m ≤ 10 ∧ 1 ≤ mo ∧ mo ≤ 10 ∧ ∀ F' H' ds' t a b c as is cs rs, Dok ds' → Aok m is cs rs → (rs.length : Int) ≤ mo → SqT K F' t [.ref a, .ref b, .ref c] → SqL K F' a (iv is) → SqL K F' b (iv cs) → SqL K F' c (rv as) → Raw2 K F' as rs → St ⟨F, del H p⟩ F' H' [(p, .lst (iv ds'))] → Q (.ref t) H')
def sp__law_copy (K : PySem.W.Frag) (A : Ads) : Sp := fun vs H Q E => ∃ (F : Hp) (a : Addr) (as : List Addr) (rs : List (List (List Int))), vs = [.ref a] ∧ (Same F H ∧ SqL K H a (rv as) ∧ Rows2 K H true as rs ∧ rs.length ≤ 1000 ∧ (∀ r ∈ rs, r.length ≤ 1000) ∧ ∀ F' H' t as' bss, as'.length = bss.length → Leaf K F' bss rs → St ⟨F, H⟩ F' H' ((t, .lst (rv as')) :: rowV as' (bss.map rv)) → Q (.ref t) H')
def sp__law_accepts (K : PySem.W.Frag) (A : Ads) : Sp := fun vs H Q E => ∃ (F : Hp) (kb : Bool) (a b c w : Addr) (as : List Addr) (m : Int) (is cs hs ls : List Int) (rs : List (List (List Int))), vs = [.ref a, .ref b, .ref c, .ref w] ∧ (Same F H ∧ SqB K F a (rv as) kb ∧ Rows2 K F kb as rs ∧ SqB K F b (iv is) kb ∧ SqB K F c (iv cs) kb ∧ LasAt K F w hs ls ∧ (∀ z ∈ hs, 0 ≤ z ∧ z < m) ∧ (∀ z ∈ ls, 0 ≤ z ∧ z < m) ∧ 0 < ls.length ∧ ls.length ≤ 10 ∧ hs.length ≤ 10 ∧ rs.length ≤ 10 ∧ is.length ≤ 100 ∧ cs.length ≤ 100 ∧ (∀ r ∈ rs, (r.length : Int) = m ∧ ∀ e ∈ r, e.length ≤ 1000 ∧ ∀ x ∈ e, 0 ≤ x ∧ x < rs.length) ∧ (∀ x ∈ is, 0 ≤ x ∧ x < rs.length) ∧ ∀ H', Same H H' → Q (.bl (ACC rs is cs hs ls)) H')
def sp__law_states (K : PySem.W.Frag) (A : Ads) : Sp := fun vs H Q E => ∃ (a : Addr) (ns : List Int) (c : Int), vs = [.ref a, .int c] ∧ (SqT K H a (iv ns) ∧ ns.length ≤ 1000 ∧ asc c (-1) ns = true ∧ Q (.bl true) H)
def sp__law_is_automaton (K : PySem.W.Frag) (A : Ads) : Sp := fun vs H Q E => ∃ (x : Addr) (m : Int) (is cs : List Int) (rs : List (List (List Int))), vs = [.ref x, .int m] ∧ (AuAt K A.C_Automaton H x m is cs rs ∧ Aok m is cs rs ∧ rs.length ≤ 1000 ∧ (∀ r ∈ rs, r.length ≤ 1000) ∧ is.length ≤ 1000 ∧ cs.length ≤ 1000 ∧ Q (.bl true) H)
def sp__law_hide_outcome (K : PySem.W.Frag) (A : Ads) : Sp := fun vs H Q E => ∃ (F : Hp) (x : Addr) (m k : Int) (is cs : List Int) (rs : List (List (List Int))), vs = [.ref x, .int k] ∧ (Same F H ∧ AuAt K A.C_Automaton F x m is cs rs ∧ Aok m is cs rs ∧ rs.length ≤ 10 ∧ m ≤ 20 ∧ k ≤ 40 ∧ is.length ≤ 100 ∧ cs.length ≤ 100 ∧ (¬ (1 ≤ k ∧ m % k = 0) → Q .non H) ∧ ((1 ≤ k ∧ m % k = 0) → ∀ F' H' y rs', Aok k is cs rs' → HidOf m.toNat k.toNat rs rs' → AuAt K A.C_Automaton F' y k is cs rs' → St ⟨F, H⟩ F' H' [] → Q (.ref y) H'))
def sp__law_widen_outcome (K : PySem.W.Frag) (A : Ads) : Sp := fun vs H Q E => ∃ (F : Hp) (x : Addr) (m k : Int) (is cs : List Int) (rs : List (List (List Int))), vs = [.ref x, .int k] ∧ (Same F H ∧ AuAt K A.C_Automaton F x m is cs rs ∧ Aok m is cs rs ∧ rs.length ≤ 10 ∧ m ≤ 20 ∧ k ≤ 40 ∧ is.length ≤ 100 ∧ cs.length ≤ 100 ∧ (¬ (1 ≤ k ∧ k % m = 0) → Q .non H) ∧ ((1 ≤ k ∧ k % m = 0) → ∀ F' H' y rs', Aok k is cs rs' → WidOf m.toNat k.toNat rs rs' → AuAt K A.C_Automaton F' y k is cs rs' → St ⟨F, H⟩ F' H' [] → Q (.ref y) H'))
def sp__law_merged (K : PySem.W.Frag) (A : Ads) : Sp := fun vs H Q E => ∃ (F : Hp) (a : Addr) (as : List Addr) (k m : Int) (rs : List (List (List Int))), vs = [.ref a, .int k] ∧ (Same F H ∧ SqL K F a (rv as) ∧ Raw2 K F as rs ∧ 1 ≤ k ∧ m ≤ 20 ∧ k ≤ 40 ∧ rs.length ≤ 10 ∧ (∀ r ∈ rs, (r.length : Int) = m ∧ ∀ e ∈ r, e.length ≤ 20) ∧ ∀ F' H' b bs, SqL K F' b (rv bs) → Rows2 K F' true bs (mgR k.toNat rs) → St ⟨F, H⟩ F' H' [] → Q (.ref b) H')
abbrev sp_law (K : PySem.W.Frag) (A : Ads) : Sp := spL K
def t_ascends (K : PySem.W.Frag) (A : Ads) (E : XK) : TS := (tSeq (tAsg (tUn rNegI (tC (.int (1)))) (gName 2))
 (tSeq (tFor (iSeq K (tVar 0)) (gName 3) (tSeq (tIfS (tOr (tTest (tOp rLeI (tVar 3) (tVar 2))) (tTest (tOp rGeI (tVar 3) (tVar 1)))) (tRet (tC (.bl false))) tNext)
 (tAsg (tVar 3) (gName 2))))
 (tRet (tC (.bl true)))))
def t_Automaton_init (K : PySem.W.Frag) (A : Ads) (E : XK) : TS := (tSeq (tIfS (tOr (tTest (tOp rLtI (tVar 1) (tC (.int (1))))) (tTest (tOp rEq (tCB (rLen K) (tCons (tVar 4) tNil)) (tC (.int (0)))))) (tRs A.C_InvalidAutomaton E) tNext)
 (tSeq (tIfS (tOr (tNot (tB (tCall (sp_ascends K A) [] E0 (tCons (tVar 2) (tCons (tCB (rLen K) (tCons (tVar 4) tNil)) tNil))))) (tNot (tB (tCall (sp_ascends K A) [] E0 (tCons (tVar 3) (tCons (tCB (rLen K) (tCons (tVar 4) tNil)) tNil)))))) (tRs A.C_InvalidAutomaton E) tNext)
 (tSeq (tFor (iSeq K (tVar 4)) (gName 5) (tSeq (tIfS (tTest (tOp rNe (tCB (rLen K) (tCons (tVar 5) tNil)) (tVar 1))) (tRs A.C_InvalidAutomaton E) tNext)
 (tIfS (tNot (tB (tCB (rAll K) (tCons (tLc (iSeq K (tVar 5)) (gName 6) tYes (tCall (sp_ascends K A) [] E0 (tCons (tVar 6) (tCons (tCB (rLen K) (tCons (tVar 4) tNil)) tNil))) [6]) tNil)))) (tRs A.C_InvalidAutomaton E) tNext)))
 (tSeq (sFld K (tVar 0) (tVar 1) "letters")
 (tSeq (sFld K (tVar 0) (tCB (rTupOf K) (tCons (tVar 2) tNil)) "initial")
 (tSeq (sFld K (tVar 0) (tCB (rTupOf K) (tCons (tVar 3) tNil)) "accepting")
 (sFld K (tVar 0) (tCB (rTupOf K) (tCons (tLc (iSeq K (tVar 4)) (gName 5) tYes (tCB (rTupOf K) (tCons (tLc (iSeq K (tVar 5)) (gName 6) tYes (tCB (rTupOf K) (tCons (tVar 6) tNil)) [6]) tNil)) [5]) tNil)) "rows")))))))
def t_hide (K : PySem.W.Frag) (A : Ads) (E : XK) : TS := (tSeq (tIfS (tOr (tTest (tOp rLtI (tVar 1) (tC (.int (1))))) (tTest (tOp rNe (tOp rModI (tFld K (tVar 0) "letters") (tVar 1)) (tC (.int (0)))))) (tRs A.C_Mismatch E) tNext)
 (tSeq (tAsg (tLst tNil) (gName 2))
 (tSeq (tFor (iTup K (tFld K (tVar 0) "rows")) (gName 3) (tDrop (tBM K "list" rAppend (tVar 2) (tCons (tLc (iRng1 (tCons (tVar 1) tNil)) (gName 4) tYes (tCall (sp_merged K A) [] E0 (tCons (tSl3 (rSl3 K) (tVar 3) (tPart (tVar 4)) (tPart (tVar 1))) tNil)) [4]) tNil))))
 (tRet (tMake A.C_Automaton (sp_Automaton_init K A) [] E (tCons (tVar 1) (tCons (tFld K (tVar 0) "initial") (tCons (tFld K (tVar 0) "accepting") (tCons (tVar 2) tNil)))))))))
def t_merged (K : PySem.W.Frag) (A : Ads) (E : XK) : TS := (tSeq (tAsg tDNewK (gName 1))
 (tSeq (tFor (iTup K (tVar 0)) (gName 2) (tFor (iTup K (tVar 2)) (gName 3) (sDPut (tVar 1) (tVar 3) (tC (.bl true)))))
 (tRet (tCB (rSorted K) (tCons (tCB rListD (tCons (tVar 1) tNil)) tNil)))))
def t_widen (K : PySem.W.Frag) (A : Ads) (E : XK) : TS := (tSeq (tIfS (tOr (tTest (tOp rLtI (tVar 1) (tC (.int (1))))) (tTest (tOp rNe (tOp rModI (tVar 1) (tFld K (tVar 0) "letters")) (tC (.int (0)))))) (tRs A.C_Mismatch E) tNext)
 (tSeq (tAsg (tLc (iTup K (tFld K (tVar 0) "rows")) (gName 2) tYes (tOp (rRepTQ K) (tVar 2) (tOp rDivI (tVar 1) (tFld K (tVar 0) "letters"))) [2]) (gName 3))
 (tRet (tMake A.C_Automaton (sp_Automaton_init K A) [] E (tCons (tVar 1) (tCons (tFld K (tVar 0) "initial") (tCons (tFld K (tVar 0) "accepting") (tCons (tVar 3) tNil))))))))
def t__law_draws (K : PySem.W.Frag) (A : Ads) (E : XK) : TS := (tSeq (tAsg (tCB (rListOf K) (tCons (tVar 0) tNil)) (gName 2))
 (tSeq (tIfS (tTest (tOp rEq (tCB (rLen K) (tCons (tVar 2) tNil)) (tC (.int (0))))) (tAsg (tLst (tCons (tC (.int (7))) tNil)) (gName 2)) tNext)
 (tSeq (tAsg (tLst tNil) (gName 3))
 (tSeq (tAsg (tC (.int (12345))) (gName 4))
 (tSeq (tFor (iRng1 (tCons (tVar 1) tNil)) (gName 5) (tSeq (tAsg (tOp rModI (tVar 5) (tCB (rLen K) (tCons (tVar 2) tNil))) (gName 6))
 (tSeq (tAsg (tOp (rIxL K) (tVar 2) (tVar 6)) (gName 7))
 (tSeq (tAsg (tOp rModI (tCB rInt1 (tCons (tOp rAddI (tOp rAddI (tOp rAddI (tOp rMulI (tVar 4) (tC (.int (48271)))) (tOp rMulI (tOp rModI (tCB rInt1 (tCons (tVar 7) tNil)) (tC (.int (1000003)))) (tC (.int (69621))))) (tOp rMulI (tVar 5) (tC (.int (7919))))) (tC (.int (11)))) tNil)) (tC (.int (2147483647)))) (gName 4))
 (tSeq (tAsg (tOp rModI (tCB rInt1 (tCons (tOp rAddI (tOp rAddI (tOp rMulI (tVar 4) (tVar 4)) (tOp rMulI (tC (.int (31))) (tVar 4))) (tVar 5)) tNil)) (tC (.int (1000003)))) (gName 8))
 (tIfS (tTest (tOp rGeI (tVar 7) (tOp rPowI (tC (.int (10))) (tC (.int (18)))))) (tSeq (tDrop (tBM K "list" rAppend (tVar 3) (tCons (tOp rModI (tCB rInt1 (tCons (tVar 7) tNil)) (tC (.int (1000)))) tNil)))
 (tAsg (tOp rDivI (tVar 7) (tC (.int (1000)))) (gSub (tVar 2) (tVar 6) rSetL))) (tDrop (tBM K "list" rAppend (tVar 3) (tCons (tOp rModI (tCB rInt1 (tCons (tVar 8) tNil)) (tC (.int (1000)))) tNil)))))))))
 (tSeq (tDrop (tBM0 K "list" rReverse (tVar 3)))
 (tRet (tVar 3))))))))
def t__law_take (K : PySem.W.Frag) (A : Ads) (E : XK) : TS := (tSeq (tIfS (tTest (tOp rEq (tCB (rLen K) (tCons (tVar 0) tNil)) (tC (.int (0))))) (tRet (tC (.int (0)))) tNext)
 (tRet (tOp rModI (tCB rInt1 (tCons (tBM0 K "list" rPop (tVar 0)) tNil)) (tVar 1))))
def t__law_is_integer (K : PySem.W.Frag) (A : Ads) (E : XK) : TS := (tRet (tAndV (tCB (rIsi K) (tCons (tVar 0) (tCons (tC (.ty "int")) tNil))) (tNotV (tCB (rIsi K) (tCons (tVar 0) (tCons (tC (.ty "bool")) tNil))))))
def t__law_integers (K : PySem.W.Frag) (A : Ads) (E : XK) : TS := (tSeq (tIfS (tNot (tB (tCB (rIsi K) (tCons (tVar 0) (tCons (tC (.ty "tuple")) tNil))))) (tRet (tC (.bl false))) tNext)
 (tSeq (tFor (iTup K (tVar 0)) (gName 3) (tIfS (tOr (tNot (tB (tCall (sp__law_is_integer K A) [] E0 (tCons (tVar 3) tNil)))) (tOr (tTest (tOp rLtI (tVar 3) (tVar 1))) (tTest (tOp rGeI (tVar 3) (tVar 2))))) (tRet (tC (.bl false))) tNext))
 (tRet (tC (.bl true)))))
def t__law_lasso (K : PySem.W.Frag) (A : Ads) (E : XK) : TS := (tSeq (tAsg (tLc (iRng1 (tCons (tCall (sp__law_take K A) [] E0 (tCons (tVar 0) (tCons (tOp rAddI (tVar 2) (tC (.int (1)))) tNil))) tNil)) (gName 3) tYes (tCall (sp__law_take K A) [] E0 (tCons (tVar 0) (tCons (tVar 1) tNil))) [3]) (gName 4))
 (tSeq (tAsg (tLc (iRng1 (tCons (tOp rAddI (tC (.int (1))) (tCall (sp__law_take K A) [] E0 (tCons (tVar 0) (tCons (tVar 2) tNil)))) tNil)) (gName 3) tYes (tCall (sp__law_take K A) [] E0 (tCons (tVar 0) (tCons (tVar 1) tNil))) [3]) (gName 5))
 (tRet (tTup (tCons (tCB (rTupOf K) (tCons (tVar 4) tNil)) (tCons (tCB (rTupOf K) (tCons (tVar 5) tNil)) tNil))))))
def t__law_lives_2 (K : PySem.W.Frag) (A : Ads) (E : XK) : TS := (tSeq (tFor (iList K (tVar 2)) (gName 11) (tIfS (tB (tOp (rIxL K) (tVar 3) (tVar 11))) (tRet (tC (.bl true))) tNext))
 (tRet (tC (.bl false))))
def t__law_lives (K : PySem.W.Frag) (A : Ads) (E : XK) : TS := (tSeq (tAsg (tOp rRep (tLst (tCons (tC (.bl true)) tNil)) (tCB (rLen K) (tCons (tVar 0) tNil))) (gName 3))
 (tSeq (tFor (iRng1 (tCons (tOp rAddI (tCB (rLen K) (tCons (tVar 0) tNil)) (tC (.int (1)))) tNil)) (gName 4) (tSeq (tAsg (tOp rRep (tLst (tCons (tC (.bl false)) tNil)) (tCB (rLen K) (tCons (tVar 0) tNil))) (gName 5))
 (tSeq (tFor (iRng1 (tCons (tOp rAddI (tCB (rLen K) (tCons (tVar 0) tNil)) (tC (.int (1)))) tNil)) (gName 6) (tSeq (tAsg (tC (.bl false)) (gName 7))
 (tSeq (tFor (iRng1 (tCons (tCB (rLen K) (tCons (tVar 0) tNil)) tNil)) (gName 8) (tSeq (tAsg (tOp rSubI (tOp rSubI (tCB (rLen K) (tCons (tVar 0) tNil)) (tC (.int (1)))) (tVar 8)) (gName 9))
 (tIfS (tAnd (tB (tOp (rIxL K) (tVar 3) (tVar 9))) (tNot (tB (tOp (rIxL K) (tVar 5) (tVar 9))))) (tFor (iList K (tOp (rIxL K) (tVar 0) (tVar 9))) (gName 10) (tIfS (tAnd (tB (tOp (rIxL K) (tVar 3) (tVar 10))) (tOr (tB (tOp (rIxL K) (tVar 1) (tVar 10))) (tB (tOp (rIxL K) (tVar 5) (tVar 10))))) (tSeq (tAsg (tC (.bl true)) (gSub (tVar 5) (tVar 9) rSetL))
 (tAsg (tC (.bl true)) (gName 7))) tNext)) tNext)))
 (tIfS (tNot (tB (tVar 7))) tBreak tNext))))
 (tSeq (tIfS (tTest (tOp (rEqD K) (tVar 5) (tVar 3))) tBreak tNext)
 (tAsg (tVar 5) (gName 3))))))
 (t__law_lives_2 K A E)))
def t__law_ascending (K : PySem.W.Frag) (A : Ads) (E : XK) : TS := (tRet (tLc (iRng1 (tCons (tVar 1) tNil)) (gName 3) (tTest (tOp rLtI (tCall (sp__law_take K A) [] E0 (tCons (tVar 0) (tCons (tC (.int (10))) tNil))) (tVar 2))) (tVar 3) [3]))
def t__law_automaton_5 (K : PySem.W.Frag) (A : Ads) (E : XK) : TS := (tSeq (tAsg (tLst tNil) (gName 7))
 (tSeq (tFor (iRng1 (tCons (tVar 3) tNil)) (gName 8) (tDrop (tBM K "list" rAppend (tVar 7) (tCons (tLc (iRng1 (tCons (tVar 1) tNil)) (gName 9) tYes (tCall (sp__law_ascending K A) [] E0 (tCons (tVar 0) (tCons (tVar 3) (tCons (tVar 4) tNil)))) [9]) tNil))))
 (tRet (tTup (tCons (tVar 5) (tCons (tVar 6) (tCons (tVar 7) tNil)))))))
def t__law_automaton (K : PySem.W.Frag) (A : Ads) (E : XK) : TS := (tSeq (tAsg (tOp rAddI (tC (.int (1))) (tCall (sp__law_take K A) [] E0 (tCons (tVar 0) (tCons (tVar 2) tNil)))) (gName 3))
 (tSeq (tAsg (tOp rAddI (tC (.int (2))) (tCall (sp__law_take K A) [] E0 (tCons (tVar 0) (tCons (tC (.int (4))) tNil)))) (gName 4))
 (tSeq (tAsg (tCall (sp__law_ascending K A) [] E0 (tCons (tVar 0) (tCons (tVar 3) (tCons (tC (.int (5))) tNil)))) (gName 5))
 (tSeq (tAsg (tCall (sp__law_ascending K A) [] E0 (tCons (tVar 0) (tCons (tVar 3) (tCons (tC (.int (5))) tNil)))) (gName 6))
 (tSeq (tIfS (tAnd (tTest (tOp rEq (tCB (rLen K) (tCons (tVar 5) tNil)) (tC (.int (0))))) (tTest (tOp rGtI (tCall (sp__law_take K A) [] E0 (tCons (tVar 0) (tCons (tC (.int (4))) tNil))) (tC (.int (0)))))) (tAsg (tLst (tCons (tC (.int (0))) tNil)) (gName 5)) tNext)
 (t__law_automaton_5 K A E))))))
def t__law_copy (K : PySem.W.Frag) (A : Ads) (E : XK) : TS := (tRet (tLc (iList K (tVar 0)) (gName 1) tYes (tLc (iList K (tVar 1)) (gName 2) tYes (tCB (rListOf K) (tCons (tVar 2) tNil)) [2]) [1]))
def t__law_accepts_5 (K : PySem.W.Frag) (A : Ads) (E : XK) : TS := (tRet (tCall (sp__law_lives K A) [] E0 (tCons (tVar 6) (tCons (tVar 7) (tCons (tLc (iSeq K (tVar 1)) (gName 8) tYes (tOp rMulI (tVar 8) (tVar 5)) [8]) tNil)))))
def t__law_accepts (K : PySem.W.Frag) (A : Ads) (E : XK) : TS := (tSeq (tAsg (tOp rCat (tCB (rListOf K) (tCons (tOp (rIxT K) (tVar 3) (tC (.int (0)))) tNil)) (tCB (rListOf K) (tCons (tOp (rIxT K) (tVar 3) (tC (.int (1)))) tNil))) (gName 4))
 (tSeq (tAsg (tCB (rLen K) (tCons (tVar 4) tNil)) (gName 5))
 (tSeq (tAsg (tLst tNil) (gName 6))
 (tSeq (tAsg (tLst tNil) (gName 7))
 (tSeq (tFor (iRng1 (tCons (tCB (rLen K) (tCons (tVar 0) tNil)) tNil)) (gName 8) (tFor (iRng1 (tCons (tVar 5) tNil)) (gName 9) (tSeq (tAsg (tOp rAddI (tVar 9) (tC (.int (1)))) (gName 10))
 (tSeq (tIfS (tTest (tOp rEq (tVar 10) (tVar 5))) (tAsg (tCB (rLen K) (tCons (tOp (rIxT K) (tVar 3) (tC (.int (0)))) tNil)) (gName 10)) tNext)
 (tSeq (tDrop (tBM K "list" rAppend (tVar 6) (tCons (tLc (iSeq K (tOp (rIx K) (tOp (rIx K) (tVar 0) (tVar 8)) (tOp (rIxL K) (tVar 4) (tVar 9)))) (gName 11) tYes (tOp rAddI (tOp rMulI (tVar 11) (tVar 5)) (tVar 10)) [11]) tNil)))
 (tDrop (tBM K "list" rAppend (tVar 7) (tCons (tOp (rIn K false) (tVar 8) (tVar 2)) tNil))))))))
 (t__law_accepts_5 K A E))))))
def t__law_states (K : PySem.W.Frag) (A : Ads) (E : XK) : TS := (tSeq (tIfS (tNot (tB (tCall (sp__law_integers K A) [] E0 (tCons (tVar 0) (tCons (tC (.int (0))) (tCons (tVar 1) tNil)))))) (tRet (tC (.bl false))) tNext)
 (tSeq (tFor (iRng2 (tCons (tC (.int (1))) (tCons (tCB (rLen K) (tCons (tVar 0) tNil)) tNil))) (gName 2) (tIfS (tTest (tOp rGeI (tOp (rIxT K) (tVar 0) (tOp rSubI (tVar 2) (tC (.int (1))))) (tOp (rIxT K) (tVar 0) (tVar 2)))) (tRet (tC (.bl false))) tNext))
 (tRet (tC (.bl true)))))
def t__law_is_automaton (K : PySem.W.Frag) (A : Ads) (E : XK) : TS := (tSeq (tIfS (tOr (tNot (tB (tCall (sp__law_is_integer K A) [] E0 (tCons (tFld K (tVar 0) "letters") tNil)))) (tTest (tOp rNe (tFld K (tVar 0) "letters") (tVar 1)))) (tRet (tC (.bl false))) tNext)
 (tSeq (tIfS (tOr (tNot (tB (tCB (rIsi K) (tCons (tFld K (tVar 0) "rows") (tCons (tC (.ty "tuple")) tNil))))) (tTest (tOp rEq (tCB (rLen K) (tCons (tFld K (tVar 0) "rows") tNil)) (tC (.int (0)))))) (tRet (tC (.bl false))) tNext)
 (tSeq (tAsg (tCB (rLen K) (tCons (tFld K (tVar 0) "rows") tNil)) (gName 2))
 (tSeq (tIfS (tOr (tNot (tB (tCall (sp__law_states K A) [] E0 (tCons (tFld K (tVar 0) "initial") (tCons (tVar 2) tNil))))) (tNot (tB (tCall (sp__law_states K A) [] E0 (tCons (tFld K (tVar 0) "accepting") (tCons (tVar 2) tNil)))))) (tRet (tC (.bl false))) tNext)
 (tSeq (tFor (iTup K (tFld K (tVar 0) "rows")) (gName 3) (tSeq (tIfS (tOr (tNot (tB (tCB (rIsi K) (tCons (tVar 3) (tCons (tC (.ty "tuple")) tNil))))) (tTest (tOp rNe (tCB (rLen K) (tCons (tVar 3) tNil)) (tVar 1)))) (tRet (tC (.bl false))) tNext)
 (tFor (iTup K (tVar 3)) (gName 4) (tIfS (tNot (tB (tCall (sp__law_states K A) [] E0 (tCons (tVar 4) (tCons (tVar 2) tNil))))) (tRet (tC (.bl false))) tNext))))
 (tRet (tC (.bl true))))))))
def t__law_hide_outcome (K : PySem.W.Frag) (A : Ads) (E : XK) : TS := (tSeq (fun D σ H => (fun W : WX => (tAsg (tCallS (sp_hide K A) (WE W) (tCons (tVar 0) (tCons (tVar 1) tNil))) (gName 2))) (wMany K (fun _ _ _ _ => False) D [(.ref A.C_Mismatch, fun a cls d => (tRet (tC .non)))]) D σ H)
 (tRet (tIf (tTest (tOp rIsNone (tVar 2) (tC .non))) (tC (.str "nothing")) (tVar 2))))
def t__law_widen_outcome (K : PySem.W.Frag) (A : Ads) (E : XK) : TS := (tSeq (fun D σ H => (fun W : WX => (tAsg (tCallS (sp_widen K A) (WE W) (tCons (tVar 0) (tCons (tVar 1) tNil))) (gName 2))) (wMany K (fun _ _ _ _ => False) D [(.ref A.C_Mismatch, fun a cls d => (tRet (tC .non)))]) D σ H)
 (tRet (tIf (tTest (tOp rIsNone (tVar 2) (tC .non))) (tC (.str "nothing")) (tVar 2))))
def t__law_merged (K : PySem.W.Frag) (A : Ads) (E : XK) : TS := (tSeq (tAsg (tLst tNil) (gName 2))
 (tSeq (tFor (iList K (tVar 0)) (gName 3) (tSeq (tAsg (tLst tNil) (gName 4))
 (tSeq (tFor (iRng1 (tCons (tVar 1) tNil)) (gName 5) (tSeq (tAsg (tLst tNil) (gName 6))
 (tSeq (tFor (iRng1 (tCons (tCB (rLen K) (tCons (tVar 3) tNil)) tNil)) (gName 7) (tIfS (tTest (tOp rEq (tOp rModI (tVar 7) (tVar 1)) (tVar 5))) (tAsg (tOp rCatD (tVar 6) (tOp (rIxL K) (tVar 3) (tVar 7))) (gName 6)) tNext))
 (tDrop (tBM K "list" rAppend (tVar 4) (tCons (tVar 6) tNil))))))
 (tDrop (tBM K "list" rAppend (tVar 2) (tCons (tVar 4) tNil))))))
 (tRet (tVar 2))))
def t_law_11 (K : PySem.W.Frag) (A : Ads) (E : XK) : TS := (tSeq (tIfS (tTest (tOp rNotNone (tVar 9) (tC .non))) (tSeq (tIfS (tOr (tNot (tB (tCall (sp__law_is_automaton K A) [] E0 (tCons (tVar 9) (tCons (tVar 7) tNil))))) (tTest (tOp rGtI (tCB (rLen K) (tCons (tFld K (tVar 9) "rows") tNil)) (tCB (rLen K) (tCons (tVar 5) tNil))))) (tRet (tC (.bl false))) tNext)
 (tSeq (tAsg (tTup (tCons (tCB (rTupOf K) (tCons (tLc (iTup K (tOp (rIxT K) (tVar 10) (tC (.int (0))))) (gName 12) tYes (tOp rModI (tVar 12) (tVar 2)) [12]) tNil)) (tCons (tCB (rTupOf K) (tCons (tLc (iTup K (tOp (rIxT K) (tVar 10) (tC (.int (1))))) (gName 12) tYes (tOp rModI (tVar 12) (tVar 2)) [12]) tNil)) tNil))) (gName 13))
 (tSeq (tAsg (tCall (sp__law_accepts K A) [] E0 (tCons (tVar 5) (tCons (tVar 3) (tCons (tVar 4) (tCons (tVar 13) tNil))))) (gName 11))
 (tRet (tOp rEq (tCall (sp__law_accepts K A) [] E0 (tCons (tFld K (tVar 9) "rows") (tCons (tFld K (tVar 9) "initial") (tCons (tFld K (tVar 9) "accepting") (tCons (tVar 10) tNil))))) (tVar 11)))))) tNext)
 (tRet (tC (.bl true))))
def t_law_10 (K : PySem.W.Frag) (A : Ads) (E : XK) : TS := (tSeq (tIfS (tTest (tOp rNotNone (tVar 8) (tC .non))) (tSeq (tIfS (tOr (tNot (tB (tCall (sp__law_is_automaton K A) [] E0 (tCons (tVar 8) (tCons (tVar 7) tNil))))) (tTest (tOp rGtI (tCB (rLen K) (tCons (tFld K (tVar 8) "rows") tNil)) (tCB (rLen K) (tCons (tVar 5) tNil))))) (tRet (tC (.bl false))) tNext)
 (tSeq (tAsg (tCall (sp__law_accepts K A) [] E0 (tCons (tCall (sp__law_merged K A) [] E0 (tCons (tVar 5) (tCons (tVar 7) tNil))) (tCons (tVar 3) (tCons (tVar 4) (tCons (tVar 10) tNil))))) (gName 11))
 (tIfS (tTest (tOp rNe (tCall (sp__law_accepts K A) [] E0 (tCons (tFld K (tVar 8) "rows") (tCons (tFld K (tVar 8) "initial") (tCons (tFld K (tVar 8) "accepting") (tCons (tVar 10) tNil))))) (tVar 11))) (tRet (tC (.bl false))) tNext))) tNext)
 (t_law_11 K A E))
def t_law_7 (K : PySem.W.Frag) (A : Ads) (E : XK) : TS := (tSeq (tIfS (tTest (tOp rNe (tOp rIsNone (tVar 8) (tC .non)) (tOrV (tOp rLtI (tVar 7) (tC (.int (1)))) (tOp rNe (tOp rModI (tVar 2) (tCB rMax2 (tCons (tC (.int (1))) (tCons (tVar 7) tNil)))) (tC (.int (0))))))) (tRet (tC (.bl false))) tNext)
 (tSeq (tIfS (tTest (tOp rNe (tOp rIsNone (tVar 9) (tC .non)) (tOrV (tOp rLtI (tVar 7) (tC (.int (1)))) (tOp rNe (tOp rModI (tVar 7) (tVar 2)) (tC (.int (0))))))) (tRet (tC (.bl false))) tNext)
 (tSeq (tAsg (tCall (sp__law_lasso K A) [] E0 (tCons (tVar 1) (tCons (tCB rMax2 (tCons (tC (.int (1))) (tCons (tVar 7) tNil))) (tCons (tC (.int (3))) tNil)))) (gName 10))
 (t_law_10 K A E))))
def t_law_5 (K : PySem.W.Frag) (A : Ads) (E : XK) : TS := (tSeq (tAsg (tCall (sp__law_hide_outcome K A) [] E0 (tCons (tVar 6) (tCons (tVar 7) tNil))) (gName 8))
 (tSeq (tAsg (tCall (sp__law_widen_outcome K A) [] E0 (tCons (tVar 6) (tCons (tVar 7) tNil))) (gName 9))
 (t_law_7 K A E)))
def t_law_4 (K : PySem.W.Frag) (A : Ads) (E : XK) : TS := (tSeq (tAsg (tOp (rIxL K) (tLst (tCons (tUn rNegI (tC (.int (1)))) (tCons (tC (.int (0))) (tCons (tC (.int (1))) (tCons (tC (.int (1))) (tCons (tC (.int (2))) (tCons (tC (.int (2))) (tCons (tC (.int (3))) (tCons (tC (.int (4))) (tCons (tC (.int (5))) (tCons (tC (.int (6))) (tCons (tC (.int (8))) (tCons (tVar 2) (tCons (tOp rMulI (tC (.int (2))) (tVar 2)) tNil)))))))))))))) (tCall (sp__law_take K A) [] E0 (tCons (tVar 1) (tCons (tC (.int (13))) tNil)))) (gName 7))
 (t_law_5 K A E))
def t_law (K : PySem.W.Frag) (A : Ads) (E : XK) : TS := (tSeq (tAsg (tCall (sp__law_draws K A) [] E0 (tCons (tVar 0) (tCons (tC (.int (250))) tNil))) (gName 1))
 (tSeq (tAsg (tOp rAddI (tC (.int (1))) (tCall (sp__law_take K A) [] E0 (tCons (tVar 1) (tCons (tC (.int (6))) tNil)))) (gName 2))
 (tSeq (tAsg (tCall (sp__law_automaton K A) [] E0 (tCons (tVar 1) (tCons (tVar 2) (tCons (tC (.int (4))) tNil)))) (gTup K 3 (gCons (gName 3) (gCons (gName 4) (gCons (gName 5) gNil)))))
 (tSeq (tAsg (tMake A.C_Automaton (sp_Automaton_init K A) [] E0 (tCons (tVar 2) (tCons (tCB (rListOf K) (tCons (tVar 3) tNil)) (tCons (tCB (rListOf K) (tCons (tVar 4) tNil)) (tCons (tCall (sp__law_copy K A) [] E0 (tCons (tVar 5) tNil)) tNil))))) (gName 6))
 (t_law_4 K A E)))))

section

set_option hygiene false
local macro_rules | `(tactic| walk_at "m") => `(tactic| first | exact List.Mem.head _ | (refine List.Mem.tail _ ?_; walk_at "m"))
local macro_rules | `(tactic| walk_at "u") => `(tactic| first | exact Upd.head | (apply Upd.tail; walk_at "u"))
local macro_rules | `(tactic| walk_at "tk") => `(tactic| first | exact Tak.head | (apply Tak.tail; walk_at "tk"))
local macro_rules | `(tactic| walk_at "l") => `(tactic| first | assumption | exact lS (St.fh (by assumption)) (by assumption) | exact SqL.of (St.get (by assumption) (by walk_at "m")))
local macro_rules | `(tactic| walk_at "t") => `(tactic| first | assumption | exact tS (St.fh (by assumption)) (by assumption) | exact SqT.of (St.get (by assumption) (by walk_at "m")))
local macro_rules | `(tactic| walk_at "lt") => `(tactic| first | exact .inl (by walk_at "l") | exact .inr (by walk_at "t"))
local macro_rules | `(tactic| walk_at "sz") => `(tactic| first | (show _ ≤ sizeLine; decide) | exact sz (by simp) | exact szl (by simp) | exact sz (by omega) | exact szl (by omega) | exact sz (by simp; omega) | exact szl (by simp; omega))
local macro_rules | `(tactic| walk_at "c") => `(tactic| first | assumption | decide | omega)
local macro_rules | `(tactic| walk_at "g1") => `(tactic| with_reducible first
  | refine w_seq ?_ | refine w_asg ?_ | refine w_c ?_ | refine w_op ?_
  | refine r_I0 ?_ | refine w_test ?_ | refine r_b ?_ | refine w_if ?_ | refine w_cons ?_ | refine w_nil ?_
  | refine w_ret ?_ | refine w_drop ?_ | refine w_cb ?_ | refine w_call ?_ | refine w_next ?_ | refine w_tup ?_ | refine w_lst ?_ | refine w_bm ?_ | refine w_bm0 ?_
  | refine w_and ?_ | refine w_or ?_ | refine w_not ?_ | refine w_andV ?_ | refine w_orV ?_ | refine w_notV ?_ | refine w_tB ?_ | refine w_un ?_ | refine r_U ?_
  | refine w_for ?_ | refine w_iL ?_ | refine w_iT ?_ | refine w_i1 ?_ | refine w_i2 ?_ | refine w_sl ?_ | refine w_part ?_ | refine w_nopart ?_ | refine r_part ?_
  | refine r_eqI ?_ | refine r_neI ?_ | refine r_eqS ?_ | refine r_neS ?_ | refine r_eqB ?_ | refine r_neB ?_ | refine r_ifT ?_ | refine r_ifF ?_ | refine r_ifNt ?_ | refine r_ifNf ?_ | refine r_ifRN ?_ | refine r_ifNRN ?_ | refine r_ifNN ?_ | refine r_ifNNN ?_
  | refine w_ifE ?_ | refine r_int1 ?_ | refine r_int1b ?_ | refine r_isnone ?_ | refine r_notnone ?_ | refine r_max2 ?_ | refine r_min2 ?_ | refine r_ipI ?_ | refine w_tru ?_ | refine w_rs ?_
  | refine w_retN ?_ | refine w_break ?_ | refine w_cont ?_ | refine w_callS ?_ | refine w_asgG ?_ | refine w_gsub ?_ | refine w_fld ?_ | refine w_sfld ?_ | refine w_mk ?_ | refine w_lc ?_ | refine w_iSq ?_ | refine u_isint ?_ | refine w_dnew ?_ | refine w_dnotin ?_ | refine w_din ?_ | refine w_dget ?_ | refine w_dput ?_ | refine w_ckw ?_)
local macro_rules | `(tactic| walk_at "g2") => `(tactic| first
  | ((with_reducible refine' w_var ?hv ?_); (case hv => rfl)) | ((with_reducible refine' w_aug ?hv ?_); (case hv => rfl))
  | ((with_reducible show rLen _ _ _ _); refine r_len (by walk_at "lt") ?_)
  | (with_reducible refine r_I ?cnd ?_; (case cnd => first | decide | omega | assumption | (unfold CPow; decide)))
  | ((with_reducible show RTy _ _ _ _ _); refine r_tyL (by walk_at "l") ?_)
  | (with_reducible refine r_ifDT (by walk_at "c") ?_) | (with_reducible refine r_ifDF (by walk_at "c") ?_)
  | (with_reducible refine r_ifNT (by walk_at "c") ?_) | (with_reducible refine r_ifNF (by walk_at "c") ?_))
local macro_rules | `(tactic| walk_at "go") => `(tactic| repeat (first | walk_at "g1" | walk_at "g2"))

variable {vs : List V} {H : Hp} {Q : VK} {E : XK} {K : PySem.W.Frag} {A : Ads}
theorem p__law_draws (T : Cl K A) (h : sp__law_draws K A vs H Q E) : t__law_draws K A E (D0 Q) (start ["script", "count", "cells", "found", "mixed", "k", "j", "cell", "again"] vs) H := cv_draws (E := E) h
theorem p__law_take (T : Cl K A) (h : sp__law_take K A vs H Q E) : t__law_take K A E (D0 Q) (start ["draws", "limit"] vs) H := cv_take (E := E) h
theorem p__law_is_integer (T : Cl K A) (h : sp__law_is_integer K A vs H Q E) : t__law_is_integer K A E (D0 Q) (start ["actual"] vs) H := cv_is_integer (E := E) h
theorem p__law_integers (T : Cl K A) (h : sp__law_integers K A vs H Q E) : t__law_integers K A E (D0 Q) (start ["actual", "low", "high", "item"] vs) H := cv_integers (E := E) h
theorem p_ascends (T : Cl K A) (h : sp_ascends K A vs H Q E) : t_ascends K A E (D0 Q) (start ["numbers", "count", "before", "number"] vs) H := by
  obtain ⟨k, a, ns, c, rfl, ha, q⟩ := h
  unfold t_ascends
  show tSeq _ _ (D0 Q) [some (.ref a), some (.int c), none, none] H
  unfold D0
  walk_at "go"
  refine r_isq ha ?_
  refine r_forB (xs := iv ns) (fun i σ H' => H' = H ∧ ∃ (b : Int) (v : Option V), σ = [some (.ref a), some (.int c), some (.int b), v] ∧ asc c (-1) ns = asc c b (ns.drop i)) ⟨rfl, -1, _, rfl, rfl⟩ (fun _ _ _ _ h => h.1 ▸ ha) ?_ ?_
  · rintro i x σ H' hi ⟨rfl, b, v, rfl, e⟩
    obtain ⟨z, hz, rfl⟩ := iv_get hi
    rw [drop_cons hz, asc] at e
    walk_at "go"
    refine r_ifD (fun h => ?_) (fun h => ?_)
    · walk_at "go"
      rw [show asc c (-1) ns = false from by rw [e, decide_eq_false (show ¬ b < z by omega)]; rfl] at q
      exact q
    · walk_at "go"
      refine r_ifD (fun h2 => ?_) (fun h2 => ?_)
      · walk_at "go"
        rw [show asc c (-1) ns = false from by rw [e, decide_eq_false (show ¬ z < c by omega), Bool.and_false]; rfl] at q
        exact q
      · walk_at "go"
        exact ⟨rfl, z, _, rfl, by rw [e, decide_eq_true (show b < z by omega), decide_eq_true (show z < c by omega)]; rfl⟩
  · rintro σ H' ⟨rfl, b, v, rfl, e⟩
    walk_at "go"
    rw [iv_len, List.drop_length] at e
    rw [show asc c (-1) ns = true from e] at q
    exact q
theorem p_Automaton_init (T : Cl K A) (h : sp_Automaton_init K A vs H Q E) : t_Automaton_init K A E (D0 Q) (start ["self", "letters", "initial", "accepting", "rows", "row", "entry"] vs) H := by
  obtain ⟨F, x, dx, a, b, c, as, m, is, cs, rs, rfl, sF, fx, hx, ha0, hb0, hc0, hr0, lr, ll, k1, k2⟩ := h
  have G := St.init1 sF hx fx
  have ha := ha0.del hx
  have hb := hb0.del hx
  have hc := hc0.del hx
  have hr := hr0.del hx
  have al := hr.len
  unfold t_Automaton_init
  show tSeq _ _ (D0 Q) [some (.ref x), some (.int m), some (.ref a), some (.ref b), some (.ref c), none, none] H
  unfold D0
  have bad : ∀ {F1 H1 : Hp} {L1 : Led}, St ⟨F, del H x⟩ F1 H1 L1 → (x, HO.ins A.C_Automaton dx []) ∈ L1 → ¬ Aok m is cs rs → E (.ref A.C_InvalidAutomaton) none H1 := fun G1 m1 np => k2 np _ (G1.same1 m1 hx)
  walk_at "go"
  refine r_ifD (fun h1 => ?_) (fun h1 => ?_)
  · walk_at "go"
    exact bad G (by walk_at "m") fun p => by have := p.m1; omega
  walk_at "go"
  refine r_len (hc0.or sF) ?_
  rw [rv_len, al]
  walk_at "go"
  refine r_ifD (fun h2 => ?_) (fun h2 => ?_)
  · walk_at "go"
    exact bad G (by walk_at "m") fun p => by have := p.ne; omega
  walk_at "go"
  refine r_len (hc0.or sF) ?_
  rw [rv_len, al]
  walk_at "go"
  obtain ⟨ka, hka⟩ := ha0.bb sF
  refine ⟨ka, a, is, rs.length, rfl, hka, ?_⟩
  walk_at "go"
  refine r_if (fun h3 => ?_) (fun h3 => ?_)
  · walk_at "go"
    exact bad G (by walk_at "m") fun p => by rw [p.ai] at h3; cases h3
  walk_at "go"
  refine r_len (hc0.or sF) ?_
  rw [rv_len, al]
  walk_at "go"
  obtain ⟨kb, hkb⟩ := hb0.bb sF
  refine ⟨kb, b, cs, rs.length, rfl, hkb, ?_⟩
  walk_at "go"
  refine r_if (fun h4 => ?_) (fun h4 => ?_)
  · walk_at "go"
    exact bad G (by walk_at "m") fun p => by rw [p.ac] at h4; cases h4
  walk_at "go"
  obtain ⟨kc, hkc⟩ := hc.bs
  refine r_isq (hkc _ G.bh G.fh) ?_
  refine r_forB (xs := rv as) (fun i σ H' => (∃ v, σ = [some (.ref x), some (.int m), some (.ref a), some (.ref b), some (.ref c), v, none]) ∧ St ⟨F, del H x⟩ F H' [(x, .ins A.C_Automaton dx [])] ∧ ∀ r ∈ rs.take i, (r.length : Int) = m ∧ ∀ y ∈ r, asc rs.length (-1) y = true)
    ⟨⟨_, rfl⟩, G, fun _ h => by simp at h⟩ (fun _ _ _ _ h => hkc _ h.2.1.bh h.2.1.fh) ?_ ?_
  · rintro i y σ H' hi ⟨⟨v, rfl⟩, G1, hok⟩
    obtain ⟨ra, hi1, rfl⟩ := rv_get hi
    obtain ⟨bs, r0, hr1, hs, hlf⟩ := hr.at hi1
    have hm : r0 ∈ rs := List.mem_of_getElem? hr1
    have hl0 := ll r0 hm
    walk_at "go"
    refine r_len ((hs.mono G1.ff G1.bh).or G1.fh) ?_
    rw [rv_len, hlf.len]
    walk_at "go"
    refine r_ifN (fun h7 => ?_) (fun h7 => ?_)
    · walk_at "go"
      exact bad G1 (by walk_at "m") fun p => h7 (p.rr r0 hm).1
    walk_at "go"
    obtain ⟨kr, hkr⟩ := hs.bs
    refine r_isq (hkr _ G1.bh G1.fh) ?_
    refine r_lcB (xs := rv bs) G1 (fun D j H'' => St ⟨F, del H x⟩ F H'' ((D, .lst (((r0.take j).map (asc rs.length (-1))).map V.bl)) :: [(x, .ins A.C_Automaton dx [])])) (fun D H'' G' => G') (fun D j H'' _ h => hkr _ h.bh h.fh) ?_ ?_
    · rintro D j y H'' hj G2
      obtain ⟨e1, he1, rfl⟩ := rv_get hj
      obtain ⟨ns, hn1, hsx⟩ := hlf.at he1
      walk_at "go"
      refine r_len ((hc.mono G2.ff G2.bh).or G2.fh) ?_
      rw [rv_len, al]
      walk_at "go"
      obtain ⟨ke, hke⟩ := hsx.bs
      refine ⟨ke, e1, ns, rs.length, rfl, hke _ G2.bh G2.fh, ?_⟩
      refine r_app G2 Upd.head (szl (by simp only [List.length_map, List.length_take]; omega)) fun H3 G3 => ?_
      rw [take_snoc hn1, List.map_append, List.map_append]
      exact G3
    rintro D H'' G2
    rw [rv_len, hlf.len, List.take_length] at G2
    walk_at "go"
    refine r_all (bs := r0.map (asc rs.length (-1))) (SqL.of (G2.get List.mem_cons_self)) ?_
    have G3 := G2.drop Tak.head
    walk_at "go"
    refine r_if (fun h8 => ?_) (fun h8 => ?_)
    · walk_at "go"
      refine bad G3 (by walk_at "m") fun p => ?_
      have : (r0.map (asc rs.length (-1))).all id = true := by
        rw [List.all_map, List.all_eq_true]
        exact fun y hy => (p.rr r0 hm).2 y hy
      rw [this] at h8; cases h8
    walk_at "go"
    refine ⟨⟨_, rfl⟩, G3, fun r hr' => ?_⟩
    rw [take_snoc hr1] at hr'
    rcases List.mem_append.mp hr' with q | q
    · exact hok r q
    · rw [List.mem_singleton.mp q]
      refine ⟨h7, fun z hz => ?_⟩
      have : (r0.map (asc rs.length (-1))).all id = true := by simpa using h8
      rw [List.all_map, List.all_eq_true] at this
      exact this z hz
  rintro σ H1 ⟨⟨v, rfl⟩, G1, hok⟩
  rw [rv_len, al, List.take_length] at hok
  have OK : Aok m is cs rs := ⟨by omega, by omega, by simpa using h3, by simpa using h4, hok⟩
  walk_at "go"
  refine r_sfld G1 T.cl_Automaton T.na_Automaton_letters (fs' := [("letters", .int m)]) (by walk_at "u") rfl (by show 0 < 1000; decide) fun H2 G2 => ?_
  walk_at "go"
  refine r_tupX G2 (ha.mono G2.ff G2.bh) fun F3 H3 ia s3 _ hia G3 => ?_
  walk_at "go"
  refine r_sfld G3 T.cl_Automaton T.na_Automaton_initial (fs' := [("letters", .int m), ("initial", .ref ia)]) (by walk_at "u") rfl (by show 1 < 1000; decide) fun H4 G4 => ?_
  walk_at "go"
  refine r_tupX G4 (hb.mono G4.ff G4.bh) fun F5 H5 ca s5 _ hca G5 => ?_
  walk_at "go"
  refine r_sfld G5 T.cl_Automaton T.na_Automaton_accepting (fs' := [("letters", .int m), ("initial", .ref ia), ("accepting", .ref ca)]) (by walk_at "u") rfl (by show 2 < 1000; decide) fun H6 G6 => ?_
  walk_at "go"
  walk_at "go"
  refine r_isq (hkc _ G6.bh (G6.ff.trans G6.fh)) ?_
  refine r_lcB (xs := rv as) G6 (fun D i H' => ∃ F' as', Same F5 F' ∧ St ⟨F, del H x⟩ F' H' ((D, .lst (rv as')) :: [(x, .ins A.C_Automaton dx [("letters", .int m), ("initial", .ref ia), ("accepting", .ref ca)])]) ∧ Rows2 K F' false as' (rs.take i) ∧ as'.length ≤ i) (fun D H' G' => ⟨F5, [], Same.refl _, G', .nil, Nat.le_refl _⟩)
    (fun D i H' _ h => by obtain ⟨F', as', _, G', _, _⟩ := h; exact hkc _ G'.bh (G'.ff.trans G'.fh)) ?_ ?_
  · rintro D i y H' hi ⟨F', as', sF', G7, hR, hla⟩
    obtain ⟨ra, hi1, rfl⟩ := rv_get hi
    obtain ⟨bs, r0, hr1, hs, hlf⟩ := hr.at hi1
    have hi2 : i < rs.length := (List.getElem?_eq_some_iff.mp hr1).1
    have hl0 := ll r0 (List.mem_of_getElem? hr1)
    walk_at "go"
    obtain ⟨kr, hkr⟩ := hs.bs
    refine r_isq (hkr _ G7.bh (G7.ff.trans G7.fh)) ?_
    refine r_lcB (xs := rv bs) G7 (fun D2 j H2 => ∃ F2 ts, Same F' F2 ∧ St ⟨F, del H x⟩ F2 H2 ((D2, .lst (rv ts)) :: (D, .lst (rv as')) :: [(x, .ins A.C_Automaton dx [("letters", .int m), ("initial", .ref ia), ("accepting", .ref ca)])]) ∧ Rows K F2 false ts (r0.take j) ∧ ts.length ≤ j) (fun D2 H2 G' => ⟨F', [], Same.refl _, G', .nil, Nat.le_refl _⟩)
      (fun D2 j H2 _ h => by obtain ⟨F2, ts, _, G', _, _⟩ := h; exact hkr _ G'.bh (G'.ff.trans G'.fh)) ?_ ?_
    · rintro D2 j y H2 hj ⟨F2, ts, s2, G8, hR2, hlt⟩
      obtain ⟨e1, he1, rfl⟩ := rv_get hj
      obtain ⟨ns, hn1, hsx⟩ := hlf.at he1
      have hj2 : j < r0.length := (List.getElem?_eq_some_iff.mp hn1).1
      walk_at "go"
      refine r_tupX G8 (hsx.mono G8.ff G8.bh) fun F9 H9 t s9 _ ht G9 => ?_
      refine r_app G9 Upd.head (szl (by rw [rv_len]; omega)) fun H10 G10 => ?_
      refine ⟨F9, ts ++ [t], s2.trans s9, ?_, ?_, by simp; omega⟩
      · rw [show rv (ts ++ [t]) = rv ts ++ [V.ref t] from by simp]; exact G10
      · rw [take_snoc hn1]; exact (hR2.mono s9).snoc (show SqB K F9 t (iv ns) false from ht)
    rintro D2 H2 ⟨F2, ts, s2, G8, hR2, hlt⟩
    rw [rv_len, hlf.len, List.take_length] at hR2
    walk_at "go"
    refine r_tupofL G8 (by walk_at "l") fun rt H9 G9 => ?_
    obtain ⟨F10, s10, hrt, G10⟩ := G9.frz Tak.head
    have G11 := G10.drop Tak.head
    refine r_app G11 Upd.head (szl (by rw [rv_len]; omega)) fun H12 G12 => ?_
    refine ⟨F10, as' ++ [rt], (sF'.trans s2).trans s10, ?_, ?_, by simp; omega⟩
    · rw [show rv (as' ++ [rt]) = rv as' ++ [V.ref rt] from by simp]; exact G12
    · rw [take_snoc hr1]; exact (hR.mono (s2.trans s10)).snoc (show SqT K F10 rt (rv ts) from SqT.of hrt) (hR2.mono s10)
  rintro D H6' ⟨F', as', sF', G7, hR, hla⟩
  rw [rv_len, al, List.take_length] at hR
  walk_at "go"
  refine r_tupofL G7 (by walk_at "l") fun ra H8 G8 => ?_
  walk_at "go"
  refine r_sfld G8 T.cl_Automaton T.na_Automaton_rows (fs' := auF m ia ca ra) (by walk_at "u") rfl (by show 3 < 1000; decide) fun H9 G9 => ?_
  obtain ⟨F2, s2, hra, G10⟩ := G9.frz Tak.head
  exact k1 OK F2 H9 ia ca ra as' (G10.grB (by walk_at "m")) (G10.get (by walk_at "m")) (tS (s5.trans (sF'.trans s2)) hia) (tS (sF'.trans s2) hca) (SqT.of hra) (hR.mono s2)
theorem psL_succ {M : List (List Int)} {g kept reach : List Bool} {j : Nat} : psL M g kept reach (j + 1) = stepL M g kept (psL M g kept reach j) (M.length - 1 - j) := by
  unfold psL
  rw [List.range_succ, List.map_append, List.foldl_append]; rfl
theorem stepL_len {M : List (List Int)} {g kept : List Bool} {rc : List Bool × Bool} {k : Nat} : (stepL M g kept rc k).1.length = rc.1.length := by
  unfold stepL
  split
  · exact List.length_set ..
  · rfl
theorem psL_len {M : List (List Int)} {g kept reach : List Bool} : ∀ {j : Nat}, (psL M g kept reach j).1.length = reach.length
  | 0 => rfl
  | j + 1 => by rw [psL_succ, stepL_len, psL_len]
theorem againL_len {M : List (List Int)} {g kept : List Bool} : ∀ {f : Nat} {reach : List Bool}, (againL M g kept f reach).length = reach.length
  | 0, _ => rfl
  | f + 1, reach => by
    unfold againL
    split
    · rw [againL_len, psL_len]
    · exact psL_len
theorem hit_step {A ch : Bool} {g kept rc cur : List Bool} {kn : Nat} {t : Int} (hc : cur = if A then rc.set kn true else rc) :
    ((kept.getD t.toNat false && (g.getD t.toNat false || cur.getD t.toNat false)) = true → (A || hit1 g kept rc t) = true ∧ cur.set kn true = if (A || hit1 g kept rc t) then rc.set kn true else rc) ∧
    ((kept.getD t.toNat false && (g.getD t.toNat false || cur.getD t.toNat false)) = false → cur = (if (A || hit1 g kept rc t) then rc.set kn true else rc) ∧ (if A then true else ch) = if (A || hit1 g kept rc t) then true else ch) := by
  cases A with
  | true =>
    have hc' : cur = rc.set kn true := hc
    subst hc'
    refine ⟨fun _ => ⟨rfl, ?_⟩, fun _ => ⟨rfl, rfl⟩⟩
    show (rc.set kn true).set kn true = rc.set kn true
    rw [List.set_set]
  | false =>
    have hc' : cur = rc := hc
    subst hc'
    refine ⟨fun h => ?_, fun h => ?_⟩
    · have e : hit1 g kept cur t = true := h
      rw [e]; exact ⟨rfl, rfl⟩
    · have e : hit1 g kept cur t = false := h
      rw [e]; exact ⟨rfl, rfl⟩
theorem flat_bl {n : Nat} {x : Bool} : (List.replicate n [V.bl x]).flatten = bv (List.replicate n x) := by rw [flat_one]; simp
theorem bv_eqv (xs ys : List Bool) : PyData.eqv (.list (xs.map .bool)) (.list (ys.map .bool)) = decide (xs = ys) := by
  rw [eqv_list]
  exact eqvAll_map (fun x y => eqv_bool x y) xs ys
theorem dpa_bv {H : Hp} : ∀ {bs : List Bool}, DpAll K H (bv bs) (bs.map .bool)
  | [] => .nil
  | b :: bs => .cons (.bl b) dpa_bv
theorem dp_bv {a : Addr} {bs : List Bool} (h : SqL K H a (bv bs)) : Dp K H (.ref a) (.list (bs.map .bool)) := .lst h dpa_bv
theorem shp_bv {bs : List Bool} : Shp 1 (.list (bs.map .bool)) := shp_list (shpa_map fun _ _ => shp_bool)
set_option hygiene false
local macro_rules | `(tactic| walk_at "yes") => `(tactic| (
  walk_at "go"
  refine r_setL (xs := bv cur) G8 (ixN_of (by omega) (by rw [bv_len]; omega)) Upd.head fun H9 G9 => ?_
  rw [bv_set, Int.toNat_natCast, (y1 hc).2] at G9
  walk_at "go"
  refine ⟨some (.int t), ?_, G9⟩
  rw [(y1 hc).1]
  rfl))
local macro_rules | `(tactic| walk_at "noo") => `(tactic| (
  walk_at "go"
  obtain ⟨z1, z2⟩ := y2 hc
  refine ⟨some (.int t), ?_, by rw [← z1]; exact G8⟩
  rw [← z2]
  rfl))
theorem p__law_lives (T : Cl K A) (h : sp__law_lives K A vs H Q E) : t__law_lives K A E (D0 Q) (start ["moves", "goods", "starts", "kept", "turn", "reach", "again", "changed", "j", "k", "target", "start"] vs) H := by
  obtain ⟨F, a, b, c, as, M, g, st, rfl, sF, ha, hR, hb, hc, lM, lg, hM, hst, k⟩ := h
  have G := St.init sF
  have al := hR.len
  have fin : ∀ {F' H' : Hp} {ka : Addr} {kept : List Bool} {v4 v5 v6 v7 v8 v9 v10 : Option V}, Same F F' → SqL K F' ka (bv kept) → kept.length = M.length → turnL M g (M.length + 1) (List.replicate M.length true) = kept → St ⟨F, H⟩ F' H' [] →
      t__law_lives_2 K A E (D0 Q) [some (.ref a), some (.ref b), some (.ref c), some (.ref ka), v4, v5, v6, v7, v8, v9, v10, none] H' := by
    intro F' H' ka kept v4 v5 v6 v7 v8 v9 v10 s1 hk lk ek G1
    unfold t__law_lives_2 D0
    walk_at "go"
    refine r_il (lS G1.fh (lS s1 hc)) ?_
    refine r_forL (xs := iv st) (fun i σ H'' => H' = H'' ∧ (∃ v, σ = [some (.ref a), some (.ref b), some (.ref c), some (.ref ka), v4, v5, v6, v7, v8, v9, v10, v]) ∧ (st.take i).any (fun s => kept.getD s.toNat false) = false) ⟨rfl, ⟨_, rfl⟩, rfl⟩ (fun _ _ _ _ h => h.1 ▸ lS G1.fh (lS s1 hc)) ?_ ?_
    · rintro i y σ H'' hi ⟨rfl, ⟨v, rfl⟩, hf⟩
      obtain ⟨z, hz, rfl⟩ := iv_get hi
      have zb := hst z (List.mem_of_getElem? hz)
      walk_at "go"
      refine r_ixL (lS G1.fh hk) (atI_bv zb.1 (by omega)) ?_
      walk_at "go"
      refine r_if (fun h => ?_) (fun h => ?_)
      · walk_at "go"
        have e : LV M g st = true := by
          unfold LV
          rw [ek, List.any_eq_true]
          exact ⟨z, List.mem_of_getElem? hz, h⟩
        have := k H' G1.bh
        rw [e] at this
        exact this
      · walk_at "go"
        refine ⟨rfl, ⟨_, rfl⟩, ?_⟩
        rw [take_snoc hz, List.any_append, hf, Bool.false_or, List.any_cons, List.any_nil, Bool.or_false]
        exact h
    · rintro σ H'' ⟨rfl, ⟨v, rfl⟩, hf⟩
      rw [iv_len, List.take_length] at hf
      walk_at "go"
      have e : LV M g st = false := by
        unfold LV
        rw [ek]; exact hf
      have := k H' G1.bh
      rw [e] at this
      exact this
  unfold t__law_lives
  show tSeq _ _ (D0 Q) [some (.ref a), some (.ref b), some (.ref c), none, none, none, none, none, none, none, none, none] H
  unfold D0
  walk_at "go"
  refine r_lst G (by walk_at "sz") fun z0 H1 G1 => ?_
  walk_at "go"
  rw [rv_len, al]
  refine r_rep G1 (by walk_at "m") (by omega) (by omega) (sz (by simp; omega)) fun ka H2 G2 => ?_
  rw [show ((M.length : Int)).toNat = M.length from by omega, flat_bl] at G2
  obtain ⟨F2, s2, f2, G2⟩ := G2.frz Tak.head
  have G2 := G2.clr
  have la : SqL K F2 a (rv as) := lS s2 ha
  walk_at "go"
  rw [rv_len, al]
  refine r_i1 (by omega) ?_
  refine r_forR (InvT K F H a b c M g) ⟨F2, ka, _, none, none, none, none, none, none, none, rfl, s2, SqL.of f2, by simp, rfl, G2⟩ ?_ ?_
  · rintro i σ H3 hi ⟨F', ka', kept, v4, v5, v6, v7, v8, v9, v10, rfl, s3, hk, lk, ek, G3⟩
    have la' : SqL K F' a (rv as) := lS s3 ha
    have lb' : SqL K F' b (bv g) := lS s3 hb
    walk_at "go"
    refine r_lst G3 (by walk_at "sz") fun z1 H4 G4 => ?_
    walk_at "go"
    rw [rv_len, al]
    refine r_rep G4 (by walk_at "m") (by omega) (by omega) (sz (by simp; omega)) fun ra H5 G5 => ?_
    rw [show ((M.length : Int)).toNat = M.length from by omega, flat_bl] at G5
    have G5 := G5.only (.head _)
    have aft : ∀ {H' : Hp} {v6 v7 v8 v9 v10 : Option V}, St ⟨F, H⟩ F' H' [(ra, .lst (bv (againL M g kept (M.length + 1) (List.replicate M.length false))))] →
        tSeq (tIfS (tTest (tOp (rEqD K) (tVar 5) (tVar 3))) tBreak tNext) (tAsg (tVar 5) (gName 3)) ⟨InvT K F H a b c M g (i + 1), Q, fun σ H => t__law_lives_2 K A E (D0 Q) σ H, InvT K F H a b c M g (i + 1)⟩ [some (.ref a), some (.ref b), some (.ref c), some (.ref ka'), some (.int (0 + (i : Int))), some (.ref ra), v6, v7, v8, v9, v10, none] H' := by
      intro H' v6 v7 v8 v9 v10 G6
      have lR : (againL M g kept (M.length + 1) (List.replicate M.length false)).length = M.length := by rw [againL_len]; simp
      have et : turnL M g (M.length + 1 - i) kept = if againL M g kept (M.length + 1) (List.replicate M.length false) = kept then kept else turnL M g (M.length - i) (againL M g kept (M.length + 1) (List.replicate M.length false)) := by
        rw [show M.length + 1 - i = (M.length - i) + 1 from by omega]; rfl
      walk_at "go"
      refine r_eqD (dp_bv (SqL.of (G6.get (.head _)))) (dp_bv (lS G6.fh hk)) shp_bv shp_bv (bv_eqv _ _) ?_
      walk_at "go"
      refine r_ifD (fun h => ?_) (fun h => ?_)
      · walk_at "go"
        exact fin s3 hk lk (by rw [ek, et, if_pos h]) G6.clr
      · walk_at "go"
        obtain ⟨F7, s7, f7, G7⟩ := G6.frz Tak.head
        exact ⟨F7, ra, _, _, _, _, _, _, _, _, rfl, s3.trans s7, SqL.of f7, lR, by rw [ek, et, if_neg h]; congr 1; omega, G7⟩
    walk_at "go"
    rw [rv_len, al]
    refine r_i1 (by omega) ?_
    refine r_forR (fun i2 σ H' => ∃ v6 v7 v8 v9 v10 reach, σ = [some (.ref a), some (.ref b), some (.ref c), some (.ref ka'), some (.int (0 + (i : Int))), some (.ref ra), v6, v7, v8, v9, v10, none] ∧ reach.length = M.length ∧ againL M g kept (M.length + 1) (List.replicate M.length false) = againL M g kept (M.length + 1 - i2) reach ∧ SL.St ⟨F, H⟩ F' H' [(ra, .lst (bv reach))]) ⟨v6, v7, v8, v9, v10, _, rfl, by simp, rfl, G5⟩ ?_ ?_
    · rintro i2 σ H6 hi2 ⟨v6, v7, v8, v9, v10, reach, rfl, lr, er, G6⟩
      walk_at "go"
      rw [rv_len, al]
      refine r_i1 (by omega) ?_
      refine r_forR (fun j σ H' => ∃ v8 v9 v10, σ = [some (.ref a), some (.ref b), some (.ref c), some (.ref ka'), some (.int (0 + (i : Int))), some (.ref ra), some (.int (0 + (i2 : Int))), some (.bl (psL M g kept reach j).2), v8, v9, v10, none] ∧ SL.St ⟨F, H⟩ F' H' [(ra, .lst (bv (psL M g kept reach j).1))]) ⟨_, _, _, rfl, G6⟩ ?_ ?_
      · rintro j σ H7 hj ⟨v8, v9, v10, rfl, G7⟩
        have lp : (psL M g kept reach j).1.length = M.length := by rw [psL_len, lr]
        rw [psL_succ]
        generalize psL M g kept reach j = rc at *
        have hj' : j < M.length := by omega
        obtain ⟨kn, hkn⟩ : ∃ kn, kn = M.length - 1 - j := ⟨_, rfl⟩
        rw [← hkn]
        have hkl : kn < M.length := by omega
        walk_at "go"
        rw [rv_len, al, show (M.length : Int) - 1 - (0 + (j : Int)) = ((kn : Nat) : Int) from by omega]
        refine r_ixL (lS G7.fh hk) (atI_bv (by omega) (by omega)) ?_
        rw [Int.toNat_natCast]
        walk_at "go"
        refine r_if (fun h1 => ?_) (fun h1 => ?_)
        · walk_at "go"
          refine r_ixL (SqL.of (G7.get (.head _))) (atI_bv (by omega) (by omega)) ?_
          rw [Int.toNat_natCast]
          walk_at "go"
          refine r_if (fun h2 => ?_) (fun h2 => ?_)
          · obtain ⟨e, he⟩ : ∃ e, as[kn]? = some e := ⟨_, List.getElem?_eq_getElem (by omega)⟩
            obtain ⟨ts, ht, hs⟩ := hR.at he
            have hs' : SqL K F' e (iv ts) := lS s3 hs
            have tb := hM ts (List.mem_of_getElem? ht)
            have eM : M.getD kn [] = ts := by rw [List.getD_eq_getElem?_getD, ht]; rfl
            walk_at "go"
            refine r_ixL (lS G7.fh la') (atI_rv (by omega) (by rw [Int.toNat_natCast]; exact he)) ?_
            refine r_il (lS G7.fh hs') ?_
            refine r_forL (xs := iv ts) (fun i4 σ H' => ∃ v10, σ = [some (.ref a), some (.ref b), some (.ref c), some (.ref ka'), some (.int (0 + (i : Int))), some (.ref ra), some (.int (0 + (i2 : Int))), some (.bl (if (ts.take i4).any (hit1 g kept rc.1) then true else rc.2)), some (.int (0 + (j : Int))), some (.int (kn : Int)), v10, none] ∧ SL.St ⟨F, H⟩ F' H' [(ra, .lst (bv (if (ts.take i4).any (hit1 g kept rc.1) then rc.1.set kn true else rc.1)))]) ⟨_, rfl, G7⟩ (fun _ _ _ _ h => by obtain ⟨_, _, G'⟩ := h; exact lS G'.fh hs') ?_ ?_
            · rintro i4 y σ H8 hi4 ⟨v10, rfl, G8⟩
              obtain ⟨t, hz, rfl⟩ := iv_get hi4
              have tz := tb t (List.mem_of_getElem? hz)
              have eA : (ts.take (i4 + 1)).any (hit1 g kept rc.1) = ((ts.take i4).any (hit1 g kept rc.1) || hit1 g kept rc.1 t) := by rw [take_snoc hz, List.any_append, List.any_cons, List.any_nil, Bool.or_false]
              rw [eA]
              generalize (ts.take i4).any (hit1 g kept rc.1) = A' at *
              obtain ⟨cur, hcur⟩ : ∃ cur, cur = if A' then rc.1.set kn true else rc.1 := ⟨_, rfl⟩
              have lc : cur.length = M.length := by rw [hcur]; split <;> simp [lp]
              obtain ⟨y1, y2⟩ := hit_step (A := A') (ch := rc.2) (g := g) (kept := kept) (t := t) hcur
              rw [← hcur] at G8
              walk_at "go"
              refine r_ixL (lS G8.fh hk) (atI_bv tz.1 (by omega)) ?_
              walk_at "go"
              refine r_if (fun h3 => ?_) (fun h3 => ?_)
              · walk_at "go"
                refine r_ixL (lS G8.fh lb') (atI_bv tz.1 (by omega)) ?_
                walk_at "go"
                refine r_if (fun h4 => ?_) (fun h4 => ?_)
                · have hc : (kept.getD t.toNat false && (g.getD t.toNat false || cur.getD t.toNat false)) = true := by rw [h3, h4]; rfl
                  walk_at "yes"
                · walk_at "go"
                  refine r_ixL (SqL.of (G8.get (.head _))) (atI_bv tz.1 (by omega)) ?_
                  walk_at "go"
                  refine r_if (fun h5 => ?_) (fun h5 => ?_)
                  · have hc : (kept.getD t.toNat false && (g.getD t.toNat false || cur.getD t.toNat false)) = true := by rw [h3, h4, h5]; rfl
                    walk_at "yes"
                  · have hc : (kept.getD t.toNat false && (g.getD t.toNat false || cur.getD t.toNat false)) = false := by rw [h3, h4, h5]; rfl
                    walk_at "noo"
              · have hc : (kept.getD t.toNat false && (g.getD t.toNat false || cur.getD t.toNat false)) = false := by rw [h3]; rfl
                walk_at "noo"
            · rintro σ H8 ⟨v10, rfl, G8⟩
              rw [iv_len, List.take_length] at G8 ⊢
              have es : stepL M g kept rc kn = if ts.any (hit1 g kept rc.1) then (rc.1.set kn true, true) else rc := by
                unfold stepL hitM
                rw [h1, h2, eM]; rfl
              rw [es]
              refine ⟨some (.int (0 + (j : Int))), some (.int (kn : Int)), v10, ?_, ?_⟩
              · cases ts.any (hit1 g kept rc.1) <;> rfl
              · cases ht' : ts.any (hit1 g kept rc.1) <;> rw [ht'] at G8 <;> exact G8
          · walk_at "go"
            have es : stepL M g kept rc kn = rc := by
              unfold stepL
              rw [h1, h2]; rfl
            rw [es]
            exact ⟨_, _, _, rfl, G7⟩
        · walk_at "go"
          have es : stepL M g kept rc kn = rc := by
            unfold stepL
            rw [h1]; rfl
          rw [es]
          exact ⟨_, _, _, rfl, G7⟩
      · rintro σ H7 ⟨v8, v9, v10, rfl, G7⟩
        rw [show ((M.length : Int)).toNat = M.length from by omega] at G7 ⊢
        have lp : (psL M g kept reach M.length).1.length = M.length := by rw [psL_len, lr]
        have ea : againL M g kept (M.length + 1 - i2) reach = if (psL M g kept reach M.length).2 then againL M g kept (M.length - i2) (psL M g kept reach M.length).1 else (psL M g kept reach M.length).1 := by
          rw [show M.length + 1 - i2 = (M.length - i2) + 1 from by omega]; rfl
        walk_at "go"
        refine r_if (fun h => ?_) (fun h => ?_)
        · refine w_break ?_
          have h' : (psL M g kept reach M.length).2 = false := by simpa using h
          rw [h'] at ea
          have er' : againL M g kept (M.length + 1) (List.replicate M.length false) = (psL M g kept reach M.length).1 := by rw [er, ea]; rfl
          rw [← er'] at G7
          exact aft G7
        · walk_at "go"
          have h' : (psL M g kept reach M.length).2 = true := by simpa using h
          rw [h'] at ea
          refine ⟨_, _, _, _, _, _, rfl, lp, ?_, G7⟩
          rw [er, ea, show M.length + 1 - (i2 + 1) = M.length - i2 from by omega]; rfl
    · rintro σ H6 ⟨v6, v7, v8, v9, v10, reach, rfl, lr, er, G6⟩
      rw [show M.length + 1 - ((M.length : Int) + 1).toNat = 0 from by omega] at er
      have er' : againL M g kept (M.length + 1) (List.replicate M.length false) = reach := er
      rw [← er'] at G6
      exact aft G6
  · rintro σ H3 ⟨F', ka', kept, v4, v5, v6, v7, v8, v9, v10, rfl, s3, hk, lk, ek, G3⟩
    refine fin s3 hk lk ?_ G3
    rw [ek, show (M.length + 1 - ((M.length : Int) + 1).toNat) = 0 from by omega]; rfl
theorem inV_iv {s : Int} {cs : List Int} : inV (.int s) (iv cs) = decide (s ∈ cs) := by
  unfold inV
  induction cs with
  | nil => rfl
  | cons c cs ih =>
    show (eqV (.int c) (.int s) || (iv cs).any fun y => eqV y (.int s)) = _
    rw [ih]
    have e : eqV (.int c) (.int s) = decide (c = s) := by
      show (c == s) = _
      by_cases q : c = s
      · subst q; simp
      · rw [decide_eq_false q]; simpa using q
    rw [e]
    by_cases q : c = s
    · subst q; simp
    · rw [decide_eq_false q, Bool.false_or]
      exact decide_eq_decide.mpr ⟨fun h => List.mem_cons_of_mem _ h, fun h => by rcases List.mem_cons.mp h with z | z; exact absurd z.symm q; exact z⟩
theorem flat_iv {cs : List Int} : (iv cs).all flatV = true := by
  rw [List.all_eq_true]
  intro x hx
  obtain ⟨z, _, rfl⟩ := List.mem_map.mp hx
  rfl
theorem r_inQ {s : Int} {a : Addr} {cs : List Int} (h : SqL K H a (iv cs) ∨ SqT K H a (iv cs)) (q : Q (.bl (decide (s ∈ cs))) H) : rIn K false (.int s) (.ref a) H Q := ⟨a, iv cs, rfl, h, rfl, flat_iv, by rw [← inV_iv] at q; exact q⟩
theorem p__law_accepts (T : Cl K A) (h : sp__law_accepts K A vs H Q E) : t__law_accepts K A E (D0 Q) (start ["rows", "initial", "accepting", "lasso", "letters", "size", "moves", "goods", "state", "place", "after", "target"] vs) H := by
  obtain ⟨F, kb, a, b, c, w, as, m, is, cs, hs, ls, rs, rfl, sF, ha, hR, hb, hc, hw, hh, hl, ln, l1, l2, rl, il, cl, hrs, his, k⟩ := h
  obtain ⟨hd, ld, w1, w2, w3⟩ := hw.ex
  have G := St.init sF
  have al := hR.len
  obtain ⟨sz, hsz⟩ : ∃ sz, sz = hs.length + ls.length := ⟨_, rfl⟩
  have s1 : 1 ≤ sz := by omega
  have s20 : sz ≤ 20 := by omega
  have nn : rs.length * sz ≤ 10 * 20 := Nat.mul_le_mul rl s20
  have wb : ∀ p, p < sz → 0 ≤ (hs ++ ls).getD p 0 ∧ (hs ++ ls).getD p 0 < m := fun p hp => by
    have : (hs ++ ls).getD p 0 ∈ hs ++ ls := by
      rw [List.getD_eq_getElem?_getD, List.getElem?_eq_getElem (by rw [List.length_append]; omega)]
      exact List.getElem_mem _
    rcases List.mem_append.mp this with q | q
    · exact hh _ q
    · exact hl _ q
  unfold t__law_accepts
  show tSeq _ _ (D0 Q) [some (.ref a), some (.ref b), some (.ref c), some (.ref w), none, none, none, none, none, none, none, none] H
  unfold D0
  walk_at "go"
  refine r_ixT (tS G.fh w1) (atI_nat (j := 0) rfl) ?_
  walk_at "go"
  refine r_listof G (.inr (tS G.fh w2)) fun e1 H1 G1 => ?_
  walk_at "go"
  refine r_ixT (tS G1.fh w1) (atI_nat (j := 1) rfl) ?_
  walk_at "go"
  refine r_listof G1 (.inr (tS G1.fh w3)) fun e2 H2 G2 => ?_
  refine r_cat G2 (.tail _ (.head _)) (.head _) (SL.sz (by rw [iv_len, iv_len]; omega)) fun lt H3 G3 => ?_
  rw [← List.map_append] at G3
  obtain ⟨F3, s3, f3, G3⟩ := G3.frz Tak.head
  have G3 := G3.clr
  have hlt : SqL K F3 lt (iv (hs ++ ls)) := SqL.of f3
  walk_at "go"
  rw [iv_len, List.length_append, ← hsz]
  refine r_lst G3 (by walk_at "sz") fun mA H4 G4 => ?_
  walk_at "go"
  refine r_lst G4 (by walk_at "sz") fun gA H5 G5 => ?_
  walk_at "go"
  refine r_len (qor (qS G5.fh (qS s3 ha))) ?_
  rw [rv_len, al]
  walk_at "go"
  refine r_i1 (by omega) ?_
  refine r_forR (fun s σ H' => ∃ F' ms v8 v9 v10, σ = [some (.ref a), some (.ref b), some (.ref c), some (.ref w), some (.ref lt), some (.int (sz : Int)), some (.ref mA), some (.ref gA), v8, v9, v10, none] ∧ Same F3 F' ∧ Rows K F' true ms ((List.range (s * sz)).map (mvs rs sz hs.length (hs ++ ls))) ∧
      SL.St ⟨F, H⟩ F' H' [(gA, .lst (bv ((List.range (s * sz)).map fun q => decide (((q / sz : Nat) : Int) ∈ cs)))), (mA, .lst (rv ms))]) ⟨F3, [], none, none, none, rfl, Same.refl _, by rw [Nat.zero_mul]; exact .nil, by rw [Nat.zero_mul]; exact G5⟩ ?_ ?_
  · rintro s σ H6 hs' ⟨F6, ms, v8, v9, v10, rfl, s6, hM, G6⟩
    have hsn : s < rs.length := by omega
    walk_at "go"
    refine r_i1 (by omega) ?_
    refine r_forR (fun p σ H' => ∃ F' ms v9 v10, σ = [some (.ref a), some (.ref b), some (.ref c), some (.ref w), some (.ref lt), some (.int (sz : Int)), some (.ref mA), some (.ref gA), some (.int (0 + (s : Int))), v9, v10, none] ∧ Same F3 F' ∧ Rows K F' true ms ((List.range (s * sz + p)).map (mvs rs sz hs.length (hs ++ ls))) ∧
        SL.St ⟨F, H⟩ F' H' [(gA, .lst (bv ((List.range (s * sz + p)).map fun q => decide (((q / sz : Nat) : Int) ∈ cs)))), (mA, .lst (rv ms))]) ⟨F6, ms, _, _, rfl, s6, hM, G6⟩ ?_ ?_
    · rintro p σ H7 hp ⟨F7, ms, v9, v10, rfl, s7, hM, G7⟩
      have hpz : p < sz := by omega
      have snn : s * sz + p < 10 * 20 := by
        have : (s + 1) * sz ≤ rs.length * sz := Nat.mul_le_mul_right sz (by omega)
        rw [Nat.succ_mul] at this
        omega
      have qd : (s * sz + p) / sz = s := by rw [Nat.mul_comm, Nat.mul_add_div (by omega), Nat.div_eq_of_lt hpz, Nat.add_zero]
      have qm : (s * sz + p) % sz = p := by rw [Nat.mul_comm, Nat.mul_add_mod, Nat.mod_eq_of_lt hpz]
      have sA := s3.trans s7
      obtain ⟨af, haf⟩ : ∃ af : Nat, af = if p + 1 = sz then hs.length else p + 1 := ⟨_, rfl⟩
      have rest : ∀ {v10' v11' : L2.St → Hp → Prop} (z : Int), z = (af : Int) → tSeq (tDrop (tBM K "list" rAppend (tVar 6) (tCons (tLc (iSeq K (tOp (rIx K) (tOp (rIx K) (tVar 0) (tVar 8)) (tOp (rIxL K) (tVar 4) (tVar 9)))) (gName 11) tYes (tOp rAddI (tOp rMulI (tVar 11) (tVar 5)) (tVar 10)) [11]) tNil))) (tDrop (tBM K "list" rAppend (tVar 7) (tCons (tOp (rIn K false) (tVar 8) (tVar 2)) tNil)))
          ⟨fun σ H' => ∃ F' ms v9 v10, σ = [some (.ref a), some (.ref b), some (.ref c), some (.ref w), some (.ref lt), some (.int (sz : Int)), some (.ref mA), some (.ref gA), some (.int (0 + (s : Int))), v9, v10, none] ∧ Same F3 F' ∧ Rows K F' true ms ((List.range (s * sz + (p + 1))).map (mvs rs sz hs.length (hs ++ ls))) ∧
            SL.St ⟨F, H⟩ F' H' [(gA, .lst (bv ((List.range (s * sz + (p + 1))).map fun q => decide (((q / sz : Nat) : Int) ∈ cs)))), (mA, .lst (rv ms))], Q, v10', v11'⟩ [some (.ref a), some (.ref b), some (.ref c), some (.ref w), some (.ref lt), some (.int (sz : Int)), some (.ref mA), some (.ref gA), some (.int (0 + (s : Int))), some (.int (0 + (p : Int))), some (.int z), none] H7 := by
        rintro v10' v11' z rfl
        obtain ⟨ea, hea⟩ : ∃ e, as[s]? = some e := ⟨_, List.getElem?_eq_getElem (by omega)⟩
        obtain ⟨bs, r, hr1, hs1, hR1⟩ := hR.at hea
        obtain ⟨q1, q2⟩ := hrs r (List.mem_of_getElem? hr1)
        obtain ⟨wz, hwz⟩ : ∃ z, z = (hs ++ ls).getD p 0 := ⟨_, rfl⟩
        have wz1 := wb p hpz
        rw [← hwz] at wz1
        have wl : wz.toNat < bs.length := by rw [hR1.len]; omega
        obtain ⟨eb, heb⟩ : ∃ e, bs[wz.toNat]? = some e := ⟨_, List.getElem?_eq_getElem wl⟩
        obtain ⟨ts, ht1, hts⟩ := hR1.at heb
        obtain ⟨t1, t2⟩ := q2 ts (List.mem_of_getElem? ht1)
        have em : mvs rs sz hs.length (hs ++ ls) (s * sz + p) = ts.map fun t => t * (sz : Int) + (af : Int) := by
          unfold mvs
          rw [qd, qm, ← hwz, haf]
          rw [List.getD_eq_getElem?_getD, List.getD_eq_getElem?_getD, hr1, Option.getD_some, ht1]; rfl
        have lm : ms.length = s * sz + p := by rw [hM.len]; simp
        have e0 : (0 + (s : Int)).toNat = s := by omega
        have e1 : (0 + (p : Int)).toNat = p := by omega
        walk_at "go"
        refine r_ixQ (qor (qS G7.fh (qS sA ha))) (atI_rv (by omega) (by rw [e0]; exact hea)) ?_
        walk_at "go"
        refine r_ixL (lS G7.fh (lS s7 hlt)) (atI_iv (by omega) (by rw [List.length_append]; omega)) ?_
        rw [e1, ← hwz]
        refine r_ixQ (qor (qS G7.fh (qS sA hs1))) (atI_rv (by omega) heb) ?_
        refine r_isq (qS G7.fh (qS sA hts)) ?_
        refine r_lcB (k := kb) (xs := iv ts) G7 (fun D i H' => St ⟨F, H⟩ F7 H' ((D, .lst (iv ((ts.take i).map fun t => t * (sz : Int) + (af : Int)))) :: [(gA, .lst (bv ((List.range (s * sz + p)).map fun q => decide (((q / sz : Nat) : Int) ∈ cs)))), (mA, .lst (rv ms))])) (fun D H' G' => G') (fun D i H' _ h => qS h.fh (qS sA hts)) ?_ ?_
        · rintro D i y H8 hi G8
          obtain ⟨t, hz, rfl⟩ := iv_get hi
          walk_at "go"
          have tb := t2 t (List.mem_of_getElem? hz)
          refine r_mul (m := 8) (k := 8) (by omega) (by omega) ?_
          walk_at "go"
          refine r_app G8 Upd.head (szl (by rw [iv_len]; simp; omega)) fun H9 G9 => ?_
          rw [take_snoc hz, List.map_append]
          rw [iv_snoc] at G9
          exact G9
        rintro D H8 G8
        rw [iv_len, List.take_length] at G8
        obtain ⟨F9, s9, f9, G9⟩ := G8.frz Tak.head
        walk_at "go"
        refine r_append G9 (.tail .head) (szl (by rw [rv_len]; omega)) fun H10 G10 => ?_
        walk_at "go"
        refine r_inQ (qor (qS G10.fh (qS (sA.trans s9) hc))) ?_
        walk_at "go"
        refine r_append G10 Upd.head (szl (by rw [bv_len]; simp; omega)) fun H11 G11 => ?_
        refine ⟨F9, ms ++ [D], _, _, rfl, s7.trans s9, ?_, ?_⟩
        · rw [← Nat.add_assoc, List.range_succ, List.map_append, List.map_cons, List.map_nil, em]
          exact (hM.mono s9).snoc (show SqL K F9 D _ from SqL.of f9)
        · rw [← Nat.add_assoc, List.range_succ, List.map_append, List.map_cons, List.map_nil, qd]
          rw [show rv (ms ++ [D]) = rv ms ++ [V.ref D] from by simp, show ∀ xs : List Bool, bv (xs ++ [decide ((s : Int) ∈ cs)]) = bv xs ++ [V.bl (decide ((s : Int) ∈ cs))] from fun xs => by simp]
          rw [show (0 + (s : Int)) = (s : Int) from by omega] at G11
          exact G11
      walk_at "go"
      refine r_ifD (fun h => ?_) (fun h => ?_)
      · walk_at "go"
        refine r_ixT (tS G7.fh (tS sA w1)) (atI_nat (j := 0) rfl) ?_
        refine w_nil ?_
        refine r_len (.inr (tS G7.fh (tS sA w2))) ?_
        refine rest _ ?_
        rw [iv_len, haf, if_pos (by omega)]
      · refine w_next ?_
        refine rest _ ?_
        rw [haf, if_neg (by omega)]; omega
    · rintro σ H7 ⟨F7, ms, v9, v10, rfl, s7, hM, G7⟩
      rw [show ((sz : Int)).toNat = sz from by omega, ← Nat.succ_mul] at hM G7
      exact ⟨F7, ms, _, _, _, rfl, s7, hM, G7⟩
  · rintro σ H6 ⟨F6, ms, v8, v9, v10, rfl, s6, hM, G6⟩
    rw [show ((rs.length : Int)).toNat = rs.length from by omega] at hM G6
    obtain ⟨F7, s7, f7, G7⟩ := G6.frz Tak.head
    obtain ⟨F8, s8, f8, G8⟩ := G7.frz Tak.head
    have sB := s3.trans (s6.trans (s7.trans s8))
    unfold t__law_accepts_5
    walk_at "go"
    refine r_isq (qS G8.fh (qS sB hb)) ?_
    refine r_lcB (k := kb) (xs := iv is) G8 (fun D i H' => St ⟨F, H⟩ F8 H' [(D, .lst (iv ((is.take i).map fun t => t * (sz : Int))))]) (fun D H' G' => G') (fun D i H' _ h => qS h.fh (qS sB hb)) ?_ ?_
    · rintro D i y H9 hi G9
      obtain ⟨t, hz, rfl⟩ := iv_get hi
      walk_at "go"
      have tb := his t (List.mem_of_getElem? hz)
      refine r_mul (m := 8) (k := 8) (by omega) (by omega) ?_
      refine r_app G9 Upd.head (szl (by rw [iv_len]; simp; omega)) fun H10 G10 => ?_
      rw [take_snoc hz, List.map_append]
      rw [iv_snoc] at G10
      exact G10
    rintro D H9 G9
    rw [iv_len, List.take_length] at G9
    obtain ⟨F10, s10, f10, G10⟩ := G9.frz Tak.head
    have lM : (movesOf rs hs ls).length = rs.length * sz := by unfold movesOf; rw [List.length_map, List.length_range, ← hsz]
    have szi : (0 : Int) ≤ (sz : Int) := by omega
    walk_at "go"
    refine ⟨F10, mA, gA, D, ms, movesOf rs hs ls, goodsOf rs.length sz cs, is.map fun t => t * (sz : Int), rfl, G10.fh, SqL.of (s10 _ _ f8), (by unfold movesOf; rw [← hsz]; exact hM.mono (s7.trans (s8.trans s10))), SqL.of (s10 _ _ (s8 _ _ f7)), SqL.of f10, by omega, ?_, ?_, ?_, fun H' s' => ?_⟩
    · unfold goodsOf
      rw [lM]; simp
    · rw [lM]
      intro ts hts t ht
      unfold movesOf at hts
      obtain ⟨q, hq, rfl⟩ := List.mem_map.mp hts
      rw [List.mem_range, ← hsz] at hq
      unfold mvs at ht
      rw [← hsz] at ht
      obtain ⟨x, hx, rfl⟩ := List.mem_map.mp ht
      have hqm : q % sz < sz := Nat.mod_lt _ (by omega)
      have ha2 : ((if q % sz + 1 = sz then hs.length else q % sz + 1 : Nat)) < sz := by split <;> omega
      generalize (if q % sz + 1 = sz then hs.length else q % sz + 1 : Nat) = af at *
      have hx2 : 0 ≤ x ∧ x < rs.length := by
        rw [List.getD_eq_getElem?_getD, List.getD_eq_getElem?_getD] at hx
        cases e1 : rs[q / sz]? with
        | none => rw [e1] at hx; simp at hx
        | some r =>
          rw [e1, Option.getD_some] at hx
          cases e2 : r[((hs ++ ls).getD (q % sz) 0).toNat]? with
          | none => rw [e2] at hx; simp at hx
          | some e =>
            rw [e2, Option.getD_some] at hx
            exact ((hrs r (List.mem_of_getElem? e1)).2 e (List.mem_of_getElem? e2)).2 x hx
      have m1 := Int.mul_nonneg hx2.1 szi
      have m2 : (x + 1) * (sz : Int) ≤ (rs.length : Int) * (sz : Int) := Int.mul_le_mul_of_nonneg_right (by omega) szi
      rw [Int.add_mul, Int.one_mul] at m2
      have m3 : ((rs.length * sz : Nat) : Int) = (rs.length : Int) * (sz : Int) := by simp
      omega
    · rw [lM]
      intro t ht
      obtain ⟨x, hx, rfl⟩ := List.mem_map.mp ht
      have hx2 := his x hx
      have m1 := Int.mul_nonneg hx2.1 szi
      have m2 : (x + 1) * (sz : Int) ≤ (rs.length : Int) * (sz : Int) := Int.mul_le_mul_of_nonneg_right (by omega) szi
      rw [Int.add_mul, Int.one_mul] at m2
      have m3 : ((rs.length * sz : Nat) : Int) = (rs.length : Int) * (sz : Int) := by simp
      omega
    · have := k H' (G10.bh.trans s')
      unfold ACC at this
      rw [← hsz] at this
      exact this
theorem nodup_len {n : Int} {ks : List Int} (hn : ks.Nodup) (hb : ∀ x ∈ ks, 0 ≤ x ∧ x < n) (h0 : 0 ≤ n) : (ks.length : Int) ≤ n := by
  have hs : (ks.mergeSort (fun a b => decide (a ≤ b))).Pairwise (· ≤ ·) := by
    have := List.pairwise_mergeSort (le := fun a b : Int => decide (a ≤ b)) (fun a b c h1 h2 => by simp at *; omega) (fun a b => by simp; omega) ks
    exact this.imp fun h => by simpa using h
  have := asc_len (asc_of (List.mergeSort_perm ks _) hs hn hb) (by omega)
  have e := (List.mergeSort_perm ks (fun a b => decide (a ≤ b))).length_eq
  omega
theorem p_merged (T : Cl K A) (h : sp_merged K A vs H Q E) : t_merged K A E (D0 Q) (start ["entries", "found", "entry", "state"] vs) H := by
  obtain ⟨F, a, es, rs, n, rfl, sF, ha, hR, l1, n0, n6, hb, k⟩ := h
  have G := St.init sF
  have al := hR.len
  unfold t_merged
  show tSeq _ _ (D0 Q) [some (.ref a), none, none, none] H
  unfold D0
  walk_at "go"
  refine r_dnew G fun d H1 G1 => ?_
  walk_at "go"
  refine r_it (tS G1.fh ha) ?_
  refine r_forT (xs := rv es) (fun i σ H' => ∃ ks v w, σ = [some (.ref a), some (.ref d), v, w] ∧ ks.Nodup ∧ (∀ x, x ∈ ks ↔ ∃ r ∈ rs.take i, x ∈ r) ∧ St ⟨F, H⟩ F H' [(d, .dK (kS ks))]) ⟨[], _, _, rfl, .nil, by simp, G1⟩ (fun _ _ _ _ h => by obtain ⟨_, _, _, _, _, _, G'⟩ := h; exact tS G'.fh ha) ?_ ?_
  · rintro i y σ H' hi ⟨ks, v, w, rfl, hn, hm, G2⟩
    obtain ⟨e, he, rfl⟩ := rv_get hi
    obtain ⟨r, hr, hs⟩ := hR.at he
    have hs' : SqT K F e (iv r) := hs
    walk_at "go"
    refine r_it (tS G2.fh hs') ?_
    refine r_forT (xs := iv r) (fun j σ H' => ∃ ks w, σ = [some (.ref a), some (.ref d), some (.ref e), w] ∧ ks.Nodup ∧ (∀ x, x ∈ ks ↔ (∃ r ∈ rs.take i, x ∈ r) ∨ x ∈ r.take j) ∧ St ⟨F, H⟩ F H' [(d, .dK (kS ks))]) ⟨ks, _, rfl, hn, fun x => by rw [hm]; simp, G2⟩ (fun _ _ _ _ h => by obtain ⟨_, _, _, _, _, G'⟩ := h; exact tS G'.fh hs') ?_ ?_
    · rintro j y σ H' hj ⟨ks, w, rfl, hn, hm, G3⟩
      obtain ⟨z, hz, rfl⟩ := iv_get hj
      have kb : ∀ x ∈ ks, 0 ≤ x ∧ x < n := fun x hx => by
        rcases (hm x).mp hx with ⟨r1, h1, h2⟩ | h2
        · exact hb r1 (List.mem_of_mem_take h1) x h2
        · exact hb r (List.mem_of_getElem? hr) x (List.mem_of_mem_take h2)
      have kl := nodup_len hn kb n0
      walk_at "go"
      refine r_dput G3 Upd.head (szl (by rw [kS_len]; omega)) fun H4 G4 => ?_
      rw [kS_put] at G4
      refine ⟨_, _, rfl, addS_nodup hn, fun x => ?_, G4⟩
      rw [addS_mem, hm, take_snoc hz, List.mem_append, List.mem_singleton, or_assoc]
    · rintro σ H' ⟨ks, w, rfl, hn, hm, G3⟩
      rw [iv_len, List.take_length] at hm
      refine ⟨ks, _, _, rfl, hn, fun x => ?_, G3⟩
      rw [hm, take_snoc hr]
      constructor
      · rintro (⟨r1, h1, h2⟩ | h2)
        · exact ⟨r1, List.mem_append_left _ h1, h2⟩
        · exact ⟨r, List.mem_append_right _ List.mem_cons_self, h2⟩
      · rintro ⟨r1, h1, h2⟩
        rcases List.mem_append.mp h1 with q | q
        · exact .inl ⟨r1, q, h2⟩
        · rw [List.mem_singleton.mp q] at h2; exact .inr h2
  · rintro σ H2 ⟨ks, v, w, rfl, hn, hm, G2⟩
    rw [rv_len, al, List.take_length] at hm
    have kb : ∀ x ∈ ks, 0 ≤ x ∧ x < n := fun x hx => by
      obtain ⟨r1, h1, h2⟩ := (hm x).mp hx
      exact hb r1 h1 x h2
    have kl := nodup_len hn kb n0
    walk_at "go"
    refine r_listdK G2 (.head _) fun p H3 G3 => ?_
    walk_at "go"
    refine r_sorted G3 (SqL.of (G3.get (.head _))) (by omega) fun ns b H4 hp hs G4 => ?_
    exact k H4 b ns (asc_of hp hs hn kb) (fun x => by rw [hp.mem_iff, hm]) (G4.only (.head _))
theorem mem_js {α : Type} {xs : List α} {c : Nat} (h : xs.length = c * 1) (e : α) : e ∈ (jsOf 0 1 c).filterMap (xs[·]?) ↔ e ∈ xs := by
  rw [List.mem_filterMap]
  unfold jsOf
  constructor
  · rintro ⟨j, _, hj⟩
    exact List.mem_of_getElem? hj
  · intro he
    obtain ⟨j, hj, e'⟩ := List.mem_iff_getElem.mp he
    exact ⟨j, List.mem_map.mpr ⟨j, List.mem_range.mpr (by omega), by omega⟩, by rw [List.getElem?_eq_getElem hj, e']⟩
def PR (n : Int) (c : Nat) (r0 : List (List Int)) (k j : Nat) (r : List (List Int)) : Prop := r.length = j ∧ (∀ y ∈ r, asc n (-1) y = true) ∧ ∀ l, l < j → ∀ x, x ∈ r.getD l [] ↔ ∃ e ∈ (jsOf l k c).filterMap (r0[·]?), x ∈ e
theorem PR.snoc {n : Int} {c k j : Nat} {r0 r : List (List Int)} {y : List Int} (h : PR n c r0 k j r) (ha : asc n (-1) y = true) (hx : ∀ x, x ∈ y ↔ ∃ e ∈ (jsOf j k c).filterMap (r0[·]?), x ∈ e) : PR n c r0 k (j + 1) (r ++ [y]) := by
  obtain ⟨h1, h2, h3⟩ := h
  refine ⟨by simp [h1], fun z hz => ?_, fun l hl x => ?_⟩
  · rcases List.mem_append.mp hz with q | q
    · exact h2 z q
    · rw [List.mem_singleton.mp q]; exact ha
  · rcases Nat.lt_or_ge l j with q | q
    · rw [List.getD_eq_getElem?_getD, List.getElem?_append_left (by omega), ← List.getD_eq_getElem?_getD]
      exact h3 l q x
    · have e : l = j := by omega
      subst e
      rw [List.getD_eq_getElem?_getD, List.getElem?_append_right (by omega), show l - r.length = 0 from by omega]
      exact hx x
def InvH (K : PySem.W.Frag) (F H F1 : Hp) (R : Addr) (as' : List Addr) (n : Int) (c : Nat) (r0 : List (List Int)) (kn : Nat) (D : Addr) (j : Nat) (H'' : Hp) : Prop := ∃ F2 ts r, Same F1 F2 ∧ Rows K F2 true ts r ∧ PR n c r0 kn j r ∧ SL.St ⟨F, H⟩ F2 H'' [(D, .lst (rv ts)), (R, .lst (rv as'))]
theorem p_hide (T : Cl K A) (h : sp_hide K A vs H Q E) : t_hide K A E (D0 Q) (start ["automaton", "letters", "rows", "row", "letter"] vs) H := by
  obtain ⟨F, x, m, k, is, cs, rs, rfl, sF, hA, OK, lr, m20, k40, li, lc, kb, kg⟩ := h
  obtain ⟨dx, ia, ca, ra, as, h1, h2, h3, h4, h5⟩ := hA.ex
  have G := St.init sF
  have al := h5.len
  have m1 := OK.m1
  unfold t_hide
  show tSeq _ _ (D0 Q) [some (.ref x), some (.int k), none, none, none] H
  unfold D0
  walk_at "go"
  refine r_ifD (fun c1 => ?_) (fun c1 => ?_)
  · walk_at "go"
    exact kb (by omega)
  walk_at "go"
  refine r_fld (G.fh _ _ h1) T.cl_Automaton T.na_Automaton_letters la_letters ?_
  walk_at "go"
  refine r_ifN (fun c2 => ?_) (fun c2 => ?_)
  · walk_at "go"
    exact kb (fun q => c2 q.2)
  have k1 : 1 ≤ k := by omega
  have cond : 1 ≤ k ∧ m % k = 0 := ⟨k1, c2⟩
  obtain ⟨kn, rfl⟩ : ∃ kn : Nat, k = (kn : Int) := ⟨k.toNat, by omega⟩
  obtain ⟨mn, rfl⟩ : ∃ mn : Nat, m = (mn : Int) := ⟨m.toNat, by omega⟩
  have c2' : mn % kn = 0 := by exact_mod_cast c2
  have mc : mn = (mn / kn) * kn := (Nat.div_mul_cancel (Nat.dvd_of_mod_eq_zero c2')).symm
  have c0 : 0 < mn / kn := Nat.div_pos (Nat.le_of_dvd (by omega) (Nat.dvd_of_mod_eq_zero c2')) (by omega)
  have kg' := kg cond
  rw [Int.toNat_natCast, Int.toNat_natCast] at kg'
  unfold HidOf at kg'
  obtain ⟨c, hc⟩ : ∃ c, c = mn / kn := ⟨_, rfl⟩
  rw [← hc] at mc c0 kg'
  have cm : c ≤ 20 := by
    have := Nat.div_le_self mn kn
    omega
  walk_at "go"
  refine r_lst G (by walk_at "sz") fun R H1 G1 => ?_
  walk_at "go"
  refine r_fld (G1.fh _ _ h1) T.cl_Automaton T.na_Automaton_rows la_rows ?_
  refine r_it (tS G1.fh h4) ?_
  refine r_forT (xs := rv as) (fun i σ H' => ∃ F' as' rs' v w, σ = [some (.ref x), some (.int kn), some (.ref R), v, w] ∧ Same F F' ∧ Rows2 K F' true as' rs' ∧ rs'.length = i ∧ (∀ (s : Nat) r r', rs[s]? = some r → rs'[s]? = some r' → PR rs.length c r kn kn r') ∧ St ⟨F, H⟩ F' H' [(R, .lst (rv as'))]) ⟨F, [], [], _, _, rfl, Same.refl _, .nil, rfl, (fun s r r' _ h => by simp at h), G1⟩ (fun _ _ _ _ h => by obtain ⟨_, _, _, _, _, _, _, _, _, _, G'⟩ := h; exact tS (G'.ff.trans G'.fh) h4) ?_ ?_
  · rintro i y σ H' hi ⟨F1, as', rs', v, w, rfl, s1, hR1, hl1, hp1, G2⟩
    obtain ⟨ea, he, rfl⟩ := rv_get hi
    obtain ⟨bs, r0, hr0, hs0, hR0⟩ := h5.at he
    have i1 : i < rs.length := (List.getElem?_eq_some_iff.mp hr0).1
    obtain ⟨q1, q2⟩ := OK.rr r0 (List.mem_of_getElem? hr0)
    have hs0' : SqT K F ea (rv bs) := hs0
    have rl : r0.length = mn := by omega
    have bl : bs.length = c * kn := by rw [hR0.len, rl]; exact mc
    walk_at "go"
    refine r_i1 (by omega) ?_
    refine r_lcR G2 (fun D j H'' => InvH K F H F1 R as' rs.length c r0 kn D j H'') (fun D H' G' => ⟨F1, [], [], Same.refl _, .nil, ⟨rfl, (fun _ h => nomatch h), fun l h => absurd h (by omega)⟩, G'⟩) ?_ ?_
    · rintro D j H'' hj ⟨F2, ts, r, s2, hR2, hP, G3⟩
      have s02 := s1.trans s2
      have hsl : ∀ {es : List Addr} {r1 : List (List Int)} {F3 H3 : Hp} {L : Led} {t : Addr} {Qx : VK}, Same F2 F3 → SqT K F3 t (rv es) → Rows K F3 false es r1 → r1.length ≤ 100 → (∀ e, e ∈ r1 → e ∈ r0) → (∀ e, e ∈ r1 ↔ e ∈ (jsOf j kn c).filterMap (r0[·]?)) → St ⟨F, H⟩ F3 H3 [(D, .lst (rv ts)), (R, .lst (rv as'))] → (∀ b H4, RApp D (.ref b) H4 (fun H5 => InvH K F H F1 R as' rs.length c r0 kn D (j + 1) H5) → Qx (.ref b) H4) → sp_merged K A [.ref t] H3 Qx E0 := by
        intro es r1 F3 H3 L t Qx s3 ht hr1 l1 hm1 hm2 G4 hQ
        refine ⟨F3, t, es, r1, rs.length, rfl, G4.fh, ht, hr1, l1, by omega, by omega, fun r2 h2 x hx => ?_, fun H4 b ns ha hm w => hQ b H4 ?_⟩
        · have := (asc_iff.mp (q2 r2 (hm1 r2 h2))).1 x hx
          omega
        · have G5 := G4.join w
          obtain ⟨F5, s5, f5, G6⟩ := G5.frz Tak.head
          have tl : ts.length = j := by rw [hR2.len]; exact hP.1
          refine r_app G6 Upd.head (szl (by rw [rv_len]; omega)) fun H7 G7 => ?_
          refine ⟨F5, ts ++ [b], r ++ [ns], (s2.trans s3).trans s5, (hR2.mono (s3.trans s5)).snoc (show SqL K F5 b (iv ns) from SqL.of f5), hP.snoc ha (fun x => ?_), ?_⟩
          · rw [hm]
            exact ⟨fun ⟨e, h1, h2⟩ => ⟨e, (hm2 e).mp h1, h2⟩, fun ⟨e, h1, h2⟩ => ⟨e, (hm2 e).mpr h1, h2⟩⟩
          · rw [show rv (ts ++ [b]) = rv ts ++ [V.ref b] from by simp]; exact G7
      walk_at "go"
      refine w_sl3 ?_
      walk_at "go"
      have ej : (0 + (j : Int)) = ((j : Nat) : Int) := by omega
      refine ⟨ea, rv bs, j, kn, c, rfl, by rw [ej], rfl, tS G3.fh (tS s02 hs0'), ⟨by omega, c0, by rw [rv_len, bl]⟩, fun e1 => ?_, fun e1 p hp => ?_⟩
      · walk_at "go"
        refine hsl (L := []) (Same.refl _) (tS s02 hs0') (hR0.mono s02) (by omega) (fun e h => h) (fun e => ?_) G3 (fun b H4 q => q)
        have j0 : j = 0 := by omega
        subst e1 j0
        exact (mem_js (by omega) e).symm
      · have G4 := G3.new (o := .tup ((jsOf j kn c).filterMap ((rv bs)[·]?))) hp
        obtain ⟨F4, s4, f4, G5⟩ := G4.frz Tak.head
        rw [rv_pick] at f4
        walk_at "go"
        refine hsl (L := []) s4 (SqT.of f4) ((hR0.mono (s02.trans s4)).pick _) ?_ (fun e h => ?_) (fun e => Iff.rfl) G5 (fun b H4 q => q)
        · have q1 := List.length_filterMap_le (r0[·]?) (jsOf j kn c)
          have q2 : (jsOf j kn c).length = c := by unfold jsOf; simp
          omega
        · obtain ⟨q, _, hq⟩ := List.mem_filterMap.mp h
          exact List.mem_of_getElem? hq
    · rintro D H'' ⟨F2, ts, r, s2, hR2, hP, G3⟩
      obtain ⟨F3, s3, f3, G4⟩ := G3.frz Tak.head
      walk_at "go"
      refine r_append G4 Upd.head (szl (by rw [rv_len]; have := hR1.len; omega)) fun H5 G5 => ?_
      refine ⟨F3, as' ++ [D], rs' ++ [r], _, _, rfl, (s1.trans s2).trans s3, (hR1.mono (s2.trans s3)).snoc (show SqL K F3 D (rv ts) from SqL.of f3) (hR2.mono s3), by simp [hl1], ?_, ?_⟩
      · intro s a b ha hb
        rcases Nat.lt_or_ge s rs'.length with q | q
        · rw [List.getElem?_append_left q] at hb
          exact hp1 s a b ha hb
        · rw [List.getElem?_append_right q] at hb
          have e0 : s - rs'.length = 0 := by have := (List.getElem?_eq_some_iff.mp hb).1; simp at this; omega
          rw [e0] at hb
          have e1 : r = b := by simpa using hb
          have e2 : s = i := by omega
          subst e1 e2
          rw [hr0] at ha
          cases ha
          exact hP
      · rw [show rv (as' ++ [D]) = rv as' ++ [V.ref D] from by simp]; exact G5
  · rintro σ H' ⟨F1, as', rs', v, w, rfl, s1, hR1, hl1, hp1, G2⟩
    rw [rv_len, al] at hl1
    obtain ⟨F2, s2, f2, G3⟩ := G2.frz Tak.head
    have s12 := s1.trans s2
    have hg : ∀ (s : Nat) r', rs'[s]? = some r' → ∃ r, rs[s]? = some r ∧ PR rs.length c r kn kn r' := fun s r' hs => by
      have q := (List.getElem?_eq_some_iff.mp hs).1
      exact ⟨rs[s], List.getElem?_eq_getElem (by omega), hp1 s _ r' (List.getElem?_eq_getElem (by omega)) hs⟩
    have OK2 : Aok kn is cs rs' := ⟨by omega, by have := OK.ne; omega, by rw [hl1]; exact OK.ai, by rw [hl1]; exact OK.ac, fun r' hr' => by
      obtain ⟨s, hs⟩ := List.getElem?_of_mem hr'
      obtain ⟨r, _, p⟩ := hg s r' hs
      exact ⟨by rw [p.1], by rw [hl1]; exact p.2.1⟩⟩
    walk_at "go"
    refine r_fld (G3.fh _ _ (s12 _ _ h1)) T.cl_Automaton T.na_Automaton_initial la_initial ?_
    walk_at "go"
    refine r_fld (G3.fh _ _ (s12 _ _ h1)) T.cl_Automaton T.na_Automaton_accepting la_accepting ?_
    walk_at "go"
    refine r_mk G3 fun y dy H4 G4 => ?_
    refine ⟨F2, y, dy, ia, ca, R, as', kn, is, cs, rs', rfl, G4.fh, (G4.own _ (by walk_at "m")).2.1, G4.get (by walk_at "m"), .inr (tS s12 h2), .inr (tS s12 h3), .inl (SqL.of (G4.fh _ _ f2)), (hR1.mono (s2.trans G4.fh)).toX, by omega, fun r hr => by
      obtain ⟨s, hs⟩ := List.getElem?_of_mem hr
      obtain ⟨_, _, p⟩ := hg s r hs
      rw [p.1]; omega, fun _ F' H' ia ca ra as'' gb hy h1 h2 h3 h4 => ⟨rfl, ?_⟩, fun np => absurd OK2 np⟩
    have G5 := G4.callB Upd.head gb hy
    obtain ⟨F3, s3, hy3, G6⟩ := G5.frz Tak.head
    refine kg' F3 H' y rs' OK2 ⟨hl1, fun s r r' hs hs' l hl x => ?_⟩ ⟨⟨dy, ia, ca, ra, as'', hy3, tS s3 h1, tS s3 h2, tS s3 h3, h4.mono s3⟩⟩ G6.clr
    exact (hp1 s r r' hs hs').2.2 l hl x
theorem Rows.reps {k : Bool} {bs : List Addr} {r : List (List Int)} (h : Rows K H k bs r) : ∀ n : Nat, Rows K H k (List.replicate n bs).flatten (List.replicate n r).flatten
  | 0 => .nil
  | n + 1 => by
    rw [List.replicate_succ, List.flatten_cons, List.replicate_succ, List.flatten_cons]
    exact h.app (Rows.reps h n)
theorem rv_reps {n : Nat} {bs : List Addr} : (List.replicate n (rv bs)).flatten = rv (List.replicate n bs).flatten := by
  show (List.replicate n (bs.map V.ref)).flatten = ((List.replicate n bs).flatten).map V.ref
  rw [List.map_flatten, List.map_replicate]
theorem Rows2.toXT {F H : Hp} {as : List Addr} {rs : List (List (List Int))} (h : Rows2 K F false as rs) : RowsX K F H as rs := by
  induction h with
  | nil => exact .nil
  | cons h1 h2 _ ih => exact .cons (.inr h1) (.ofT h2) ih
def InvW (K : PySem.W.Frag) (F H : Hp) (rs : List (List (List Int))) (c : Nat) (D : Addr) (i : Nat) (H' : Hp) : Prop := ∃ F' as', Same F F' ∧ Rows2 K F' false as' ((rs.take i).map fun r => (List.replicate c r).flatten) ∧ as'.length = i ∧ SL.St ⟨F, H⟩ F' H' [(D, .lst (rv as'))]
theorem p_widen (T : Cl K A) (h : sp_widen K A vs H Q E) : t_widen K A E (D0 Q) (start ["automaton", "letters", "row", "rows"] vs) H := by
  obtain ⟨F, x, m, k, is, cs, rs, rfl, sF, hA, OK, lr, m20, k40, li, lc, kb, kg⟩ := h
  obtain ⟨dx, ia, ca, ra, as, h1, h2, h3, h4, h5⟩ := hA.ex
  have G := St.init sF
  have al := h5.len
  have m1 := OK.m1
  unfold t_widen
  show tSeq _ _ (D0 Q) [some (.ref x), some (.int k), none, none] H
  unfold D0
  walk_at "go"
  refine r_ifD (fun c1 => ?_) (fun c1 => ?_)
  · walk_at "go"
    exact kb (by omega)
  walk_at "go"
  refine r_fld (G.fh _ _ h1) T.cl_Automaton T.na_Automaton_letters la_letters ?_
  walk_at "go"
  refine r_ifN (fun c2 => ?_) (fun c2 => ?_)
  · walk_at "go"
    exact kb (fun q => c2 q.2)
  have k1 : 1 ≤ k := by omega
  have cond : 1 ≤ k ∧ k % m = 0 := ⟨k1, c2⟩
  obtain ⟨kn, rfl⟩ : ∃ kn : Nat, k = (kn : Int) := ⟨k.toNat, by omega⟩
  obtain ⟨mn, rfl⟩ : ∃ mn : Nat, m = (mn : Int) := ⟨m.toNat, by omega⟩
  have c2' : kn % mn = 0 := by exact_mod_cast c2
  have mc : kn = (kn / mn) * mn := (Nat.div_mul_cancel (Nat.dvd_of_mod_eq_zero c2')).symm
  have c0 : 0 < kn / mn := Nat.div_pos (Nat.le_of_dvd (by omega) (Nat.dvd_of_mod_eq_zero c2')) (by omega)
  have hd : (kn : Int) / (mn : Int) = ((kn / mn : Nat) : Int) := by simp
  have kg' := kg cond
  rw [Int.toNat_natCast, Int.toNat_natCast] at kg'
  unfold WidOf at kg'
  obtain ⟨c, hc⟩ : ∃ c, c = kn / mn := ⟨_, rfl⟩
  rw [← hc] at mc c0 kg' hd
  have cm : c ≤ 40 := by
    have := Nat.div_le_self kn mn
    omega
  walk_at "go"
  refine r_fld (G.fh _ _ h1) T.cl_Automaton T.na_Automaton_rows la_rows ?_
  refine r_it (tS G.fh h4) ?_
  refine r_lcB (k := false) (xs := rv as) G (fun D i H' => InvW K F H rs c D i H') (fun D H' G' => ⟨F, [], Same.refl _, .nil, rfl, G'⟩) (fun D i H' _ h => by obtain ⟨F', as', s', _, _, G'⟩ := h; exact tS (s'.trans G'.fh) h4) ?_ ?_
  · rintro D i y H' hi ⟨F1, as', s1, hR1, hl1, G1⟩
    obtain ⟨ea, he, rfl⟩ := rv_get hi
    obtain ⟨bs, r0, hr0, hs0, hR0⟩ := h5.at he
    obtain ⟨q1, q2⟩ := OK.rr r0 (List.mem_of_getElem? hr0)
    have i1 : i < rs.length := (List.getElem?_eq_some_iff.mp hr0).1
    have hs0' : SqT K F ea (rv bs) := hs0
    have rl : r0.length = mn := by omega
    have bl : bs.length = mn := by rw [hR0.len, rl]
    have fin : ∀ {F3 H3 : Hp} {t : Addr}, Same F1 F3 → SqT K F3 t (rv (List.replicate c bs).flatten) → St ⟨F, H⟩ F3 H3 [(D, .lst (rv as'))] → RApp D (.ref t) H3 (fun H' => InvW K F H rs c D (i + 1) H') := by
      intro F3 H3 t s3 ht G3
      refine r_app G3 Upd.head (szl (by rw [rv_len]; omega)) fun H7 G7 => ?_
      refine ⟨F3, as' ++ [t], s1.trans s3, ?_, by simp [hl1], by rw [show rv (as' ++ [t]) = rv as' ++ [V.ref t] from by simp]; exact G7⟩
      rw [take_snoc hr0, List.map_append, List.map_cons, List.map_nil]
      exact (hR1.mono s3).snoc (show SqB K F3 t _ false from ht) (Rows.reps (hR0.mono (s1.trans s3)) c)
    walk_at "go"
    refine r_fld (G1.fh _ _ (s1 _ _ h1)) T.cl_Automaton T.na_Automaton_letters la_letters ?_
    walk_at "go"
    refine r_div (by omega) (Nat.lt_of_lt_of_le (show _ < 2 ^ 10 by omega) (Nat.pow_le_pow_right (by decide) (by decide))) ?_
    rw [hd]
    rcases Nat.lt_or_ge c 2 with q | q
    · have e1 : c = 1 := by omega
      refine .inl ⟨ea, rv bs, rfl, by rw [e1]; rfl, tS G1.fh (tS s1 hs0'), ?_⟩
      refine fin (Same.refl _) ?_ G1
      rw [e1, show (List.replicate 1 bs).flatten = bs from by simp]
      exact tS s1 hs0'
    · refine .inr (r_repT G1 (tS s1 hs0') (fun e => ?_) (by omega) (by omega) (by rw [rv_len]; omega) fun p H2 G2 => ?_)
      · have := congrArg List.length e
        rw [rv_len, bl] at this
        simp at this
        omega
      · rw [Int.toNat_natCast, rv_reps] at G2
        obtain ⟨F3, s3, f3, G3⟩ := G2.frz Tak.head
        exact fin s3 (SqT.of f3) G3
  · rintro D H' ⟨F1, as', s1, hR1, hl1, G2⟩
    rw [rv_len, al, List.take_length] at hR1
    obtain ⟨F2, s2, f2, G3⟩ := G2.frz Tak.head
    have s12 := s1.trans s2
    have hg : ∀ r' ∈ rs.map (fun r => (List.replicate c r).flatten), ∃ r ∈ rs, r'.length = kn ∧ ∀ y ∈ r', y ∈ r := fun r' hr' => by
      obtain ⟨r, hr, rfl⟩ := List.mem_map.mp hr'
      refine ⟨r, hr, ?_, fun y hy => ?_⟩
      · rw [List.length_flatten, List.map_replicate, List.sum_replicate_nat, show r.length = mn from by have := (OK.rr r hr).1; omega]
        exact mc.symm
      · obtain ⟨l, hl, hy'⟩ := List.mem_flatten.mp hy
        rw [(List.mem_replicate.mp hl).2] at hy'
        exact hy'
    have OK2 : Aok kn is cs (rs.map fun r => (List.replicate c r).flatten) := ⟨by omega, by rw [List.length_map]; exact OK.ne, by rw [List.length_map]; exact OK.ai, by rw [List.length_map]; exact OK.ac, fun r' hr' => by
      obtain ⟨r, hr, p1, p2⟩ := hg r' hr'
      exact ⟨by rw [p1], fun y hy => by rw [List.length_map]; exact (OK.rr r hr).2 y (p2 y hy)⟩⟩
    walk_at "go"
    refine r_fld (G3.fh _ _ (s12 _ _ h1)) T.cl_Automaton T.na_Automaton_initial la_initial ?_
    walk_at "go"
    refine r_fld (G3.fh _ _ (s12 _ _ h1)) T.cl_Automaton T.na_Automaton_accepting la_accepting ?_
    walk_at "go"
    refine r_mk G3 fun y dy H4 G4 => ?_
    refine ⟨F2, y, dy, ia, ca, D, as', kn, is, cs, _, rfl, G4.fh, (G4.own _ (by walk_at "m")).2.1, G4.get (by walk_at "m"), .inr (tS s12 h2), .inr (tS s12 h3), .inl (SqL.of (G4.fh _ _ f2)), (hR1.mono s2).toXT, by rw [List.length_map]; omega, fun r hr => by
      obtain ⟨_, _, p, _⟩ := hg r hr
      rw [p]; omega, fun _ F' H' ia ca ra as'' gb hy h1 h2 h3 h4 => ⟨rfl, ?_⟩, fun np => absurd OK2 np⟩
    have G5 := G4.callB Upd.head gb hy
    obtain ⟨F3, s3, hy3, G6⟩ := G5.frz Tak.head
    exact kg' F3 H' y _ OK2 rfl ⟨⟨dy, ia, ca, ra, as'', hy3, tS s3 h1, tS s3 h2, tS s3 h3, h4.mono s3⟩⟩ G6.clr
theorem p__law_hide_outcome (T : Cl K A) (h : sp__law_hide_outcome K A vs H Q E) : t__law_hide_outcome K A E (D0 Q) (start ["automaton", "letters", "found"] vs) H := by
  obtain ⟨F, x, m, k, is, cs, rs, rfl, sF, hA, OK, lr, m20, k40, li, lc, kb, kg⟩ := h
  unfold t__law_hide_outcome
  show tSeq _ _ (D0 Q) [some (.ref x), some (.int k), none] H
  unfold D0
  refine w_seq ?_
  walk_at "go"
  refine ⟨F, x, m, k, is, cs, rs, rfl, sF, hA, OK, lr, m20, k40, li, lc, fun nc => ?_, fun cond F' H' y rs' ok hid hau w => ?_⟩
  · show wMany _ _ _ _ _ _ _ _
    unfold wMany
    refine ⟨true, T.em_Mismatch_Mismatch, fun _ z _ => ?_, fun z => by cases z⟩
    walk_at "go"
    exact kb nc
  · walk_at "go"
    exact kg cond F' H' y rs' ok hid hau w
theorem p__law_widen_outcome (T : Cl K A) (h : sp__law_widen_outcome K A vs H Q E) : t__law_widen_outcome K A E (D0 Q) (start ["automaton", "letters", "found"] vs) H := by
  obtain ⟨F, x, m, k, is, cs, rs, rfl, sF, hA, OK, lr, m20, k40, li, lc, kb, kg⟩ := h
  unfold t__law_widen_outcome
  show tSeq _ _ (D0 Q) [some (.ref x), some (.int k), none] H
  unfold D0
  refine w_seq ?_
  walk_at "go"
  refine ⟨F, x, m, k, is, cs, rs, rfl, sF, hA, OK, lr, m20, k40, li, lc, fun nc => ?_, fun cond F' H' y rs' ok hid hau w => ?_⟩
  · show wMany _ _ _ _ _ _ _ _
    unfold wMany
    refine ⟨true, T.em_Mismatch_Mismatch, fun _ z _ => ?_, fun z => by cases z⟩
    walk_at "go"
    exact kb nc
  · walk_at "go"
    exact kg cond F' H' y rs' ok hid hau w
def mgP (kn : Nat) (r : List (List Int)) (l j : Nat) : List Int := ((List.range j).filter fun q => decide (q % kn = l)).flatMap fun q => r.getD q []
theorem mgP_succ {kn : Nat} {r : List (List Int)} {l j : Nat} : mgP kn r l (j + 1) = mgP kn r l j ++ if j % kn = l then r.getD j [] else [] := by
  unfold mgP
  rw [List.range_succ, List.filter_append, List.flatMap_append]
  by_cases h : j % kn = l
  · rw [if_pos h]; simp [h]
  · rw [if_neg h]; simp [h]
theorem mgP_all {kn : Nat} {r : List (List Int)} {l : Nat} : mgP kn r l r.length = mgE kn r l := rfl
theorem r_catD {F H : Hp} {L : Led} {En : SL.En} {l b : Addr} {xs zs : List V} {Q : VK} (G : SL.St En F H L) (h1 : H l = some (.lst xs)) (h2 : H b = some (.lst zs)) (hl : xs.length + zs.length ≤ sizeLine) (q : ∀ p H', SL.St En F H' ((p, .lst (xs ++ zs)) :: L) → Q (.ref p) H') : rCatD (.ref l) (.ref b) H Q :=
  ⟨l, b, xs, zs, rfl, rfl, .of h1, .of h2, hl, fun p hp => q p _ (G.new hp)⟩
theorem p__law_merged (T : Cl K A) (h : sp__law_merged K A vs H Q E) : t__law_merged K A E (D0 Q) (start ["rows", "letters", "found", "row", "merged", "letter", "targets", "k"] vs) H := by
  obtain ⟨F, a, as, k, m, rs, rfl, sF, ha, hR, k1, m20, k40, lr, hrs, kk⟩ := h
  obtain ⟨kn, rfl⟩ : ∃ kn : Nat, k = (kn : Int) := ⟨k.toNat, by omega⟩
  rw [Int.toNat_natCast] at kk
  have G := St.init sF
  have al := hR.rows.len
  unfold t__law_merged
  show tSeq _ _ (D0 Q) [some (.ref a), some (.int kn), none, none, none, none, none, none] H
  unfold D0
  walk_at "go"
  refine r_lst G (by walk_at "sz") fun R H1 G1 => ?_
  walk_at "go"
  refine r_il (lS G1.fh ha) ?_
  refine r_forL (xs := rv as) (fun i σ H' => ∃ F' bs v3 v4 v5 v6 v7, σ = [some (.ref a), some (.int kn), some (.ref R), v3, v4, v5, v6, v7] ∧ Same F F' ∧ bs.length = i ∧ Rows2 K F' true bs ((rs.take i).map fun r => (List.range kn).map (mgE kn r)) ∧ St ⟨F, H⟩ F' H' [(R, .lst (rv bs))]) ⟨F, [], none, none, none, none, none, rfl, Same.refl _, rfl, .nil, G1⟩ (fun _ _ _ _ h => by obtain ⟨_, _, _, _, _, _, _, _, s', _, _, G'⟩ := h; exact lS G'.fh (lS s' ha)) ?_ ?_
  · rintro i y σ H' hi ⟨F1, bs, v3, v4, v5, v6, v7, rfl, s1, hbl, hB, G2⟩
    obtain ⟨ea, he, rfl⟩ := rv_get hi
    obtain ⟨b0, r0, hr0, hs0, hl0⟩ := hR.at he
    have i1 : i < rs.length := (List.getElem?_eq_some_iff.mp hr0).1
    obtain ⟨q1, q2⟩ := hrs r0 (List.mem_of_getElem? hr0)
    have bl := hl0.len
    walk_at "go"
    refine r_lst G2 (by walk_at "sz") fun M H3 G3 => ?_
    walk_at "go"
    refine r_i1 (by omega) ?_
    refine r_forR (fun l σ H' => ∃ F' ts v5 v6 v7, σ = [some (.ref a), some (.int kn), some (.ref R), some (.ref ea), some (.ref M), v5, v6, v7] ∧ Same F1 F' ∧ ts.length = l ∧ Rows K F' true ts ((List.range l).map (mgE kn r0)) ∧ St ⟨F, H⟩ F' H' [(M, .lst (rv ts)), (R, .lst (rv bs))]) ⟨F1, [], _, _, _, rfl, Same.refl _, rfl, .nil, G3⟩ ?_ ?_
    · rintro l σ H4 hl ⟨F2, ts, v5, v6, v7, rfl, s2, htl, hT, G4⟩
      have s02 := s1.trans s2
      have ln : l < kn := by omega
      walk_at "go"
      refine r_lst G4 (by walk_at "sz") fun tg H5 G5 => ?_
      walk_at "go"
      refine r_len (.inl (lS G5.fh (lS s02 hs0))) ?_
      rw [rv_len, bl]
      walk_at "go"
      refine r_i1 (by omega) ?_
      refine r_forR (fun j σ H' => ∃ tg v7, σ = [some (.ref a), some (.int kn), some (.ref R), some (.ref ea), some (.ref M), some (.int (0 + (l : Int))), some (.ref tg), v7] ∧ (mgP kn r0 l j).length ≤ 20 * j ∧ St ⟨F, H⟩ F2 H' [(tg, .lst (iv (mgP kn r0 l j))), (M, .lst (rv ts)), (R, .lst (rv bs))]) ⟨tg, _, rfl, Nat.le_refl _, G5⟩ ?_ ?_
      · rintro j σ H6 hj ⟨tg, v7, rfl, hml, G6⟩
        have jr : j < r0.length := by omega
        rw [mgP_succ]
        walk_at "go"
        refine r_ifD (fun c => ?_) (fun c => ?_)
        · have c' : j % kn = l := by rw [Int.zero_add, Int.zero_add] at c; exact_mod_cast c
          obtain ⟨e, hee⟩ : ∃ e, b0[j]? = some e := ⟨_, List.getElem?_eq_getElem (by omega)⟩
          obtain ⟨ns, hn1, hn2⟩ := hl0.at hee
          have eg : r0.getD j [] = ns := by rw [List.getD_eq_getElem?_getD, hn1]; rfl
          have nl := q2 ns (List.mem_of_getElem? hn1)
          rw [if_pos c', eg]
          walk_at "go"
          refine r_ixL (lS G6.fh (lS s02 hs0)) (atI_rv (by omega) (by rw [show (0 + (j : Int)).toNat = j from by omega]; exact hee)) ?_
          refine r_catD G6 (G6.get (.head _)) (G6.fh _ _ (s02 _ _ hn2)) (sz (by rw [iv_len, iv_len]; omega)) fun p H7 G7 => ?_
          rw [← List.map_append] at G7
          refine ⟨p, _, rfl, by rw [List.length_append]; omega, G7.drop (.tail .head)⟩
        · have c' : ¬ j % kn = l := fun q => c (by rw [Int.zero_add, Int.zero_add]; exact_mod_cast q)
          rw [if_neg c', List.append_nil]
          exact ⟨tg, _, rfl, by omega, G6⟩
      · rintro σ H6 ⟨tg, v7, rfl, hml, G6⟩
        rw [show ((r0.length : Int)).toNat = r0.length from by omega, mgP_all] at G6
        obtain ⟨F3, s3, f3, G7⟩ := G6.frz Tak.head
        walk_at "go"
        refine r_append G7 Upd.head (szl (by rw [rv_len]; omega)) fun H8 G8 => ?_
        refine ⟨F3, ts ++ [tg], _, _, _, rfl, s2.trans s3, by simp [htl], ?_, ?_⟩
        · rw [List.range_succ, List.map_append, List.map_cons, List.map_nil]
          exact (hT.mono s3).snoc (show SqL K F3 tg _ from SqL.of f3)
        · rw [show rv (ts ++ [tg]) = rv ts ++ [V.ref tg] from by simp]; exact G8
    · rintro σ H4 ⟨F2, ts, v5, v6, v7, rfl, s2, htl, hT, G4⟩
      rw [show ((kn : Int)).toNat = kn from by omega] at hT htl
      obtain ⟨F3, s3, f3, G5⟩ := G4.frz Tak.head
      walk_at "go"
      refine r_append G5 Upd.head (szl (by rw [rv_len]; omega)) fun H6 G6 => ?_
      refine ⟨F3, bs ++ [M], _, _, _, _, _, rfl, (s1.trans s2).trans s3, by simp [hbl], ?_, ?_⟩
      · rw [take_snoc hr0, List.map_append, List.map_cons, List.map_nil]
        exact (hB.mono (s2.trans s3)).snoc (show SqL K F3 M _ from SqL.of f3) (hT.mono s3)
      · rw [show rv (bs ++ [M]) = rv bs ++ [V.ref M] from by simp]; exact G6
  · rintro σ H2 ⟨F1, bs, v3, v4, v5, v6, v7, rfl, s1, hbl, hB, G2⟩
    rw [rv_len, al, List.take_length] at hB
    obtain ⟨F2, s2, f2, G3⟩ := G2.frz Tak.head
    walk_at "go"
    exact kk F2 H2 R bs (SqL.of f2) (hB.mono s2) G3
theorem p__law_ascending (T : Cl K A) (h : sp__law_ascending K A vs H Q E) : t__law_ascending K A E (D0 Q) (start ["draws", "limit", "share", "k"] vs) H := by
  obtain ⟨F, p, ds, l, s, rfl, sF, fp, hp, hd, l0, l1, k⟩ := h
  have G := St.init1 sF hp fp
  unfold t__law_ascending
  show tRet _ (D0 Q) [some (.ref p), some (.int l), some (.int s), none] H
  unfold D0
  walk_at "go"
  walk_at "go"
  refine r_i1 (by omega) ?_
  refine r_lcRT G (fun D i H' => ∃ ds' ns, Dok ds' ∧ asc (i : Int) (-1) ns = true ∧ ns.length ≤ i ∧ St ⟨F, del H p⟩ F H' [(D, .lst (iv ns)), (p, .lst (iv ds'))]) (fun D H' G' => ⟨ds, [], hd, rfl, Nat.le_refl _, G'⟩) ?_ ?_
  · rintro D i H' hi ⟨ds', ns, hd', ha, hl, G1⟩
    have e1 : ((i + 1 : Nat) : Int) = (i : Int) + 1 := by omega
    walk_at "go"
    refine u_take G1 (fun _ => .tail .head) hd' (by decide) fun z d2 H2 z0 z1 hd2 G2 => ?_
    walk_at "go"
    refine r_ifD (fun h => ?_) (fun h => ?_)
    · walk_at "go"
      refine r_app G2 Upd.head (szl (by rw [iv_len]; omega)) fun H3 G3 => ?_
      rw [iv_snoc, Int.zero_add] at G3
      exact ⟨d2, ns ++ [(i : Int)], hd2, by rw [e1]; exact asc_snoc ha (by omega), by simp; omega, G3⟩
    · exact ⟨d2, ns, hd2, asc_mono ha (by omega), by omega, G2⟩
  · rintro D H' ⟨ds', ns, hd', ha, hl, G1⟩
    have e1 : ((l.toNat : Nat) : Int) = l := by omega
    rw [e1] at ha
    exact k H' ds' D ns hd' ha (G1.front (by walk_at "tk"))
theorem automaton_tail (T : Cl K A) {F F5 H5 : Hp} {p a b : Addr} {ds : List Int} {m mo n sh : Int} {is cs : List Int} (G : St ⟨F, del H p⟩ F5 H5 [(p, .lst (iv ds))]) (hd : Dok ds) (fa : F5 a = some (.lst (iv is))) (fb : F5 b = some (.lst (iv cs)))
    (n1 : 1 ≤ n) (n2 : n ≤ mo) (o10 : mo ≤ 10) (m1 : 1 ≤ m) (m10 : m ≤ 10) (hai : asc n (-1) is = true) (hac : asc n (-1) cs = true)
    (k : ∀ F' H' ds' t a b c as is cs rs, Dok ds' → Aok m is cs rs → (rs.length : Int) ≤ mo → SqT K F' t [.ref a, .ref b, .ref c] → SqL K F' a (iv is) → SqL K F' b (iv cs) → SqL K F' c (rv as) → Raw2 K F' as rs → St ⟨F, del H p⟩ F' H' [(p, .lst (iv ds'))] → Q (.ref t) H') :
    t__law_automaton_5 K A E (D0 Q) [some (.ref p), some (.int m), some (.int mo), some (.int n), some (.int sh), some (.ref a), some (.ref b), none, none, none] H5 := by
  unfold t__law_automaton_5 D0
  walk_at "go"
  refine r_lst G (by walk_at "sz") fun c H6 G6 => ?_
  walk_at "go"
  refine r_i1 (by omega) ?_
  refine r_forR (fun i σ H' => ∃ F' ds' as rs v w, σ = [some (.ref p), some (.int m), some (.int mo), some (.int n), some (.int sh), some (.ref a), some (.ref b), some (.ref c), v, w] ∧ Same F5 F' ∧ Dok ds' ∧ as.length = i ∧ rs.length = i ∧ Raw2 K F' as rs ∧ (∀ r ∈ rs, (r.length : Int) = m ∧ ∀ x ∈ r, asc n (-1) x = true) ∧
      St ⟨F, del H p⟩ F' H' [(p, .lst (iv ds')), (c, .lst (rv as))]) ⟨F5, ds, [], [], none, none, rfl, Same.refl _, hd, rfl, rfl, .nil, (fun _ h => nomatch h), G6.front (a := p) (by walk_at "tk")⟩ ?_ ?_
  · rintro i σ H' hi ⟨F', ds', as, rs, v, w, rfl, sF, hd', hal, hrl, hL, hrs, G7⟩
    walk_at "go"
    refine r_i1 (by omega) ?_
    refine r_lcR G7 (fun D j H'' => ∃ F'' ds'' ts r, Same F' F'' ∧ Dok ds'' ∧ ts.length = j ∧ RawL F'' ts r ∧ (∀ x ∈ r, asc n (-1) x = true) ∧ St ⟨F, del H p⟩ F'' H'' [(D, .lst (rv ts)), (p, .lst (iv ds'')), (c, .lst (rv as))]) (fun D H' G' => ⟨F', ds', [], [], Same.refl _, hd', rfl, .nil, (fun _ h => nomatch h), G'⟩) ?_ ?_
    · rintro D j H'' hj ⟨F'', ds'', ts, r, s2, hd2, htl, hR, hra, G8⟩
      walk_at "go"
      refine ⟨F'', p, ds'', n, sh, rfl, G8.fh, (G8.own (p, .lst (iv ds'')) (by walk_at "m")).2.1, G8.get (by walk_at "m"), hd2, by omega, by omega, fun H3 d3 e ns hd3 hns w3 => ?_⟩
      have G9 := G8.joinB (.tail .head) w3
      obtain ⟨F3, s3, fe, G10⟩ := G9.frz Tak.head
      refine r_app G10 Upd.head (szl (by rw [rv_len]; omega)) fun H4 G11 => ?_
      refine ⟨F3, d3, ts ++ [e], r ++ [ns], s2.trans s3, hd3, by simp [htl], (hR.mono s3).snoc fe, fun x hx => ?_, ?_⟩
      · rcases List.mem_append.mp hx with q | q
        · exact hra x q
        · rw [List.mem_singleton.mp q]; exact hns
      · rw [show rv (ts ++ [e]) = rv ts ++ [V.ref e] from by simp]; exact G11
    rintro D H'' ⟨F'', ds'', ts, r, s2, hd2, htl, hR, hra, G8⟩
    obtain ⟨F3, s3, fD, G9⟩ := G8.frz Tak.head
    walk_at "go"
    refine r_append G9 (.tail .head) (szl (by rw [rv_len]; omega)) fun H9 G10 => ?_
    refine ⟨F3, ds'', as ++ [D], rs ++ [r], _, _, rfl, (sF.trans s2).trans s3, hd2, by simp [hal], by simp [hrl], (hL.mono (s2.trans s3)).snoc (SqL.of fD) (hR.mono s3), fun x hx => ?_, ?_⟩
    · rcases List.mem_append.mp hx with q | q
      · exact hrs x q
      · rw [List.mem_singleton.mp q]
        have := hR.len
        exact ⟨by omega, hra⟩
    · rw [show rv (as ++ [D]) = rv as ++ [V.ref D] from by simp]
      exact G10
  rintro σ H' ⟨F', ds', as, rs, v, w, rfl, sF, hd', hal, hrl, hL, hrs, G7⟩
  obtain ⟨F1, s1, fc, G8⟩ := G7.frz (.tail .head)
  walk_at "go"
  refine r_tup G8 (by walk_at "sz") fun t H8 G9 => ?_
  obtain ⟨F2, s2, ft, G10⟩ := G9.frz Tak.head
  have e2 : (rs.length : Int) = n := by omega
  have sA := sF.trans (s1.trans s2)
  refine k F2 H8 ds' t a b c as is cs rs hd' ⟨m1, by omega, by rw [e2]; exact hai, by rw [e2]; exact hac, fun r hr => ?_⟩ (by omega) (SqT.of ft) (SqL.of (sA _ _ fa)) (SqL.of (sA _ _ fb)) (SqL.of (s2 _ _ fc)) (hL.mono (s1.trans s2)) G10
  rw [e2]
  exact hrs r hr
theorem p__law_automaton (T : Cl K A) (h : sp__law_automaton K A vs H Q E) : t__law_automaton K A E (D0 Q) (start ["draws", "letters", "most", "count", "share", "initial", "accepting", "rows", "state", "letter"] vs) H := by
  obtain ⟨F, p, ds, m, mo, rfl, sF, fp, hp, hd, m1, m10, o1, o10, k⟩ := h
  have G := St.init1 sF hp fp
  unfold t__law_automaton
  show tSeq _ _ (D0 Q) [some (.ref p), some (.int m), some (.int mo), none, none, none, none, none, none, none] H
  unfold D0
  walk_at "go"
  refine u_take G (fun _ => Upd.head) hd (by omega) fun i1 d1 H1 i10 i11 hd1 G1 => ?_
  walk_at "go"
  refine u_take G1 (fun _ => Upd.head) hd1 (by decide) fun i2 d2 H2 i20 i21 hd2 G2 => ?_
  walk_at "go"
  refine ⟨F, p, d2, 1 + i1, 5, rfl, G2.fh, (G2.own _ (by walk_at "m")).2.1, G2.get (by walk_at "m"), hd2, by omega, by omega, fun H3 d3 a is hd3 hai w3 => ?_⟩
  obtain ⟨F3, s3, fa, G3⟩ := (G2.joinB Upd.head w3).frz Tak.head
  walk_at "go"
  refine ⟨F3, p, d3, 1 + i1, 5, rfl, G3.fh, (G3.own _ (by walk_at "m")).2.1, G3.get (by walk_at "m"), hd3, by omega, by omega, fun H4 d4 b cs hd4 hac w4 => ?_⟩
  obtain ⟨F4, s4, fb, G4⟩ := (G3.joinB Upd.head w4).frz Tak.head
  walk_at "go"
  refine r_len (.inl (SqL.of (G4.fh _ _ (s4 _ _ fa)))) ?_
  rw [iv_len]
  walk_at "go"
  refine r_ifD (fun h => ?_) (fun h => ?_)
  · walk_at "go"
    refine u_take G4 (fun _ => Upd.head) hd4 (by decide) fun i5 d5 H5 i50 i51 hd5 G5 => ?_
    walk_at "go"
    refine r_ifD (fun h2 => ?_) (fun h2 => ?_)
    · walk_at "go"
      refine r_lst G5 (by walk_at "sz") fun a2 H6 G6 => ?_
      obtain ⟨F6, s6, fa2, G7⟩ := G6.frz Tak.head
      exact automaton_tail T G7 hd5 (is := [0]) fa2 (s6 _ _ fb) (by omega) (by omega) o10 m1 m10 (show asc (1 + i1) (-1) [0] = true from asc_iff.mpr ⟨fun x hx => by rw [List.mem_singleton.mp hx]; omega, List.pairwise_singleton _ _⟩) hac k
    · walk_at "go"
      exact automaton_tail T G5 hd5 (s4 _ _ fa) fb (by omega) (by omega) o10 m1 m10 hai hac k
  · walk_at "go"
    exact automaton_tail T G4 hd4 (s4 _ _ fa) fb (by omega) (by omega) o10 m1 m10 hai hac k
theorem p__law_copy (T : Cl K A) (h : sp__law_copy K A vs H Q E) : t__law_copy K A E (D0 Q) (start ["rows", "row", "entry"] vs) H := by
  obtain ⟨F, a, as, rs, rfl, sF, ha, hr, lr, ll, k⟩ := h
  have G := St.init sF
  have al := hr.len
  unfold t__law_copy
  show tRet _ (D0 Q) [some (.ref a), none, none] H
  unfold D0
  walk_at "go"
  walk_at "go"
  refine r_il ha ?_
  refine r_lcB (k := true) (xs := rv as) G (fun D i H' => ∃ F' bs bss, bs.length = i ∧ bs.length = bss.length ∧ Leaf K F' bss (rs.take i) ∧ St ⟨F, H⟩ F' H' ((D, .lst (rv bs)) :: rowV bs (bss.map rv))) (fun D H' G' => ⟨F, [], [], rfl, rfl, .nil, G'⟩) (fun D i H' _ h => by obtain ⟨F', bs, bss, _, _, _, G'⟩ := h; exact lS G'.bh ha) ?_ ?_
  · rintro D i y H' hi ⟨F', bs, bss, hbl, hbb, hL, G1⟩
    obtain ⟨ra, hi1, rfl⟩ := rv_get hi
    obtain ⟨es, r0, hr1, hs, hR⟩ := hr.at hi1
    have hi2 : i < rs.length := (List.getElem?_eq_some_iff.mp hr1).1
    have hl0 := ll r0 (List.mem_of_getElem? hr1)
    have hs' : SqL K H ra (rv es) := hs
    walk_at "go"
    refine r_il (lS G1.bh hs') ?_
    refine r_lcB (k := true) (xs := rv es) G1 (fun D2 j H2 => ∃ F2 ts, Same F' F2 ∧ St ⟨F, H⟩ F2 H2 ((D2, .lst (rv ts)) :: (D, .lst (rv bs)) :: rowV bs (bss.map rv)) ∧ Rows K F2 true ts (r0.take j) ∧ ts.length = j) (fun D2 H2 G' => ⟨F', [], Same.refl _, G', .nil, rfl⟩)
      (fun D2 j H2 _ h => by obtain ⟨F2, ts, _, G', _, _⟩ := h; exact lS G'.bh hs') ?_ ?_
    · rintro D2 j y H2 hj ⟨F2, ts, s2, G8, hR2, hlt⟩
      obtain ⟨e1, he1, rfl⟩ := rv_get hj
      obtain ⟨ns, hn1, hsx⟩ := hR.at he1
      have hj2 : j < r0.length := (List.getElem?_eq_some_iff.mp hn1).1
      walk_at "go"
      refine r_listof G8 (.inl (lS G8.bh hsx)) fun t H9 G9 => ?_
      obtain ⟨F10, s10, ft, G10⟩ := G9.frz Tak.head
      refine r_app G10 Upd.head (szl (by rw [rv_len]; omega)) fun H11 G11 => ?_
      refine ⟨F10, ts ++ [t], s2.trans s10, ?_, ?_, by simp; omega⟩
      · rw [show rv (ts ++ [t]) = rv ts ++ [V.ref t] from by simp]; exact G11
      · rw [take_snoc hn1]; exact (hR2.mono s10).snoc (show SqL K F10 t (iv ns) from SqL.of ft)
    rintro D2 H2 ⟨F2, ts, s2, G8, hR2, hlt⟩
    rw [rv_len, hR.len, List.take_length] at hR2
    refine r_app G8 (.tail .head) (szl (by rw [rv_len]; omega)) fun H3 G3 => ?_
    refine ⟨F2, bs ++ [D2], bss ++ [ts], by simp [hbl], by simp [hbb], ?_, ?_⟩
    · rw [take_snoc hr1]; exact (hL.mono s2).snoc hR2
    · rw [List.map_append, show [ts].map rv = [rv ts] from rfl, rowV_snoc (by rw [List.length_map]; exact hbb), show rv (bs ++ [D2]) = rv bs ++ [V.ref D2] from by simp]
      exact G3.toEnd
  rintro D H' ⟨F', bs, bss, hbl, hbb, hL, G1⟩
  rw [rv_len, al, List.take_length] at hL
  exact k F' H' D bs bss hbb hL G1
theorem p__law_states (T : Cl K A) (h : sp__law_states K A vs H Q E) : t__law_states K A E (D0 Q) (start ["actual", "count", "k"] vs) H := by
  obtain ⟨a, ns, c, rfl, ha, hl, hasc, q⟩ := h
  obtain ⟨h1, h2⟩ := asc_iff.mp hasc
  unfold t__law_states
  show tSeq _ _ (D0 Q) [some (.ref a), some (.int c), none] H
  unfold D0
  walk_at "go"
  refine ⟨a, ns, 0, c, rfl, ha, fun _ => ?_, fun w => absurd (fun z hz => by have := h1 z hz; omega) w⟩
  walk_at "go"
  rw [iv_len]
  refine r_i2 (by omega) ?_
  refine r_forR (fun i σ H' => H' = H ∧ ∃ v, σ = [some (.ref a), some (.int c), v]) ⟨rfl, _, rfl⟩ ?_ ?_
  · rintro i σ H' hi ⟨rfl, v, rfl⟩
    walk_at "go"
    refine r_ixT ha (atI_iv (by omega) (by omega)) ?_
    walk_at "go"
    refine r_ixT ha (atI_iv (by omega) (by omega)) ?_
    walk_at "go"
    have e1 : (1 + (i : Int) - 1).toNat = i := by omega
    have e2 : (1 + (i : Int)).toNat = i + 1 := by omega
    have := asc_get h2 (i := i) (j := i + 1) (by omega) (by omega)
    rw [e1, e2]
    refine r_ifDF (by omega) ?_
    walk_at "go"
    exact ⟨rfl, _, rfl⟩
  · rintro σ H' ⟨rfl, v, rfl⟩
    walk_at "go"
    exact q
theorem p__law_is_automaton (T : Cl K A) (h : sp__law_is_automaton K A vs H Q E) : t__law_is_automaton K A E (D0 Q) (start ["actual", "letters", "count", "row", "entry"] vs) H := by
  obtain ⟨x, m, is, cs, rs, rfl, hP, OK, lr, ll, li, lc, q⟩ := h
  obtain ⟨dx, ia, ca, ra, as, h1, h2, h3, h4, h5⟩ := hP.ex
  have al := h5.len
  obtain ⟨o1, o2, o3, o4, o5⟩ := OK
  unfold t__law_is_automaton
  show tSeq _ _ (D0 Q) [some (.ref x), some (.int m), none, none, none] H
  unfold D0
  walk_at "go"
  refine r_fld h1 T.cl_Automaton T.na_Automaton_letters la_letters ?_
  walk_at "go"
  refine r_fld h1 T.cl_Automaton T.na_Automaton_letters la_letters ?_
  walk_at "go"
  refine r_fld h1 T.cl_Automaton T.na_Automaton_rows la_rows ?_
  walk_at "go"
  refine r_isiT h4 ?_
  walk_at "go"
  refine r_fld h1 T.cl_Automaton T.na_Automaton_rows la_rows ?_
  walk_at "go"
  rw [rv_len, al]
  walk_at "go"
  refine r_fld h1 T.cl_Automaton T.na_Automaton_rows la_rows ?_
  walk_at "go"
  rw [rv_len, al]
  refine r_fld h1 T.cl_Automaton T.na_Automaton_initial la_initial ?_
  walk_at "go"
  refine ⟨ia, is, rs.length, rfl, h2, li, o3, ?_⟩
  walk_at "go"
  refine r_fld h1 T.cl_Automaton T.na_Automaton_accepting la_accepting ?_
  walk_at "go"
  refine ⟨ca, cs, rs.length, rfl, h3, lc, o4, ?_⟩
  walk_at "go"
  refine r_fld h1 T.cl_Automaton T.na_Automaton_rows la_rows ?_
  refine r_it h4 ?_
  refine r_forT (xs := rv as) (fun i σ H' => H' = H ∧ (∃ v w, σ = [some (.ref x), some (.int m), some (.int rs.length), v, w])) ⟨rfl, ⟨_, _, rfl⟩⟩ (fun _ _ _ _ h => h.1 ▸ h4) ?_ ?_
  · rintro i y σ H' hi ⟨rfl, ⟨v, w, rfl⟩⟩
    obtain ⟨e, he, rfl⟩ := rv_get hi
    obtain ⟨bs, r0, hn1, hn2, hn3⟩ := h5.at he
    obtain ⟨q1, q2⟩ := o5 r0 (List.mem_of_getElem? hn1)
    have hl0 := ll r0 (List.mem_of_getElem? hn1)
    have hn4 : SqT K H' e (rv bs) := hn2
    have bl := hn3.len
    walk_at "go"
    refine r_isiT hn4 ?_
    walk_at "go"
    rw [rv_len, bl]
    walk_at "go"
    refine r_it hn4 ?_
    refine r_forT (xs := rv bs) (fun j σ H'' => H'' = H' ∧ (∃ w, σ = [some (.ref x), some (.int m), some (.int rs.length), some (.ref e), w])) ⟨rfl, ⟨_, rfl⟩⟩ (fun _ _ _ _ h => h.1 ▸ hn4) ?_ ?_
    · rintro j y σ H'' hj ⟨rfl, ⟨w, rfl⟩⟩
      obtain ⟨f, hf, rfl⟩ := rv_get hj
      obtain ⟨ns, hf1, hf2⟩ := hn3.at hf
      have hA := q2 ns (List.mem_of_getElem? hf1)
      have hf3 : SqT K H'' f (iv ns) := hf2
      walk_at "go"
      refine ⟨f, ns, rs.length, rfl, hf3, by have := asc_len hA (by omega); omega, hA, ?_⟩
      walk_at "go"
      exact ⟨rfl, ⟨_, rfl⟩⟩
    · rintro σ H'' ⟨rfl, ⟨w, rfl⟩⟩
      exact ⟨rfl, ⟨_, _, rfl⟩⟩
  rintro σ H' ⟨rfl, ⟨v, w, rfl⟩⟩
  walk_at "go"
  exact q
theorem p__law_lasso (T : Cl K A) (h : sp__law_lasso K A vs H Q E) : t__law_lasso K A E (D0 Q) (start ["draws", "letters", "longest", "k", "head", "loop"] vs) H := by
  obtain ⟨F, p, ds, m, mo, rfl, sF, fp, hp, hd, m1, o1, o10, k⟩ := h
  have G := St.init1 sF hp fp
  unfold t__law_lasso
  show tSeq _ _ (D0 Q) [some (.ref p), some (.int m), some (.int mo), none, none, none] H
  unfold D0
  walk_at "go"
  refine u_take G (fun _ => Upd.head) hd (by omega) fun i1 d1 H1 i10 i11 hd1 G1 => ?_
  walk_at "go"
  refine r_i1 (by omega) ?_
  refine r_lcR G1 (fun D i H' => ∃ ds' ns, Dok ds' ∧ ns.length = i ∧ (∀ z ∈ ns, (0 : Int) ≤ z ∧ z < m) ∧ St ⟨F, del H p⟩ F H' [(D, .lst (iv ns)), (p, .lst (iv ds'))]) (fun D H' G' => ⟨d1, [], hd1, rfl, (fun _ h => nomatch h), G'⟩) ?_ ?_
  · rintro D i H' hi ⟨ds', ns, hd', hnl, hns, G2⟩
    walk_at "go"
    refine u_take G2 (fun _ => .tail .head) hd' (by omega) fun z d2 H2 z0 z1 hd2 G3 => ?_
    refine r_app G3 Upd.head (szl (by rw [iv_len]; omega)) fun H5 G5 => ?_
    rw [iv_snoc] at G5
    refine ⟨d2, ns ++ [z], hd2, by simp [hnl], fun q hq => ?_, G5⟩
    rcases List.mem_append.mp hq with y | y
    · exact hns q y
    · rw [List.mem_singleton.mp y]; exact ⟨z0, z1⟩
  rintro D H2 ⟨d2, hs, hd2, hhl, hhs, G2⟩
  walk_at "go"
  refine u_take G2 (fun _ => .tail .head) hd2 (by omega) fun i2 d3 H3 i20 i21 hd3 G3 => ?_
  walk_at "go"
  refine r_i1 (by omega) ?_
  refine r_lcR G3 (fun D2 i H' => ∃ ds' ns, Dok ds' ∧ ns.length = i ∧ (∀ z ∈ ns, (0 : Int) ≤ z ∧ z < m) ∧ St ⟨F, del H p⟩ F H' [(D2, .lst (iv ns)), (D, .lst (iv hs)), (p, .lst (iv ds'))]) (fun D2 H' G' => ⟨d3, [], hd3, rfl, (fun _ h => nomatch h), G'⟩) ?_ ?_
  · rintro D2 i H' hi ⟨ds', ns, hd', hnl, hns, G2⟩
    walk_at "go"
    refine u_take G2 (fun _ => .tail (.tail .head)) hd' (by omega) fun z d2 H2 z0 z1 hd2 G3 => ?_
    refine r_app G3 Upd.head (szl (by rw [iv_len]; omega)) fun H5 G5 => ?_
    rw [iv_snoc] at G5
    refine ⟨d2, ns ++ [z], hd2, by simp [hnl], fun q hq => ?_, G5⟩
    rcases List.mem_append.mp hq with y | y
    · exact hns q y
    · rw [List.mem_singleton.mp y]; exact ⟨z0, z1⟩
  rintro D2 H4 ⟨d4, ls, hd4, hll, hls, G4⟩
  walk_at "go"
  refine r_tupofL G4 (by walk_at "l") fun t1 H5 G5 => ?_
  walk_at "go"
  refine r_tupofL G5 (by walk_at "l") fun t2 H6 G6 => ?_
  walk_at "go"
  refine r_tup G6 (by walk_at "sz") fun w H7 G7 => ?_
  obtain ⟨F1, s1, f1, G8⟩ := G7.frz Tak.head
  obtain ⟨F2, s2, f2, G9⟩ := G8.frz Tak.head
  obtain ⟨F3, s3, f3, G10⟩ := G9.frz Tak.head
  exact k F3 H7 d4 w hs ls hd4 ⟨⟨t1, t2, SqT.of (s3 _ _ (s2 _ _ f1)), SqT.of f3, SqT.of (s3 _ _ f2)⟩⟩ hhs hls (by omega) (by omega) (by omega) ((G10.drop Tak.head).drop Tak.head)
theorem mem_mgE {k c l : Nat} {r : List (List Int)} (hl : l < k) (hr : r.length = c * k) (x : Int) : x ∈ mgE k r l ↔ ∃ e ∈ (jsOf l k c).filterMap (r[·]?), x ∈ e := by
  unfold mgE
  rw [List.mem_flatMap]
  constructor
  · rintro ⟨j, hj, hx⟩
    obtain ⟨h1, h2⟩ := List.mem_filter.mp hj
    rw [List.mem_range] at h1
    have h2' : j % k = l := by simpa using h2
    refine ⟨r.getD j [], List.mem_filterMap.mpr ⟨j, ?_, ?_⟩, hx⟩
    · unfold jsOf
      refine List.mem_map.mpr ⟨j / k, List.mem_range.mpr ?_, ?_⟩
      · exact Nat.div_lt_of_lt_mul (by rw [Nat.mul_comm]; omega)
      · have := Nat.div_add_mod j k
        rw [Nat.mul_comm] at this
        omega
    · rw [List.getD_eq_getElem?_getD, List.getElem?_eq_getElem h1]; rfl
  · rintro ⟨e, he, hx⟩
    obtain ⟨j, hj, hje⟩ := List.mem_filterMap.mp he
    unfold jsOf at hj
    obtain ⟨i, hi, rfl⟩ := List.mem_map.mp hj
    have hjl := (List.getElem?_eq_some_iff.mp hje).1
    refine ⟨l + i * k, List.mem_filter.mpr ⟨List.mem_range.mpr hjl, ?_⟩, ?_⟩
    · rw [Nat.add_mul_mod_self_right, Nat.mod_eq_of_lt hl]; simp
    · rw [List.getD_eq_getElem?_getD, hje]; exact hx
theorem movesOf_len {rs : List (List (List Int))} {hs ls : List Int} : (movesOf rs hs ls).length = rs.length * (hs.length + ls.length) := by
  unfold movesOf
  rw [List.length_map, List.length_range]
theorem movesOf_get {rs : List (List (List Int))} {hs ls : List Int} {q : Nat} (h : q < rs.length * (hs.length + ls.length)) : (movesOf rs hs ls).getD q [] = mvs rs (hs.length + ls.length) hs.length (hs ++ ls) q := by
  unfold movesOf
  rw [List.getD_eq_getElem?_getD, List.getElem?_map, List.getElem?_range h]; rfl
theorem ws_mem {hs ls : List Int} {k : Int} {p : Nat} (hh : ∀ z ∈ hs, 0 ≤ z ∧ z < k) (hl : ∀ z ∈ ls, 0 ≤ z ∧ z < k) (hp : p < hs.length + ls.length) : 0 ≤ (hs ++ ls).getD p 0 ∧ (hs ++ ls).getD p 0 < k := by
  have : (hs ++ ls).getD p 0 ∈ hs ++ ls := by
    rw [List.getD_eq_getElem?_getD, List.getElem?_eq_getElem (by rw [List.length_append]; omega)]
    exact List.getElem_mem _
  rcases List.mem_append.mp this with q | q
  · exact hh _ q
  · exact hl _ q
theorem acc_hide {mn kn : Nat} {rs rs' : List (List (List Int))} {is cs hs ls : List Int} (hm : ∀ r ∈ rs, r.length = mn) (hk : 1 ≤ kn) (hd : mn % kn = 0) (hid : HidOf mn kn rs rs') (hh : ∀ z ∈ hs, 0 ≤ z ∧ z < (kn : Int)) (hl : ∀ z ∈ ls, 0 ≤ z ∧ z < (kn : Int)) (ln : 0 < ls.length) :
    ACC rs' is cs hs ls = ACC (mgR kn rs) is cs hs ls := by
  obtain ⟨h1, h2⟩ := hid
  have lm : (mgR kn rs).length = rs.length := by unfold mgR; rw [List.length_map]
  unfold ACC
  rw [lm, h1]
  refine LV_congr (by rw [movesOf_len, movesOf_len, lm, h1]) (fun q t => ?_) _ _
  rcases Nat.lt_or_ge q (rs.length * (hs.length + ls.length)) with hq | hq
  · rw [movesOf_get (by rw [h1]; exact hq), movesOf_get (by rw [lm]; exact hq)]
    have hs0 : 0 < hs.length + ls.length := by omega
    have hsd : q / (hs.length + ls.length) < rs.length := Nat.div_lt_of_lt_mul (by rw [Nat.mul_comm]; exact hq)
    have hw := ws_mem hh hl (Nat.mod_lt q hs0)
    unfold mvs
    generalize (hs ++ ls).getD (q % (hs.length + ls.length)) 0 = w at *
    generalize q / (hs.length + ls.length) = s at *
    generalize q % (hs.length + ls.length) = p at *
    obtain ⟨wn, rfl⟩ : ∃ wn : Nat, w = (wn : Int) := ⟨w.toNat, by omega⟩
    rw [Int.toNat_natCast]
    have hwn : wn < kn := by omega
    have e1 : rs'[s]? = some rs'[s] := List.getElem?_eq_getElem (by omega)
    have e2 : rs[s]? = some rs[s] := List.getElem?_eq_getElem hsd
    have e3 : (mgR kn rs).getD s [] = (List.range kn).map (mgE kn rs[s]) := by
      unfold mgR
      rw [List.getD_eq_getElem?_getD, List.getElem?_map, e2]; rfl
    have e4 : ((mgR kn rs).getD s []).getD wn [] = mgE kn rs[s] wn := by
      rw [e3, List.getD_eq_getElem?_getD, List.getElem?_map, List.getElem?_range hwn]; rfl
    have e5 : rs'.getD s [] = rs'[s] := by rw [List.getD_eq_getElem?_getD, e1]; rfl
    have hx : ∀ x, x ∈ (rs'.getD s []).getD wn [] ↔ x ∈ ((mgR kn rs).getD s []).getD wn [] := fun x => by
      rw [e4, e5, h2 s _ _ e2 e1 wn hwn x]
      exact (mem_mgE hwn (by rw [hm _ (List.getElem_mem _)]; exact (Nat.div_mul_cancel (Nat.dvd_of_mod_eq_zero hd)).symm) x).symm
    rw [List.mem_map, List.mem_map]
    exact ⟨fun ⟨x, a, b⟩ => ⟨x, (hx x).mp a, b⟩, fun ⟨x, a, b⟩ => ⟨x, (hx x).mpr a, b⟩⟩
  · have z1 : (movesOf rs' hs ls).getD q [] = [] := by rw [List.getD_eq_getElem?_getD, List.getElem?_eq_none (by rw [movesOf_len, h1]; exact hq)]; rfl
    have z2 : (movesOf (mgR kn rs) hs ls).getD q [] = [] := by rw [List.getD_eq_getElem?_getD, List.getElem?_eq_none (by rw [movesOf_len, lm]; exact hq)]; rfl
    rw [z1, z2]
theorem rep_get {α : Type} {d : α} {r : List α} : ∀ {c l : Nat}, l < c * r.length → ((List.replicate c r).flatten).getD l d = r.getD (l % r.length) d
  | 0, l, h => absurd h (by omega)
  | c + 1, l, h => by
    rw [List.replicate_succ, List.flatten_cons, List.getD_eq_getElem?_getD]
    rcases Nat.lt_or_ge l r.length with q | q
    · rw [List.getElem?_append_left q, Nat.mod_eq_of_lt q, List.getD_eq_getElem?_getD]
    · rw [List.getElem?_append_right q, ← List.getD_eq_getElem?_getD, rep_get (by rw [Nat.succ_mul] at h; omega), ← Nat.mod_eq_sub_mod q]
theorem acc_widen {mn kn : Nat} {rs : List (List (List Int))} {is cs hs ls : List Int} (hm : ∀ r ∈ rs, r.length = mn) (m1 : 1 ≤ mn) (hd : kn % mn = 0) (hh : ∀ z ∈ hs, 0 ≤ z ∧ z < (kn : Int)) (hl : ∀ z ∈ ls, 0 ≤ z ∧ z < (kn : Int)) (ln : 0 < ls.length) :
    ACC (rs.map fun r => (List.replicate (kn / mn) r).flatten) is cs hs ls = ACC rs is cs (hs.map (· % (mn : Int))) (ls.map (· % (mn : Int))) := by
  unfold ACC
  rw [List.length_map, List.length_map, List.length_map]
  refine LV_congr (by rw [movesOf_len, movesOf_len, List.length_map, List.length_map, List.length_map]) (fun q t => ?_) _ _
  rcases Nat.lt_or_ge q (rs.length * (hs.length + ls.length)) with hq | hq
  · rw [movesOf_get (by rw [List.length_map]; exact hq), movesOf_get (by rw [List.length_map, List.length_map]; exact hq), List.length_map, List.length_map]
    have hs0 : 0 < hs.length + ls.length := by omega
    have hsd : q / (hs.length + ls.length) < rs.length := Nat.div_lt_of_lt_mul (by rw [Nat.mul_comm]; exact hq)
    have hpm := Nat.mod_lt q hs0
    have hw := ws_mem hh hl hpm
    have ew : (hs.map (· % (mn : Int)) ++ ls.map (· % (mn : Int))).getD (q % (hs.length + ls.length)) 0 = (hs ++ ls).getD (q % (hs.length + ls.length)) 0 % (mn : Int) := by
      rw [← List.map_append, List.getD_eq_getElem?_getD, List.getElem?_map, List.getD_eq_getElem?_getD, List.getElem?_eq_getElem (by rw [List.length_append]; exact hpm)]; rfl
    unfold mvs
    rw [ew]
    generalize (hs ++ ls).getD (q % (hs.length + ls.length)) 0 = w at *
    generalize q / (hs.length + ls.length) = s at *
    generalize q % (hs.length + ls.length) = p at *
    obtain ⟨wn, rfl⟩ : ∃ wn : Nat, w = (wn : Int) := ⟨w.toNat, by omega⟩
    have e2 : rs[s]? = some rs[s] := List.getElem?_eq_getElem hsd
    have lr := hm _ (List.getElem_mem hsd)
    have e0 : ((wn : Int) % (mn : Int)).toNat = wn % mn := by rw [← Int.natCast_emod]; rfl
    have e5 : ((rs.map fun r => (List.replicate (kn / mn) r).flatten).getD s []) = (List.replicate (kn / mn) rs[s]).flatten := by rw [List.getD_eq_getElem?_getD, List.getElem?_map, e2]; rfl
    have e6 : rs.getD s [] = rs[s] := by rw [List.getD_eq_getElem?_getD, e2]; rfl
    rw [e0, Int.toNat_natCast, e5, e6, rep_get (by rw [lr, Nat.div_mul_cancel (Nat.dvd_of_mod_eq_zero hd)]; omega), lr]
  · rw [List.getD_eq_getElem?_getD, List.getElem?_eq_none (by rw [movesOf_len, List.length_map]; exact hq), List.getD_eq_getElem?_getD, List.getElem?_eq_none (by rw [movesOf_len, List.length_map, List.length_map]; exact hq)]
theorem mgP_len {kn l : Nat} {r : List (List Int)} (h : ∀ e ∈ r, e.length ≤ 20) : ∀ j, (mgP kn r l j).length ≤ 20 * j
  | 0 => Nat.le_refl _
  | j + 1 => by
    rw [mgP_succ, List.length_append]
    have ih := mgP_len (kn := kn) (l := l) h j
    have : (if j % kn = l then r.getD j [] else []).length ≤ 20 := by
      split
      · rw [List.getD_eq_getElem?_getD]
        cases e : r[j]? with
        | none => exact Nat.zero_le _
        | some z => exact h z (List.mem_of_getElem? e)
      · exact Nat.zero_le _
    omega
theorem mgE_mem {k l : Nat} {r : List (List Int)} {x : Int} (h : x ∈ mgE k r l) : ∃ e ∈ r, x ∈ e := by
  unfold mgE at h
  obtain ⟨j, hj, hx⟩ := List.mem_flatMap.mp h
  have h1 := List.mem_range.mp (List.mem_filter.mp hj).1
  rw [List.getD_eq_getElem?_getD, List.getElem?_eq_getElem h1] at hx
  exact ⟨r[j], List.getElem_mem _, hx⟩
structure LCx (K : PySem.W.Frag) (F : Hp) (m : Int) (aI bI cI : Addr) (as : List Addr) (is cs : List Int) (rs : List (List (List Int))) : Prop where
  ok : Aok m is cs rs
  lr : rs.length ≤ 4
  m6 : m ≤ 6
  fa : SqL K F aI (iv is)
  fb : SqL K F bI (iv cs)
  fc : SqL K F cI (rv as)
  raw : Raw2 K F as rs
theorem LCx.mono {F F' : Hp} {m : Int} {aI bI cI : Addr} {as : List Addr} {is cs : List Int} {rs : List (List (List Int))} (s : Same F F') (C : LCx K F m aI bI cI as is cs rs) : LCx K F' m aI bI cI as is cs rs := ⟨C.ok, C.lr, C.m6, lS s C.fa, lS s C.fb, lS s C.fc, C.raw.mono s⟩
theorem his_of {m : Int} {is cs : List Int} {rs : List (List (List Int))} (OK : Aok m is cs rs) : ∀ x ∈ is, 0 ≤ x ∧ x < (rs.length : Int) := fun x hx => by
  have := (asc_iff.mp OK.ai).1 x hx
  omega
theorem hrs_of {m : Int} {is cs : List Int} {rs : List (List (List Int))} (OK : Aok m is cs rs) (lr : rs.length ≤ 10) : ∀ r ∈ rs, (r.length : Int) = m ∧ ∀ e ∈ r, e.length ≤ 20 ∧ ∀ x ∈ e, 0 ≤ x ∧ x < (rs.length : Int) := fun r hr => by
  obtain ⟨h1, h2⟩ := OK.rr r hr
  refine ⟨h1, fun e he => ⟨?_, fun x hx => ?_⟩⟩
  · have := asc_len (h2 e he) (by omega)
    omega
  · have := (asc_iff.mp (h2 e he)).1 x hx
    omega
theorem ilen_of {m : Int} {is cs : List Int} {rs : List (List (List Int))} (OK : Aok m is cs rs) (lr : rs.length ≤ 10) : is.length ≤ 100 ∧ cs.length ≤ 100 := by
  have h1 := asc_len OK.ai (by omega)
  have h2 := asc_len OK.ac (by omega)
  exact ⟨by omega, by omega⟩
theorem acc_call {F H : Hp} {kb : Bool} {a b c w : Addr} {as : List Addr} {m : Int} {is cs hs ls : List Int} {rs : List (List (List Int))} {Q : VK} {X : XK} (sF : Same F H) (ha : SqB K F a (rv as) kb) (hR : Rows2 K F kb as rs) (hb : SqB K F b (iv is) kb) (hc : SqB K F c (iv cs) kb) (hw : LasAt K F w hs ls)
    (hh : ∀ z ∈ hs, 0 ≤ z ∧ z < m) (hl : ∀ z ∈ ls, 0 ≤ z ∧ z < m) (ln : 0 < ls.length) (l1 : ls.length ≤ 10) (l2 : hs.length ≤ 10) (lr : rs.length ≤ 10) (li : is.length ≤ 100) (lc : cs.length ≤ 100)
    (hrs : ∀ r ∈ rs, (r.length : Int) = m ∧ ∀ e ∈ r, e.length ≤ 1000 ∧ ∀ x ∈ e, 0 ≤ x ∧ x < (rs.length : Int)) (his : ∀ x ∈ is, 0 ≤ x ∧ x < (rs.length : Int))
    (k : ∀ H', Same H H' → Q (.bl (ACC rs is cs hs ls)) H') : sp__law_accepts K A [.ref a, .ref b, .ref c, .ref w] H Q X :=
  ⟨F, kb, a, b, c, w, as, m, is, cs, hs, ls, rs, rfl, sF, ha, hR, hb, hc, hw, hh, hl, ln, l1, l2, lr, li, lc, hrs, his, k⟩
def md (m : Int) : V → V := fun v => match v with | .int i => .int (i % m) | v => v
theorem md_iv {m : Int} {hs : List Int} : (iv hs).map (md m) = iv (hs.map (· % m)) := by
  show (hs.map V.int).map (md m) = (hs.map (· % m)).map V.int
  rw [List.map_map, List.map_map]; rfl
theorem law_11 (T : Cl K A) {H0 F H1 : Hp} {m k : Int} {v0 v1 v6 v8 wv : V} {v11 v12 : Option V} {aI bI cI w : Addr} {as : List Addr} {is cs hs ls : List Int} {rs : List (List (List Int))} (G : St ⟨H0, H0⟩ F H1 []) (C : LCx K F m aI bI cI as is cs rs) (hw : LasAt K F w hs ls)
    (hb : 1 ≤ k → (∀ z ∈ hs, 0 ≤ z ∧ z < k) ∧ ∀ z ∈ ls, 0 ≤ z ∧ z < k) (ln : 0 < ls.length) (l1 : ls.length ≤ 10) (l2 : hs.length ≤ 10) (k40 : k ≤ 40)
    (hv : wv = .non ∨ ∃ y rs', wv = .ref y ∧ AuAt K A.C_Automaton F y k is cs rs' ∧ Aok k is cs rs' ∧ WidOf m.toNat k.toNat rs rs' ∧ 1 ≤ k ∧ k % m = 0) (kq : ∀ H', Q (.bl true) H') :
    t_law_11 K A E (D0 Q) [some v0, some v1, some (.int m), some (.ref aI), some (.ref bI), some (.ref cI), some v6, some (.int k), some v8, some wv, some (.ref w), v11, v12, none] H1 := by
  unfold t_law_11 D0
  rcases hv with rfl | ⟨y, rs', rfl, hA, OK', hwid, c1, c2⟩
  · walk_at "go"
    exact kq _
  obtain ⟨dx, ia, ca, ra, as', h1, h2, h3, h4, h5⟩ := hA.ex
  obtain ⟨hh, hl⟩ := hb c1
  obtain ⟨hd, ld, w1, w2, w3⟩ := hw.ex
  have lr := C.lr
  have m6 := C.m6
  have m1 := C.ok.m1
  have lr' : rs'.length = rs.length := by rw [show rs' = _ from hwid, List.length_map]
  obtain ⟨li, lc⟩ := ilen_of C.ok (by omega)
  have hrs := hrs_of C.ok (by omega)
  have hrs' := hrs_of OK' (by omega)
  walk_at "go"
  refine ⟨y, k, is, cs, rs', rfl, hA.mono G.fh, OK', by omega, fun r hr => by have := (hrs' r hr).1; omega, by omega, by omega, ?_⟩
  walk_at "go"
  refine r_fld (G.fh _ _ h1) T.cl_Automaton T.na_Automaton_rows la_rows ?_
  walk_at "go"
  rw [rv_len, h5.len]
  walk_at "go"
  refine r_len (.inl (lS G.fh C.fc)) ?_
  rw [rv_len, C.raw.rows.len]
  walk_at "go"
  refine r_ixT (tS G.fh w1) (atI_nat (j := 0) rfl) ?_
  refine r_it (tS G.fh w2) ?_
  refine r_lcM (k := false) (xs := iv hs) (md m) (by rw [iv_len]; omega) G (tS G.fh w2) (fun D i y acc H' Q' hi e G' q => ?_) (fun D1 H2 e2 G2 => ?_)
  · obtain ⟨z, hz, rfl⟩ := iv_get hi
    walk_at "go"
    exact q
  rw [md_iv] at G2
  walk_at "go"
  refine r_tupofL G2 (by walk_at "l") fun t1 H3 G3 => ?_
  walk_at "go"
  refine r_ixT (tS G3.fh w1) (atI_nat (j := 1) rfl) ?_
  refine r_it (tS G3.fh w3) ?_
  refine r_lcM (k := false) (xs := iv ls) (md m) (by rw [iv_len]; omega) G3 (tS G3.fh w3) (fun D i y acc H' Q' hi e G' q => ?_) (fun D2 H4 e4 G4 => ?_)
  · obtain ⟨z, hz, rfl⟩ := iv_get hi
    walk_at "go"
    exact q
  rw [md_iv] at G4
  walk_at "go"
  refine r_tupofL G4 (by walk_at "l") fun t2 H5 G5 => ?_
  walk_at "go"
  refine r_tup G5 (by walk_at "sz") fun lw H6 G6 => ?_
  obtain ⟨F1, s1, f1, G7⟩ := G6.frz Tak.head
  obtain ⟨F2, s2, f2, G8⟩ := G7.frz Tak.head
  obtain ⟨F3, s3, f3, G9⟩ := G8.frz (.tail .head)
  have sA := s1.trans (s2.trans s3)
  have hlw : LasAt K F3 lw (hs.map (· % m)) (ls.map (· % m)) := ⟨⟨t1, t2, SqT.of (s3 _ _ (s2 _ _ f1)), SqT.of f3, SqT.of (s3 _ _ f2)⟩⟩
  have C3 := C.mono sA
  walk_at "go"
  refine acc_call (kb := true) G9.fh C3.fc C3.raw.rows C3.fa C3.fb hlw (fun z hz => ?_) (fun z hz => ?_) (by rw [List.length_map]; exact ln) (by rw [List.length_map]; exact l1) (by rw [List.length_map]; exact l2) (by omega) li lc (fun r hr => ⟨(hrs r hr).1, fun e he => ⟨by have := ((hrs r hr).2 e he).1; omega, ((hrs r hr).2 e he).2⟩⟩) (his_of C.ok) fun H7 s7 => ?_
  · obtain ⟨q, _, rfl⟩ := List.mem_map.mp hz
    exact ⟨Int.emod_nonneg _ (by omega), Int.emod_lt_of_pos _ (by omega)⟩
  · obtain ⟨q, _, rfl⟩ := List.mem_map.mp hz
    exact ⟨Int.emod_nonneg _ (by omega), Int.emod_lt_of_pos _ (by omega)⟩
  have G10 := G9.grow s7
  have h1' := G10.fh _ _ (sA _ _ h1)
  walk_at "go"
  refine r_fld h1' T.cl_Automaton T.na_Automaton_rows la_rows ?_
  walk_at "go"
  refine r_fld h1' T.cl_Automaton T.na_Automaton_initial la_initial ?_
  walk_at "go"
  refine r_fld h1' T.cl_Automaton T.na_Automaton_accepting la_accepting ?_
  walk_at "go"
  refine acc_call (kb := false) G10.fh (show SqT K F3 ra (rv as') from tS sA h4) (h5.mono sA) (show SqT K F3 ia (iv is) from tS sA h2) (show SqT K F3 ca (iv cs) from tS sA h3) ⟨⟨hd, ld, tS sA w1, tS sA w2, tS sA w3⟩⟩ hh hl ln l1 l2 (by omega) li lc (fun r hr => ⟨(hrs' r hr).1, fun e he => ⟨by have := ((hrs' r hr).2 e he).1; omega, ((hrs' r hr).2 e he).2⟩⟩) (his_of OK') fun H8 s8 => ?_
  walk_at "go"
  obtain ⟨kn, rfl⟩ : ∃ kn : Nat, k = (kn : Int) := ⟨k.toNat, by omega⟩
  obtain ⟨mn, rfl⟩ : ∃ mn : Nat, m = (mn : Int) := ⟨m.toNat, by omega⟩
  rw [Int.toNat_natCast, Int.toNat_natCast] at hwid
  have c2' : kn % mn = 0 := by exact_mod_cast c2
  have e := acc_widen (is := is) (cs := cs) (fun r hr => by have := (hrs r hr).1; omega) (by omega) c2' hh hl ln
  rw [← show rs' = _ from hwid] at e
  rw [e, decide_eq_true rfl]
  exact kq _
theorem law_10 (T : Cl K A) {H0 F H1 : Hp} {m k : Int} {v0 v1 v6 hv wv : V} {v11 v12 : Option V} {aI bI cI w : Addr} {as : List Addr} {is cs hs ls : List Int} {rs : List (List (List Int))} (G : St ⟨H0, H0⟩ F H1 []) (C : LCx K F m aI bI cI as is cs rs) (hw : LasAt K F w hs ls)
    (hb : 1 ≤ k → (∀ z ∈ hs, 0 ≤ z ∧ z < k) ∧ ∀ z ∈ ls, 0 ≤ z ∧ z < k) (ln : 0 < ls.length) (l1 : ls.length ≤ 10) (l2 : hs.length ≤ 10) (k40 : k ≤ 40)
    (hu : hv = .non ∨ ∃ y rs', hv = .ref y ∧ AuAt K A.C_Automaton F y k is cs rs' ∧ Aok k is cs rs' ∧ HidOf m.toNat k.toNat rs rs' ∧ 1 ≤ k ∧ m % k = 0)
    (hx : wv = .non ∨ ∃ y rs', wv = .ref y ∧ AuAt K A.C_Automaton F y k is cs rs' ∧ Aok k is cs rs' ∧ WidOf m.toNat k.toNat rs rs' ∧ 1 ≤ k ∧ k % m = 0) (kq : ∀ H', Q (.bl true) H') :
    t_law_10 K A E (D0 Q) [some v0, some v1, some (.int m), some (.ref aI), some (.ref bI), some (.ref cI), some v6, some (.int k), some hv, some wv, some (.ref w), v11, v12, none] H1 := by
  unfold t_law_10
  show tSeq _ _ (D0 Q) _ H1
  rcases hu with rfl | ⟨y, rs', rfl, hA, OK', hid, c1, c2⟩
  · refine w_seq ?_
    walk_at "go"
    exact law_11 T G C hw hb ln l1 l2 k40 hx kq
  obtain ⟨dx, ia, ca, ra, as', h1, h2, h3, h4, h5⟩ := hA.ex
  obtain ⟨hh, hl⟩ := hb c1
  have lr := C.lr
  have m6 := C.m6
  have m1 := C.ok.m1
  have lr' : rs'.length = rs.length := hid.1
  obtain ⟨li, lc⟩ := ilen_of C.ok (by omega)
  have hrs := hrs_of C.ok (by omega)
  have hrs' := hrs_of OK' (by omega)
  refine w_seq ?_
  walk_at "go"
  refine ⟨y, k, is, cs, rs', rfl, hA.mono G.fh, OK', by omega, fun r hr => by have := (hrs' r hr).1; omega, by omega, by omega, ?_⟩
  walk_at "go"
  refine r_fld (G.fh _ _ h1) T.cl_Automaton T.na_Automaton_rows la_rows ?_
  walk_at "go"
  rw [rv_len, h5.len]
  walk_at "go"
  refine r_len (.inl (lS G.fh C.fc)) ?_
  rw [rv_len, C.raw.rows.len]
  walk_at "go"
  refine ⟨F, cI, as, k, m, rs, rfl, G.fh, C.fc, C.raw, c1, by omega, k40, by omega, fun r hr => ⟨(hrs r hr).1, fun e he => ((hrs r hr).2 e he).1⟩, fun F2 H2 b bs hb' hB w' => ?_⟩
  have G2 : St ⟨H0, H0⟩ F2 H2 [] := G.join w'
  have s2 := w'.ff
  obtain ⟨kn, rfl⟩ : ∃ kn : Nat, k = (kn : Int) := ⟨k.toNat, by omega⟩
  obtain ⟨mn, rfl⟩ : ∃ mn : Nat, m = (mn : Int) := ⟨m.toNat, by omega⟩
  rw [Int.toNat_natCast, Int.toNat_natCast] at hid
  rw [Int.toNat_natCast] at hB
  have lm : (mgR kn rs).length = rs.length := by unfold mgR; rw [List.length_map]
  have hwF := hw.ex
  obtain ⟨hd, ld, w1, w2, w3⟩ := hwF
  have C2 := C.mono s2
  walk_at "go"
  refine acc_call (m := (kn : Int)) (kb := true) G2.fh hb' hB C2.fa C2.fb ⟨⟨hd, ld, tS s2 w1, tS s2 w2, tS s2 w3⟩⟩ hh hl ln l1 l2 (by omega) li lc (fun r hr => ?_) (by rw [lm]; exact his_of C.ok) fun H7 s7 => ?_
  · unfold mgR at hr
    obtain ⟨r0, hr0, rfl⟩ := List.mem_map.mp hr
    have q0 := hrs r0 hr0
    refine ⟨by simp, fun e he => ?_⟩
    obtain ⟨l, hl', rfl⟩ := List.mem_map.mp he
    refine ⟨?_, fun x hx' => ?_⟩
    · have := mgP_len (kn := kn) (l := l) (fun e he => (q0.2 e he).1) r0.length
      rw [mgP_all] at this
      omega
    · obtain ⟨e, he', hxe⟩ := mgE_mem hx'
      rw [lm]
      exact (q0.2 e he').2 x hxe
  have G3 := G2.grow s7
  have h1' := G3.fh _ _ (s2 _ _ h1)
  walk_at "go"
  refine r_fld h1' T.cl_Automaton T.na_Automaton_rows la_rows ?_
  walk_at "go"
  refine r_fld h1' T.cl_Automaton T.na_Automaton_initial la_initial ?_
  walk_at "go"
  refine r_fld h1' T.cl_Automaton T.na_Automaton_accepting la_accepting ?_
  walk_at "go"
  refine acc_call (kb := false) G3.fh (show SqT K F2 ra (rv as') from tS s2 h4) (h5.mono s2) (show SqT K F2 ia (iv is) from tS s2 h2) (show SqT K F2 ca (iv cs) from tS s2 h3) ⟨⟨hd, ld, tS s2 w1, tS s2 w2, tS s2 w3⟩⟩ hh hl ln l1 l2 (by omega) li lc (fun r hr => ⟨(hrs' r hr).1, fun e he => ⟨by have := ((hrs' r hr).2 e he).1; omega, ((hrs' r hr).2 e he).2⟩⟩) (his_of OK') fun H8 s8 => ?_
  walk_at "go"
  have c2' : mn % kn = 0 := by exact_mod_cast c2
  have e := acc_hide (is := is) (cs := cs) (fun r hr => by have := (hrs r hr).1; omega) (by omega) c2' hid hh hl ln
  refine r_ifN (fun h => absurd e h) (fun _ => ?_)
  walk_at "go"
  have G4 := G3.grow s8
  exact law_11 T G4 C2 ⟨⟨hd, ld, tS s2 w1, tS s2 w2, tS s2 w3⟩⟩ hb ln l1 l2 k40 (hx.imp id fun ⟨y, r, a, b, c⟩ => ⟨y, r, a, b.mono s2, c⟩) kq
theorem law_7 (T : Cl K A) {H0 F H1 : Hp} {m k : Int} {v0 v6 hv wv : V} {p aI bI cI : Addr} {as : List Addr} {ds is cs : List Int} {rs : List (List (List Int))} (G : St ⟨H0, H0⟩ F H1 [(p, .lst (iv ds))]) (hd : Dok ds) (C : LCx K F m aI bI cI as is cs rs) (k40 : k ≤ 40)
    (hu : hv = .non ∧ ¬ (1 ≤ k ∧ m % k = 0) ∨ ∃ y rs', hv = .ref y ∧ AuAt K A.C_Automaton F y k is cs rs' ∧ Aok k is cs rs' ∧ HidOf m.toNat k.toNat rs rs' ∧ 1 ≤ k ∧ m % k = 0)
    (hx : wv = .non ∧ ¬ (1 ≤ k ∧ k % m = 0) ∨ ∃ y rs', wv = .ref y ∧ AuAt K A.C_Automaton F y k is cs rs' ∧ Aok k is cs rs' ∧ WidOf m.toNat k.toNat rs rs' ∧ 1 ≤ k ∧ k % m = 0) (kq : ∀ H', Q (.bl true) H') :
    t_law_7 K A E (D0 Q) [some v0, some (.ref p), some (.int m), some (.ref aI), some (.ref bI), some (.ref cI), some v6, some (.int k), some hv, some wv, none, none, none, none] H1 := by
  have m1 := C.ok.m1
  have cl : ∀ {h w : V}, (h = .non ∨ ∃ y rs', h = .ref y ∧ AuAt K A.C_Automaton F y k is cs rs' ∧ Aok k is cs rs' ∧ HidOf m.toNat k.toNat rs rs' ∧ 1 ≤ k ∧ m % k = 0) → True := fun _ => trivial
  have fin : ∀ {Qx : VK}, (∀ w H', t_law_10 K A E (D0 Q) [some v0, some (.ref p), some (.int m), some (.ref aI), some (.ref bI), some (.ref cI), some v6, some (.int k), some hv, some wv, some (.ref w), none, none, none] H' → Qx (.ref w) H') → sp__law_lasso K A [.ref p, .int (if k > 1 then k else 1), .int 3] H1 Qx E0 := by
    intro Qx hq
    refine ⟨F, p, ds, _, 3, rfl, G.fh, (G.own _ (by walk_at "m")).2.1, G.get (by walk_at "m"), hd, by split <;> omega, by omega, by omega, fun F2 H2 d2 w hs ls hd2 hw hh hl ln l1 l2 w2 => hq w H2 ?_⟩
    have s2 := w2.ff
    have G2 := (G.joinB Upd.head w2).clr
    refine law_10 T G2 (C.mono s2) hw (fun c => ?_) ln l1 l2 k40 ?_ ?_ kq
    · rw [show (if k > 1 then k else 1) = k from by split <;> omega] at hh hl
      exact ⟨hh, hl⟩
    · rcases hu with ⟨a, _⟩ | ⟨y, r, a, b, c⟩
      · exact .inl a
      · exact .inr ⟨y, r, a, b.mono s2, c⟩
    · rcases hx with ⟨a, _⟩ | ⟨y, r, a, b, c⟩
      · exact .inl a
      · exact .inr ⟨y, r, a, b.mono s2, c⟩
  have dh : decide (hv = V.non) = !decide (1 ≤ k ∧ m % k = 0) := by
    rcases hu with ⟨a, b⟩ | ⟨y, r, a, _, _, _, b⟩
    · rw [a, decide_eq_true rfl, decide_eq_false b]; rfl
    · rw [decide_eq_true b, a]; exact decide_eq_false (fun h => by cases h)
  have dw : decide (wv = V.non) = !decide (1 ≤ k ∧ k % m = 0) := by
    rcases hx with ⟨a, b⟩ | ⟨y, r, a, _, _, _, b⟩
    · rw [a, decide_eq_true rfl, decide_eq_false b]; rfl
    · rw [decide_eq_true b, a]; exact decide_eq_false (fun h => by cases h)
  unfold t_law_7
  refine w_seq ?_
  walk_at "go"
  refine r_ifD (fun c => ?_) (fun c => ?_)
  · rw [dh, decide_eq_false (show ¬ (1 ≤ k ∧ m % k = 0) from fun q => by omega)]
    walk_at "go"
    rw [dw, decide_eq_false (show ¬ (1 ≤ k ∧ k % m = 0) from fun q => by omega)]
    walk_at "go"
    exact fin fun w H' q => q
  · have e0 : (if k > 1 then k else 1) = k := by split <;> omega
    walk_at "go"
    rw [e0]
    walk_at "go"
    rw [dh]
    have d1 : decide (1 ≤ k ∧ m % k = 0) = decide (m % k = 0) := decide_eq_decide.mpr ⟨fun q => q.2, fun q => ⟨by omega, q⟩⟩
    have d2 : decide (1 ≤ k ∧ k % m = 0) = decide (k % m = 0) := decide_eq_decide.mpr ⟨fun q => q.2, fun q => ⟨by omega, q⟩⟩
    refine r_ifN (fun h => absurd (by rw [d1]) h) (fun _ => ?_)
    walk_at "go"
    rw [dw]
    refine r_ifN (fun h => absurd (by rw [d2]) h) (fun _ => ?_)
    walk_at "go"
    exact fin fun w H' q => q
theorem law_5 (T : Cl K A) {H0 F H1 : Hp} {m k : Int} {v0 : V} {p x aI bI cI : Addr} {as : List Addr} {ds is cs : List Int} {rs : List (List (List Int))} (G : St ⟨H0, H0⟩ F H1 [(p, .lst (iv ds))]) (hd : Dok ds) (C : LCx K F m aI bI cI as is cs rs) (hA : AuAt K A.C_Automaton F x m is cs rs) (k40 : k ≤ 40) (kq : ∀ H', Q (.bl true) H') :
    t_law_5 K A E (D0 Q) [some v0, some (.ref p), some (.int m), some (.ref aI), some (.ref bI), some (.ref cI), some (.ref x), some (.int k), none, none, none, none, none, none] H1 := by
  have lr := C.lr
  have m6 := C.m6
  obtain ⟨li, lc⟩ := ilen_of C.ok (by omega)
  unfold t_law_5
  refine w_seq ?_
  walk_at "go"
  refine ⟨F, x, m, k, is, cs, rs, rfl, G.fh, hA, C.ok, by omega, by omega, k40, li, lc, fun nc => ?_, fun cond F2 H2 y rs' ok hid hau w => ?_⟩
  · walk_at "go"
    refine ⟨F, x, m, k, is, cs, rs, rfl, G.fh, hA, C.ok, by omega, by omega, k40, li, lc, fun nc2 => ?_, fun cond2 F3 H3 y2 rs2 ok2 wid hau2 w2 => ?_⟩
    · walk_at "go"
      exact law_7 T G hd C k40 (.inl ⟨rfl, nc⟩) (.inl ⟨rfl, nc2⟩) kq
    · walk_at "go"
      exact law_7 T (G.join w2) hd (C.mono w2.ff) k40 (.inl ⟨rfl, nc⟩) (.inr ⟨y2, rs2, rfl, hau2, ok2, wid, cond2⟩) kq
  · have G2 := G.join w
    have s2 := w.ff
    walk_at "go"
    refine ⟨F2, x, m, k, is, cs, rs, rfl, G2.fh, hA.mono s2, C.ok, by omega, by omega, k40, li, lc, fun nc2 => ?_, fun cond2 F3 H3 y2 rs2 ok2 wid hau2 w2 => ?_⟩
    · walk_at "go"
      exact law_7 T G2 hd (C.mono s2) k40 (.inr ⟨y, rs', rfl, hau, ok, hid, cond⟩) (.inl ⟨rfl, nc2⟩) kq
    · walk_at "go"
      exact law_7 T (G2.join w2) hd (C.mono (s2.trans w2.ff)) k40 (.inr ⟨y, rs', rfl, hau.mono w2.ff, ok, hid, cond⟩) (.inr ⟨y2, rs2, rfl, hau2, ok2, wid, cond2⟩) kq
theorem law_4 (T : Cl K A) {H0 F H1 : Hp} {m : Int} {v0 : V} {p x aI bI cI : Addr} {as : List Addr} {ds is cs : List Int} {rs : List (List (List Int))} (G : St ⟨H0, H0⟩ F H1 [(p, .lst (iv ds))]) (hd : Dok ds) (C : LCx K F m aI bI cI as is cs rs) (hA : AuAt K A.C_Automaton F x m is cs rs) (kq : ∀ H', Q (.bl true) H') :
    t_law_4 K A E (D0 Q) [some v0, some (.ref p), some (.int m), some (.ref aI), some (.ref bI), some (.ref cI), some (.ref x), none, none, none, none, none, none, none] H1 := by
  have m6 := C.m6
  have m1 := C.ok.m1
  unfold t_law_4
  refine w_seq ?_
  walk_at "go"
  refine r_mul (m := 8) (k := 8) (by decide) (by omega) ?_
  walk_at "go"
  refine r_lst G (by walk_at "sz") fun L H2 G2 => ?_
  walk_at "go"
  refine u_take G2 (fun _ => .tail .head) hd (by decide) fun i d2 H3 i0 i1 hd2 G3 => ?_
  walk_at "go"
  have hb : ∀ z ∈ [-1, 0, 1, 1, 2, 2, 3, 4, 5, 6, 8, m, 2 * m], z ≤ 40 := by
    intro z hz
    simp only [List.mem_cons, List.not_mem_nil, or_false] at hz
    omega
  have hk : [-1, 0, 1, 1, 2, 2, 3, 4, 5, 6, 8, m, 2 * m].getD i.toNat 0 ≤ 40 := by
    rw [List.getD_eq_getElem?_getD, List.getElem?_eq_getElem (show i.toNat < 13 by omega)]
    exact hb _ (List.getElem_mem _)
  refine r_ixL (xs := iv [-1, 0, 1, 1, 2, 2, 3, 4, 5, 6, 8, m, 2 * m]) (SqL.of (G3.get (.head _))) (atI_iv i0 (by show i < (13 : Nat); omega)) ?_
  walk_at "go"
  exact law_5 T (G3.drop Tak.head) hd2 C hA hk kq
theorem p_law (T : Cl K A) (h : sp_law K A vs H Q E) : t_law K A E (D0 Q) (start ["script", "draws", "many", "initial", "accepting", "rows", "automaton", "letters", "hidden", "wide", "lasso", "expected", "letter", "low"] vs) H := by
  obtain ⟨s, ns, rfl, hs, hns, k⟩ := h
  have G := St.init (Same.refl H)
  unfold t_law
  show tSeq _ _ (D0 Q) [some (.ref s), none, none, none, none, none, none, none, none, none, none, none, none, none] H
  refine w_seq ?_
  walk_at "go"
  refine u_draws G hs hns (by decide) (by decide) fun p d1 H1 hd1 G1 => ?_
  walk_at "go"
  refine u_take G1 (fun _ => .head) hd1 (by decide) fun m1 d2 H2 m10 m11 hd2 G2 => ?_
  walk_at "go"
  refine ⟨H, p, d2, 1 + m1, 4, rfl, G2.fh, (G2.own _ (by walk_at "m")).2.1, G2.get (by walk_at "m"), hd2, by omega, by omega, by decide, by decide, fun F3 H3 d3 t a b c as is cs rs hd3 OK lr4 ht ha hb hc hraw w => ?_⟩
  have G3 : St ⟨H, H⟩ F3 H3 [(p, .lst (iv d3))] := G2.joinB Upd.head w
  generalize hm : 1 + m1 = m at *
  have C : LCx K F3 m a b c as is cs rs := ⟨OK, by omega, by omega, ha, hb, hc, hraw⟩
  have hrs := hrs_of OK (by omega)
  refine ⟨t, _, rfl, tS G3.fh ht, rfl, ?_⟩
  refine ⟨_, _, rfl, _, _, rfl, _, _, rfl, rfl, ?_⟩
  show tSeq _ _ (D0 Q) [some (.ref s), some (.ref p), some (.int m), some (.ref a), some (.ref b), some (.ref c), none, none, none, none, none, none, none, none] H3
  refine w_seq ?_
  walk_at "go"
  refine r_listof G3 (.inl (lS G3.fh ha)) fun l1 H4 G4 => ?_
  walk_at "go"
  refine r_listof G4 (.inl (lS G4.fh hb)) fun l2 H5 G5 => ?_
  walk_at "go"
  refine ⟨F3, c, as, rs, rfl, G5.fh, lS G5.fh hc, hraw.rows.mono G5.fh, by omega, fun r hr => by have := (hrs r hr).1; omega, fun F6 H6 t2 as' bss hab hL w6 => ?_⟩
  have G6 := G5.join w6
  have s6 := w6.ff
  obtain ⟨F7, s7, f7, G7⟩ := St.frzs (L1 := (t2, .lst (rv as')) :: rowV as' (bss.map rv)) (L2 := [(l2, .lst (iv cs)), (l1, .lst (iv is)), (p, .lst (iv d3))]) G6
  obtain ⟨F8, s8, f8, G8⟩ := G7.frz Tak.head
  obtain ⟨F9, s9, f9, G9⟩ := G8.frz Tak.head
  have hR2 : Rows2 K F9 true as' rs := (Rows2.of (hL.mono s7) hab fun x hx => f7 x (List.mem_cons_of_mem _ hx)).mono (s8.trans s9)
  have ht2 : F9 t2 = some (.lst (rv as')) := s9 _ _ (s8 _ _ (f7 (t2, .lst (rv as')) List.mem_cons_self))
  walk_at "go"
  refine r_mk G9 fun y dy H10 G10 => ?_
  refine ⟨F9, y, dy, l1, l2, t2, as', m, is, cs, rs, rfl, G10.fh, (G10.own _ (by walk_at "m")).2.1, G10.get (by walk_at "m"), .inl (SqL.of (G10.fh _ _ f9)), .inl (SqL.of (G10.fh _ _ (s9 _ _ f8))), .inl (SqL.of (G10.fh _ _ ht2)), (hR2.mono G10.fh).toX, by omega, fun r hr => by have := (hrs r hr).1; omega, fun _ F' H' ia ca ra as'' gb hy h1 h2 h3 h4 => ⟨rfl, ?_⟩, fun np => absurd OK np⟩
  have G11 := G10.callB Upd.head gb hy
  obtain ⟨F12, s12, hy12, G12⟩ := G11.frz Tak.head
  have sA := s6.trans (s7.trans (s8.trans (s9.trans (gb.ff.trans s12))))
  walk_at "go"
  exact law_4 T (G12.only (.tail _ (.head _))) hd3 (C.mono sA) ⟨⟨dy, ia, ca, ra, as'', hy12, tS s12 h1, tS s12 h2, tS s12 h3, h4.mono s12⟩⟩ k
end

def top (i : Nat) : Stmt := PySem.Challenge.pw_promiseplay_k20_hide_and_widen.main.body.getD i (.Pass ⟨0, 0, 0, 0⟩)
abbrev s_ascends : Stmt := (top 5)
abbrev s_Automaton_init : Stmt := (inClass (top 7) 0)
abbrev s_hide : Stmt := (top 9)
abbrev s_merged : Stmt := (top 10)
abbrev s_widen : Stmt := (top 11)
abbrev s__law_draws : Stmt := (top 13)
abbrev s__law_take : Stmt := (top 14)
abbrev s__law_is_integer : Stmt := (top 15)
abbrev s__law_integers : Stmt := (top 16)
abbrev s__law_lasso : Stmt := (top 17)
abbrev s__law_lives : Stmt := (top 18)
abbrev s__law_ascending : Stmt := (top 19)
abbrev s__law_automaton : Stmt := (top 20)
abbrev s__law_copy : Stmt := (top 21)
abbrev s__law_accepts : Stmt := (top 22)
abbrev s__law_states : Stmt := (top 23)
abbrev s__law_is_automaton : Stmt := (top 24)
abbrev s__law_hide_outcome : Stmt := (top 25)
abbrev s__law_widen_outcome : Stmt := (top 26)
abbrev s__law_merged : Stmt := (top 27)
abbrev s_law : Stmt := (top 28)
theorem sc_ascends : FnScope ["numbers", "count", "before", "number"] ["numbers", "count"] (defScope s_ascends) := ⟨rfl, rfl, rfl, by decide +kernel, rfl, by decide +kernel, by decide +kernel⟩
theorem sc_Automaton_init : FnScope ["self", "letters", "initial", "accepting", "rows", "row", "entry"] ["self", "letters", "initial", "accepting", "rows"] (defScope s_Automaton_init) := ⟨rfl, rfl, rfl, by decide +kernel, rfl, by decide +kernel, by decide +kernel⟩
theorem sc_hide : FnScope ["automaton", "letters", "rows", "row", "letter"] ["automaton", "letters"] (defScope s_hide) := ⟨rfl, rfl, rfl, by decide +kernel, rfl, by decide +kernel, by decide +kernel⟩
theorem sc_merged : FnScope ["entries", "found", "entry", "state"] ["entries"] (defScope s_merged) := ⟨rfl, rfl, rfl, by decide +kernel, rfl, by decide +kernel, by decide +kernel⟩
theorem sc_widen : FnScope ["automaton", "letters", "row", "rows"] ["automaton", "letters"] (defScope s_widen) := ⟨rfl, rfl, rfl, by decide +kernel, rfl, by decide +kernel, by decide +kernel⟩
theorem sc__law_draws : FnScope ["script", "count", "cells", "found", "mixed", "k", "j", "cell", "again"] ["script", "count"] (defScope s__law_draws) := ⟨rfl, rfl, rfl, by decide +kernel, rfl, by decide +kernel, by decide +kernel⟩
theorem sc__law_take : FnScope ["draws", "limit"] ["draws", "limit"] (defScope s__law_take) := ⟨rfl, rfl, rfl, by decide +kernel, rfl, by decide +kernel, by decide +kernel⟩
theorem sc__law_is_integer : FnScope ["actual"] ["actual"] (defScope s__law_is_integer) := ⟨rfl, rfl, rfl, by decide +kernel, rfl, by decide +kernel, by decide +kernel⟩
theorem sc__law_integers : FnScope ["actual", "low", "high", "item"] ["actual", "low", "high"] (defScope s__law_integers) := ⟨rfl, rfl, rfl, by decide +kernel, rfl, by decide +kernel, by decide +kernel⟩
theorem sc__law_lasso : FnScope ["draws", "letters", "longest", "k", "head", "loop"] ["draws", "letters", "longest"] (defScope s__law_lasso) := ⟨rfl, rfl, rfl, by decide +kernel, rfl, by decide +kernel, by decide +kernel⟩
theorem sc__law_lives : FnScope ["moves", "goods", "starts", "kept", "turn", "reach", "again", "changed", "j", "k", "target", "start"] ["moves", "goods", "starts"] (defScope s__law_lives) := ⟨rfl, rfl, rfl, by decide +kernel, rfl, by decide +kernel, by decide +kernel⟩
theorem sc__law_ascending : FnScope ["draws", "limit", "share", "k"] ["draws", "limit", "share"] (defScope s__law_ascending) := ⟨rfl, rfl, rfl, by decide +kernel, rfl, by decide +kernel, by decide +kernel⟩
theorem sc__law_automaton : FnScope ["draws", "letters", "most", "count", "share", "initial", "accepting", "rows", "state", "letter"] ["draws", "letters", "most"] (defScope s__law_automaton) := ⟨rfl, rfl, rfl, by decide +kernel, rfl, by decide +kernel, by decide +kernel⟩
theorem sc__law_copy : FnScope ["rows", "row", "entry"] ["rows"] (defScope s__law_copy) := ⟨rfl, rfl, rfl, by decide +kernel, rfl, by decide +kernel, by decide +kernel⟩
theorem sc__law_accepts : FnScope ["rows", "initial", "accepting", "lasso", "letters", "size", "moves", "goods", "state", "place", "after", "target"] ["rows", "initial", "accepting", "lasso"] (defScope s__law_accepts) := ⟨rfl, rfl, rfl, by decide +kernel, rfl, by decide +kernel, by decide +kernel⟩
theorem sc__law_states : FnScope ["actual", "count", "k"] ["actual", "count"] (defScope s__law_states) := ⟨rfl, rfl, rfl, by decide +kernel, rfl, by decide +kernel, by decide +kernel⟩
theorem sc__law_is_automaton : FnScope ["actual", "letters", "count", "row", "entry"] ["actual", "letters"] (defScope s__law_is_automaton) := ⟨rfl, rfl, rfl, by decide +kernel, rfl, by decide +kernel, by decide +kernel⟩
theorem sc__law_hide_outcome : FnScope ["automaton", "letters", "found"] ["automaton", "letters"] (defScope s__law_hide_outcome) := ⟨rfl, rfl, rfl, by decide +kernel, rfl, by decide +kernel, by decide +kernel⟩
theorem sc__law_widen_outcome : FnScope ["automaton", "letters", "found"] ["automaton", "letters"] (defScope s__law_widen_outcome) := ⟨rfl, rfl, rfl, by decide +kernel, rfl, by decide +kernel, by decide +kernel⟩
theorem sc__law_merged : FnScope ["rows", "letters", "found", "row", "merged_v", "letter", "targets", "k"] ["rows", "letters"] (defScope s__law_merged) := ⟨rfl, rfl, rfl, by decide +kernel, rfl, by decide +kernel, by decide +kernel⟩
theorem sc_law : FnScope ["script", "draws", "many", "initial", "accepting", "rows", "automaton", "letters", "hidden", "wide", "lasso", "expected", "letter", "low"] ["script"] (defScope s_law) := ⟨rfl, rfl, rfl, by decide +kernel, rfl, by decide +kernel, by decide +kernel⟩
structure Txt (K : PySem.W.Frag) (mg : Str → Option Value) (A : Ads) : Prop where
  cl : Cl K A
  F_ascends : Fun K "ascends" "ascends" s_ascends A.a_ascends A.fd_ascends
  b_ascends : Binds K A.fd_ascends ["numbers", "count"] []
  g_ascends : mg "ascends" = some (.ref A.a_ascends)
  k_ascends : PySem.W.keepIn K (.ref A.a_ascends) = true
  F_Automaton_init : Fun K "__init__" "Automaton.__init__" s_Automaton_init A.a_Automaton_init A.fd_Automaton_init
  b_Automaton_init : Binds K A.fd_Automaton_init ["self", "letters", "initial", "accepting", "rows"] []
  mt_Automaton_init : Meth K A.C_Automaton "__init__" A.a_Automaton_init
  F_hide : Fun K "hide" "hide" s_hide A.a_hide A.fd_hide
  b_hide : Binds K A.fd_hide ["automaton", "letters"] []
  g_hide : mg "hide" = some (.ref A.a_hide)
  k_hide : PySem.W.keepIn K (.ref A.a_hide) = true
  F_merged : Fun K "merged" "merged" s_merged A.a_merged A.fd_merged
  b_merged : Binds K A.fd_merged ["entries"] []
  g_merged : mg "merged" = some (.ref A.a_merged)
  k_merged : PySem.W.keepIn K (.ref A.a_merged) = true
  F_widen : Fun K "widen" "widen" s_widen A.a_widen A.fd_widen
  b_widen : Binds K A.fd_widen ["automaton", "letters"] []
  g_widen : mg "widen" = some (.ref A.a_widen)
  k_widen : PySem.W.keepIn K (.ref A.a_widen) = true
  F__law_draws : Fun K "_law_draws" "_law_draws" s__law_draws A.a__law_draws A.fd__law_draws
  b__law_draws : Binds K A.fd__law_draws ["script", "count"] []
  g__law_draws : mg "_law_draws" = some (.ref A.a__law_draws)
  k__law_draws : PySem.W.keepIn K (.ref A.a__law_draws) = true
  F__law_take : Fun K "_law_take" "_law_take" s__law_take A.a__law_take A.fd__law_take
  b__law_take : Binds K A.fd__law_take ["draws", "limit"] []
  g__law_take : mg "_law_take" = some (.ref A.a__law_take)
  k__law_take : PySem.W.keepIn K (.ref A.a__law_take) = true
  F__law_is_integer : Fun K "_law_is_integer" "_law_is_integer" s__law_is_integer A.a__law_is_integer A.fd__law_is_integer
  b__law_is_integer : Binds K A.fd__law_is_integer ["actual"] []
  g__law_is_integer : mg "_law_is_integer" = some (.ref A.a__law_is_integer)
  k__law_is_integer : PySem.W.keepIn K (.ref A.a__law_is_integer) = true
  F__law_integers : Fun K "_law_integers" "_law_integers" s__law_integers A.a__law_integers A.fd__law_integers
  b__law_integers : Binds K A.fd__law_integers ["actual", "low", "high"] []
  g__law_integers : mg "_law_integers" = some (.ref A.a__law_integers)
  k__law_integers : PySem.W.keepIn K (.ref A.a__law_integers) = true
  F__law_lasso : Fun K "_law_lasso" "_law_lasso" s__law_lasso A.a__law_lasso A.fd__law_lasso
  b__law_lasso : Binds K A.fd__law_lasso ["draws", "letters", "longest"] []
  g__law_lasso : mg "_law_lasso" = some (.ref A.a__law_lasso)
  k__law_lasso : PySem.W.keepIn K (.ref A.a__law_lasso) = true
  F__law_lives : Fun K "_law_lives" "_law_lives" s__law_lives A.a__law_lives A.fd__law_lives
  b__law_lives : Binds K A.fd__law_lives ["moves", "goods", "starts"] []
  g__law_lives : mg "_law_lives" = some (.ref A.a__law_lives)
  k__law_lives : PySem.W.keepIn K (.ref A.a__law_lives) = true
  F__law_ascending : Fun K "_law_ascending" "_law_ascending" s__law_ascending A.a__law_ascending A.fd__law_ascending
  b__law_ascending : Binds K A.fd__law_ascending ["draws", "limit", "share"] []
  g__law_ascending : mg "_law_ascending" = some (.ref A.a__law_ascending)
  k__law_ascending : PySem.W.keepIn K (.ref A.a__law_ascending) = true
  F__law_automaton : Fun K "_law_automaton" "_law_automaton" s__law_automaton A.a__law_automaton A.fd__law_automaton
  b__law_automaton : Binds K A.fd__law_automaton ["draws", "letters", "most"] []
  g__law_automaton : mg "_law_automaton" = some (.ref A.a__law_automaton)
  k__law_automaton : PySem.W.keepIn K (.ref A.a__law_automaton) = true
  F__law_copy : Fun K "_law_copy" "_law_copy" s__law_copy A.a__law_copy A.fd__law_copy
  b__law_copy : Binds K A.fd__law_copy ["rows"] []
  g__law_copy : mg "_law_copy" = some (.ref A.a__law_copy)
  k__law_copy : PySem.W.keepIn K (.ref A.a__law_copy) = true
  F__law_accepts : Fun K "_law_accepts" "_law_accepts" s__law_accepts A.a__law_accepts A.fd__law_accepts
  b__law_accepts : Binds K A.fd__law_accepts ["rows", "initial", "accepting", "lasso"] []
  g__law_accepts : mg "_law_accepts" = some (.ref A.a__law_accepts)
  k__law_accepts : PySem.W.keepIn K (.ref A.a__law_accepts) = true
  F__law_states : Fun K "_law_states" "_law_states" s__law_states A.a__law_states A.fd__law_states
  b__law_states : Binds K A.fd__law_states ["actual", "count"] []
  g__law_states : mg "_law_states" = some (.ref A.a__law_states)
  k__law_states : PySem.W.keepIn K (.ref A.a__law_states) = true
  F__law_is_automaton : Fun K "_law_is_automaton" "_law_is_automaton" s__law_is_automaton A.a__law_is_automaton A.fd__law_is_automaton
  b__law_is_automaton : Binds K A.fd__law_is_automaton ["actual", "letters"] []
  g__law_is_automaton : mg "_law_is_automaton" = some (.ref A.a__law_is_automaton)
  k__law_is_automaton : PySem.W.keepIn K (.ref A.a__law_is_automaton) = true
  F__law_hide_outcome : Fun K "_law_hide_outcome" "_law_hide_outcome" s__law_hide_outcome A.a__law_hide_outcome A.fd__law_hide_outcome
  b__law_hide_outcome : Binds K A.fd__law_hide_outcome ["automaton", "letters"] []
  g__law_hide_outcome : mg "_law_hide_outcome" = some (.ref A.a__law_hide_outcome)
  k__law_hide_outcome : PySem.W.keepIn K (.ref A.a__law_hide_outcome) = true
  F__law_widen_outcome : Fun K "_law_widen_outcome" "_law_widen_outcome" s__law_widen_outcome A.a__law_widen_outcome A.fd__law_widen_outcome
  b__law_widen_outcome : Binds K A.fd__law_widen_outcome ["automaton", "letters"] []
  g__law_widen_outcome : mg "_law_widen_outcome" = some (.ref A.a__law_widen_outcome)
  k__law_widen_outcome : PySem.W.keepIn K (.ref A.a__law_widen_outcome) = true
  F__law_merged : Fun K "_law_merged" "_law_merged" s__law_merged A.a__law_merged A.fd__law_merged
  b__law_merged : Binds K A.fd__law_merged ["rows", "letters"] []
  g__law_merged : mg "_law_merged" = some (.ref A.a__law_merged)
  k__law_merged : PySem.W.keepIn K (.ref A.a__law_merged) = true
  F_law : Fun K "law" "law" s_law A.a_law A.fd_law
  b_law : Binds K A.fd_law ["script"] []
  g_law : mg "law" = some (.ref A.a_law)
  k_law : PySem.W.keepIn K (.ref A.a_law) = true
  g_Automaton : mg "Automaton" = some (.ref A.C_Automaton)
  cl_Automaton : Cls K A.C_Automaton
  M_Automaton : Mk K A.C_Automaton A.a_Automaton_init
  g_InvalidAutomaton : mg "InvalidAutomaton" = some (.ref A.C_InvalidAutomaton)
  g_Mismatch : mg "Mismatch" = some (.ref A.C_Mismatch)
  k_InvalidAutomaton : PySem.W.keepIn K (.ref A.C_InvalidAutomaton) = true
  x_InvalidAutomaton : PySem.W.excIn K A.C_InvalidAutomaton [.type "ValueError", .type "Exception", .type "BaseException", .type "object"] "ValueError.__new__" = true
  s_InvalidAutomaton : PySem.W.subIn K (.ref A.C_InvalidAutomaton) (.type "BaseException") = some true
  t_InvalidAutomaton : PySem.W.typeIn K (.ref A.C_InvalidAutomaton) = some (.type "type")
  k_Mismatch : PySem.W.keepIn K (.ref A.C_Mismatch) = true
  x_Mismatch : PySem.W.excIn K A.C_Mismatch [.type "ValueError", .type "Exception", .type "BaseException", .type "object"] "ValueError.__new__" = true
  s_Mismatch : PySem.W.subIn K (.ref A.C_Mismatch) (.type "BaseException") = some true
  t_Mismatch : PySem.W.typeIn K (.ref A.C_Mismatch) = some (.type "type")
  z_all : mg "all" = none
  z_bool : mg "bool" = none
  z_int : mg "int" = none
  z_isinstance : mg "isinstance" = none
  z_len : mg "len" = none
  z_list : mg "list" = none
  z_max : mg "max" = none
  z_range : mg "range" = none
  z_sorted : mg "sorted" = none
  z_tuple : mg "tuple" = none
section
variable {P : Program} {w : World} {K : PySem.W.Frag} {mg : Str → Option Value} {base : Heap} {A : Ads}
theorem ok_ascends (T : Txt K mg A) : FnOk P w K mg base CX0 1 A.a_ascends A.fd_ascends ["numbers", "count"] (sp_ascends K A) :=
  T.F_ascends.ok sc_ascends (fun vs H Q E h => by obtain ⟨_, _, _, _, rfl, _⟩ := h; rfl) (fun cdv Ar outer s H vs Q E hr h => ⟨t_ascends K A E, by exact (pss_cons (ps_set (i := 2) sc_ascends.nd rfl (Or.inl rfl) (pe_un un_neg pe_int))
 (pss_cons (ps_for PassesOwn.never rfl (pi_seq (pv 0)) (pg_name (i := 3) sc_ascends.nd rfl (Or.inl rfl)) (pss_cons (ps_if (PW.pt (pw_or (pt_cmpR op_le (pv 3) (pv 2) (nomark _)) (pw_or1 (pt_cmpR op_ge (pv 3) (pv 1) (nomark _))))) (pss_one (ps_ret pe_bl)) pss_nil)
 (pss_one (ps_set (i := 2) sc_ascends.nd rfl (Or.inl rfl) (pv 3)))))
 (pss_one (ps_ret pe_bl)))), p_ascends T.cl h⟩)
theorem ok_merged (T : Txt K mg A) : FnOk P w K mg base CX0 1 A.a_merged A.fd_merged ["entries"] (sp_merged K A) :=
  T.F_merged.ok sc_merged (fun vs H Q E h => by obtain ⟨_, _, _, _, _, rfl, _⟩ := h; rfl) (fun cdv Ar outer s H vs Q E hr h => ⟨t_merged K A E, by exact (pss_cons (ps_set (i := 1) sc_merged.nd rfl (Or.inl rfl) pe_dnewK)
 (pss_cons (ps_for PassesOwn.never rfl (pi_tup (pv 0)) (pg_name (i := 2) sc_merged.nd rfl (Or.inl rfl)) (pss_one (ps_for PassesOwn.never rfl (pi_tup (pv 2)) (pg_name (i := 3) sc_merged.nd rfl (Or.inl rfl)) (pss_one (ps_dput (hu_of hr) (pv 1) (pv 3) pe_bl rfl)))))
 (pss_one (ps_ret (pe_callB cr_sorted (by rfl) T.z_sorted (by decide +kernel) (pa_cons (pe_callTy (call_list_dK rfl) (by rfl) T.z_list (by decide +kernel) (pa_cons (pv 1) pa_nil)) pa_nil)))))), p_merged T.cl h⟩)
theorem ok__law_draws (T : Txt K mg A) : FnOk P w K mg base CX0 1 A.a__law_draws A.fd__law_draws ["script", "count"] (sp__law_draws K A) :=
  T.F__law_draws.ok sc__law_draws (fun vs H Q E h => by obtain ⟨_, _, _, rfl, _⟩ := h; rfl) (fun cdv Ar outer s H vs Q E hr h => ⟨t__law_draws K A E, by exact (pss_cons (ps_set (i := 2) sc__law_draws.nd rfl (Or.inl rfl) (pe_callTy call_list_of (by rfl) T.z_list (by decide +kernel) (pa_cons (pv 0) pa_nil)))
 (pss_cons (ps_if (pt_cmpR op_eq (pe_callB call_len_seq (by rfl) T.z_len (by decide +kernel) (pa_cons (pv 2) pa_nil)) pe_int (nomark _)) (pss_one (ps_set (i := 2) sc__law_draws.nd rfl (Or.inl rfl) (pe_lst (pa_cons pe_int pa_nil)))) pss_nil)
 (pss_cons (ps_set (i := 3) sc__law_draws.nd rfl (Or.inl rfl) (pe_lst pa_nil))
 (pss_cons (ps_set (i := 4) sc__law_draws.nd rfl (Or.inl rfl) pe_int)
 (pss_cons (ps_for PassesOwn.never rfl (pi_range1 rfl T.z_range (pa_cons (pv 1) pa_nil)) (pg_name (i := 5) sc__law_draws.nd rfl (Or.inl rfl)) (pss_cons (ps_set (i := 6) sc__law_draws.nd rfl (Or.inl rfl) (pe_op op_mod (pv 5) (pe_callB call_len_seq (by rfl) T.z_len (by decide +kernel) (pa_cons (pv 2) pa_nil))))
 (pss_cons (ps_set (i := 7) sc__law_draws.nd rfl (Or.inl rfl) (pe_ix ix_list (pv 2) (pv 6) (fun _ _ => rfl)))
 (pss_cons (ps_set (i := 4) sc__law_draws.nd rfl (Or.inl rfl) (pe_op op_mod (pe_callTy call_int1 (by rfl) T.z_int (by decide +kernel) (pa_cons (pe_op op_add (pe_op op_add (pe_op op_add (pe_op op_mulW (pv 4) pe_int) (pe_op op_mulW (pe_op op_mod (pe_callTy call_int1 (by rfl) T.z_int (by decide +kernel) (pa_cons (pv 7) pa_nil)) pe_int) pe_int)) (pe_op op_mulW (pv 5) pe_int)) pe_int) pa_nil)) pe_int))
 (pss_cons (ps_set (i := 8) sc__law_draws.nd rfl (Or.inl rfl) (pe_op op_mod (pe_callTy call_int1 (by rfl) T.z_int (by decide +kernel) (pa_cons (pe_op op_add (pe_op op_add (pe_op op_mulW (pv 4) (pv 4)) (pe_op op_mulW pe_int (pv 4))) (pv 5)) pa_nil)) pe_int))
 (pss_one (ps_if (pt_cmpR op_ge (pv 7) (pe_op op_pow pe_int pe_int) (nomark _)) (pss_cons (ps_expr (pe_bm PySem.F.plainAttrs_list PySem.F.slot_list_append PySem.F.type_list_append mt_append (pv 3) (pa_cons (pe_op op_mod (pe_callTy call_int1 (by rfl) T.z_int (by decide +kernel) (pa_cons (pv 7) pa_nil)) pe_int) pa_nil)))
 (pss_one (ps_asg (pe_op op_fdivW (pv 7) pe_int) (pg_sub (pv 2) (pv 6) set_list)))) (pss_one (ps_expr (pe_bm PySem.F.plainAttrs_list PySem.F.slot_list_append PySem.F.type_list_append mt_append (pv 3) (pa_cons (pe_op op_mod (pe_callTy call_int1 (by rfl) T.z_int (by decide +kernel) (pa_cons (pv 8) pa_nil)) pe_int) pa_nil)))))))))))
 (pss_cons (ps_expr (pe_bm0 PySem.F.plainAttrs_list PySem.F.slot_list_reverse PySem.F.type_list_reverse mt_reverse (pv 3)))
 (pss_one (ps_ret (pv 3))))))))), p__law_draws T.cl h⟩)
theorem ok__law_take (T : Txt K mg A) : FnOk P w K mg base CX0 1 A.a__law_take A.fd__law_take ["draws", "limit"] (sp__law_take K A) :=
  T.F__law_take.ok sc__law_take (fun vs H Q E h => by obtain ⟨_, _, _, rfl, _⟩ := h; rfl) (fun cdv Ar outer s H vs Q E hr h => ⟨t__law_take K A E, by exact (pss_cons (ps_if (pt_cmpR op_eq (pe_callB call_len_seq (by rfl) T.z_len (by decide +kernel) (pa_cons (pv 0) pa_nil)) pe_int (nomark _)) (pss_one (ps_ret pe_int)) pss_nil)
 (pss_one (ps_ret (pe_op op_mod (pe_callTy call_int1 (by rfl) T.z_int (by decide +kernel) (pa_cons (pe_bm0 PySem.F.plainAttrs_list PySem.F.slot_list_pop PySem.F.type_list_pop mt_pop (pv 0)) pa_nil)) (pv 1))))), p__law_take T.cl h⟩)
theorem ok__law_is_integer (T : Txt K mg A) : FnOk P w K mg base CX0 1 A.a__law_is_integer A.fd__law_is_integer ["actual"] (sp__law_is_integer K A) :=
  T.F__law_is_integer.ok sc__law_is_integer (fun vs H Q E h => by obtain ⟨_, rfl, _⟩ := h; rfl) (fun cdv Ar outer s H vs Q E hr h => ⟨t__law_is_integer K A E, by exact (pss_one (ps_ret (pe_and (pe_callB call_isi (by rfl) T.z_isinstance (by decide +kernel) (pa_cons (pv 0) (pa_cons (pe_bltn (v := .ty "int") (by rfl) T.z_int (by decide +kernel) rfl) pa_nil))) (pe_one (pe_not (pe_callB call_isi (by rfl) T.z_isinstance (by decide +kernel) (pa_cons (pv 0) (pa_cons (pe_bltn (v := .ty "bool") (by rfl) T.z_bool (by decide +kernel) rfl) pa_nil)))))))), p__law_is_integer T.cl h⟩)
theorem ok__law_lives (T : Txt K mg A) : FnOk P w K mg base CX0 1 A.a__law_lives A.fd__law_lives ["moves", "goods", "starts"] (sp__law_lives K A) :=
  T.F__law_lives.ok sc__law_lives (fun vs H Q E h => by obtain ⟨_, _, _, _, _, _, _, _, rfl, _⟩ := h; rfl) (fun cdv Ar outer s H vs Q E hr h => ⟨t__law_lives K A E, by exact (pss_cons (ps_set (i := 3) sc__law_lives.nd rfl (Or.inl rfl) (pe_op op_rep (pe_lst (pa_cons pe_bl pa_nil)) (pe_callB call_len_seq (by rfl) T.z_len (by decide +kernel) (pa_cons (pv 0) pa_nil))))
 (pss_cons (ps_for PassesOwn.never rfl (pi_range1 rfl T.z_range (pa_cons (pe_op op_add (pe_callB call_len_seq (by rfl) T.z_len (by decide +kernel) (pa_cons (pv 0) pa_nil)) pe_int) pa_nil)) (pg_name (i := 4) sc__law_lives.nd rfl (Or.inl rfl)) (pss_cons (ps_set (i := 5) sc__law_lives.nd rfl (Or.inl rfl) (pe_op op_rep (pe_lst (pa_cons pe_bl pa_nil)) (pe_callB call_len_seq (by rfl) T.z_len (by decide +kernel) (pa_cons (pv 0) pa_nil))))
 (pss_cons (ps_for PassesOwn.never rfl (pi_range1 rfl T.z_range (pa_cons (pe_op op_add (pe_callB call_len_seq (by rfl) T.z_len (by decide +kernel) (pa_cons (pv 0) pa_nil)) pe_int) pa_nil)) (pg_name (i := 6) sc__law_lives.nd rfl (Or.inl rfl)) (pss_cons (ps_set (i := 7) sc__law_lives.nd rfl (Or.inl rfl) pe_bl)
 (pss_cons (ps_for PassesOwn.never rfl (pi_range1 rfl T.z_range (pa_cons (pe_callB call_len_seq (by rfl) T.z_len (by decide +kernel) (pa_cons (pv 0) pa_nil)) pa_nil)) (pg_name (i := 8) sc__law_lives.nd rfl (Or.inl rfl)) (pss_cons (ps_set (i := 9) sc__law_lives.nd rfl (Or.inl rfl) (pe_op op_sub (pe_op op_sub (pe_callB call_len_seq (by rfl) T.z_len (by decide +kernel) (pa_cons (pv 0) pa_nil)) pe_int) (pv 8)))
 (pss_one (ps_if (PW.pt (pw_and (pt_val (pe_ix ix_list (pv 3) (pv 9) (fun _ _ => rfl))) (pw_and1 (pt_not (pt_val (pe_ix ix_list (pv 5) (pv 9) (fun _ _ => rfl))))))) (pss_one (ps_for PassesOwn.never rfl (pi_list (pe_ix ix_list (pv 0) (pv 9) (fun _ _ => rfl))) (pg_name (i := 10) sc__law_lives.nd rfl (Or.inl rfl)) (pss_one (ps_if (PW.pt (pw_and (pt_val (pe_ix ix_list (pv 3) (pv 10) (fun _ _ => rfl))) (pw_and1 (PW.pt (pw_or (pt_val (pe_ix ix_list (pv 1) (pv 10) (fun _ _ => rfl))) (pw_or1 (pt_val (pe_ix ix_list (pv 5) (pv 10) (fun _ _ => rfl))))))))) (pss_cons (ps_asg pe_bl (pg_sub (pv 5) (pv 9) set_list))
 (pss_one (ps_set (i := 7) sc__law_lives.nd rfl (Or.inl rfl) pe_bl))) pss_nil)))) pss_nil))))
 (pss_one (ps_if (pt_not (pt_val (pv 7))) (pss_one ps_break) pss_nil)))))
 (pss_cons (ps_if (pt_cmpR (op_eqD hr.units) (pv 5) (pv 3) (nomark _)) (pss_one ps_break) pss_nil)
 (pss_one (ps_set (i := 3) sc__law_lives.nd rfl (Or.inl rfl) (pv 5)))))))
 (pss_cons (ps_for PassesOwn.never rfl (pi_list (pv 2)) (pg_name (i := 11) sc__law_lives.nd rfl (Or.inl rfl)) (pss_one (ps_if (pt_val (pe_ix ix_list (pv 3) (pv 11) (fun _ _ => rfl))) (pss_one (ps_ret pe_bl)) pss_nil)))
 (pss_one (ps_ret pe_bl))))), p__law_lives T.cl h⟩)
theorem ok__law_copy (T : Txt K mg A) : FnOk P w K mg base CX0 1 A.a__law_copy A.fd__law_copy ["rows"] (sp__law_copy K A) :=
  T.F__law_copy.ok sc__law_copy (fun vs H Q E h => by obtain ⟨_, _, _, _, rfl, _⟩ := h; rfl) (fun cdv Ar outer s H vs Q E hr h => ⟨t__law_copy K A E, by exact (pss_one (ps_ret (pe_lc (own := [("row", 1)]) rfl sc__law_copy.nd (pi_list (pv 0)) (blkOk_by (N := ["rows", "row", "entry"]) (sc := defScope s__law_copy) (own := [("row", 1)]) (by decide +kernel)) (fun _ _ _ _ _ => (pg_name (i := 1) sc__law_copy.nd rfl (Or.inl rfl))) (fun _ _ _ _ _ => pts_nil) (fun _ _ _ _ _ => (pe_lc (own := [("entry", 2)]) rfl sc__law_copy.nd (pi_list (pv 1)) (blk_in (N := ["rows", "row", "entry"]) (sc0 := defScope s__law_copy) (own := [("entry", 2)]) rfl (by decide +kernel)) (fun _ _ _ _ _ => (pg_name (i := 2) sc__law_copy.nd rfl (Or.inl rfl))) (fun _ _ _ _ _ => pts_nil) (fun _ _ _ _ _ => (pe_callTy call_list_of (by rfl) T.z_list (by decide +kernel) (pa_cons (pv 2) pa_nil)))))))), p__law_copy T.cl h⟩)
theorem ok__law_merged (T : Txt K mg A) : FnOk P w K mg base CX0 1 A.a__law_merged A.fd__law_merged ["rows", "letters"] (sp__law_merged K A) :=
  T.F__law_merged.ok sc__law_merged (fun vs H Q E h => by obtain ⟨_, _, _, _, _, _, rfl, _⟩ := h; rfl) (fun cdv Ar outer s H vs Q E hr h => ⟨t__law_merged K A E, by exact (pss_cons (ps_set (i := 2) sc__law_merged.nd rfl (Or.inl rfl) (pe_lst pa_nil))
 (pss_cons (ps_for PassesOwn.never rfl (pi_list (pv 0)) (pg_name (i := 3) sc__law_merged.nd rfl (Or.inl rfl)) (pss_cons (ps_set (i := 4) sc__law_merged.nd rfl (Or.inl rfl) (pe_lst pa_nil))
 (pss_cons (ps_for PassesOwn.never rfl (pi_range1 rfl T.z_range (pa_cons (pv 1) pa_nil)) (pg_name (i := 5) sc__law_merged.nd rfl (Or.inl rfl)) (pss_cons (ps_set (i := 6) sc__law_merged.nd rfl (Or.inl rfl) (pe_lst pa_nil))
 (pss_cons (ps_for PassesOwn.never rfl (pi_range1 rfl T.z_range (pa_cons (pe_callB call_len_seq (by rfl) T.z_len (by decide +kernel) (pa_cons (pv 3) pa_nil)) pa_nil)) (pg_name (i := 7) sc__law_merged.nd rfl (Or.inl rfl)) (pss_one (ps_if (pt_cmpR op_eq (pe_op op_mod (pv 7) (pv 1)) (pv 5) (nomark _)) (pss_one (ps_set (i := 6) sc__law_merged.nd rfl (Or.inl rfl) (pe_op op_catD (pv 6) (pe_ix ix_list (pv 3) (pv 7) (fun _ _ => rfl))))) pss_nil)))
 (pss_one (ps_expr (pe_bm PySem.F.plainAttrs_list PySem.F.slot_list_append PySem.F.type_list_append mt_append (pv 4) (pa_cons (pv 6) pa_nil)))))))
 (pss_one (ps_expr (pe_bm PySem.F.plainAttrs_list PySem.F.slot_list_append PySem.F.type_list_append mt_append (pv 2) (pa_cons (pv 4) pa_nil)))))))
 (pss_one (ps_ret (pv 2))))), p__law_merged T.cl h⟩)
theorem ok_Automaton_init (T : Txt K mg A) : FnOk P w K mg base (L2.CX P w) 2 A.a_Automaton_init A.fd_Automaton_init ["self", "letters", "initial", "accepting", "rows"] (sp_Automaton_init K A) :=
  T.F_Automaton_init.okX sc_Automaton_init (fun vs H Q E h => by obtain ⟨_, _, _, _, _, _, _, _, _, _, _, rfl, _⟩ := h; rfl) (fun cdv Ar outer s H vs Q E hr h => ⟨t_Automaton_init K A E, by exact (pss_cons (ps_if (PW.pt (pw_or (pt_cmpR op_lt (pv 1) pe_int (nomark _)) (pw_or1 (pt_cmpR op_eq (pe_callB call_len_seq (by rfl) T.z_len (by decide +kernel) (pa_cons (pv 4) pa_nil)) pe_int (nomark _))))) (pss_one (ps_raise rfl (takes_of rfl rfl rfl rfl) (pmk_own PySem.F.excBase_ValueError T.x_InvalidAutomaton T.g_InvalidAutomaton T.k_InvalidAutomaton (raises_own T.s_InvalidAutomaton T.t_InvalidAutomaton) (by exact rfl)))) pss_nil)
 (pss_cons (ps_if (PW.pt (pw_or (pt_not (pt_val (pe_call (ok_ascends T) (hr.mono (by decide)) rfl T.g_ascends T.k_ascends T.b_ascends .nil pass0 (pa_cons (pv 2) (pa_cons (pe_callB call_len_seq (by rfl) T.z_len (by decide +kernel) (pa_cons (pv 4) pa_nil)) pa_nil))))) (pw_or1 (pt_not (pt_val (pe_call (ok_ascends T) (hr.mono (by decide)) rfl T.g_ascends T.k_ascends T.b_ascends .nil pass0 (pa_cons (pv 3) (pa_cons (pe_callB call_len_seq (by rfl) T.z_len (by decide +kernel) (pa_cons (pv 4) pa_nil)) pa_nil)))))))) (pss_one (ps_raise rfl (takes_of rfl rfl rfl rfl) (pmk_own PySem.F.excBase_ValueError T.x_InvalidAutomaton T.g_InvalidAutomaton T.k_InvalidAutomaton (raises_own T.s_InvalidAutomaton T.t_InvalidAutomaton) (by exact rfl)))) pss_nil)
 (pss_cons (ps_for (passes_of rfl) rfl (pi_seq (pv 4)) (pg_name (i := 5) sc_Automaton_init.nd rfl (Or.inl rfl)) (pss_cons (ps_if (pt_cmpR op_ne (pe_callB call_len_seq (by rfl) T.z_len (by decide +kernel) (pa_cons (pv 5) pa_nil)) (pv 1) (nomark _)) (pss_one (ps_raise rfl (takes_of rfl rfl rfl rfl) (pmk_own PySem.F.excBase_ValueError T.x_InvalidAutomaton T.g_InvalidAutomaton T.k_InvalidAutomaton (raises_own T.s_InvalidAutomaton T.t_InvalidAutomaton) (by exact rfl)))) pss_nil)
 (pss_one (ps_if (pt_not (pt_val (pe_callB (cr_all rfl) (by rfl) T.z_all (by decide +kernel) (pa_cons (pe_lc (own := [("entry", 6)]) rfl sc_Automaton_init.nd (pi_seq (pv 5)) (blkOk_by (N := ["self", "letters", "initial", "accepting", "rows", "row", "entry"]) (sc := defScope s_Automaton_init) (own := [("entry", 6)]) (by decide +kernel)) (fun _ _ _ _ _ => (pg_name (i := 6) sc_Automaton_init.nd rfl (Or.inl rfl))) (fun _ _ _ _ _ => pts_nil) (fun _ _ _ _ _ => (pe_call (ok_ascends T) (hr.mono (by decide)) rfl T.g_ascends T.k_ascends T.b_ascends .nil pass0 (pa_cons (pv 6) (pa_cons (pe_callB call_len_seq (by rfl) T.z_len (by decide +kernel) (pa_cons (pv 4) pa_nil)) pa_nil))))) pa_nil)))) (pss_one (ps_raise rfl (takes_of rfl rfl rfl rfl) (pmk_own PySem.F.excBase_ValueError T.x_InvalidAutomaton T.g_InvalidAutomaton T.k_InvalidAutomaton (raises_own T.s_InvalidAutomaton T.t_InvalidAutomaton) (by exact rfl)))) pss_nil))))
 (pss_cons (ps_fld (pv 0) (pv 1) rfl)
 (pss_cons (ps_fld (pv 0) (pe_callTy call_tuple_of (by rfl) T.z_tuple (by decide +kernel) (pa_cons (pv 2) pa_nil)) rfl)
 (pss_cons (ps_fld (pv 0) (pe_callTy call_tuple_of (by rfl) T.z_tuple (by decide +kernel) (pa_cons (pv 3) pa_nil)) rfl)
 (pss_one (ps_fld (pv 0) (pe_callTy call_tuple_of (by rfl) T.z_tuple (by decide +kernel) (pa_cons (pe_lc (own := [("row", 5)]) rfl sc_Automaton_init.nd (pi_seq (pv 4)) (blkOk_by (N := ["self", "letters", "initial", "accepting", "rows", "row", "entry"]) (sc := defScope s_Automaton_init) (own := [("row", 5)]) (by decide +kernel)) (fun _ _ _ _ _ => (pg_name (i := 5) sc_Automaton_init.nd rfl (Or.inl rfl))) (fun _ _ _ _ _ => pts_nil) (fun _ _ _ _ _ => (pe_callTy call_tuple_of (by rfl) T.z_tuple (by decide +kernel) (pa_cons (pe_lc (own := [("entry", 6)]) rfl sc_Automaton_init.nd (pi_seq (pv 5)) (blk_in (N := ["self", "letters", "initial", "accepting", "rows", "row", "entry"]) (sc0 := defScope s_Automaton_init) (own := [("entry", 6)]) rfl (by decide +kernel)) (fun _ _ _ _ _ => (pg_name (i := 6) sc_Automaton_init.nd rfl (Or.inl rfl))) (fun _ _ _ _ _ => pts_nil) (fun _ _ _ _ _ => (pe_callTy call_tuple_of (by rfl) T.z_tuple (by decide +kernel) (pa_cons (pv 6) pa_nil)))) pa_nil)))) pa_nil)) rfl)))))))), p_Automaton_init T.cl h⟩)
theorem ok__law_integers (T : Txt K mg A) : FnOk P w K mg base CX0 2 A.a__law_integers A.fd__law_integers ["actual", "low", "high"] (sp__law_integers K A) :=
  T.F__law_integers.ok sc__law_integers (fun vs H Q E h => by obtain ⟨_, _, _, _, rfl, _⟩ := h; rfl) (fun cdv Ar outer s H vs Q E hr h => ⟨t__law_integers K A E, by exact (pss_cons (ps_if (pt_not (pt_val (pe_callB call_isi (by rfl) T.z_isinstance (by decide +kernel) (pa_cons (pv 0) (pa_cons (pe_bltn (v := .ty "tuple") (by rfl) T.z_tuple (by decide +kernel) rfl) pa_nil))))) (pss_one (ps_ret pe_bl)) pss_nil)
 (pss_cons (ps_for PassesOwn.never rfl (pi_tup (pv 0)) (pg_name (i := 3) sc__law_integers.nd rfl (Or.inl rfl)) (pss_one (ps_if (PW.pt (pw_or (pt_not (pt_val (pe_call (ok__law_is_integer T) (hr.mono (by decide)) rfl T.g__law_is_integer T.k__law_is_integer T.b__law_is_integer .nil pass0 (pa_cons (pv 3) pa_nil)))) (pw_or (pt_cmpR op_lt (pv 3) (pv 1) (nomark _)) (pw_or1 (pt_cmpR op_ge (pv 3) (pv 2) (nomark _)))))) (pss_one (ps_ret pe_bl)) pss_nil)))
 (pss_one (ps_ret pe_bl)))), p__law_integers T.cl h⟩)
theorem ok__law_lasso (T : Txt K mg A) : FnOk P w K mg base CX0 2 A.a__law_lasso A.fd__law_lasso ["draws", "letters", "longest"] (sp__law_lasso K A) :=
  T.F__law_lasso.ok sc__law_lasso (fun vs H Q E h => by obtain ⟨_, _, _, _, _, rfl, _⟩ := h; rfl) (fun cdv Ar outer s H vs Q E hr h => ⟨t__law_lasso K A E, by exact (pss_cons (ps_setLc (i := 4) (own := [("k", 3)]) rfl sc__law_lasso.nd rfl rfl (sw_true rfl rfl rfl (by decide +kernel)) (pi_range1 rfl T.z_range (pa_cons (pe_call (ok__law_take T) (hr.mono (by decide)) rfl T.g__law_take T.k__law_take T.b__law_take .nil pass0 (pa_cons (pv 0) (pa_cons (pe_op op_add (pv 2) pe_int) pa_nil))) pa_nil)) (blkOk_by (N := ["draws", "letters", "longest", "k", "head", "loop"]) (sc := defScope s__law_lasso) (own := [("k", 3)]) (by decide +kernel)) (fun _ _ _ _ _ => (pg_name (i := 3) sc__law_lasso.nd rfl (Or.inl rfl))) (fun _ _ _ _ _ => pts_nil) (fun _ _ _ _ _ => (pe_call (ok__law_take T) (hr.mono (by decide)) rfl T.g__law_take T.k__law_take T.b__law_take .nil pass0 (pa_cons (pv 0) (pa_cons (pv 1) pa_nil)))))
 (pss_cons (ps_setLc (i := 5) (own := [("k", 3)]) rfl sc__law_lasso.nd rfl rfl (sw_true rfl rfl rfl (by decide +kernel)) (pi_range1 rfl T.z_range (pa_cons (pe_op op_add pe_int (pe_call (ok__law_take T) (hr.mono (by decide)) rfl T.g__law_take T.k__law_take T.b__law_take .nil pass0 (pa_cons (pv 0) (pa_cons (pv 2) pa_nil)))) pa_nil)) (blkOk_by (N := ["draws", "letters", "longest", "k", "head", "loop"]) (sc := defScope s__law_lasso) (own := [("k", 3)]) (by decide +kernel)) (fun _ _ _ _ _ => (pg_name (i := 3) sc__law_lasso.nd rfl (Or.inl rfl))) (fun _ _ _ _ _ => pts_nil) (fun _ _ _ _ _ => (pe_call (ok__law_take T) (hr.mono (by decide)) rfl T.g__law_take T.k__law_take T.b__law_take .nil pass0 (pa_cons (pv 0) (pa_cons (pv 1) pa_nil)))))
 (pss_one (ps_ret (pe_tup (pa_cons (pe_callTy call_tuple_of (by rfl) T.z_tuple (by decide +kernel) (pa_cons (pv 4) pa_nil)) (pa_cons (pe_callTy call_tuple_of (by rfl) T.z_tuple (by decide +kernel) (pa_cons (pv 5) pa_nil)) pa_nil))))))), p__law_lasso T.cl h⟩)
theorem ok__law_ascending (T : Txt K mg A) : FnOk P w K mg base CX0 2 A.a__law_ascending A.fd__law_ascending ["draws", "limit", "share"] (sp__law_ascending K A) :=
  T.F__law_ascending.ok sc__law_ascending (fun vs H Q E h => by obtain ⟨_, _, _, _, _, rfl, _⟩ := h; rfl) (fun cdv Ar outer s H vs Q E hr h => ⟨t__law_ascending K A E, by exact (pss_one (ps_ret (pe_lc (own := [("k", 3)]) rfl sc__law_ascending.nd (pi_range1 rfl T.z_range (pa_cons (pv 1) pa_nil)) (blkOk_by (N := ["draws", "limit", "share", "k"]) (sc := defScope s__law_ascending) (own := [("k", 3)]) (by decide +kernel)) (fun _ _ _ _ _ => (pg_name (i := 3) sc__law_ascending.nd rfl (Or.inl rfl))) (fun _ _ _ _ _ => (pts_one (pt_cmpR op_lt (pe_call (ok__law_take T) (hr.mono (by decide)) rfl T.g__law_take T.k__law_take T.b__law_take .nil pass0 (pa_cons (pv 0) (pa_cons pe_int pa_nil))) (pv 2) (nomark _)))) (fun _ _ _ _ _ => (pv 3))))), p__law_ascending T.cl h⟩)
theorem ok__law_accepts (T : Txt K mg A) : FnOk P w K mg base CX0 2 A.a__law_accepts A.fd__law_accepts ["rows", "initial", "accepting", "lasso"] (sp__law_accepts K A) :=
  T.F__law_accepts.ok sc__law_accepts (fun vs H Q E h => by obtain ⟨_, _, _, _, _, _, _, _, _, _, _, _, _, rfl, _⟩ := h; rfl) (fun cdv Ar outer s H vs Q E hr h => ⟨t__law_accepts K A E, by exact (pss_cons (ps_set (i := 4) sc__law_accepts.nd rfl (Or.inl rfl) (pe_op op_cat (pe_callTy call_list_of (by rfl) T.z_list (by decide +kernel) (pa_cons (pe_ix ix_tup (pv 3) pe_int (fun _ _ => rfl)) pa_nil)) (pe_callTy call_list_of (by rfl) T.z_list (by decide +kernel) (pa_cons (pe_ix ix_tup (pv 3) pe_int (fun _ _ => rfl)) pa_nil))))
 (pss_cons (ps_set (i := 5) sc__law_accepts.nd rfl (Or.inr rfl) (pe_callB call_len_seq (by rfl) T.z_len (by decide +kernel) (pa_cons (pv 4) pa_nil)))
 (pss_cons (ps_set (i := 6) sc__law_accepts.nd rfl (Or.inl rfl) (pe_lst pa_nil))
 (pss_cons (ps_set (i := 7) sc__law_accepts.nd rfl (Or.inl rfl) (pe_lst pa_nil))
 (pss_cons (ps_for PassesOwn.never rfl (pi_range1 rfl T.z_range (pa_cons (pe_callB call_len_seq (by rfl) T.z_len (by decide +kernel) (pa_cons (pv 0) pa_nil)) pa_nil)) (pg_name (i := 8) sc__law_accepts.nd rfl (Or.inl rfl)) (pss_one (ps_for PassesOwn.never rfl (pi_range1 rfl T.z_range (pa_cons (pv 5) pa_nil)) (pg_name (i := 9) sc__law_accepts.nd rfl (Or.inl rfl)) (pss_cons (ps_set (i := 10) sc__law_accepts.nd rfl (Or.inr rfl) (pe_op op_add (pv 9) pe_int))
 (pss_cons (ps_if (pt_cmpR op_eq (pv 10) (pv 5) (nomark _)) (pss_one (ps_set (i := 10) sc__law_accepts.nd rfl (Or.inr rfl) (pe_callB call_len_seq (by rfl) T.z_len (by decide +kernel) (pa_cons (pe_ix ix_tup (pv 3) pe_int (fun _ _ => rfl)) pa_nil)))) pss_nil)
 (pss_cons (ps_expr (pe_bm PySem.F.plainAttrs_list PySem.F.slot_list_append PySem.F.type_list_append mt_append (pv 6) (pa_cons (pe_lc (own := [("target", 11)]) rfl sc__law_accepts.nd (pi_seq (pe_ix ix_seq (pe_ix ix_seq (pv 0) (pv 8) (fun _ _ => rfl)) (pe_ix ix_list (pv 4) (pv 9) (fun _ _ => rfl)) (fun _ _ => rfl))) (blkOk_by (N := ["rows", "initial", "accepting", "lasso", "letters", "size", "moves", "goods", "state", "place", "after", "target"]) (sc := defScope s__law_accepts) (own := [("target", 11)]) (by decide +kernel)) (fun _ _ _ _ _ => (pg_name (i := 11) sc__law_accepts.nd rfl (Or.inl rfl))) (fun _ _ _ _ _ => pts_nil) (fun _ _ _ _ _ => (pe_op op_add (pe_op op_mulW (pv 11) (pv 5)) (pv 10)))) pa_nil)))
 (pss_one (ps_expr (pe_bm PySem.F.plainAttrs_list PySem.F.slot_list_append PySem.F.type_list_append mt_append (pv 7) (pa_cons (pe_cmpR op_in_seq (pv 8) (pv 2) (by rfl)) pa_nil))))))))))
 (pss_one (ps_ret (pe_call (ok__law_lives T) (hr.mono (by decide)) rfl T.g__law_lives T.k__law_lives T.b__law_lives .nil pass0 (pa_cons (pv 6) (pa_cons (pv 7) (pa_cons (pe_lc (own := [("state", 8)]) rfl sc__law_accepts.nd (pi_seq (pv 1)) (blkOk_by (N := ["rows", "initial", "accepting", "lasso", "letters", "size", "moves", "goods", "state", "place", "after", "target"]) (sc := defScope s__law_accepts) (own := [("state", 8)]) (by decide +kernel)) (fun _ _ _ _ _ => (pg_name (i := 8) sc__law_accepts.nd rfl (Or.inl rfl))) (fun _ _ _ _ _ => pts_nil) (fun _ _ _ _ _ => (pe_op op_mulW (pv 8) (pv 5)))) pa_nil))))))))))), p__law_accepts T.cl h⟩)
theorem ok__law_automaton (T : Txt K mg A) : FnOk P w K mg base CX0 3 A.a__law_automaton A.fd__law_automaton ["draws", "letters", "most"] (sp__law_automaton K A) :=
  T.F__law_automaton.ok sc__law_automaton (fun vs H Q E h => by obtain ⟨_, _, _, _, _, rfl, _⟩ := h; rfl) (fun cdv Ar outer s H vs Q E hr h => ⟨t__law_automaton K A E, by exact (pss_cons (ps_set (i := 3) sc__law_automaton.nd rfl (Or.inr rfl) (pe_op op_add pe_int (pe_call (ok__law_take T) (hr.mono (by decide)) rfl T.g__law_take T.k__law_take T.b__law_take .nil pass0 (pa_cons (pv 0) (pa_cons (pv 2) pa_nil)))))
 (pss_cons (ps_set (i := 4) sc__law_automaton.nd rfl (Or.inr rfl) (pe_op op_add pe_int (pe_call (ok__law_take T) (hr.mono (by decide)) rfl T.g__law_take T.k__law_take T.b__law_take .nil pass0 (pa_cons (pv 0) (pa_cons pe_int pa_nil)))))
 (pss_cons (ps_set (i := 5) sc__law_automaton.nd rfl (Or.inl rfl) (pe_call (ok__law_ascending T) (hr.mono (by decide)) rfl T.g__law_ascending T.k__law_ascending T.b__law_ascending .nil pass0 (pa_cons (pv 0) (pa_cons (pv 3) (pa_cons pe_int pa_nil)))))
 (pss_cons (ps_set (i := 6) sc__law_automaton.nd rfl (Or.inl rfl) (pe_call (ok__law_ascending T) (hr.mono (by decide)) rfl T.g__law_ascending T.k__law_ascending T.b__law_ascending .nil pass0 (pa_cons (pv 0) (pa_cons (pv 3) (pa_cons pe_int pa_nil)))))
 (pss_cons (ps_if (PW.pt (pw_and (pt_cmpR op_eq (pe_callB call_len_seq (by rfl) T.z_len (by decide +kernel) (pa_cons (pv 5) pa_nil)) pe_int (nomark _)) (pw_and1 (pt_cmpR op_gt (pe_call (ok__law_take T) (hr.mono (by decide)) rfl T.g__law_take T.k__law_take T.b__law_take .nil pass0 (pa_cons (pv 0) (pa_cons pe_int pa_nil))) pe_int (nomark _))))) (pss_one (ps_set (i := 5) sc__law_automaton.nd rfl (Or.inl rfl) (pe_lst (pa_cons pe_int pa_nil)))) pss_nil)
 (pss_cons (ps_set (i := 7) sc__law_automaton.nd rfl (Or.inl rfl) (pe_lst pa_nil))
 (pss_cons (ps_for PassesOwn.never rfl (pi_range1 rfl T.z_range (pa_cons (pv 3) pa_nil)) (pg_name (i := 8) sc__law_automaton.nd rfl (Or.inl rfl)) (pss_one (ps_expr (pe_bm PySem.F.plainAttrs_list PySem.F.slot_list_append PySem.F.type_list_append mt_append (pv 7) (pa_cons (pe_lc (own := [("letter", 9)]) rfl sc__law_automaton.nd (pi_range1 rfl T.z_range (pa_cons (pv 1) pa_nil)) (blkOk_by (N := ["draws", "letters", "most", "count", "share", "initial", "accepting", "rows", "state", "letter"]) (sc := defScope s__law_automaton) (own := [("letter", 9)]) (by decide +kernel)) (fun _ _ _ _ _ => (pg_name (i := 9) sc__law_automaton.nd rfl (Or.inl rfl))) (fun _ _ _ _ _ => pts_nil) (fun _ _ _ _ _ => (pe_call (ok__law_ascending T) (hr.mono (by decide)) rfl T.g__law_ascending T.k__law_ascending T.b__law_ascending .nil pass0 (pa_cons (pv 0) (pa_cons (pv 3) (pa_cons (pv 4) pa_nil)))))) pa_nil)))))
 (pss_one (ps_ret (pe_tup (pa_cons (pv 5) (pa_cons (pv 6) (pa_cons (pv 7) pa_nil))))))))))))), p__law_automaton T.cl h⟩)
theorem ok__law_states (T : Txt K mg A) : FnOk P w K mg base CX0 3 A.a__law_states A.fd__law_states ["actual", "count"] (sp__law_states K A) :=
  T.F__law_states.ok sc__law_states (fun vs H Q E h => by obtain ⟨_, _, _, rfl, _⟩ := h; rfl) (fun cdv Ar outer s H vs Q E hr h => ⟨t__law_states K A E, by exact (pss_cons (ps_if (pt_not (pt_val (pe_call (ok__law_integers T) (hr.mono (by decide)) rfl T.g__law_integers T.k__law_integers T.b__law_integers .nil pass0 (pa_cons (pv 0) (pa_cons pe_int (pa_cons (pv 1) pa_nil)))))) (pss_one (ps_ret pe_bl)) pss_nil)
 (pss_cons (ps_for PassesOwn.never rfl (pi_range2 rfl T.z_range (pa_cons pe_int (pa_cons (pe_callB call_len_seq (by rfl) T.z_len (by decide +kernel) (pa_cons (pv 0) pa_nil)) pa_nil))) (pg_name (i := 2) sc__law_states.nd rfl (Or.inl rfl)) (pss_one (ps_if (pt_cmpR op_ge (pe_ix ix_tup (pv 0) (pe_op op_sub (pv 2) pe_int) (fun _ _ => rfl)) (pe_ix ix_tup (pv 0) (pv 2) (fun _ _ => rfl)) (nomark _)) (pss_one (ps_ret pe_bl)) pss_nil)))
 (pss_one (ps_ret pe_bl)))), p__law_states T.cl h⟩)
theorem ok_hide (T : Txt K mg A) : FnOk P w K mg base (L2.CX P w) 4 A.a_hide A.fd_hide ["automaton", "letters"] (sp_hide K A) :=
  T.F_hide.okX sc_hide (fun vs H Q E h => by obtain ⟨_, _, _, _, _, _, _, rfl, _⟩ := h; rfl) (fun cdv Ar outer s H vs Q E hr h => ⟨t_hide K A E, by exact (pss_cons (ps_if (PW.pt (pw_or (pt_cmpR op_lt (pv 1) pe_int (nomark _)) (pw_or1 (pt_cmpR op_ne (pe_op op_mod (pe_fld (pv 0) rfl) (pv 1)) pe_int (nomark _))))) (pss_one (ps_raise rfl (takes_of rfl rfl rfl rfl) (pmk_own PySem.F.excBase_ValueError T.x_Mismatch T.g_Mismatch T.k_Mismatch (raises_own T.s_Mismatch T.t_Mismatch) (by exact rfl)))) pss_nil)
 (pss_cons (ps_set (i := 2) sc_hide.nd rfl (Or.inl rfl) (pe_lst pa_nil))
 (pss_cons (ps_for (passes_of rfl) rfl (pi_tup (pe_fld (pv 0) rfl)) (pg_name (i := 3) sc_hide.nd rfl (Or.inr rfl)) (pss_one (ps_expr (pe_bm PySem.F.plainAttrs_list PySem.F.slot_list_append PySem.F.type_list_append mt_append (pv 2) (pa_cons (pe_lc (own := [("letter", 4)]) rfl sc_hide.nd (pi_range1 rfl T.z_range (pa_cons (pv 1) pa_nil)) (blkOk_by (N := ["automaton", "letters", "rows", "row", "letter"]) (sc := defScope s_hide) (own := [("letter", 4)]) (by decide +kernel)) (fun _ _ _ _ _ => (pg_name (i := 4) sc_hide.nd rfl (Or.inl rfl))) (fun _ _ _ _ _ => pts_nil) (fun _ _ _ _ _ => (pe_call (ok_merged T) (hr.mono (by decide)) rfl T.g_merged T.k_merged T.b_merged .nil pass0 (pa_cons (pe_slice3 (pv 3) (po_some (pv 4)) (po_some (pv 1))) pa_nil)))) pa_nil)))))
 (pss_one (ps_ret (pe_make T.M_Automaton (ok_Automaton_init T) (hr.mono (by decide)) rfl T.g_Automaton T.b_Automaton_init .nil (passes_call (takes_of rfl rfl rfl rfl) (fun _ _ _ _ h => h)) (pa_cons (pv 1) (pa_cons (pe_fld (pv 0) rfl) (pa_cons (pe_fld (pv 0) rfl) (pa_cons (pv 2) pa_nil)))))))))), p_hide T.cl h⟩)
theorem ok_widen (T : Txt K mg A) : FnOk P w K mg base (L2.CX P w) 4 A.a_widen A.fd_widen ["automaton", "letters"] (sp_widen K A) :=
  T.F_widen.okX sc_widen (fun vs H Q E h => by obtain ⟨_, _, _, _, _, _, _, rfl, _⟩ := h; rfl) (fun cdv Ar outer s H vs Q E hr h => ⟨t_widen K A E, by exact (pss_cons (ps_if (PW.pt (pw_or (pt_cmpR op_lt (pv 1) pe_int (nomark _)) (pw_or1 (pt_cmpR op_ne (pe_op op_mod (pv 1) (pe_fld (pv 0) rfl)) pe_int (nomark _))))) (pss_one (ps_raise rfl (takes_of rfl rfl rfl rfl) (pmk_own PySem.F.excBase_ValueError T.x_Mismatch T.g_Mismatch T.k_Mismatch (raises_own T.s_Mismatch T.t_Mismatch) (by exact rfl)))) pss_nil)
 (pss_cons (ps_setLc (i := 3) (own := [("row", 2)]) rfl sc_widen.nd rfl rfl (sw_true rfl rfl rfl (by decide +kernel)) (pi_tup (pe_fld (pv 0) rfl)) (blkOk_by (N := ["automaton", "letters", "row", "rows"]) (sc := defScope s_widen) (own := [("row", 2)]) (by decide +kernel)) (fun _ _ _ _ _ => (pg_name (i := 2) sc_widen.nd rfl (Or.inl rfl))) (fun _ _ _ _ _ => pts_nil) (fun _ _ _ _ _ => (pe_op op_repTQ (pv 2) (pe_op op_fdivW (pv 1) (pe_fld (pv 0) rfl)))))
 (pss_one (ps_ret (pe_make T.M_Automaton (ok_Automaton_init T) (hr.mono (by decide)) rfl T.g_Automaton T.b_Automaton_init .nil (passes_call (takes_of rfl rfl rfl rfl) (fun _ _ _ _ h => h)) (pa_cons (pv 1) (pa_cons (pe_fld (pv 0) rfl) (pa_cons (pe_fld (pv 0) rfl) (pa_cons (pv 3) pa_nil))))))))), p_widen T.cl h⟩)
theorem ok__law_is_automaton (T : Txt K mg A) : FnOk P w K mg base CX0 4 A.a__law_is_automaton A.fd__law_is_automaton ["actual", "letters"] (sp__law_is_automaton K A) :=
  T.F__law_is_automaton.ok sc__law_is_automaton (fun vs H Q E h => by obtain ⟨_, _, _, _, _, rfl, _⟩ := h; rfl) (fun cdv Ar outer s H vs Q E hr h => ⟨t__law_is_automaton K A E, by exact (pss_cons (ps_if (PW.pt (pw_or (pt_not (pt_val (pe_call (ok__law_is_integer T) (hr.mono (by decide)) rfl T.g__law_is_integer T.k__law_is_integer T.b__law_is_integer .nil pass0 (pa_cons (pe_fld (pv 0) rfl) pa_nil)))) (pw_or1 (pt_cmpR op_ne (pe_fld (pv 0) rfl) (pv 1) (nomark _))))) (pss_one (ps_ret pe_bl)) pss_nil)
 (pss_cons (ps_if (PW.pt (pw_or (pt_not (pt_val (pe_callB call_isi (by rfl) T.z_isinstance (by decide +kernel) (pa_cons (pe_fld (pv 0) rfl) (pa_cons (pe_bltn (v := .ty "tuple") (by rfl) T.z_tuple (by decide +kernel) rfl) pa_nil))))) (pw_or1 (pt_cmpR op_eq (pe_callB call_len_seq (by rfl) T.z_len (by decide +kernel) (pa_cons (pe_fld (pv 0) rfl) pa_nil)) pe_int (nomark _))))) (pss_one (ps_ret pe_bl)) pss_nil)
 (pss_cons (ps_set (i := 2) sc__law_is_automaton.nd rfl (Or.inl rfl) (pe_callB call_len_seq (by rfl) T.z_len (by decide +kernel) (pa_cons (pe_fld (pv 0) rfl) pa_nil)))
 (pss_cons (ps_if (PW.pt (pw_or (pt_not (pt_val (pe_call (ok__law_states T) (hr.mono (by decide)) rfl T.g__law_states T.k__law_states T.b__law_states .nil pass0 (pa_cons (pe_fld (pv 0) rfl) (pa_cons (pv 2) pa_nil))))) (pw_or1 (pt_not (pt_val (pe_call (ok__law_states T) (hr.mono (by decide)) rfl T.g__law_states T.k__law_states T.b__law_states .nil pass0 (pa_cons (pe_fld (pv 0) rfl) (pa_cons (pv 2) pa_nil)))))))) (pss_one (ps_ret pe_bl)) pss_nil)
 (pss_cons (ps_for PassesOwn.never rfl (pi_tup (pe_fld (pv 0) rfl)) (pg_name (i := 3) sc__law_is_automaton.nd rfl (Or.inl rfl)) (pss_cons (ps_if (PW.pt (pw_or (pt_not (pt_val (pe_callB call_isi (by rfl) T.z_isinstance (by decide +kernel) (pa_cons (pv 3) (pa_cons (pe_bltn (v := .ty "tuple") (by rfl) T.z_tuple (by decide +kernel) rfl) pa_nil))))) (pw_or1 (pt_cmpR op_ne (pe_callB call_len_seq (by rfl) T.z_len (by decide +kernel) (pa_cons (pv 3) pa_nil)) (pv 1) (nomark _))))) (pss_one (ps_ret pe_bl)) pss_nil)
 (pss_one (ps_for PassesOwn.never rfl (pi_tup (pv 3)) (pg_name (i := 4) sc__law_is_automaton.nd rfl (Or.inl rfl)) (pss_one (ps_if (pt_not (pt_val (pe_call (ok__law_states T) (hr.mono (by decide)) rfl T.g__law_states T.k__law_states T.b__law_states .nil pass0 (pa_cons (pv 4) (pa_cons (pv 2) pa_nil))))) (pss_one (ps_ret pe_bl)) pss_nil))))))
 (pss_one (ps_ret pe_bl))))))), p__law_is_automaton T.cl h⟩)
theorem ok__law_hide_outcome (T : Txt K mg A) : FnOk P w K mg base CX0 5 A.a__law_hide_outcome A.fd__law_hide_outcome ["automaton", "letters"] (sp__law_hide_outcome K A) :=
  T.F__law_hide_outcome.ok sc__law_hide_outcome (fun vs H Q E h => by obtain ⟨_, _, _, _, _, _, _, rfl, _⟩ := h; rfl) (fun cdv Ar outer s H vs Q E hr h => ⟨t__law_hide_outcome K A E, by exact (pss_cons (ps_try_many (tb := fun W => (tAsg (tCallS (sp_hide K A) (WE W) (tCons (tVar 0) (tCons (tVar 1) tNil))) (gName 2))) (l := [(.ref A.C_Mismatch, fun a cls d => (tRet (tC .non)))]) (Wout := fun _ _ _ _ => False) rfl rfl takes0 (fun W pn xe tk po => (pss_one (ps_set (i := 2) sc__law_hide_outcome.nd rfl (Or.inl rfl) (pe_callS (ok_hide T) (hr.mono (by decide)) rfl T.g_hide T.k_hide T.b_hide (fun σ => passAt tk σ) (pa_cons (pv 0) (pa_cons (pv 1) pa_nil)))))) (HdsOk.cons (c := .ref A.C_Mismatch) ⟨rfl, by decide, .inl T.g_Mismatch⟩ (fun a oe cls d pn hz hf => (pss_one (ps_ret pe_non))) HdsOk.nil))
 (pss_one (ps_ret (pe_ifExp (pt_cmpR op_isN (pv 2) pe_non (nomark _)) pe_str (pv 2))))), p__law_hide_outcome T.cl h⟩)
theorem ok__law_widen_outcome (T : Txt K mg A) : FnOk P w K mg base CX0 5 A.a__law_widen_outcome A.fd__law_widen_outcome ["automaton", "letters"] (sp__law_widen_outcome K A) :=
  T.F__law_widen_outcome.ok sc__law_widen_outcome (fun vs H Q E h => by obtain ⟨_, _, _, _, _, _, _, rfl, _⟩ := h; rfl) (fun cdv Ar outer s H vs Q E hr h => ⟨t__law_widen_outcome K A E, by exact (pss_cons (ps_try_many (tb := fun W => (tAsg (tCallS (sp_widen K A) (WE W) (tCons (tVar 0) (tCons (tVar 1) tNil))) (gName 2))) (l := [(.ref A.C_Mismatch, fun a cls d => (tRet (tC .non)))]) (Wout := fun _ _ _ _ => False) rfl rfl takes0 (fun W pn xe tk po => (pss_one (ps_set (i := 2) sc__law_widen_outcome.nd rfl (Or.inl rfl) (pe_callS (ok_widen T) (hr.mono (by decide)) rfl T.g_widen T.k_widen T.b_widen (fun σ => passAt tk σ) (pa_cons (pv 0) (pa_cons (pv 1) pa_nil)))))) (HdsOk.cons (c := .ref A.C_Mismatch) ⟨rfl, by decide, .inl T.g_Mismatch⟩ (fun a oe cls d pn hz hf => (pss_one (ps_ret pe_non))) HdsOk.nil))
 (pss_one (ps_ret (pe_ifExp (pt_cmpR op_isN (pv 2) pe_non (nomark _)) pe_str (pv 2))))), p__law_widen_outcome T.cl h⟩)
theorem ok_law (T : Txt K mg A) : FnOk P w K mg base CX0 6 A.a_law A.fd_law ["script"] (sp_law K A) :=
  T.F_law.ok sc_law (fun vs H Q E h => by obtain ⟨_, _, rfl, _⟩ := h; rfl) (fun cdv Ar outer s H vs Q E hr h => ⟨t_law K A E, by exact (pss_cons (ps_set (i := 1) sc_law.nd rfl (Or.inl rfl) (pe_call (ok__law_draws T) (hr.mono (by decide)) rfl T.g__law_draws T.k__law_draws T.b__law_draws .nil pass0 (pa_cons (pv 0) (pa_cons pe_int pa_nil))))
 (pss_cons (ps_set (i := 2) sc_law.nd rfl (Or.inr rfl) (pe_op op_add pe_int (pe_call (ok__law_take T) (hr.mono (by decide)) rfl T.g__law_take T.k__law_take T.b__law_take .nil pass0 (pa_cons (pv 1) (pa_cons pe_int pa_nil)))))
 (pss_cons (ps_asg (pe_call (ok__law_automaton T) (hr.mono (by decide)) rfl T.g__law_automaton T.k__law_automaton T.b__law_automaton .nil pass0 (pa_cons (pv 1) (pa_cons (pv 2) (pa_cons pe_int pa_nil)))) (pg_tup (by rfl) (pgs_cons (pg_name (i := 3) sc_law.nd rfl (Or.inl rfl)) (pgs_cons (pg_name (i := 4) sc_law.nd rfl (Or.inl rfl)) (pgs_cons (pg_name (i := 5) sc_law.nd rfl (Or.inl rfl)) pgs_nil)))))
 (pss_cons (ps_set (i := 6) sc_law.nd rfl (Or.inl rfl) (pe_make T.M_Automaton (ok_Automaton_init T) (hr.mono (by decide)) rfl T.g_Automaton T.b_Automaton_init .nil passL (pa_cons (pv 2) (pa_cons (pe_callTy call_list_of (by rfl) T.z_list (by decide +kernel) (pa_cons (pv 3) pa_nil)) (pa_cons (pe_callTy call_list_of (by rfl) T.z_list (by decide +kernel) (pa_cons (pv 4) pa_nil)) (pa_cons (pe_call (ok__law_copy T) (hr.mono (by decide)) rfl T.g__law_copy T.k__law_copy T.b__law_copy .nil pass0 (pa_cons (pv 5) pa_nil)) pa_nil))))))
 (pss_cons (ps_set (i := 7) sc_law.nd rfl (Or.inl rfl) (pe_ix ix_list (pe_lst (pa_cons (pe_un un_neg pe_int) (pa_cons pe_int (pa_cons pe_int (pa_cons pe_int (pa_cons pe_int (pa_cons pe_int (pa_cons pe_int (pa_cons pe_int (pa_cons pe_int (pa_cons pe_int (pa_cons pe_int (pa_cons (pv 2) (pa_cons (pe_op op_mulW pe_int (pv 2)) pa_nil)))))))))))))) (pe_call (ok__law_take T) (hr.mono (by decide)) rfl T.g__law_take T.k__law_take T.b__law_take .nil pass0 (pa_cons (pv 1) (pa_cons pe_int pa_nil))) (fun _ _ => rfl)))
 (pss_cons (ps_set (i := 8) sc_law.nd rfl (Or.inl rfl) (pe_call (ok__law_hide_outcome T) (hr.mono (by decide)) rfl T.g__law_hide_outcome T.k__law_hide_outcome T.b__law_hide_outcome .nil pass0 (pa_cons (pv 6) (pa_cons (pv 7) pa_nil))))
 (pss_cons (ps_set (i := 9) sc_law.nd rfl (Or.inl rfl) (pe_call (ok__law_widen_outcome T) (hr.mono (by decide)) rfl T.g__law_widen_outcome T.k__law_widen_outcome T.b__law_widen_outcome .nil pass0 (pa_cons (pv 6) (pa_cons (pv 7) pa_nil))))
 (pss_cons (ps_if (pt_cmpR op_ne (pe_cmpR op_isN (pv 8) pe_non (nomark _)) (pe_or (pe_cmpR op_lt (pv 7) pe_int (nomark _)) (pe_one (pe_cmpR op_ne (pe_op op_mod (pv 2) (pe_callB (call_max2 rfl) (by rfl) T.z_max (by decide +kernel) (pa_cons pe_int (pa_cons (pv 7) pa_nil)))) pe_int (nomark _)))) (nomark _)) (pss_one (ps_ret pe_bl)) pss_nil)
 (pss_cons (ps_if (pt_cmpR op_ne (pe_cmpR op_isN (pv 9) pe_non (nomark _)) (pe_or (pe_cmpR op_lt (pv 7) pe_int (nomark _)) (pe_one (pe_cmpR op_ne (pe_op op_mod (pv 7) (pv 2)) pe_int (nomark _)))) (nomark _)) (pss_one (ps_ret pe_bl)) pss_nil)
 (pss_cons (ps_set (i := 10) sc_law.nd rfl (Or.inl rfl) (pe_call (ok__law_lasso T) (hr.mono (by decide)) rfl T.g__law_lasso T.k__law_lasso T.b__law_lasso .nil pass0 (pa_cons (pv 1) (pa_cons (pe_callB (call_max2 rfl) (by rfl) T.z_max (by decide +kernel) (pa_cons pe_int (pa_cons (pv 7) pa_nil))) (pa_cons pe_int pa_nil)))))
 (pss_cons (ps_if (pt_cmpR op_notN (pv 8) pe_non (nomark _)) (pss_cons (ps_if (PW.pt (pw_or (pt_not (pt_val (pe_call (ok__law_is_automaton T) (hr.mono (by decide)) rfl T.g__law_is_automaton T.k__law_is_automaton T.b__law_is_automaton .nil pass0 (pa_cons (pv 8) (pa_cons (pv 7) pa_nil))))) (pw_or1 (pt_cmpR op_gt (pe_callB call_len_seq (by rfl) T.z_len (by decide +kernel) (pa_cons (pe_fld (pv 8) rfl) pa_nil)) (pe_callB call_len_seq (by rfl) T.z_len (by decide +kernel) (pa_cons (pv 5) pa_nil)) (nomark _))))) (pss_one (ps_ret pe_bl)) pss_nil)
 (pss_cons (ps_set (i := 11) sc_law.nd rfl (Or.inl rfl) (pe_call (ok__law_accepts T) (hr.mono (by decide)) rfl T.g__law_accepts T.k__law_accepts T.b__law_accepts .nil pass0 (pa_cons (pe_call (ok__law_merged T) (hr.mono (by decide)) rfl T.g__law_merged T.k__law_merged T.b__law_merged .nil pass0 (pa_cons (pv 5) (pa_cons (pv 7) pa_nil))) (pa_cons (pv 3) (pa_cons (pv 4) (pa_cons (pv 10) pa_nil))))))
 (pss_one (ps_if (pt_cmpR op_ne (pe_call (ok__law_accepts T) (hr.mono (by decide)) rfl T.g__law_accepts T.k__law_accepts T.b__law_accepts .nil pass0 (pa_cons (pe_fld (pv 8) rfl) (pa_cons (pe_fld (pv 8) rfl) (pa_cons (pe_fld (pv 8) rfl) (pa_cons (pv 10) pa_nil))))) (pv 11) (nomark _)) (pss_one (ps_ret pe_bl)) pss_nil)))) pss_nil)
 (pss_cons (ps_if (pt_cmpR op_notN (pv 9) pe_non (nomark _)) (pss_cons (ps_if (PW.pt (pw_or (pt_not (pt_val (pe_call (ok__law_is_automaton T) (hr.mono (by decide)) rfl T.g__law_is_automaton T.k__law_is_automaton T.b__law_is_automaton .nil pass0 (pa_cons (pv 9) (pa_cons (pv 7) pa_nil))))) (pw_or1 (pt_cmpR op_gt (pe_callB call_len_seq (by rfl) T.z_len (by decide +kernel) (pa_cons (pe_fld (pv 9) rfl) pa_nil)) (pe_callB call_len_seq (by rfl) T.z_len (by decide +kernel) (pa_cons (pv 5) pa_nil)) (nomark _))))) (pss_one (ps_ret pe_bl)) pss_nil)
 (pss_cons (ps_set (i := 13) sc_law.nd rfl (Or.inl rfl) (pe_tup (pa_cons (pe_callTy call_tuple_of (by rfl) T.z_tuple (by decide +kernel) (pa_cons (pe_lc (own := [("letter", 12)]) rfl sc_law.nd (pi_tup (pe_ix ix_tup (pv 10) pe_int (fun _ _ => rfl))) (blkOk_by (N := ["script", "draws", "many", "initial", "accepting", "rows", "automaton", "letters", "hidden", "wide", "lasso", "expected", "letter", "low"]) (sc := defScope s_law) (own := [("letter", 12)]) (by decide +kernel)) (fun _ _ _ _ _ => (pg_name (i := 12) sc_law.nd rfl (Or.inl rfl))) (fun _ _ _ _ _ => pts_nil) (fun _ _ _ _ _ => (pe_op op_mod (pv 12) (pv 2)))) pa_nil)) (pa_cons (pe_callTy call_tuple_of (by rfl) T.z_tuple (by decide +kernel) (pa_cons (pe_lc (own := [("letter", 12)]) rfl sc_law.nd (pi_tup (pe_ix ix_tup (pv 10) pe_int (fun _ _ => rfl))) (blkOk_by (N := ["script", "draws", "many", "initial", "accepting", "rows", "automaton", "letters", "hidden", "wide", "lasso", "expected", "letter", "low"]) (sc := defScope s_law) (own := [("letter", 12)]) (by decide +kernel)) (fun _ _ _ _ _ => (pg_name (i := 12) sc_law.nd rfl (Or.inl rfl))) (fun _ _ _ _ _ => pts_nil) (fun _ _ _ _ _ => (pe_op op_mod (pv 12) (pv 2)))) pa_nil)) pa_nil))))
 (pss_cons (ps_set (i := 11) sc_law.nd rfl (Or.inl rfl) (pe_call (ok__law_accepts T) (hr.mono (by decide)) rfl T.g__law_accepts T.k__law_accepts T.b__law_accepts .nil pass0 (pa_cons (pv 5) (pa_cons (pv 3) (pa_cons (pv 4) (pa_cons (pv 13) pa_nil))))))
 (pss_one (ps_ret (pe_cmpR op_eq (pe_call (ok__law_accepts T) (hr.mono (by decide)) rfl T.g__law_accepts T.k__law_accepts T.b__law_accepts .nil pass0 (pa_cons (pe_fld (pv 9) rfl) (pa_cons (pe_fld (pv 9) rfl) (pa_cons (pe_fld (pv 9) rfl) (pa_cons (pv 10) pa_nil))))) (pv 11) (nomark _))))))) pss_nil)
 (pss_one (ps_ret pe_bl)))))))))))))), p_law T.cl h⟩)
end
theorem all_mk {l : PySem.W.OpenLaw} {w : World} {K : PySem.W.Frag} {h : Heap} {mg : Str → Option Value} {fa : Addr} (X : K.In h) (G : h.Ns mainGlobals mg) (hfa : mg "law" = some (.ref fa))
    {f_ascends : Addr} {od_ascends an_ascends : Option Addr} {sl_ascends : Array (Option Value)} {oc_ascends kV_ascends dc_ascends pm_ascends cd_ascends ct_ascends : Value}
    {f_Automaton_init : Addr} {od_Automaton_init an_Automaton_init : Option Addr} {sl_Automaton_init : Array (Option Value)} {oc_Automaton_init kV_Automaton_init dc_Automaton_init pm_Automaton_init cd_Automaton_init ct_Automaton_init : Value}
    {f_hide : Addr} {od_hide an_hide : Option Addr} {sl_hide : Array (Option Value)} {oc_hide kV_hide dc_hide pm_hide cd_hide ct_hide : Value}
    {f_merged : Addr} {od_merged an_merged : Option Addr} {sl_merged : Array (Option Value)} {oc_merged kV_merged dc_merged pm_merged cd_merged ct_merged : Value}
    {f_widen : Addr} {od_widen an_widen : Option Addr} {sl_widen : Array (Option Value)} {oc_widen kV_widen dc_widen pm_widen cd_widen ct_widen : Value}
    {f__law_draws : Addr} {od__law_draws an__law_draws : Option Addr} {sl__law_draws : Array (Option Value)} {oc__law_draws kV__law_draws dc__law_draws pm__law_draws cd__law_draws ct__law_draws : Value}
    {f__law_take : Addr} {od__law_take an__law_take : Option Addr} {sl__law_take : Array (Option Value)} {oc__law_take kV__law_take dc__law_take pm__law_take cd__law_take ct__law_take : Value}
    {f__law_is_integer : Addr} {od__law_is_integer an__law_is_integer : Option Addr} {sl__law_is_integer : Array (Option Value)} {oc__law_is_integer kV__law_is_integer dc__law_is_integer pm__law_is_integer cd__law_is_integer ct__law_is_integer : Value}
    {f__law_integers : Addr} {od__law_integers an__law_integers : Option Addr} {sl__law_integers : Array (Option Value)} {oc__law_integers kV__law_integers dc__law_integers pm__law_integers cd__law_integers ct__law_integers : Value}
    {f__law_lasso : Addr} {od__law_lasso an__law_lasso : Option Addr} {sl__law_lasso : Array (Option Value)} {oc__law_lasso kV__law_lasso dc__law_lasso pm__law_lasso cd__law_lasso ct__law_lasso : Value}
    {f__law_lives : Addr} {od__law_lives an__law_lives : Option Addr} {sl__law_lives : Array (Option Value)} {oc__law_lives kV__law_lives dc__law_lives pm__law_lives cd__law_lives ct__law_lives : Value}
    {f__law_ascending : Addr} {od__law_ascending an__law_ascending : Option Addr} {sl__law_ascending : Array (Option Value)} {oc__law_ascending kV__law_ascending dc__law_ascending pm__law_ascending cd__law_ascending ct__law_ascending : Value}
    {f__law_automaton : Addr} {od__law_automaton an__law_automaton : Option Addr} {sl__law_automaton : Array (Option Value)} {oc__law_automaton kV__law_automaton dc__law_automaton pm__law_automaton cd__law_automaton ct__law_automaton : Value}
    {f__law_copy : Addr} {od__law_copy an__law_copy : Option Addr} {sl__law_copy : Array (Option Value)} {oc__law_copy kV__law_copy dc__law_copy pm__law_copy cd__law_copy ct__law_copy : Value}
    {f__law_accepts : Addr} {od__law_accepts an__law_accepts : Option Addr} {sl__law_accepts : Array (Option Value)} {oc__law_accepts kV__law_accepts dc__law_accepts pm__law_accepts cd__law_accepts ct__law_accepts : Value}
    {f__law_states : Addr} {od__law_states an__law_states : Option Addr} {sl__law_states : Array (Option Value)} {oc__law_states kV__law_states dc__law_states pm__law_states cd__law_states ct__law_states : Value}
    {f__law_is_automaton : Addr} {od__law_is_automaton an__law_is_automaton : Option Addr} {sl__law_is_automaton : Array (Option Value)} {oc__law_is_automaton kV__law_is_automaton dc__law_is_automaton pm__law_is_automaton cd__law_is_automaton ct__law_is_automaton : Value}
    {f__law_hide_outcome : Addr} {od__law_hide_outcome an__law_hide_outcome : Option Addr} {sl__law_hide_outcome : Array (Option Value)} {oc__law_hide_outcome kV__law_hide_outcome dc__law_hide_outcome pm__law_hide_outcome cd__law_hide_outcome ct__law_hide_outcome : Value}
    {f__law_widen_outcome : Addr} {od__law_widen_outcome an__law_widen_outcome : Option Addr} {sl__law_widen_outcome : Array (Option Value)} {oc__law_widen_outcome kV__law_widen_outcome dc__law_widen_outcome pm__law_widen_outcome cd__law_widen_outcome ct__law_widen_outcome : Value}
    {f__law_merged : Addr} {od__law_merged an__law_merged : Option Addr} {sl__law_merged : Array (Option Value)} {oc__law_merged kV__law_merged dc__law_merged pm__law_merged cd__law_merged ct__law_merged : Value}
    {f_law : Addr} {od_law an_law : Option Addr} {sl_law : Array (Option Value)} {oc_law kV_law dc_law pm_law cd_law ct_law : Value}
    {C_SynthError : Addr}
    {C_Mismatch : Addr}
    {C_InvalidAutomaton : Addr}
    {C_Automaton : Addr}
    (ha_ascends : PySem.W.nsIn K mainGlobals "ascends" = some (some (.ref f_ascends)))
    (hl_ascends : K.lookup f_ascends = some ⟨oc_ascends, od_ascends, .func (PySem.W.fnOf "ascends" "ascends" (defArgs s_ascends) (defBody s_ascends) (defScope s_ascends) .none kV_ascends dc_ascends pm_ascends an_ascends cd_ascends ct_ascends), sl_ascends⟩)
    (hc_ascends : PySem.W.codeIn K cd_ascends "ascends" = true)
    (hk_ascends : PySem.W.keepIn K (.ref f_ascends) = true)
    (ha_Automaton_init : PySem.W.findIn K (.ref C_Automaton) "__init__" = some (some (.ref f_Automaton_init)))
    (hi_Automaton_init : PySem.W.isFn K (.ref f_Automaton_init) = true)
    (hl_Automaton_init : K.lookup f_Automaton_init = some ⟨oc_Automaton_init, od_Automaton_init, .func (PySem.W.fnOf "__init__" "Automaton.__init__" (defArgs s_Automaton_init) (defBody s_Automaton_init) (defScope s_Automaton_init) .none kV_Automaton_init dc_Automaton_init pm_Automaton_init an_Automaton_init cd_Automaton_init ct_Automaton_init), sl_Automaton_init⟩)
    (hc_Automaton_init : PySem.W.codeIn K cd_Automaton_init "Automaton.__init__" = true)
    (hk_Automaton_init : PySem.W.keepIn K (.ref f_Automaton_init) = true)
    (ha_hide : PySem.W.nsIn K mainGlobals "hide" = some (some (.ref f_hide)))
    (hl_hide : K.lookup f_hide = some ⟨oc_hide, od_hide, .func (PySem.W.fnOf "hide" "hide" (defArgs s_hide) (defBody s_hide) (defScope s_hide) .none kV_hide dc_hide pm_hide an_hide cd_hide ct_hide), sl_hide⟩)
    (hc_hide : PySem.W.codeIn K cd_hide "hide" = true)
    (hk_hide : PySem.W.keepIn K (.ref f_hide) = true)
    (ha_merged : PySem.W.nsIn K mainGlobals "merged" = some (some (.ref f_merged)))
    (hl_merged : K.lookup f_merged = some ⟨oc_merged, od_merged, .func (PySem.W.fnOf "merged" "merged" (defArgs s_merged) (defBody s_merged) (defScope s_merged) .none kV_merged dc_merged pm_merged an_merged cd_merged ct_merged), sl_merged⟩)
    (hc_merged : PySem.W.codeIn K cd_merged "merged" = true)
    (hk_merged : PySem.W.keepIn K (.ref f_merged) = true)
    (ha_widen : PySem.W.nsIn K mainGlobals "widen" = some (some (.ref f_widen)))
    (hl_widen : K.lookup f_widen = some ⟨oc_widen, od_widen, .func (PySem.W.fnOf "widen" "widen" (defArgs s_widen) (defBody s_widen) (defScope s_widen) .none kV_widen dc_widen pm_widen an_widen cd_widen ct_widen), sl_widen⟩)
    (hc_widen : PySem.W.codeIn K cd_widen "widen" = true)
    (hk_widen : PySem.W.keepIn K (.ref f_widen) = true)
    (ha__law_draws : PySem.W.nsIn K mainGlobals "_law_draws" = some (some (.ref f__law_draws)))
    (hl__law_draws : K.lookup f__law_draws = some ⟨oc__law_draws, od__law_draws, .func (PySem.W.fnOf "_law_draws" "_law_draws" (defArgs s__law_draws) (defBody s__law_draws) (defScope s__law_draws) .none kV__law_draws dc__law_draws pm__law_draws an__law_draws cd__law_draws ct__law_draws), sl__law_draws⟩)
    (hc__law_draws : PySem.W.codeIn K cd__law_draws "_law_draws" = true)
    (hk__law_draws : PySem.W.keepIn K (.ref f__law_draws) = true)
    (ha__law_take : PySem.W.nsIn K mainGlobals "_law_take" = some (some (.ref f__law_take)))
    (hl__law_take : K.lookup f__law_take = some ⟨oc__law_take, od__law_take, .func (PySem.W.fnOf "_law_take" "_law_take" (defArgs s__law_take) (defBody s__law_take) (defScope s__law_take) .none kV__law_take dc__law_take pm__law_take an__law_take cd__law_take ct__law_take), sl__law_take⟩)
    (hc__law_take : PySem.W.codeIn K cd__law_take "_law_take" = true)
    (hk__law_take : PySem.W.keepIn K (.ref f__law_take) = true)
    (ha__law_is_integer : PySem.W.nsIn K mainGlobals "_law_is_integer" = some (some (.ref f__law_is_integer)))
    (hl__law_is_integer : K.lookup f__law_is_integer = some ⟨oc__law_is_integer, od__law_is_integer, .func (PySem.W.fnOf "_law_is_integer" "_law_is_integer" (defArgs s__law_is_integer) (defBody s__law_is_integer) (defScope s__law_is_integer) .none kV__law_is_integer dc__law_is_integer pm__law_is_integer an__law_is_integer cd__law_is_integer ct__law_is_integer), sl__law_is_integer⟩)
    (hc__law_is_integer : PySem.W.codeIn K cd__law_is_integer "_law_is_integer" = true)
    (hk__law_is_integer : PySem.W.keepIn K (.ref f__law_is_integer) = true)
    (ha__law_integers : PySem.W.nsIn K mainGlobals "_law_integers" = some (some (.ref f__law_integers)))
    (hl__law_integers : K.lookup f__law_integers = some ⟨oc__law_integers, od__law_integers, .func (PySem.W.fnOf "_law_integers" "_law_integers" (defArgs s__law_integers) (defBody s__law_integers) (defScope s__law_integers) .none kV__law_integers dc__law_integers pm__law_integers an__law_integers cd__law_integers ct__law_integers), sl__law_integers⟩)
    (hc__law_integers : PySem.W.codeIn K cd__law_integers "_law_integers" = true)
    (hk__law_integers : PySem.W.keepIn K (.ref f__law_integers) = true)
    (ha__law_lasso : PySem.W.nsIn K mainGlobals "_law_lasso" = some (some (.ref f__law_lasso)))
    (hl__law_lasso : K.lookup f__law_lasso = some ⟨oc__law_lasso, od__law_lasso, .func (PySem.W.fnOf "_law_lasso" "_law_lasso" (defArgs s__law_lasso) (defBody s__law_lasso) (defScope s__law_lasso) .none kV__law_lasso dc__law_lasso pm__law_lasso an__law_lasso cd__law_lasso ct__law_lasso), sl__law_lasso⟩)
    (hc__law_lasso : PySem.W.codeIn K cd__law_lasso "_law_lasso" = true)
    (hk__law_lasso : PySem.W.keepIn K (.ref f__law_lasso) = true)
    (ha__law_lives : PySem.W.nsIn K mainGlobals "_law_lives" = some (some (.ref f__law_lives)))
    (hl__law_lives : K.lookup f__law_lives = some ⟨oc__law_lives, od__law_lives, .func (PySem.W.fnOf "_law_lives" "_law_lives" (defArgs s__law_lives) (defBody s__law_lives) (defScope s__law_lives) .none kV__law_lives dc__law_lives pm__law_lives an__law_lives cd__law_lives ct__law_lives), sl__law_lives⟩)
    (hc__law_lives : PySem.W.codeIn K cd__law_lives "_law_lives" = true)
    (hk__law_lives : PySem.W.keepIn K (.ref f__law_lives) = true)
    (ha__law_ascending : PySem.W.nsIn K mainGlobals "_law_ascending" = some (some (.ref f__law_ascending)))
    (hl__law_ascending : K.lookup f__law_ascending = some ⟨oc__law_ascending, od__law_ascending, .func (PySem.W.fnOf "_law_ascending" "_law_ascending" (defArgs s__law_ascending) (defBody s__law_ascending) (defScope s__law_ascending) .none kV__law_ascending dc__law_ascending pm__law_ascending an__law_ascending cd__law_ascending ct__law_ascending), sl__law_ascending⟩)
    (hc__law_ascending : PySem.W.codeIn K cd__law_ascending "_law_ascending" = true)
    (hk__law_ascending : PySem.W.keepIn K (.ref f__law_ascending) = true)
    (ha__law_automaton : PySem.W.nsIn K mainGlobals "_law_automaton" = some (some (.ref f__law_automaton)))
    (hl__law_automaton : K.lookup f__law_automaton = some ⟨oc__law_automaton, od__law_automaton, .func (PySem.W.fnOf "_law_automaton" "_law_automaton" (defArgs s__law_automaton) (defBody s__law_automaton) (defScope s__law_automaton) .none kV__law_automaton dc__law_automaton pm__law_automaton an__law_automaton cd__law_automaton ct__law_automaton), sl__law_automaton⟩)
    (hc__law_automaton : PySem.W.codeIn K cd__law_automaton "_law_automaton" = true)
    (hk__law_automaton : PySem.W.keepIn K (.ref f__law_automaton) = true)
    (ha__law_copy : PySem.W.nsIn K mainGlobals "_law_copy" = some (some (.ref f__law_copy)))
    (hl__law_copy : K.lookup f__law_copy = some ⟨oc__law_copy, od__law_copy, .func (PySem.W.fnOf "_law_copy" "_law_copy" (defArgs s__law_copy) (defBody s__law_copy) (defScope s__law_copy) .none kV__law_copy dc__law_copy pm__law_copy an__law_copy cd__law_copy ct__law_copy), sl__law_copy⟩)
    (hc__law_copy : PySem.W.codeIn K cd__law_copy "_law_copy" = true)
    (hk__law_copy : PySem.W.keepIn K (.ref f__law_copy) = true)
    (ha__law_accepts : PySem.W.nsIn K mainGlobals "_law_accepts" = some (some (.ref f__law_accepts)))
    (hl__law_accepts : K.lookup f__law_accepts = some ⟨oc__law_accepts, od__law_accepts, .func (PySem.W.fnOf "_law_accepts" "_law_accepts" (defArgs s__law_accepts) (defBody s__law_accepts) (defScope s__law_accepts) .none kV__law_accepts dc__law_accepts pm__law_accepts an__law_accepts cd__law_accepts ct__law_accepts), sl__law_accepts⟩)
    (hc__law_accepts : PySem.W.codeIn K cd__law_accepts "_law_accepts" = true)
    (hk__law_accepts : PySem.W.keepIn K (.ref f__law_accepts) = true)
    (ha__law_states : PySem.W.nsIn K mainGlobals "_law_states" = some (some (.ref f__law_states)))
    (hl__law_states : K.lookup f__law_states = some ⟨oc__law_states, od__law_states, .func (PySem.W.fnOf "_law_states" "_law_states" (defArgs s__law_states) (defBody s__law_states) (defScope s__law_states) .none kV__law_states dc__law_states pm__law_states an__law_states cd__law_states ct__law_states), sl__law_states⟩)
    (hc__law_states : PySem.W.codeIn K cd__law_states "_law_states" = true)
    (hk__law_states : PySem.W.keepIn K (.ref f__law_states) = true)
    (ha__law_is_automaton : PySem.W.nsIn K mainGlobals "_law_is_automaton" = some (some (.ref f__law_is_automaton)))
    (hl__law_is_automaton : K.lookup f__law_is_automaton = some ⟨oc__law_is_automaton, od__law_is_automaton, .func (PySem.W.fnOf "_law_is_automaton" "_law_is_automaton" (defArgs s__law_is_automaton) (defBody s__law_is_automaton) (defScope s__law_is_automaton) .none kV__law_is_automaton dc__law_is_automaton pm__law_is_automaton an__law_is_automaton cd__law_is_automaton ct__law_is_automaton), sl__law_is_automaton⟩)
    (hc__law_is_automaton : PySem.W.codeIn K cd__law_is_automaton "_law_is_automaton" = true)
    (hk__law_is_automaton : PySem.W.keepIn K (.ref f__law_is_automaton) = true)
    (ha__law_hide_outcome : PySem.W.nsIn K mainGlobals "_law_hide_outcome" = some (some (.ref f__law_hide_outcome)))
    (hl__law_hide_outcome : K.lookup f__law_hide_outcome = some ⟨oc__law_hide_outcome, od__law_hide_outcome, .func (PySem.W.fnOf "_law_hide_outcome" "_law_hide_outcome" (defArgs s__law_hide_outcome) (defBody s__law_hide_outcome) (defScope s__law_hide_outcome) .none kV__law_hide_outcome dc__law_hide_outcome pm__law_hide_outcome an__law_hide_outcome cd__law_hide_outcome ct__law_hide_outcome), sl__law_hide_outcome⟩)
    (hc__law_hide_outcome : PySem.W.codeIn K cd__law_hide_outcome "_law_hide_outcome" = true)
    (hk__law_hide_outcome : PySem.W.keepIn K (.ref f__law_hide_outcome) = true)
    (ha__law_widen_outcome : PySem.W.nsIn K mainGlobals "_law_widen_outcome" = some (some (.ref f__law_widen_outcome)))
    (hl__law_widen_outcome : K.lookup f__law_widen_outcome = some ⟨oc__law_widen_outcome, od__law_widen_outcome, .func (PySem.W.fnOf "_law_widen_outcome" "_law_widen_outcome" (defArgs s__law_widen_outcome) (defBody s__law_widen_outcome) (defScope s__law_widen_outcome) .none kV__law_widen_outcome dc__law_widen_outcome pm__law_widen_outcome an__law_widen_outcome cd__law_widen_outcome ct__law_widen_outcome), sl__law_widen_outcome⟩)
    (hc__law_widen_outcome : PySem.W.codeIn K cd__law_widen_outcome "_law_widen_outcome" = true)
    (hk__law_widen_outcome : PySem.W.keepIn K (.ref f__law_widen_outcome) = true)
    (ha__law_merged : PySem.W.nsIn K mainGlobals "_law_merged" = some (some (.ref f__law_merged)))
    (hl__law_merged : K.lookup f__law_merged = some ⟨oc__law_merged, od__law_merged, .func (PySem.W.fnOf "_law_merged" "_law_merged" (defArgs s__law_merged) (defBody s__law_merged) (defScope s__law_merged) .none kV__law_merged dc__law_merged pm__law_merged an__law_merged cd__law_merged ct__law_merged), sl__law_merged⟩)
    (hc__law_merged : PySem.W.codeIn K cd__law_merged "_law_merged" = true)
    (hk__law_merged : PySem.W.keepIn K (.ref f__law_merged) = true)
    (ha_law : PySem.W.nsIn K mainGlobals "law" = some (some (.ref f_law)))
    (hl_law : K.lookup f_law = some ⟨oc_law, od_law, .func (PySem.W.fnOf "law" "law" (defArgs s_law) (defBody s_law) (defScope s_law) .none kV_law dc_law pm_law an_law cd_law ct_law), sl_law⟩)
    (hc_law : PySem.W.codeIn K cd_law "law" = true)
    (hk_law : PySem.W.keepIn K (.ref f_law) = true)
    (hn_SynthError : PySem.W.nsIn K mainGlobals "SynthError" = some (some (.ref C_SynthError)))
    (hn_Mismatch : PySem.W.nsIn K mainGlobals "Mismatch" = some (some (.ref C_Mismatch)))
    (hn_InvalidAutomaton : PySem.W.nsIn K mainGlobals "InvalidAutomaton" = some (some (.ref C_InvalidAutomaton)))
    (hn_Automaton : PySem.W.nsIn K mainGlobals "Automaton" = some (some (.ref C_Automaton)))
    (hpg_Automaton : PySem.W.plainGet K C_Automaton Str.empty = true)
    (hhd_Automaton : PySem.W.hasDictIn K C_Automaton = true)
    (hpo_Automaton : PySem.W.plainOver K C_Automaton = true)
    (hsa_Automaton : PySem.W.findIn K (.ref C_Automaton) "__setattr__" = some (some (.builtin "object.__setattr__")))
    (hmk_Automaton : PySem.W.makesIn K C_Automaton = true)
    (hkc_Automaton : PySem.W.keepIn K (.ref C_Automaton) = true)
    (hna_Automaton_letters : PySem.W.findIn K (.ref C_Automaton) "letters" = some none)
    (hna_Automaton_initial : PySem.W.findIn K (.ref C_Automaton) "initial" = some none)
    (hna_Automaton_accepting : PySem.W.findIn K (.ref C_Automaton) "accepting" = some none)
    (hna_Automaton_rows : PySem.W.findIn K (.ref C_Automaton) "rows" = some none)
    (ht1_Automaton : PySem.W.findIn K (.ref C_Automaton) "__class__" = some (some (.builtin "object.__class__")))
    (ht4_Automaton : PySem.W.mroIn K C_Automaton (.type "object") = some true)
    (ht2 : PySem.W.specialIn K (.builtin "object.__class__") "__get__" = some (some (.builtin "getset_descriptor.__get__")))
    (ht3 : PySem.W.takesIn K (.builtin "object.__class__") = some true)
    (hk_InvalidAutomaton : PySem.W.keepIn K (.ref C_InvalidAutomaton) = true)
    (hx_InvalidAutomaton : PySem.W.excIn K C_InvalidAutomaton [.type "ValueError", .type "Exception", .type "BaseException", .type "object"] "ValueError.__new__" = true)
    (hk_Mismatch : PySem.W.keepIn K (.ref C_Mismatch) = true)
    (hx_Mismatch : PySem.W.excIn K C_Mismatch [.type "ValueError", .type "Exception", .type "BaseException", .type "object"] "ValueError.__new__" = true)
    (hs_InvalidAutomaton : PySem.W.subIn K (.ref C_InvalidAutomaton) (.type "BaseException") = some true)
    (ht_InvalidAutomaton : PySem.W.typeIn K (.ref C_InvalidAutomaton) = some (.type "type"))
    (hs_Mismatch : PySem.W.subIn K (.ref C_Mismatch) (.type "BaseException") = some true)
    (ht_Mismatch : PySem.W.typeIn K (.ref C_Mismatch) = some (.type "type"))
    (hhd_Mismatch : PySem.W.hasDictIn K C_Mismatch = true)
    (he_InvalidAutomaton_Mismatch : PySem.W.subIn K (.ref C_InvalidAutomaton) (.ref C_Mismatch) = some false)
    (he_Mismatch_Mismatch : PySem.W.subIn K (.ref C_Mismatch) (.ref C_Mismatch) = some true)
    (hz_all : PySem.W.nsIn K mainGlobals "all" = some none)
    (hz_bool : PySem.W.nsIn K mainGlobals "bool" = some none)
    (hz_int : PySem.W.nsIn K mainGlobals "int" = some none)
    (hz_isinstance : PySem.W.nsIn K mainGlobals "isinstance" = some none)
    (hz_len : PySem.W.nsIn K mainGlobals "len" = some none)
    (hz_list : PySem.W.nsIn K mainGlobals "list" = some none)
    (hz_max : PySem.W.nsIn K mainGlobals "max" = some none)
    (hz_range : PySem.W.nsIn K mainGlobals "range" = some none)
    (hz_sorted : PySem.W.nsIn K mainGlobals "sorted" = some none)
    (hz_tuple : PySem.W.nsIn K mainGlobals "tuple" = some none)
    : ∃ fd : FuncData, (∀ (s : Shared) (v : Value), BindsTo s fd ⟨[v], []⟩ [("script", v)]) ∧ ∀ base : Heap, K.In base → base.Ns mainGlobals mg → FnOk l.prog w K mg base CX0 6 fa fd ["script"] (spL K) := by
  have e : fa = f_law := by
    have e := hfa.symm.trans (PySem.W.mg_of X G ha_law)
    cases e
    rfl
  rw [e]
  have C : Cl K { a_ascends := f_ascends, fd_ascends := PySem.W.fnOf "ascends" "ascends" (defArgs s_ascends) (defBody s_ascends) (defScope s_ascends) .none kV_ascends dc_ascends pm_ascends an_ascends cd_ascends ct_ascends, a_Automaton_init := f_Automaton_init, fd_Automaton_init := PySem.W.fnOf "__init__" "Automaton.__init__" (defArgs s_Automaton_init) (defBody s_Automaton_init) (defScope s_Automaton_init) .none kV_Automaton_init dc_Automaton_init pm_Automaton_init an_Automaton_init cd_Automaton_init ct_Automaton_init, a_hide := f_hide, fd_hide := PySem.W.fnOf "hide" "hide" (defArgs s_hide) (defBody s_hide) (defScope s_hide) .none kV_hide dc_hide pm_hide an_hide cd_hide ct_hide, a_merged := f_merged, fd_merged := PySem.W.fnOf "merged" "merged" (defArgs s_merged) (defBody s_merged) (defScope s_merged) .none kV_merged dc_merged pm_merged an_merged cd_merged ct_merged, a_widen := f_widen, fd_widen := PySem.W.fnOf "widen" "widen" (defArgs s_widen) (defBody s_widen) (defScope s_widen) .none kV_widen dc_widen pm_widen an_widen cd_widen ct_widen, a__law_draws := f__law_draws, fd__law_draws := PySem.W.fnOf "_law_draws" "_law_draws" (defArgs s__law_draws) (defBody s__law_draws) (defScope s__law_draws) .none kV__law_draws dc__law_draws pm__law_draws an__law_draws cd__law_draws ct__law_draws, a__law_take := f__law_take, fd__law_take := PySem.W.fnOf "_law_take" "_law_take" (defArgs s__law_take) (defBody s__law_take) (defScope s__law_take) .none kV__law_take dc__law_take pm__law_take an__law_take cd__law_take ct__law_take, a__law_is_integer := f__law_is_integer, fd__law_is_integer := PySem.W.fnOf "_law_is_integer" "_law_is_integer" (defArgs s__law_is_integer) (defBody s__law_is_integer) (defScope s__law_is_integer) .none kV__law_is_integer dc__law_is_integer pm__law_is_integer an__law_is_integer cd__law_is_integer ct__law_is_integer, a__law_integers := f__law_integers, fd__law_integers := PySem.W.fnOf "_law_integers" "_law_integers" (defArgs s__law_integers) (defBody s__law_integers) (defScope s__law_integers) .none kV__law_integers dc__law_integers pm__law_integers an__law_integers cd__law_integers ct__law_integers, a__law_lasso := f__law_lasso, fd__law_lasso := PySem.W.fnOf "_law_lasso" "_law_lasso" (defArgs s__law_lasso) (defBody s__law_lasso) (defScope s__law_lasso) .none kV__law_lasso dc__law_lasso pm__law_lasso an__law_lasso cd__law_lasso ct__law_lasso, a__law_lives := f__law_lives, fd__law_lives := PySem.W.fnOf "_law_lives" "_law_lives" (defArgs s__law_lives) (defBody s__law_lives) (defScope s__law_lives) .none kV__law_lives dc__law_lives pm__law_lives an__law_lives cd__law_lives ct__law_lives, a__law_ascending := f__law_ascending, fd__law_ascending := PySem.W.fnOf "_law_ascending" "_law_ascending" (defArgs s__law_ascending) (defBody s__law_ascending) (defScope s__law_ascending) .none kV__law_ascending dc__law_ascending pm__law_ascending an__law_ascending cd__law_ascending ct__law_ascending, a__law_automaton := f__law_automaton, fd__law_automaton := PySem.W.fnOf "_law_automaton" "_law_automaton" (defArgs s__law_automaton) (defBody s__law_automaton) (defScope s__law_automaton) .none kV__law_automaton dc__law_automaton pm__law_automaton an__law_automaton cd__law_automaton ct__law_automaton, a__law_copy := f__law_copy, fd__law_copy := PySem.W.fnOf "_law_copy" "_law_copy" (defArgs s__law_copy) (defBody s__law_copy) (defScope s__law_copy) .none kV__law_copy dc__law_copy pm__law_copy an__law_copy cd__law_copy ct__law_copy, a__law_accepts := f__law_accepts, fd__law_accepts := PySem.W.fnOf "_law_accepts" "_law_accepts" (defArgs s__law_accepts) (defBody s__law_accepts) (defScope s__law_accepts) .none kV__law_accepts dc__law_accepts pm__law_accepts an__law_accepts cd__law_accepts ct__law_accepts, a__law_states := f__law_states, fd__law_states := PySem.W.fnOf "_law_states" "_law_states" (defArgs s__law_states) (defBody s__law_states) (defScope s__law_states) .none kV__law_states dc__law_states pm__law_states an__law_states cd__law_states ct__law_states, a__law_is_automaton := f__law_is_automaton, fd__law_is_automaton := PySem.W.fnOf "_law_is_automaton" "_law_is_automaton" (defArgs s__law_is_automaton) (defBody s__law_is_automaton) (defScope s__law_is_automaton) .none kV__law_is_automaton dc__law_is_automaton pm__law_is_automaton an__law_is_automaton cd__law_is_automaton ct__law_is_automaton, a__law_hide_outcome := f__law_hide_outcome, fd__law_hide_outcome := PySem.W.fnOf "_law_hide_outcome" "_law_hide_outcome" (defArgs s__law_hide_outcome) (defBody s__law_hide_outcome) (defScope s__law_hide_outcome) .none kV__law_hide_outcome dc__law_hide_outcome pm__law_hide_outcome an__law_hide_outcome cd__law_hide_outcome ct__law_hide_outcome, a__law_widen_outcome := f__law_widen_outcome, fd__law_widen_outcome := PySem.W.fnOf "_law_widen_outcome" "_law_widen_outcome" (defArgs s__law_widen_outcome) (defBody s__law_widen_outcome) (defScope s__law_widen_outcome) .none kV__law_widen_outcome dc__law_widen_outcome pm__law_widen_outcome an__law_widen_outcome cd__law_widen_outcome ct__law_widen_outcome, a__law_merged := f__law_merged, fd__law_merged := PySem.W.fnOf "_law_merged" "_law_merged" (defArgs s__law_merged) (defBody s__law_merged) (defScope s__law_merged) .none kV__law_merged dc__law_merged pm__law_merged an__law_merged cd__law_merged ct__law_merged, a_law := f_law, fd_law := PySem.W.fnOf "law" "law" (defArgs s_law) (defBody s_law) (defScope s_law) .none kV_law dc_law pm_law an_law cd_law ct_law, C_SynthError := C_SynthError, C_Mismatch := C_Mismatch, C_InvalidAutomaton := C_InvalidAutomaton, C_Automaton := C_Automaton : Ads } := {
    cl_Automaton := ⟨hpg_Automaton, hhd_Automaton, hpo_Automaton, hsa_Automaton⟩,
    na_Automaton_letters := hna_Automaton_letters,
    na_Automaton_initial := hna_Automaton_initial,
    na_Automaton_accepting := hna_Automaton_accepting,
    na_Automaton_rows := hna_Automaton_rows,
    ty_Automaton := fun e => .base (.ins e ⟨hpg_Automaton, hhd_Automaton, hpo_Automaton, hsa_Automaton⟩ ht1_Automaton ht2 ht3 ht4_Automaton),
    em_InvalidAutomaton_Mismatch := PySem.W.exm_ref hs_Mismatch hhd_Mismatch ht_Mismatch he_InvalidAutomaton_Mismatch,
    em_Mismatch_Mismatch := PySem.W.exm_ref hs_Mismatch hhd_Mismatch ht_Mismatch he_Mismatch_Mismatch }
  have F_ascends := fun_mk (st := s_ascends) hl_ascends hc_ascends hk_ascends
  have F_Automaton_init := fun_mk (st := s_Automaton_init) hl_Automaton_init hc_Automaton_init hk_Automaton_init
  have F_hide := fun_mk (st := s_hide) hl_hide hc_hide hk_hide
  have F_merged := fun_mk (st := s_merged) hl_merged hc_merged hk_merged
  have F_widen := fun_mk (st := s_widen) hl_widen hc_widen hk_widen
  have F__law_draws := fun_mk (st := s__law_draws) hl__law_draws hc__law_draws hk__law_draws
  have F__law_take := fun_mk (st := s__law_take) hl__law_take hc__law_take hk__law_take
  have F__law_is_integer := fun_mk (st := s__law_is_integer) hl__law_is_integer hc__law_is_integer hk__law_is_integer
  have F__law_integers := fun_mk (st := s__law_integers) hl__law_integers hc__law_integers hk__law_integers
  have F__law_lasso := fun_mk (st := s__law_lasso) hl__law_lasso hc__law_lasso hk__law_lasso
  have F__law_lives := fun_mk (st := s__law_lives) hl__law_lives hc__law_lives hk__law_lives
  have F__law_ascending := fun_mk (st := s__law_ascending) hl__law_ascending hc__law_ascending hk__law_ascending
  have F__law_automaton := fun_mk (st := s__law_automaton) hl__law_automaton hc__law_automaton hk__law_automaton
  have F__law_copy := fun_mk (st := s__law_copy) hl__law_copy hc__law_copy hk__law_copy
  have F__law_accepts := fun_mk (st := s__law_accepts) hl__law_accepts hc__law_accepts hk__law_accepts
  have F__law_states := fun_mk (st := s__law_states) hl__law_states hc__law_states hk__law_states
  have F__law_is_automaton := fun_mk (st := s__law_is_automaton) hl__law_is_automaton hc__law_is_automaton hk__law_is_automaton
  have F__law_hide_outcome := fun_mk (st := s__law_hide_outcome) hl__law_hide_outcome hc__law_hide_outcome hk__law_hide_outcome
  have F__law_widen_outcome := fun_mk (st := s__law_widen_outcome) hl__law_widen_outcome hc__law_widen_outcome hk__law_widen_outcome
  have F__law_merged := fun_mk (st := s__law_merged) hl__law_merged hc__law_merged hk__law_merged
  have F_law := fun_mk (st := s_law) hl_law hc_law hk_law
  have T : Txt K mg _ := {
    cl := C,
    F_ascends := F_ascends,
    b_ascends := F_ascends.binds (ps := ["numbers", "count"]) fun _ _ _ _ _ _ us hl => match us, hl with | [_, _], _ => rfl,
    g_ascends := PySem.W.mg_of X G ha_ascends,
    k_ascends := hk_ascends,
    F_Automaton_init := F_Automaton_init,
    b_Automaton_init := F_Automaton_init.binds (ps := ["self", "letters", "initial", "accepting", "rows"]) fun _ _ _ _ _ _ us hl => match us, hl with | [_, _, _, _, _], _ => rfl,
    mt_Automaton_init := ⟨ha_Automaton_init, hi_Automaton_init, hk_Automaton_init⟩,
    F_hide := F_hide,
    b_hide := F_hide.binds (ps := ["automaton", "letters"]) fun _ _ _ _ _ _ us hl => match us, hl with | [_, _], _ => rfl,
    g_hide := PySem.W.mg_of X G ha_hide,
    k_hide := hk_hide,
    F_merged := F_merged,
    b_merged := F_merged.binds (ps := ["entries"]) fun _ _ _ _ _ _ us hl => match us, hl with | [_], _ => rfl,
    g_merged := PySem.W.mg_of X G ha_merged,
    k_merged := hk_merged,
    F_widen := F_widen,
    b_widen := F_widen.binds (ps := ["automaton", "letters"]) fun _ _ _ _ _ _ us hl => match us, hl with | [_, _], _ => rfl,
    g_widen := PySem.W.mg_of X G ha_widen,
    k_widen := hk_widen,
    F__law_draws := F__law_draws,
    b__law_draws := F__law_draws.binds (ps := ["script", "count"]) fun _ _ _ _ _ _ us hl => match us, hl with | [_, _], _ => rfl,
    g__law_draws := PySem.W.mg_of X G ha__law_draws,
    k__law_draws := hk__law_draws,
    F__law_take := F__law_take,
    b__law_take := F__law_take.binds (ps := ["draws", "limit"]) fun _ _ _ _ _ _ us hl => match us, hl with | [_, _], _ => rfl,
    g__law_take := PySem.W.mg_of X G ha__law_take,
    k__law_take := hk__law_take,
    F__law_is_integer := F__law_is_integer,
    b__law_is_integer := F__law_is_integer.binds (ps := ["actual"]) fun _ _ _ _ _ _ us hl => match us, hl with | [_], _ => rfl,
    g__law_is_integer := PySem.W.mg_of X G ha__law_is_integer,
    k__law_is_integer := hk__law_is_integer,
    F__law_integers := F__law_integers,
    b__law_integers := F__law_integers.binds (ps := ["actual", "low", "high"]) fun _ _ _ _ _ _ us hl => match us, hl with | [_, _, _], _ => rfl,
    g__law_integers := PySem.W.mg_of X G ha__law_integers,
    k__law_integers := hk__law_integers,
    F__law_lasso := F__law_lasso,
    b__law_lasso := F__law_lasso.binds (ps := ["draws", "letters", "longest"]) fun _ _ _ _ _ _ us hl => match us, hl with | [_, _, _], _ => rfl,
    g__law_lasso := PySem.W.mg_of X G ha__law_lasso,
    k__law_lasso := hk__law_lasso,
    F__law_lives := F__law_lives,
    b__law_lives := F__law_lives.binds (ps := ["moves", "goods", "starts"]) fun _ _ _ _ _ _ us hl => match us, hl with | [_, _, _], _ => rfl,
    g__law_lives := PySem.W.mg_of X G ha__law_lives,
    k__law_lives := hk__law_lives,
    F__law_ascending := F__law_ascending,
    b__law_ascending := F__law_ascending.binds (ps := ["draws", "limit", "share"]) fun _ _ _ _ _ _ us hl => match us, hl with | [_, _, _], _ => rfl,
    g__law_ascending := PySem.W.mg_of X G ha__law_ascending,
    k__law_ascending := hk__law_ascending,
    F__law_automaton := F__law_automaton,
    b__law_automaton := F__law_automaton.binds (ps := ["draws", "letters", "most"]) fun _ _ _ _ _ _ us hl => match us, hl with | [_, _, _], _ => rfl,
    g__law_automaton := PySem.W.mg_of X G ha__law_automaton,
    k__law_automaton := hk__law_automaton,
    F__law_copy := F__law_copy,
    b__law_copy := F__law_copy.binds (ps := ["rows"]) fun _ _ _ _ _ _ us hl => match us, hl with | [_], _ => rfl,
    g__law_copy := PySem.W.mg_of X G ha__law_copy,
    k__law_copy := hk__law_copy,
    F__law_accepts := F__law_accepts,
    b__law_accepts := F__law_accepts.binds (ps := ["rows", "initial", "accepting", "lasso"]) fun _ _ _ _ _ _ us hl => match us, hl with | [_, _, _, _], _ => rfl,
    g__law_accepts := PySem.W.mg_of X G ha__law_accepts,
    k__law_accepts := hk__law_accepts,
    F__law_states := F__law_states,
    b__law_states := F__law_states.binds (ps := ["actual", "count"]) fun _ _ _ _ _ _ us hl => match us, hl with | [_, _], _ => rfl,
    g__law_states := PySem.W.mg_of X G ha__law_states,
    k__law_states := hk__law_states,
    F__law_is_automaton := F__law_is_automaton,
    b__law_is_automaton := F__law_is_automaton.binds (ps := ["actual", "letters"]) fun _ _ _ _ _ _ us hl => match us, hl with | [_, _], _ => rfl,
    g__law_is_automaton := PySem.W.mg_of X G ha__law_is_automaton,
    k__law_is_automaton := hk__law_is_automaton,
    F__law_hide_outcome := F__law_hide_outcome,
    b__law_hide_outcome := F__law_hide_outcome.binds (ps := ["automaton", "letters"]) fun _ _ _ _ _ _ us hl => match us, hl with | [_, _], _ => rfl,
    g__law_hide_outcome := PySem.W.mg_of X G ha__law_hide_outcome,
    k__law_hide_outcome := hk__law_hide_outcome,
    F__law_widen_outcome := F__law_widen_outcome,
    b__law_widen_outcome := F__law_widen_outcome.binds (ps := ["automaton", "letters"]) fun _ _ _ _ _ _ us hl => match us, hl with | [_, _], _ => rfl,
    g__law_widen_outcome := PySem.W.mg_of X G ha__law_widen_outcome,
    k__law_widen_outcome := hk__law_widen_outcome,
    F__law_merged := F__law_merged,
    b__law_merged := F__law_merged.binds (ps := ["rows", "letters"]) fun _ _ _ _ _ _ us hl => match us, hl with | [_, _], _ => rfl,
    g__law_merged := PySem.W.mg_of X G ha__law_merged,
    k__law_merged := hk__law_merged,
    F_law := F_law,
    b_law := F_law.binds (ps := ["script"]) fun _ _ _ _ _ _ us hl => match us, hl with | [_], _ => rfl,
    g_law := PySem.W.mg_of X G ha_law,
    k_law := hk_law,
    g_Automaton := PySem.W.mg_of X G hn_Automaton,
    cl_Automaton := C.cl_Automaton,
    M_Automaton := ⟨hmk_Automaton, ha_Automaton_init, hi_Automaton_init, hkc_Automaton⟩,
    g_InvalidAutomaton := PySem.W.mg_of X G hn_InvalidAutomaton,
    g_Mismatch := PySem.W.mg_of X G hn_Mismatch,
    k_InvalidAutomaton := hk_InvalidAutomaton, x_InvalidAutomaton := hx_InvalidAutomaton, s_InvalidAutomaton := hs_InvalidAutomaton, t_InvalidAutomaton := ht_InvalidAutomaton,
    k_Mismatch := hk_Mismatch, x_Mismatch := hx_Mismatch, s_Mismatch := hs_Mismatch, t_Mismatch := ht_Mismatch,
    z_all := PySem.W.mg_none_of X G hz_all,
    z_bool := PySem.W.mg_none_of X G hz_bool,
    z_int := PySem.W.mg_none_of X G hz_int,
    z_isinstance := PySem.W.mg_none_of X G hz_isinstance,
    z_len := PySem.W.mg_none_of X G hz_len,
    z_list := PySem.W.mg_none_of X G hz_list,
    z_max := PySem.W.mg_none_of X G hz_max,
    z_range := PySem.W.mg_none_of X G hz_range,
    z_sorted := PySem.W.mg_none_of X G hz_sorted,
    z_tuple := PySem.W.mg_none_of X G hz_tuple }
  exact ⟨PySem.W.fnOf "law" "law" (defArgs s_law) (defBody s_law) (defScope s_law) .none kV_law dc_law pm_law an_law cd_law ct_law, fun s v => .of_eq rfl, fun base _ _ => ok_law T⟩
theorem walk {l : PySem.W.OpenLaw} {q : Program} {loose : List Str} {XP : (Str → Option Value) → Heap → Prop} {YP : World → Heap → Prop} {d : DefRec} {K : Params → PySem.W.Frag} (hn : l.most = some 63) (hdf : d.params.defaults = [])
    (hY : ∀ (w : World) (h : Heap), YP w h → (K w.params).In h)
    (F : ∀ (w : World) (mg : Str → Option Value) (fa : Addr) (h : Heap), (K w.params).In h → h.Ns mainGlobals mg → mg d.name = some (.ref fa) →
      ∃ fd : FuncData, (∀ (s : Shared) (u : Value), BindsTo s fd ⟨[u], []⟩ [("script", u)]) ∧ ∀ base : Heap, (K w.params).In base → base.Ns mainGlobals mg → FnOk l.prog w (K w.params) mg base CX0 6 fa fd ["script"] (spL (K w.params))) :
    PySem.W.WalkO q loose XP YP l.row.toRowW d [] (fun f vs => PySem.call f vs) :=
  L2.walk_of (n := 63) (k := 6) (x := "script") (CX := fun _ => CX0) (sp := fun w => spL (K w.params)) hn (by decide) hdf ⟨rfl, by decide, by decide⟩ hY F (fun _ _ a ns hl _ hS => ⟨a, ns, rfl, hS, hl, fun _ => rfl⟩) fun _ _ _ _ _ z => z
end LW
open PySem PySem.W PyProof.Rows in
set_option maxRecDepth 100000 in
set_option maxHeartbeats 0 in
theorem PySem.Challenge.cw_promiseplay_k20_hide_and_widen_holds : PySem.Challenge.rw_promiseplay_k20_hide_and_widen.Holds := by
  w_on; o_law; k_head; (case hw => w_witness2)
  k_fill
  refine LW.walk (l := PySem.Challenge.rw_promiseplay_k20_hide_and_widen) rfl rfl (fun w h Y => PySem.W.kIn_of Y) ?F
  case F =>
    intro w mg fa h KX G hmg
    refine' LW.all_mk KX G hmg ?ha_ascends ?hl_ascends ?hc_ascends ?hk_ascends ?ha_Automaton_init ?hi_Automaton_init ?hl_Automaton_init ?hc_Automaton_init ?hk_Automaton_init ?ha_hide ?hl_hide ?hc_hide ?hk_hide ?ha_merged ?hl_merged ?hc_merged ?hk_merged ?ha_widen ?hl_widen ?hc_widen ?hk_widen ?ha__law_draws ?hl__law_draws ?hc__law_draws ?hk__law_draws ?ha__law_take ?hl__law_take ?hc__law_take ?hk__law_take ?ha__law_is_integer ?hl__law_is_integer ?hc__law_is_integer ?hk__law_is_integer ?ha__law_integers ?hl__law_integers ?hc__law_integers ?hk__law_integers ?ha__law_lasso ?hl__law_lasso ?hc__law_lasso ?hk__law_lasso ?ha__law_lives ?hl__law_lives ?hc__law_lives ?hk__law_lives ?ha__law_ascending ?hl__law_ascending ?hc__law_ascending ?hk__law_ascending ?ha__law_automaton ?hl__law_automaton ?hc__law_automaton ?hk__law_automaton ?ha__law_copy ?hl__law_copy ?hc__law_copy ?hk__law_copy ?ha__law_accepts ?hl__law_accepts ?hc__law_accepts ?hk__law_accepts ?ha__law_states ?hl__law_states ?hc__law_states ?hk__law_states ?ha__law_is_automaton ?hl__law_is_automaton ?hc__law_is_automaton ?hk__law_is_automaton ?ha__law_hide_outcome ?hl__law_hide_outcome ?hc__law_hide_outcome ?hk__law_hide_outcome ?ha__law_widen_outcome ?hl__law_widen_outcome ?hc__law_widen_outcome ?hk__law_widen_outcome ?ha__law_merged ?hl__law_merged ?hc__law_merged ?hk__law_merged ?ha_law ?hl_law ?hc_law ?hk_law ?hn_SynthError ?hn_Mismatch ?hn_InvalidAutomaton ?hn_Automaton ?hpg_Automaton ?hhd_Automaton ?hpo_Automaton ?hsa_Automaton ?hmk_Automaton ?hkc_Automaton ?hna_Automaton_letters ?hna_Automaton_initial ?hna_Automaton_accepting ?hna_Automaton_rows ?ht1_Automaton ?ht4_Automaton ?ht2 ?ht3 ?hk_InvalidAutomaton ?hx_InvalidAutomaton ?hk_Mismatch ?hx_Mismatch ?hs_InvalidAutomaton ?ht_InvalidAutomaton ?hs_Mismatch ?ht_Mismatch ?hhd_Mismatch ?he_InvalidAutomaton_Mismatch ?he_Mismatch_Mismatch ?hz_all ?hz_bool ?hz_int ?hz_isinstance ?hz_len ?hz_list ?hz_max ?hz_range ?hz_sorted ?hz_tuple
    (case hn_SynthError => k_is)
    (case hn_Mismatch => k_is)
    (case hn_InvalidAutomaton => k_is)
    (case hn_Automaton => k_is)
    (case ha_ascends => k_is)
    (case ha_Automaton_init => k_is)
    (case ha_hide => k_is)
    (case ha_merged => k_is)
    (case ha_widen => k_is)
    (case ha__law_draws => k_is)
    (case ha__law_take => k_is)
    (case ha__law_is_integer => k_is)
    (case ha__law_integers => k_is)
    (case ha__law_lasso => k_is)
    (case ha__law_lives => k_is)
    (case ha__law_ascending => k_is)
    (case ha__law_automaton => k_is)
    (case ha__law_copy => k_is)
    (case ha__law_accepts => k_is)
    (case ha__law_states => k_is)
    (case ha__law_is_automaton => k_is)
    (case ha__law_hide_outcome => k_is)
    (case ha__law_widen_outcome => k_is)
    (case ha__law_merged => k_is)
    (case ha_law => k_is)
    (case hl_ascends => k_is)
    (case hl_Automaton_init => k_is)
    (case hl_hide => k_is)
    (case hl_merged => k_is)
    (case hl_widen => k_is)
    (case hl__law_draws => k_is)
    (case hl__law_take => k_is)
    (case hl__law_is_integer => k_is)
    (case hl__law_integers => k_is)
    (case hl__law_lasso => k_is)
    (case hl__law_lives => k_is)
    (case hl__law_ascending => k_is)
    (case hl__law_automaton => k_is)
    (case hl__law_copy => k_is)
    (case hl__law_accepts => k_is)
    (case hl__law_states => k_is)
    (case hl__law_is_automaton => k_is)
    (case hl__law_hide_outcome => k_is)
    (case hl__law_widen_outcome => k_is)
    (case hl__law_merged => k_is)
    (case hl_law => k_is)
    (case hc_ascends => k_is)
    (case hk_ascends => k_is)
    (case hi_Automaton_init => k_is)
    (case hc_Automaton_init => k_is)
    (case hk_Automaton_init => k_is)
    (case hc_hide => k_is)
    (case hk_hide => k_is)
    (case hc_merged => k_is)
    (case hk_merged => k_is)
    (case hc_widen => k_is)
    (case hk_widen => k_is)
    (case hc__law_draws => k_is)
    (case hk__law_draws => k_is)
    (case hc__law_take => k_is)
    (case hk__law_take => k_is)
    (case hc__law_is_integer => k_is)
    (case hk__law_is_integer => k_is)
    (case hc__law_integers => k_is)
    (case hk__law_integers => k_is)
    (case hc__law_lasso => k_is)
    (case hk__law_lasso => k_is)
    (case hc__law_lives => k_is)
    (case hk__law_lives => k_is)
    (case hc__law_ascending => k_is)
    (case hk__law_ascending => k_is)
    (case hc__law_automaton => k_is)
    (case hk__law_automaton => k_is)
    (case hc__law_copy => k_is)
    (case hk__law_copy => k_is)
    (case hc__law_accepts => k_is)
    (case hk__law_accepts => k_is)
    (case hc__law_states => k_is)
    (case hk__law_states => k_is)
    (case hc__law_is_automaton => k_is)
    (case hk__law_is_automaton => k_is)
    (case hc__law_hide_outcome => k_is)
    (case hk__law_hide_outcome => k_is)
    (case hc__law_widen_outcome => k_is)
    (case hk__law_widen_outcome => k_is)
    (case hc__law_merged => k_is)
    (case hk__law_merged => k_is)
    (case hc_law => k_is)
    (case hk_law => k_is)
    (case hpg_Automaton => k_is)
    (case hhd_Automaton => k_is)
    (case hpo_Automaton => k_is)
    (case hsa_Automaton => k_is)
    (case hmk_Automaton => k_is)
    (case hkc_Automaton => k_is)
    (case hna_Automaton_letters => k_is)
    (case hna_Automaton_initial => k_is)
    (case hna_Automaton_accepting => k_is)
    (case hna_Automaton_rows => k_is)
    (case ht1_Automaton => k_is)
    (case ht4_Automaton => k_is)
    (case ht2 => k_is)
    (case ht3 => k_is)
    (case hk_InvalidAutomaton => k_is)
    (case hx_InvalidAutomaton => k_exc)
    (case hk_Mismatch => k_is)
    (case hx_Mismatch => k_exc)
    (case hs_InvalidAutomaton => k_is)
    (case ht_InvalidAutomaton => k_is)
    (case hs_Mismatch => k_is)
    (case ht_Mismatch => k_is)
    (case hhd_Mismatch => k_is)
    (case he_InvalidAutomaton_Mismatch => first | rfl | k_is)
    (case he_Mismatch_Mismatch => first | rfl | k_is)
    (case hz_all => k_is)
    (case hz_bool => k_is)
    (case hz_int => k_is)
    (case hz_isinstance => k_is)
    (case hz_len => k_is)
    (case hz_list => k_is)
    (case hz_max => k_is)
    (case hz_range => k_is)
    (case hz_sorted => k_is)
    (case hz_tuple => k_is)
