import PyProof.Rows.All
import Wide.All
import OpenK.AllK
import Wide.FinOn
import HandS.ForMost
import HandS.ForExc
import HandS.Wide
import HandS.IsInst
import HandS.TupAny
import HandS.WideBits
import HandS.TryMany
import HandS.ExcIs
import KE.KMinKey
import HandS.SortKw
import HandS.TupMul
import HandS.Gcd
import HandS.Star
import HandS.Iter
import HandS.Walk
import HandS.Conv
import HandS.SortInts
import HandS.DictComp
import PySem.Challenge.RW_promiseplay_k17_accepts
set_option Elab.async false
set_option linter.all false
set_option maxRecDepth 100000
set_option maxHeartbeats 4000000
namespace SL
open PySem L2

/-! ## heaps: frozen part, owned objects -/
abbrev Led := List (Addr × HO)
def SameB (p : Addr) (H H' : Hp) : Prop := ∀ b o, b ≠ p → H b = some o → H' b = some o
def del (H : Hp) (p : Addr) : Hp := fun b => if b = p then none else H b
theorem del_self {H : Hp} {p : Addr} : del H p p = none := by unfold del; rw [if_pos rfl]
theorem del_ne {H : Hp} {p b : Addr} (h : b ≠ p) : del H p b = H b := by unfold del; rw [if_neg h]
theorem del_some {H : Hp} {p b : Addr} {o : HO} (h : del H p b = some o) : b ≠ p ∧ H b = some o := by
  by_cases e : b = p
  · rw [e, del_self] at h; cases h
  · rw [del_ne e] at h; exact ⟨e, h⟩
theorem same_new {H : Hp} {p : Addr} {o : HO} (h : H p = none) : Same H (upd H p o) := fun b u e => by
  rw [upd_ne (ne_of_none e h)]; exact e
structure En where
  F : Hp
  H : Hp
structure St (E : En) (F H : Hp) (L : Led) : Prop where
  bh : Same E.H H
  fh : Same F H
  ff : Same E.F F
  pr : ∀ a, F a ≠ none → E.F a ≠ none ∨ E.H a = none
  own : ∀ x ∈ L, H x.1 = some x.2 ∧ F x.1 = none ∧ E.H x.1 = none
  nd : (L.map (·.1)).Nodup
/-- what a call leaves that changes nothing -/
structure Gr (F H F' H' : Hp) : Prop where
  ff : Same F F'
  fh : Same F' H'
  hh : Same H H'
  pr : ∀ a, F' a ≠ none → F a ≠ none ∨ H a = none
/-- .. that changes p alone -/
structure GrB (p : Addr) (F H F' H' : Hp) : Prop where
  ff : Same F F'
  fh : Same F' H'
  hh : SameB p H H'
  pr : ∀ a, F' a ≠ none → F a ≠ none ∨ H a = none
inductive Upd : Led → Addr → HO → HO → Led → Prop
  | head {a o o' L} : Upd ((a, o) :: L) a o o' ((a, o') :: L)
  | tail {a o o' L L' x} : Upd L a o o' L' → Upd (x :: L) a o o' (x :: L')
inductive Tak : Led → Addr → HO → Led → Prop
  | head {a o L} : Tak ((a, o) :: L) a o L
  | tail {a o L L' x} : Tak L a o L' → Tak (x :: L) a o (x :: L')
theorem Upd.mem {L L' : Led} {a : Addr} {o o' : HO} (u : Upd L a o o' L') : (a, o) ∈ L := by
  induction u with
  | head => exact List.mem_cons_self
  | tail _ ih => exact List.mem_cons_of_mem _ ih
theorem Upd.fst {L L' : Led} {a : Addr} {o o' : HO} (u : Upd L a o o' L') : L'.map (·.1) = L.map (·.1) := by
  induction u with
  | head => rfl
  | tail _ ih => rw [List.map_cons, List.map_cons, ih]
theorem Upd.of {L L' : Led} {a : Addr} {o o' : HO} (u : Upd L a o o' L') : ∀ x ∈ L', x = (a, o') ∨ x ∈ L := by
  induction u with
  | head =>
    intro x hx
    rcases List.mem_cons.mp hx with e | e
    · exact .inl e
    · exact .inr (List.mem_cons_of_mem _ e)
  | tail _ ih =>
    intro x hx
    rcases List.mem_cons.mp hx with e | e
    · exact .inr (e ▸ List.mem_cons_self)
    · rcases ih x e with q | q
      · exact .inl q
      · exact .inr (List.mem_cons_of_mem _ q)
theorem Upd.new {L L' : Led} {a : Addr} {o o' : HO} (u : Upd L a o o' L') : (a, o') ∈ L' := by
  induction u with
  | head => exact List.mem_cons_self
  | tail _ ih => exact List.mem_cons_of_mem _ ih
theorem nd_one : ∀ {L : Led} {a : Addr} {o : HO} {x : Addr × HO}, (L.map (·.1)).Nodup → x ∈ L → (a, o) ∈ L → x.1 = a → x = (a, o)
  | [], _, _, _, _, h, _, _ => nomatch h
  | y :: r, a, o, x, n, h1, h2, c => by
    rw [List.map_cons, List.nodup_cons] at n
    rcases List.mem_cons.mp h1 with q | q <;> rcases List.mem_cons.mp h2 with z | z
    · rw [q, z]
    · exact absurd (List.mem_map.mpr ⟨_, z, (by rw [← q]; exact c.symm)⟩) n.1
    · exact absurd (List.mem_map.mpr ⟨_, q, (by rw [← z]; exact c)⟩) n.1
    · exact nd_one n.2 q z c
theorem Tak.mem {L L' : Led} {a : Addr} {o : HO} (u : Tak L a o L') : (a, o) ∈ L := by
  induction u with
  | head => exact List.mem_cons_self
  | tail _ ih => exact List.mem_cons_of_mem _ ih
theorem Tak.sub {L L' : Led} {a : Addr} {o : HO} (u : Tak L a o L') : ∀ x ∈ L', x ∈ L := by
  induction u with
  | head => exact fun x h => List.mem_cons_of_mem _ h
  | tail _ ih =>
    intro x hx
    rcases List.mem_cons.mp hx with e | e
    · exact e ▸ List.mem_cons_self
    · exact List.mem_cons_of_mem _ (ih x e)
theorem Tak.nd {L L' : Led} {a : Addr} {o : HO} (u : Tak L a o L') (n : (L.map (·.1)).Nodup) : (L'.map (·.1)).Nodup ∧ ∀ x ∈ L', x.1 ≠ a := by
  induction u with
  | head =>
    rw [List.map_cons, List.nodup_cons] at n
    exact ⟨n.2, fun x hx e => n.1 (List.mem_map.mpr ⟨x, hx, e⟩)⟩
  | @tail a o L L' x u ih =>
    rw [List.map_cons, List.nodup_cons] at n
    obtain ⟨h1, h2⟩ := ih n.2
    refine ⟨?_, fun y hy => ?_⟩
    · rw [List.map_cons, List.nodup_cons]
      refine ⟨fun hm => n.1 ?_, h1⟩
      obtain ⟨z, hz, e⟩ := List.mem_map.mp hm
      exact List.mem_map.mpr ⟨z, u.sub z hz, e⟩
    · rcases List.mem_cons.mp hy with e | e
      · intro q
        apply n.1
        rw [← e, q]
        exact List.mem_map.mpr ⟨(a, o), u.mem, rfl⟩
      · exact h2 y e
section
variable {E : En} {F H F' H' : Hp} {L L' : Led} {a p : Addr} {o o' : HO} {K : PySem.W.Frag}
theorem St.init (h : Same F H) : St ⟨F, H⟩ F H [] :=
  ⟨Same.refl _, h, Same.refl _, fun _ h => .inl h, (fun _ h => nomatch h), List.nodup_nil⟩
theorem St.init1 (h : Same F H) (hp : H p = some o) (hf : F p = none) : St ⟨F, del H p⟩ F H [(p, o)] := by
  refine ⟨fun b u e => (del_some e).2, h, Same.refl _, fun _ h => .inl h, fun x hx => ?_, ?_⟩
  · rcases List.mem_cons.mp hx with e | e
    · subst e; exact ⟨hp, hf, del_self⟩
    · exact nomatch e
  · exact List.nodup_cons.mpr ⟨fun h => (nomatch h), List.nodup_nil⟩
theorem free_of (e : Same H H') (h : H' p = none) : H p = none := Same.free e h
theorem St.get (G : St E F H L) (m : (a, o) ∈ L) : H a = some o := (G.own _ m).1
theorem St.ne (G : St E F H L) (m : (a, o) ∈ L) (hp : H p = none) : a ≠ p := ne_of_none (G.get m) hp
/-- the heap grew, p is new -/
theorem St.add (G : St E F H L) (e : Same H H') (hn : H p = none) (hp : H' p = some o) : St E F H' ((p, o) :: L) := by
  refine ⟨G.bh.trans e, G.fh.trans e, G.ff, G.pr, fun x hx => ?_, ?_⟩
  · rcases List.mem_cons.mp hx with q | q
    · subst q
      exact ⟨hp, free_of G.fh hn, free_of G.bh hn⟩
    · obtain ⟨h1, h2, h3⟩ := G.own x q
      exact ⟨e _ _ h1, h2, h3⟩
  · rw [List.map_cons, List.nodup_cons]
    refine ⟨fun hm => ?_, G.nd⟩
    obtain ⟨z, hz, q⟩ := List.mem_map.mp hm
    have h1 := (G.own z hz).1
    rw [q, hn] at h1
    cases h1
theorem St.new (G : St E F H L) (hn : H p = none) : St E F (upd H p o) ((p, o) :: L) := G.add (same_new hn) hn upd_same
theorem St.grow (G : St E F H L) (e : Same H H') : St E F H' L :=
  ⟨G.bh.trans e, G.fh.trans e, G.ff, G.pr, fun x hx => ⟨e _ _ (G.own x hx).1, (G.own x hx).2⟩, G.nd⟩
theorem St.putB (G : St E F H L) (u : Upd L a o o' L') (e : SameB a H H') (ha : H' a = some o') : St E F H' L' := by
  obtain ⟨_, hf, hb⟩ := G.own _ u.mem
  have nF : ∀ b u, F b = some u → b ≠ a := fun b u h => ne_of_none h hf
  have nB : ∀ b u, E.H b = some u → b ≠ a := fun b u h => ne_of_none h hb
  refine ⟨fun b u h => e b u (nB b u h) (G.bh b u h), fun b u h => e b u (nF b u h) (G.fh b u h), G.ff, G.pr, fun x hx => ?_, ?_⟩
  · rcases u.of x hx with q | q
    · subst q; exact ⟨ha, hf, hb⟩
    · obtain ⟨h1, h2, h3⟩ := G.own x q
      refine ⟨?_, h2, h3⟩
      by_cases c : x.1 = a
      · have n' : (L'.map (·.1)).Nodup := by rw [u.fst]; exact G.nd
        rw [nd_one n' hx u.new c]; exact ha
      · exact e _ _ c h1
  · rw [u.fst]; exact G.nd
theorem St.put (G : St E F H L) (u : Upd L a o o' L') : St E F (upd H a o') L' :=
  G.putB u (fun b w h e => by rw [upd_ne h]; exact e) upd_same
/-- a call that changes nothing has come back -/
theorem St.call (G : St E F H L) (g : Gr F H F' H') : St E F' H' L := by
  refine ⟨G.bh.trans g.hh, g.fh, G.ff.trans g.ff, fun a h => ?_, fun x hx => ?_, G.nd⟩
  · rcases g.pr a h with q | q
    · exact G.pr a q
    · exact .inr (free_of G.bh q)
  · obtain ⟨h1, h2, h3⟩ := G.own x hx
    refine ⟨g.hh _ _ h1, ?_, h3⟩
    cases c : F' x.1 with
    | none => rfl
    | some w =>
      rcases g.pr x.1 (by rw [c]; exact fun z => nomatch z) with q | q
      · exact absurd h2 q
      · rw [q] at h1; cases h1
theorem St.callB (G : St E F H L) (u : Upd L p o o' L') (g : GrB p F H F' H') (hp : H' p = some o') : St E F' H' L' := by
  have G1 : St E F H' L' := G.putB u g.hh hp
  refine ⟨G1.bh, g.fh, G.ff.trans g.ff, fun a h => ?_, fun x hx => ?_, G1.nd⟩
  · rcases g.pr a h with q | q
    · exact G.pr a q
    · exact .inr (free_of G.bh q)
  · obtain ⟨h1, h2, h3⟩ := G1.own x hx
    refine ⟨h1, ?_, h3⟩
    cases c : F' x.1 with
    | none => rfl
    | some w =>
      rcases g.pr x.1 (by rw [c]; exact fun z => nomatch z) with q | q
      · exact absurd h2 q
      · exfalso
        rcases u.of x hx with z | z
        · subst z
          have := (G.own _ u.mem).1
          rw [q] at this; cases this
        · have := (G.own _ z).1
          rw [q] at this; cases this
/-- the end of a def that changes nothing -/
theorem St.gr (G : St ⟨F, H⟩ F' H' L) : Gr F H F' H' := ⟨G.ff, G.fh, G.bh, G.pr⟩
theorem St.grB (G : St ⟨F, del H p⟩ F' H' L) (m : (p, o) ∈ L) : GrB p F H F' H' := by
  refine ⟨G.ff, G.fh, fun b u h e => G.bh b u (by rw [show (En.mk F (del H p)).H = del H p from rfl, del_ne h]; exact e), fun a h => ?_⟩
  rcases G.pr a h with q | q
  · exact .inl q
  · by_cases c : a = p
    · subst c
      exact absurd (G.own _ m).2.1 h
    · exact .inr (by rw [show (En.mk F (del H p)).H = del H p from rfl, del_ne c] at q; exact q)
theorem Gr.refl (h : Same F H) : Gr F H F H := ⟨Same.refl _, h, Same.refl _, fun _ h => .inl h⟩
/-- an owned object is frozen -/
theorem St.frz (G : St E F H L) (t : Tak L a o L') : ∃ F', Same F F' ∧ F' a = some o ∧ St E F' H L' := by
  obtain ⟨h1, h2, h3⟩ := G.own _ t.mem
  obtain ⟨n1, n2⟩ := t.nd G.nd
  refine ⟨upd F a o, same_new h2, upd_same, ⟨G.bh, fun b u e => ?_, G.ff.trans (same_new h2), fun b hb => ?_, fun x hx => ?_, n1⟩⟩
  · by_cases c : b = a
    · rw [c, upd_same] at e; cases e; rw [c]; exact h1
    · rw [upd_ne c] at e; exact G.fh b u e
  · by_cases c : b = a
    · rw [c]; exact .inr h3
    · rw [upd_ne c] at hb; exact G.pr b hb
  · obtain ⟨q1, q2, q3⟩ := G.own x (t.sub x hx)
    exact ⟨q1, by rw [upd_ne (n2 x hx)]; exact q2, q3⟩
theorem St.drop (G : St E F H L) (t : Tak L a o L') : St E F H L' :=
  ⟨G.bh, G.fh, G.ff, G.pr, fun x hx => G.own x (t.sub x hx), (t.nd G.nd).1⟩

/-! ## what stands at an address, under growth -/
theorem rdS (e : Same H H') (h : Rd H a o) : Rd H' a o := by
  rcases h with h | ⟨z, h⟩
  · exact .inl (e _ _ h)
  · exact .inr ⟨z, e _ _ h⟩
theorem lS {xs : List V} (e : Same H H') (h : SqL K H a xs) : SqL K H' a xs := by
  rcases h with h | h
  · exact .inl (rdS e h)
  · exact .inr h
theorem tS {xs : List V} (e : Same H H') (h : SqT K H a xs) : SqT K H' a xs := by
  rcases h with h | h
  · exact .inl (rdS e h)
  · exact .inr h
mutual
theorem dpS (e : Same H H') : ∀ (d : PyData) (v : V), Dp K H v d → Dp K H' v d
  | .none, _, h => by cases h; exact .non
  | .bool b, _, h => by cases h; exact .bl b
  | .int i, _, h => by cases h; exact .int i
  | .str x, _, h => by cases h; exact .str x
  | .list ds, _, h => by cases h with | lst hs ha => exact .lst (lS e hs) (dpaS e ds _ ha)
  | .tuple ds, _, h => by cases h with | tup hs ha => exact .tup (tS e hs) (dpaS e ds _ ha)
  | .dict _, _, h => nomatch h
theorem dpaS (e : Same H H') : ∀ (ds : List PyData) (vs : List V), DpAll K H vs ds → DpAll K H' vs ds
  | [], _, h => by cases h; exact .nil
  | d :: ds, _, h => by cases h with | cons h1 h2 => exact .cons (dpS e d _ h1) (dpaS e ds _ h2)
end
theorem Dpx.mono {v : V} {d : PyData} (e : Same H H') (h : Dp K H v d) : Dp K H' v d := dpS e d v h
end
theorem sz {n : Nat} (h : n ≤ 1000000) : n ≤ sizeLine := Nat.le_trans h (by decide)
theorem szl {n : Nat} (h : n ≤ 1000000) : n < sizeLine := Nat.lt_of_le_of_lt h (by decide)
end SL

set_option Elab.async false
set_option linter.all false
set_option maxRecDepth 100000
set_option maxHeartbeats 4000000
namespace SL
open PySem L2
def RIf (k : Bool) (A B : Prop) : Prop := if k = true then A else B
def RB (x : V) (H : Hp) (Q : Bool → Hp → Prop) : Prop := ∃ k, x = .bl k ∧ Q k H
def RTup (Q : VK) (xs : List V) (H : Hp) : Prop := xs.length ≤ sizeLine ∧ ∀ p, H p = none → Q (.ref p) (upd H p (.tup xs))
def RLst (Q : VK) (xs : List V) (H : Hp) : Prop := xs.length ≤ sizeLine ∧ ∀ p, H p = none → Q (.ref p) (upd H p (.lst xs))
def RTy (K : PySem.W.Frag) (T : String) (x : V) (H : Hp) (A : Prop) : Prop := tyV K T x H ∧ A
def RPart (x : V) (H : Hp) (Q : Option Int → Hp → Prop) : Prop := ∃ i, x = .int i ∧ Q (some i) H
def RIL (K : PySem.W.Frag) (x : V) (H : Hp) (R : It → Hp → Prop) : Prop := ∃ a, x = .ref a ∧ (∃ xs, SqL K H a xs) ∧ R (Itl K a) H
def RIT (K : PySem.W.Frag) (x : V) (H : Hp) (R : It → Hp → Prop) : Prop := ∃ a, x = .ref a ∧ (∃ xs, SqT K H a xs) ∧ R (Itt K a) H
def RI1 (vs : List V) (H : Hp) (R : It → Hp → Prop) : Prop := ∃ j : Int, vs = [.int j] ∧ -(2 ^ 62) ≤ j ∧ j < 2 ^ 62 ∧ R (Itr 0 j.toNat) H
def RI2 (vs : List V) (H : Hp) (R : It → Hp → Prop) : Prop := ∃ i j : Int, vs = [.int i, .int j] ∧ (-(2 ^ 62) ≤ i ∧ i < 2 ^ 62 ∧ -(2 ^ 62) ≤ j ∧ j < 2 ^ 62) ∧ R (Itr i (j - i).toNat) H
def RFor (J : It) (g : TG) (tb : TS) (D : Ends) (σ : L2.St) (H1 : Hp) : Prop := ∃ W : Nat → Nat → L2.St → Hp → Prop, (∃ m, W 0 m σ H1) ∧ ∀ i m σ H, W i m σ H →
  (J.stop i H ∧ D.nx σ H) ∨ (J.go i H ∧ ∃ N : L2.St → Hp → Prop, (∀ σ' H', N σ' H' → ∃ m', m' < m ∧ W (i + 1) m' σ' H') ∧ ∀ x H', J.yld i H x H' → g x σ H' fun σ2 H2 => tb { D with nx := N, ct := N, bk := D.nx } σ2 H2)
-- calls by values
def rLen (K : PySem.W.Frag) : List V → Hp → VK → Prop := fun xs H Q => ∃ p ys, xs = [V.ref p] ∧ (SqL K H p ys ∨ SqT K H p ys) ∧ Q (V.int ys.length) H
section
variable {n b c : L2.St → Hp → Prop} {r : VK} {σ : L2.St} {H : Hp} {Q : VK} {QB : Bool → Hp → Prop} {t u : TS} {te ta tb : TE} {tc td : TT} {x y v : V} {K : PySem.W.Frag}
theorem w_seq (h : t ⟨u ⟨n, r, b, c⟩, r, b, c⟩ σ H) : tSeq t u ⟨n, r, b, c⟩ σ H := h
theorem w_asg {i : Nat} (h : te σ H fun v H1 => n (σ.set i (some v)) H1) : tAsg te (gName i) ⟨n, r, b, c⟩ σ H := h
theorem w_ret (h : te σ H r) : tRet te ⟨n, r, b, c⟩ σ H := h
theorem w_retN (h : r .non H) : tRetN ⟨n, r, b, c⟩ σ H := h
theorem w_drop (h : te σ H fun _ H1 => n σ H1) : tDrop te ⟨n, r, b, c⟩ σ H := h
theorem w_next (h : n σ H) : tNext ⟨n, r, b, c⟩ σ H := h
theorem w_break (h : b σ H) : tBreak ⟨n, r, b, c⟩ σ H := h
theorem w_cont (h : c σ H) : tCont ⟨n, r, b, c⟩ σ H := h
theorem w_if (h : tc σ H fun k H1 => RIf k (t ⟨n, r, b, c⟩ σ H1) (u ⟨n, r, b, c⟩ σ H1)) : tIfS tc t u ⟨n, r, b, c⟩ σ H := h
theorem w_var {i : Nat} (h : σ[i]? = some (some v)) (q : Q v H) : tVar i σ H Q := ⟨v, h, q⟩
theorem w_c (q : Q v H) : tC v σ H Q := q
theorem w_op {R : R2} (h : ta σ H fun x H1 => tb σ H1 fun y H2 => R x y H2 Q) : tOp R ta tb σ H Q := h
theorem w_un {R : V → Hp → VK → Prop} (h : ta σ H fun x H1 => R x H1 Q) : tUn R ta σ H Q := h
theorem w_test (h : te σ H fun x H1 => RB x H1 QB) : tTest te σ H QB := h
theorem w_tB (h : te σ H fun x H1 => RB x H1 QB) : tB te σ H QB := h
theorem w_and (h : tc σ H fun k H1 => RIf k (td σ H1 QB) (QB false H1)) : tAnd tc td σ H QB := h
theorem w_or (h : tc σ H fun k H1 => RIf k (QB true H1) (td σ H1 QB)) : tOr tc td σ H QB := h
theorem w_not (h : tc σ H fun k H1 => QB (!k) H1) : tNot tc σ H QB := h
theorem w_andV (h : ta σ H fun x H1 => RB x H1 fun k H1 => RIf k (tb σ H1 Q) (Q (.bl false) H1)) : tAndV ta tb σ H Q := h
theorem w_orV (h : ta σ H fun x H1 => RB x H1 fun k H1 => RIf k (Q (.bl true) H1) (tb σ H1 Q)) : tOrV ta tb σ H Q := h
theorem w_notV (h : ta σ H fun x H1 => RB x H1 fun k H1 => Q (.bl (!k)) H1) : tNotV ta σ H Q := h
theorem w_ifE (h : tc σ H fun k H1 => RIf k (ta σ H1 Q) (tb σ H1 Q)) : tIf tc ta tb σ H Q := h
theorem w_nil {QA : List V → Hp → Prop} (q : QA [] H) : tNil σ H QA := q
theorem w_cons {QA : List V → Hp → Prop} {tr : TA} (h : ta σ H fun x H1 => tr σ H1 fun xs H2 => QA (x :: xs) H2) : tCons ta tr σ H QA := h
theorem w_tup {tr : TA} (h : tr σ H fun xs H1 => RTup Q xs H1) : tTup tr σ H Q := h
theorem w_lst {tr : TA} (h : tr σ H fun xs H1 => RLst Q xs H1) : tLst tr σ H Q := h
theorem w_cb {R : List V → Hp → VK → Prop} {tr : TA} (h : tr σ H fun vs H1 => R vs H1 Q) : tCB R tr σ H Q := h
theorem w_call {sp : Sp} {E : XK} {tr : TA} (h : tr σ H fun vs H1 => sp vs H1 Q E) : tCall sp [] E tr σ H Q := by
  show tr σ H fun vs H1 => sp (vs ++ []) H1 Q E
  simpa only [List.append_nil] using h
theorem w_calld {sp : Sp} {dvs : List V} {E : XK} {tr : TA} (h : tr σ H fun vs H1 => sp (vs ++ dvs) H1 Q E) : tCall sp dvs E tr σ H Q := h
theorem w_callS {sp : Sp} {E : L2.St → XK} {tr : TA} (h : tr σ H fun vs H1 => sp vs H1 Q (E σ)) : tCallS sp E tr σ H Q := h
theorem w_bm {T : String} {R : V → List V → Hp → VK → Prop} {tr : TA} (h : te σ H fun x H1 => RTy K T x H1 (tr σ H1 fun xs H2 => R x xs H2 Q)) : tBM K T R te tr σ H Q := h
theorem w_bm0 {T : String} {R : V → List V → Hp → VK → Prop} (h : te σ H fun x H1 => RTy K T x H1 (R x [] H1 Q)) : tBM0 K T R te σ H Q := h
theorem w_sl {R : V → Option Int → Option Int → Hp → VK → Prop} {tl th : TO} (h : te σ H fun x H1 => tl σ H1 fun l H2 => th σ H2 fun u H3 => R x l u H3 Q) : tSl R te tl th σ H Q := h
theorem w_part {QO : Option Int → Hp → Prop} (h : te σ H fun x H1 => RPart x H1 QO) : tPart te σ H QO := h
theorem w_nopart {QO : Option Int → Hp → Prop} (h : QO none H) : tNoPart σ H QO := h
theorem w_for {wi : TI} {g : TG} (h : wi σ H fun J H1 => RFor J g t ⟨n, r, b, c⟩ σ H1) : tFor wi g t ⟨n, r, b, c⟩ σ H := h
theorem w_iL {R : It → Hp → Prop} (h : te σ H fun x H1 => RIL K x H1 R) : iList K te σ H R := h
theorem w_iT {R : It → Hp → Prop} (h : te σ H fun x H1 => RIT K x H1 R) : iTup K te σ H R := h
theorem w_i1 {R : It → Hp → Prop} {tr : TA} (h : tr σ H fun x H1 => RI1 x H1 R) : iRng1 tr σ H R := h
theorem w_i2 {R : It → Hp → Prop} {tr : TA} (h : tr σ H fun x H1 => RI2 x H1 R) : iRng2 tr σ H R := h
theorem w_aug {i : Nat} {ti : TIp} (h : σ[i]? = some (some x)) (q : te σ H fun y H1 => ti x y H1 fun z H2 => n (σ.set i (some z)) H2) : tAug i te ti ⟨n, r, b, c⟩ σ H := ⟨x, h, q⟩
theorem w_par {i j : Nat} {tr : TA} (h : tr σ H fun vs H1 => ∃ v w, vs = [v, w] ∧ n ((σ.set i (some v)).set j (some w)) H1) : tPar i j tr ⟨n, r, b, c⟩ σ H := h
-- values
theorem r_ifT {A B : Prop} (h : A) : RIf true A B := by unfold RIf; rw [if_pos rfl]; exact h
theorem r_ifF {A B : Prop} (h : B) : RIf false A B := by unfold RIf; rw [if_neg Bool.false_ne_true]; exact h
theorem r_ifNt {A B : Prop} (h : B) : RIf (!true) A B := r_ifF h
theorem r_ifNf {A B : Prop} (h : A) : RIf (!false) A B := r_ifT h
theorem r_ifRN {a : Addr} {A B : Prop} (h : B) : RIf (decide (V.ref a = V.non)) A B := by rw [decide_eq_false (fun z => nomatch z)]; exact r_ifF h
theorem r_ifNRN {a : Addr} {A B : Prop} (h : A) : RIf (!decide (V.ref a = V.non)) A B := by rw [decide_eq_false (fun z => nomatch z)]; exact r_ifT h
theorem r_ifNN {A B : Prop} (h : A) : RIf (decide (V.non = V.non)) A B := by rw [decide_eq_true rfl]; exact r_ifT h
theorem r_ifNNN {A B : Prop} (h : B) : RIf (!decide (V.non = V.non)) A B := by rw [decide_eq_true rfl]; exact r_ifF h
theorem r_if {k : Bool} {A B : Prop} (h1 : k = true → A) (h2 : k = false → B) : RIf k A B := by
  cases k with
  | true => exact r_ifT (h1 rfl)
  | false => exact r_ifF (h2 rfl)
theorem r_ifD {p : Prop} [Decidable p] {A B : Prop} (h1 : p → A) (h2 : ¬ p → B) : RIf (decide p) A B := r_if (fun h => h1 (of_decide_eq_true h)) fun h => h2 (of_decide_eq_false h)
theorem r_ifN {p : Prop} [Decidable p] {A B : Prop} (h1 : ¬ p → A) (h2 : p → B) : RIf (!decide p) A B := by
  by_cases h : p
  · rw [decide_eq_true h]; exact r_ifF (h2 h)
  · rw [decide_eq_false h]; exact r_ifT (h1 h)
theorem r_ifDT {p : Prop} [Decidable p] {A B : Prop} (h : p) (q : A) : RIf (decide p) A B := by rw [decide_eq_true h]; exact r_ifT q
theorem r_ifDF {p : Prop} [Decidable p] {A B : Prop} (h : ¬ p) (q : B) : RIf (decide p) A B := by rw [decide_eq_false h]; exact r_ifF q
theorem r_ifNT {p : Prop} [Decidable p] {A B : Prop} (h : ¬ p) (q : A) : RIf (!decide p) A B := by rw [decide_eq_false h]; exact r_ifT q
theorem r_ifNF {p : Prop} [Decidable p] {A B : Prop} (h : p) (q : B) : RIf (!decide p) A B := by rw [decide_eq_true h]; exact r_ifF q
theorem r_b {k : Bool} (q : QB k H) : RB (.bl k) H QB := ⟨k, rfl, q⟩
theorem r_I0 {g : Int → Int → V} {i j : Int} (q : Q (g i j) H) : rI0 g (.int i) (.int j) H Q := ⟨i, j, rfl, rfl, q⟩
theorem r_I {C : Int → Int → Prop} {g : Int → Int → V} {i j : Int} (h : C i j) (q : Q (g i j) H) : rI C g (.int i) (.int j) H Q := ⟨i, j, rfl, rfl, h, q⟩
theorem r_U {g : Int → V} {i : Int} (q : Q (g i) H) : rU g (.int i) H Q := ⟨i, rfl, q⟩
theorem decV {i j : Int} : decide (V.int i = V.int j) = decide (i = j) := by
  by_cases h : i = j
  · subst h; rw [decide_eq_true rfl, decide_eq_true rfl]
  · rw [decide_eq_false h, decide_eq_false (fun q => h (V.int.inj q))]
theorem decS {i j : Str} : decide (V.str i = V.str j) = decide (i = j) := by
  by_cases h : i = j
  · subst h; rw [decide_eq_true rfl, decide_eq_true rfl]
  · rw [decide_eq_false h, decide_eq_false (fun q => h (V.str.inj q))]
theorem decB {i j : Bool} : decide (V.bl i = V.bl j) = decide (i = j) := by
  cases i <;> cases j <;> rfl
theorem r_eqI {i j : Int} (q : Q (.bl (decide (i = j))) H) : rEq (.int i) (.int j) H Q := ⟨rfl, by rw [decV]; exact q⟩
theorem r_neI {i j : Int} (q : Q (.bl (!decide (i = j))) H) : rNe (.int i) (.int j) H Q := ⟨rfl, by rw [decV]; exact q⟩
theorem r_eqS {i j : Str} (q : Q (.bl (decide (i = j))) H) : rEq (.str i) (.str j) H Q := ⟨rfl, by rw [decS]; exact q⟩
theorem r_neS {i j : Str} (q : Q (.bl (!decide (i = j))) H) : rNe (.str i) (.str j) H Q := ⟨rfl, by rw [decS]; exact q⟩
theorem r_eqB {i j : Bool} (q : Q (.bl (decide (i = j))) H) : rEq (.bl i) (.bl j) H Q := ⟨rfl, by rw [decB]; exact q⟩
theorem r_neB {i j : Bool} (q : Q (.bl (!decide (i = j))) H) : rNe (.bl i) (.bl j) H Q := ⟨rfl, by rw [decB]; exact q⟩
theorem r_len {p : Addr} {xs : List V} (h : SqL K H p xs ∨ SqT K H p xs) (q : Q (.int xs.length) H) : rLen K [.ref p] H Q := ⟨p, xs, rfl, h, q⟩
theorem r_ixL {p : Addr} {xs : List V} {i : Int} (h : SqL K H p xs) (ha : atI xs i = some v) (q : Q v H) : rIxL K (.ref p) (.int i) H Q := ⟨p, xs, i, v, rfl, rfl, h, ha, q⟩
theorem r_ixT {p : Addr} {xs : List V} {i : Int} (h : SqT K H p xs) (ha : atI xs i = some v) (q : Q v H) : rIxT K (.ref p) (.int i) H Q := ⟨p, xs, i, v, rfl, rfl, h, ha, q⟩
theorem r_tyL {p : Addr} {xs : List V} {A : Prop} (h : SqL K H p xs) (q : A) : RTy K "list" (.ref p) H A := ⟨Or.inl ⟨rfl, _, h⟩, q⟩
theorem r_part {i : Int} {QO : Option Int → Hp → Prop} (q : QO (some i) H) : RPart (.int i) H QO := ⟨i, rfl, q⟩
variable {E : En} {F H' : Hp} {L L' : Led} {p : Addr} {xs : List V}
theorem r_tup (G : St E F H L) (hs : xs.length ≤ sizeLine) (q : ∀ p H', St E F H' ((p, .tup xs) :: L) → Q (.ref p) H') : RTup Q xs H := ⟨hs, fun p hp => q p _ (G.new hp)⟩
theorem r_lst (G : St E F H L) (hs : xs.length ≤ sizeLine) (q : ∀ p H', St E F H' ((p, .lst xs) :: L) → Q (.ref p) H') : RLst Q xs H := ⟨hs, fun p hp => q p _ (G.new hp)⟩
theorem r_tupS (G : St E F H L) (hs : xs.length ≤ sizeLine) (q : ∀ p H', Same H H' → St E F H' ((p, .tup xs) :: L) → Q (.ref p) H') : RTup Q xs H := ⟨hs, fun p hp => q p _ (same_new hp) (G.new hp)⟩
theorem r_lstS (G : St E F H L) (hs : xs.length ≤ sizeLine) (q : ∀ p H', Same H H' → St E F H' ((p, .lst xs) :: L) → Q (.ref p) H') : RLst Q xs H := ⟨hs, fun p hp => q p _ (same_new hp) (G.new hp)⟩
theorem r_append (G : St E F H L) (u : Upd L p (.lst xs) (.lst (xs ++ [v])) L') (hs : xs.length < sizeLine) (q : ∀ H', St E F H' L' → Q .non H') : rAppend (.ref p) [v] H Q :=
  ⟨p, xs, v, rfl, rfl, G.get u.mem, hs, q _ (G.put u)⟩
theorem r_pop (G : St E F H L) (u : Upd L p (.lst (xs ++ [v])) (.lst xs) L') (q : ∀ H', St E F H' L' → Q v H') : rPop (.ref p) [] H Q :=
  ⟨p, xs ++ [v], v, rfl, rfl, G.get u.mem, by simp, by rw [List.dropLast_concat]; exact q _ (G.put u)⟩
theorem r_reverse (G : St E F H L) (u : Upd L p (.lst xs) (.lst xs.reverse) L') (q : ∀ H', St E F H' L' → Q .non H') : rReverse (.ref p) [] H Q :=
  ⟨p, xs, rfl, rfl, G.get u.mem, q _ (G.put u)⟩
theorem r_setL {k : Int} {j : Nat} {QH : Hp → Prop} (G : St E F H L) (hj : ixN xs.length k = some j) (u : Upd L p (.lst xs) (.lst (xs.set j v)) L') (q : ∀ H', St E F H' L' → QH H') : rSetL (.ref p) (.int k) v H QH :=
  ⟨p, xs, k, j, rfl, rfl, G.get u.mem, hj, q _ (G.put u)⟩
theorem r_slL {lo hi : Option Int} (G : St E F H L) (h : SqL K H p xs) (q : ∀ p' H', St E F H' ((p', .lst (cutV xs lo hi)) :: L) → Q (.ref p') H') : rSlL K (.ref p) lo hi H Q :=
  ⟨p, xs, rfl, h, fun p' hp => q p' _ (G.new hp)⟩
theorem r_cat {p2 : Addr} {ys : List V} (G : St E F H L) (m1 : (p, HO.lst xs) ∈ L) (m2 : (p2, HO.lst ys) ∈ L) (hs : xs.length + ys.length ≤ sizeLine) (q : ∀ p' H', St E F H' ((p', .lst (xs ++ ys)) :: L) → Q (.ref p') H') : rCat (.ref p) (.ref p2) H Q :=
  ⟨p, p2, xs, ys, rfl, rfl, G.get m1, G.get m2, hs, fun p' hp => q p' _ (G.new hp)⟩
-- walks
theorem r_il {a : Addr} {R : It → Hp → Prop} (h : SqL K H a xs) (q : R (Itl K a) H) : RIL K (.ref a) H R := ⟨a, rfl, ⟨xs, h⟩, q⟩
theorem r_it {a : Addr} {R : It → Hp → Prop} (h : SqT K H a xs) (q : R (Itt K a) H) : RIT K (.ref a) H R := ⟨a, rfl, ⟨xs, h⟩, q⟩
theorem r_i1 {j : Int} {R : It → Hp → Prop} (h : -(2 ^ 62) ≤ j ∧ j < 2 ^ 62) (q : R (Itr 0 j.toNat) H) : RI1 [.int j] H R := ⟨j, rfl, h.1, h.2, q⟩
theorem r_i2 {i j : Int} {R : It → Hp → Prop} (h : -(2 ^ 62) ≤ i ∧ i < 2 ^ 62 ∧ -(2 ^ 62) ≤ j ∧ j < 2 ^ 62) (q : R (Itr i (j - i).toNat) H) : RI2 [.int i, .int j] H R := ⟨i, j, rfl, h, q⟩
theorem r_forL {a : Addr} {i0 : Nat} (Pv : Nat → L2.St → Hp → Prop) (h0 : Pv 0 σ H) (hl : ∀ i σ H, i ≤ xs.length → Pv i σ H → SqL K H a xs)
    (hs : ∀ i x σ H, xs[i]? = some x → Pv i σ H → t ⟨Pv (i + 1), r, n, Pv (i + 1)⟩ (σ.set i0 (some x)) H) (hd : ∀ σ H, Pv xs.length σ H → n σ H) : RFor (Itl K a) (gName i0) t ⟨n, r, b, c⟩ σ H :=
  for_list (D := ⟨n, r, b, c⟩) Pv h0 hl hs hd
theorem r_forT {a : Addr} {i0 : Nat} (Pv : Nat → L2.St → Hp → Prop) (h0 : Pv 0 σ H) (hl : ∀ i σ H, i ≤ xs.length → Pv i σ H → SqT K H a xs)
    (hs : ∀ i x σ H, xs[i]? = some x → Pv i σ H → t ⟨Pv (i + 1), r, n, Pv (i + 1)⟩ (σ.set i0 (some x)) H) (hd : ∀ σ H, Pv xs.length σ H → n σ H) : RFor (Itt K a) (gName i0) t ⟨n, r, b, c⟩ σ H :=
  for_tup (D := ⟨n, r, b, c⟩) Pv h0 hl hs hd
theorem r_forR {lo : Int} {m i0 : Nat} (Pv : Nat → L2.St → Hp → Prop) (h0 : Pv 0 σ H)
    (hs : ∀ i σ H, i < m → Pv i σ H → t ⟨Pv (i + 1), r, n, Pv (i + 1)⟩ (σ.set i0 (some (.int (lo + i)))) H) (hd : ∀ σ H, Pv m σ H → n σ H) : RFor (Itr lo m) (gName i0) t ⟨n, r, b, c⟩ σ H :=
  for_range (D := ⟨n, r, b, c⟩) Pv h0 hs hd
end
/-! ## the steps by themselves -/
section
set_option hygiene false
local macro_rules | `(tactic| walk_at "g1") => `(tactic| first
  | with_reducible refine w_seq ?_ | with_reducible refine w_asg ?_ | with_reducible refine w_var rfl ?_ | with_reducible refine w_c ?_ | with_reducible refine w_op ?_
  | with_reducible refine r_I0 ?_ | with_reducible refine w_test ?_ | with_reducible refine r_b ?_ | with_reducible refine w_if ?_ | with_reducible refine w_cons ?_ | with_reducible refine w_nil ?_
  | with_reducible refine w_ret ?_)
end
end SL

set_option Elab.async false
set_option linter.all false
set_option maxRecDepth 100000
set_option maxHeartbeats 4000000
namespace SL
open PySem L2
abbrev rAddI : R2 := rI0 fun i j => .int (i + j)
abbrev rSubI : R2 := rI0 fun i j => .int (i - j)
abbrev rMulI : R2 := rI CMulW fun i j => .int (i * j)
abbrev rDivI : R2 := rI CDivW fun i j => .int (i / j)
abbrev rModI : R2 := rI (fun _ j => 0 < j) fun i j => .int (i % j)
abbrev rPowI : R2 := rI CPow fun i j => .int (i ^ j.toNat)
abbrev rShlI : R2 := rI CShl fun i j => .int (i * 2 ^ j.toNat)
abbrev rShrI : R2 := rI (fun _ j => 0 ≤ j) fun i j => .int (i / 2 ^ j.toNat)
abbrev rAndI : R2 := rI0 fun i j => .int (Builtin.bitAnd i j)
abbrev rOrI : R2 := rI0 fun i j => .int (Builtin.bitOr i j)
abbrev rXorI : R2 := rI0 fun i j => .int (Builtin.bitXor i j)
abbrev rNegI : V → Hp → VK → Prop := rU fun i => .int (-i)
abbrev rLtI : R2 := rI0 fun i j => .bl (decide (i < j))
abbrev rLeI : R2 := rI0 fun i j => .bl (decide (i ≤ j))
abbrev rGtI : R2 := rI0 fun i j => .bl (decide (j < i))
abbrev rGeI : R2 := rI0 fun i j => .bl (decide (j ≤ i))
def rIsNone : R2 := fun x y H Q => y = .non ∧ Q (.bl (decide (x = .non))) H
def rNotNone : R2 := fun x y H Q => y = .non ∧ Q (.bl (!decide (x = .non))) H
def rInt1 : List V → Hp → VK → Prop := fun xs H Q => (∃ i, xs = [.int i] ∧ Q (.int i) H) ∨ ∃ k, xs = [.bl k] ∧ Q (.int (if k then 1 else 0)) H
def rListOf (K : PySem.W.Frag) : List V → Hp → VK → Prop := fun xs H Q => ∃ p ys, xs = [.ref p] ∧ (SqL K H p ys ∨ SqT K H p ys) ∧ ∀ l, H l = none → Q (.ref l) (upd H l (.lst ys))
def rTupOf (K : PySem.W.Frag) : List V → Hp → VK → Prop := fun xs H Q => ∃ p ys, xs = [.ref p] ∧ ((SqL K H p ys ∧ ∀ l, H l = none → Q (.ref l) (upd H l (.tup ys))) ∨ (SqT K H p ys ∧ Q (.ref p) H))
def rMax2 : List V → Hp → VK → Prop := fun xs H Q => ∃ i j, xs = [.int i, .int j] ∧ Q (.int (if j > i then j else i)) H
def rMin2 : List V → Hp → VK → Prop := fun xs H Q => ∃ i j, xs = [.int i, .int j] ∧ Q (.int (if j < i then j else i)) H
def rLenStr : List V → Hp → VK → Prop := fun xs H Q => ∃ z, xs = [.str z] ∧ z.length ≤ sizeLine ∧ Q (.int z.length) H
def rAddS : R2 := fun x y H Q => ∃ i j, x = .str i ∧ y = .str j ∧ i.length + j.length ≤ sizeLine ∧ Q (.str (i ++ j)) H
abbrev iAddI : TIp := ipI fun i j => i + j
abbrev iSubI : TIp := ipI fun i j => i - j
def tTru (K : PySem.W.Frag) (ta : TE) : TT := fun σ H Q => ta σ H fun x H' => ∃ k, TruV K x H' k ∧ Q k H'
def tRs (C : Addr) (E : XK) : TS := fun _ _ H => E (.ref C) none H
/-- what holds of an error wherever it was raised in the suite -/
def wAll (W : WX) : XK := fun cls d H => ∀ σ, W cls d σ H
theorem passes_all {X : Cx} {W : WX} (tk : Takes X W) : Passes (L2.CX X.prog X.w) X (wAll W) := passes_call tk fun _ _ σ _ h => h σ
section
variable {n b c : L2.St → Hp → Prop} {r : VK} {σ : L2.St} {H H' : Hp} {Q : VK} {x y v : V} {K : PySem.W.Frag} {E : En} {F : Hp} {L L' : Led} {p : Addr} {xs : List V}
theorem r_mul {i j : Int} {m k : Nat} (hi : i.natAbs < 2 ^ m) (hj : j.natAbs < 2 ^ k) (q : Q (.int (i * j)) H) (hm : 0 < m := by decide) (hk : 0 < k := by decide) (hs : m + k ≤ 1000000 := by decide) : rI CMulW (fun i j => .int (i * j)) (.int i) (.int j) H Q :=
  r_I (wide_mul hi hj hm hk hs) q
theorem r_div {i j : Int} (hj : 0 < j) (hb : j.natAbs < 2 ^ 200) (q : Q (.int (i / j)) H) : rI CDivW (fun i j => .int (i / j)) (.int i) (.int j) H Q :=
  r_I (wide_div hj hb (by decide) (by decide)) q
theorem r_isnone (q : Q (.bl (decide (x = .non))) H) : rIsNone x .non H Q := ⟨rfl, q⟩
theorem r_notnone (q : Q (.bl (!decide (x = .non))) H) : rNotNone x .non H Q := ⟨rfl, q⟩
theorem r_int1 {i : Int} (q : Q (.int i) H) : rInt1 [.int i] H Q := .inl ⟨i, rfl, q⟩
theorem r_int1b {k : Bool} (q : Q (.int (if k then 1 else 0)) H) : rInt1 [.bl k] H Q := .inr ⟨k, rfl, q⟩
theorem r_listof (G : St E F H L) (h : SqL K H p xs ∨ SqT K H p xs) (q : ∀ p' H', St E F H' ((p', .lst xs) :: L) → Q (.ref p') H') : rListOf K [.ref p] H Q :=
  ⟨p, xs, rfl, h, fun p' hp => q p' _ (G.new hp)⟩
theorem r_tupofL (G : St E F H L) (h : SqL K H p xs) (q : ∀ p' H', St E F H' ((p', .tup xs) :: L) → Q (.ref p') H') : rTupOf K [.ref p] H Q :=
  ⟨p, xs, rfl, .inl ⟨h, fun p' hp => q p' _ (G.new hp)⟩⟩
theorem r_tupofT (h : SqT K H p xs) (q : Q (.ref p) H) : rTupOf K [.ref p] H Q := ⟨p, xs, rfl, .inr ⟨h, q⟩⟩
theorem r_max2 {i j : Int} (q : Q (.int (if j > i then j else i)) H) : rMax2 [.int i, .int j] H Q := ⟨i, j, rfl, q⟩
theorem r_min2 {i j : Int} (q : Q (.int (if j < i then j else i)) H) : rMin2 [.int i, .int j] H Q := ⟨i, j, rfl, q⟩
theorem r_ipI {f : Int → Int → Int} {i j : Int} (q : Q (.int (f i j)) H) : ipI f (.int i) (.int j) H Q := ⟨i, j, rfl, rfl, q⟩
theorem w_tru {ta : TE} {QB : Bool → Hp → Prop} (h : ta σ H fun x H' => ∃ k, TruV K x H' k ∧ QB k H') : tTru K ta σ H QB := h
theorem w_rs {C : Addr} {X : XK} (h : X (.ref C) none H) : tRs C X ⟨n, r, b, c⟩ σ H := h
theorem w_gsub {te ti : TE} {t : TSet} {v : V} {QN : L2.St → Hp → Prop} (h : te σ H fun o H1 => ti σ H1 fun i H2 => t o i v H2 fun H3 => QN σ H3) : gSub te ti t v σ H QN := h
theorem w_asgG {te : TE} {g : TG} (h : te σ H fun v H1 => g v σ H1 n) : tAsg te g ⟨n, r, b, c⟩ σ H := h
end
/-! ## lists of ints, the draws -/
abbrev iv (ns : List Int) : List V := ns.map V.int
theorem iv_len {ns : List Int} : (iv ns).length = ns.length := List.length_map ..
theorem iv_get {ns : List Int} {i : Nat} {x : V} (h : (iv ns)[i]? = some x) : ∃ z, ns[i]? = some z ∧ x = .int z := by
  rw [List.getElem?_map] at h
  cases e : ns[i]? with
  | none => rw [e] at h; cases h
  | some z => rw [e] at h; exact ⟨z, rfl, (Option.some.inj h).symm⟩
theorem atI_iv {ns : List Int} {i : Int} (h0 : 0 ≤ i) (h1 : i < ns.length) : atI (iv ns) i = some (.int (ns.getD i.toNat 0)) := by
  have e : ((i.toNat : Nat) : Int) = i := by omega
  have hlt : i.toNat < ns.length := by omega
  have g : (iv ns)[i.toNat]? = some (.int (ns.getD i.toNat 0)) := by
    rw [List.getElem?_map, List.getElem?_eq_getElem hlt, List.getD_eq_getElem?_getD, List.getElem?_eq_getElem hlt]; rfl
  have q := atI_nat g
  rw [e] at q
  exact q
theorem ixN_of {n : Nat} {i : Int} (h0 : 0 ≤ i) (h1 : i < n) : ixN n i = some i.toNat := by
  unfold ixN; rw [if_pos h0, if_pos h1]
structure Dok (ds : List Int) : Prop where
  len : ds.length ≤ 1000
  rng : ∀ d ∈ ds, 0 ≤ d ∧ d < 1000
end SL

set_option Elab.async false
set_option linter.all false
set_option maxRecDepth 100000
set_option maxHeartbeats 4000000
namespace SL
open PySem L2
section

set_option hygiene false
local macro_rules | `(tactic| walk_at "m") => `(tactic| first | exact List.Mem.head _ | (refine List.Mem.tail _ ?_; walk_at "m"))
local macro_rules | `(tactic| walk_at "u") => `(tactic| first | exact Upd.head | (apply Upd.tail; walk_at "u"))
local macro_rules | `(tactic| walk_at "tk") => `(tactic| first | exact Tak.head | (apply Tak.tail; walk_at "tk"))
local macro_rules | `(tactic| walk_at "l") => `(tactic| first | assumption | exact lS (St.fh (by assumption)) (by assumption) | exact SqL.of (St.get (by assumption) (by walk_at "m")))
local macro_rules | `(tactic| walk_at "t") => `(tactic| first | assumption | exact tS (St.fh (by assumption)) (by assumption) | exact SqT.of (St.get (by assumption) (by walk_at "m")))
local macro_rules | `(tactic| walk_at "lt") => `(tactic| first | exact .inl (by walk_at "l") | exact .inr (by walk_at "t"))
local macro_rules | `(tactic| walk_at "sz") => `(tactic| first | (show _ ≤ sizeLine; decide) | exact sz (by simp) | exact szl (by simp) | exact sz (by omega) | exact szl (by omega) | exact sz (by simp; omega) | exact szl (by simp; omega))
local macro_rules | `(tactic| walk_at "c") => `(tactic| first | assumption | decide | omega)
local macro_rules | `(tactic| walk_at "g1") => `(tactic| with_reducible first
  | refine w_seq ?_ | refine w_asg ?_ | refine w_c ?_ | refine w_op ?_
  | refine r_I0 ?_ | refine w_test ?_ | refine r_b ?_ | refine w_if ?_ | refine w_cons ?_ | refine w_nil ?_
  | refine w_ret ?_ | refine w_drop ?_ | refine w_cb ?_ | refine w_call ?_ | refine w_next ?_ | refine w_tup ?_ | refine w_lst ?_ | refine w_bm ?_ | refine w_bm0 ?_
  | refine w_and ?_ | refine w_or ?_ | refine w_not ?_ | refine w_andV ?_ | refine w_orV ?_ | refine w_notV ?_ | refine w_tB ?_ | refine w_un ?_ | refine r_U ?_
  | refine w_for ?_ | refine w_iL ?_ | refine w_iT ?_ | refine w_i1 ?_ | refine w_i2 ?_ | refine w_sl ?_ | refine w_part ?_ | refine w_nopart ?_ | refine r_part ?_
  | refine r_eqI ?_ | refine r_neI ?_ | refine r_eqS ?_ | refine r_neS ?_ | refine r_eqB ?_ | refine r_neB ?_ | refine r_ifT ?_ | refine r_ifF ?_ | refine r_ifNt ?_ | refine r_ifNf ?_ | refine r_ifRN ?_ | refine r_ifNRN ?_ | refine r_ifNN ?_ | refine r_ifNNN ?_
  | refine w_ifE ?_ | refine r_int1 ?_ | refine r_int1b ?_ | refine r_isnone ?_ | refine r_notnone ?_ | refine r_max2 ?_ | refine r_min2 ?_ | refine r_ipI ?_ | refine w_tru ?_ | refine w_rs ?_
  | refine w_retN ?_ | refine w_break ?_ | refine w_cont ?_ | refine w_callS ?_ | refine w_asgG ?_ | refine w_gsub ?_)
local macro_rules | `(tactic| walk_at "g2") => `(tactic| first
  | ((with_reducible refine' w_var ?hv ?_); (case hv => rfl)) | ((with_reducible refine' w_aug ?hv ?_); (case hv => rfl))
  | ((with_reducible show rLen _ _ _ _); refine r_len (by walk_at "lt") ?_)
  | (with_reducible refine r_I ?cnd ?_; (case cnd => first | decide | omega | assumption | (unfold CPow; decide)))
  | ((with_reducible show RTy _ _ _ _ _); refine r_tyL (by walk_at "l") ?_)
  | (with_reducible refine r_ifDT (by walk_at "c") ?_) | (with_reducible refine r_ifDF (by walk_at "c") ?_)
  | (with_reducible refine r_ifNT (by walk_at "c") ?_) | (with_reducible refine r_ifNF (by walk_at "c") ?_))
local macro_rules | `(tactic| walk_at "go") => `(tactic| repeat (first | walk_at "g1" | walk_at "g2"))

abbrev F2 : L2.St → Hp → Prop := fun _ _ => False
abbrev D0 (Q : VK) : Ends := ⟨fun _ H' => Q .non H', Q, F2, F2⟩
/-! ### take -/
def cp_take (K : PySem.W.Frag) : Sp := fun vs H Q E => ∃ (p : Addr) (ds : List Int) (l : Int), vs = [.ref p, .int l] ∧
  (H p = some (.lst (iv ds)) ∧ Dok ds ∧ 0 < l ∧ ∀ i H' ds', 0 ≤ i → i < l → Dok ds' → SameB p H H' → H' p = some (.lst (iv ds')) → Q (.int i) H')
def ct_take (K : PySem.W.Frag) : TS := (tSeq (tIfS (tTest (tOp rEq (tCB (rLen K) (tCons (tVar 0) tNil)) (tC (.int (0))))) (tRet (tC (.int (0)))) tNext)
 (tRet (tOp rModI (tCB rInt1 (tCons (tBM0 K "list" rPop (tVar 0)) tNil)) (tVar 1))))
theorem cv_take {K : PySem.W.Frag} {vs : List V} {H : Hp} {Q : VK} {E : XK} (h : cp_take K vs H Q E) : ct_take K (D0 Q) (start ["draws", "limit"] vs) H := by
  obtain ⟨p, ds, l, rfl, hp, hd, hl, k⟩ := h
  have G := St.init1 (F := fun _ => none) (fun _ _ e => nomatch e) hp rfl
  unfold ct_take
  show tSeq _ _ (D0 Q) [some (.ref p), some (.int l)] H
  unfold D0
  walk_at "go"
  rw [iv_len]
  refine r_ifD (fun h => ?_) (fun h => ?_)
  · walk_at "go"
    exact k 0 H ds (by omega) hl hd (fun _ _ _ e => e) hp
  · have hne : ds ≠ [] := fun e => h (by rw [e]; rfl)
    obtain ⟨d1, z, rfl⟩ : ∃ d1 z, ds = d1 ++ [z] := ⟨ds.dropLast, ds.getLast hne, (List.dropLast_concat_getLast hne).symm⟩
    rw [show iv (d1 ++ [z]) = iv d1 ++ [.int z] from by simp] at G
    walk_at "go"
    refine r_pop G (by walk_at "u") fun H' G' => ?_
    walk_at "go"
    have hd' : Dok d1 := ⟨by have := hd.len; simp at this; omega, fun d m => hd.rng d (List.mem_append_left _ m)⟩
    exact k _ H' d1 (Int.emod_nonneg _ (by omega)) (Int.emod_lt_of_pos _ hl) hd' (G'.grB (by walk_at "m")).hh (G'.get (by walk_at "m"))
theorem u_take {K : PySem.W.Frag} {H F : Hp} {Q : VK} {X : XK} {E : En} {L : Led} {L' : List Int → Led} {p : Addr} {ds : List Int} {l : Int} (G : St E F H L) (u : ∀ ds', Upd L p (.lst (iv ds)) (.lst (iv ds')) (L' ds')) (hd : Dok ds) (hl : 0 < l)
    (q : ∀ i ds' H', 0 ≤ i → i < l → Dok ds' → St E F H' (L' ds') → Q (.int i) H') : cp_take K [.ref p, .int l] H Q X :=
  ⟨p, ds, l, rfl, G.get (u ds).mem, hd, hl, fun i H' ds' h0 h1 hd' hs hp => q i ds' H' h0 h1 hd' (G.putB (u ds') hs hp)⟩
/-! ### draws -/
def cp_draws (K : PySem.W.Frag) : Sp := fun vs H Q E => ∃ (a : Addr) (ns : List Int) (c : Int), vs = [.ref a, .int c] ∧
  (SqL K H a (iv ns) ∧ ns.length ≤ 63 ∧ 0 ≤ c ∧ c ≤ 1000 ∧ ∀ p H' ds, H p = none → Same H H' → H' p = some (.lst (iv ds)) → Dok ds → Q (.ref p) H')
def ct_draws (K : PySem.W.Frag) : TS := (tSeq (tAsg (tCB (rListOf K) (tCons (tVar 0) tNil)) (gName 2))
 (tSeq (tIfS (tTest (tOp rEq (tCB (rLen K) (tCons (tVar 2) tNil)) (tC (.int (0))))) (tAsg (tLst (tCons (tC (.int (7))) tNil)) (gName 2)) tNext)
 (tSeq (tAsg (tLst tNil) (gName 3))
 (tSeq (tAsg (tC (.int (12345))) (gName 4))
 (tSeq (tFor (iRng1 (tCons (tVar 1) tNil)) (gName 5) (tSeq (tAsg (tOp rModI (tVar 5) (tCB (rLen K) (tCons (tVar 2) tNil))) (gName 6))
 (tSeq (tAsg (tOp (rIxL K) (tVar 2) (tVar 6)) (gName 7))
 (tSeq (tAsg (tOp rModI (tCB rInt1 (tCons (tOp rAddI (tOp rAddI (tOp rAddI (tOp rMulI (tVar 4) (tC (.int (48271)))) (tOp rMulI (tOp rModI (tCB rInt1 (tCons (tVar 7) tNil)) (tC (.int (1000003)))) (tC (.int (69621))))) (tOp rMulI (tVar 5) (tC (.int (7919))))) (tC (.int (11)))) tNil)) (tC (.int (2147483647)))) (gName 4))
 (tSeq (tAsg (tOp rModI (tCB rInt1 (tCons (tOp rAddI (tOp rAddI (tOp rMulI (tVar 4) (tVar 4)) (tOp rMulI (tC (.int (31))) (tVar 4))) (tVar 5)) tNil)) (tC (.int (1000003)))) (gName 8))
 (tIfS (tTest (tOp rGeI (tVar 7) (tOp rPowI (tC (.int (10))) (tC (.int (18)))))) (tSeq (tDrop (tBM K "list" rAppend (tVar 3) (tCons (tOp rModI (tCB rInt1 (tCons (tVar 7) tNil)) (tC (.int (1000)))) tNil)))
 (tAsg (tOp rDivI (tVar 7) (tC (.int (1000)))) (gSub (tVar 2) (tVar 6) rSetL))) (tDrop (tBM K "list" rAppend (tVar 3) (tCons (tOp rModI (tCB rInt1 (tCons (tVar 8) tNil)) (tC (.int (1000)))) tNil)))))))))
 (tSeq (tDrop (tBM0 K "list" rReverse (tVar 3)))
 (tRet (tVar 3))))))))
theorem nab {i : Int} (h0 : 0 ≤ i) (h1 : i < 4294967296) : i.natAbs < 2 ^ 32 := by
  have : (2 : Nat) ^ 32 = 4294967296 := by decide
  omega
theorem iv_snoc {ns : List Int} {z : Int} : iv ns ++ [.int z] = iv (ns ++ [z]) := by simp
theorem iv_set {ns : List Int} {j : Nat} {z : Int} : (iv ns).set j (.int z) = iv (ns.set j z) := by simp [List.map_set]
theorem cv_draws {K : PySem.W.Frag} {vs : List V} {H : Hp} {Q : VK} {E : XK} (h : cp_draws K vs H Q E) : ct_draws K (D0 Q) (start ["script", "count", "cells", "found", "mixed", "k", "j", "cell", "again"] vs) H := by
  obtain ⟨a, ns, c, rfl, ha, hn, hc0, hc1, k⟩ := h
  have G := St.init (Same.refl H)
  unfold ct_draws
  show tSeq _ _ (D0 Q) [some (.ref a), some (.int c), none, none, none, none, none, none, none] H
  unfold D0
  walk_at "go"
  refine r_listof G (.inl ha) fun p1 H1 G1 => ?_
  walk_at "go"
  -- from here on: some list of ints at p1 that is not empty
  suffices S : ∀ (p1 : Addr) (cs : List Int) (H1 : Hp) (L : Led), St ⟨H, H⟩ H H1 ((p1, .lst (iv cs)) :: L) → 0 < cs.length → cs.length ≤ 63 →
      tSeq (tAsg (tLst tNil) (gName 3)) (tSeq (tAsg (tC (.int 12345)) (gName 4)) _) ⟨fun _ H' => Q .non H', Q, F2, F2⟩ [some (.ref a), some (.int c), some (.ref p1), none, none, none, none, none, none] H1 from by
    rw [iv_len]
    refine r_ifD (fun h => ?_) (fun h => ?_)
    · walk_at "go"
      refine r_lst G1 (by walk_at "sz") fun p2 H2 G2 => ?_
      exact S p2 [7] H2 _ G2 (by decide) (by decide)
    · walk_at "g1"
      exact S p1 ns H1 [] G1 (by omega) hn
  intro p1 cs H1 L G1 hc hc63
  walk_at "go"
  refine r_lst G1 (by walk_at "sz") fun p2 H2 G2 => ?_
  walk_at "go"
  refine r_i1 (by omega) ?_
  refine r_forR (fun i σ H' => ∃ (cs' ds : List Int) (m : Int) (v5 v6 v7 v8 : Option V), σ = [some (.ref a), some (.int c), some (.ref p1), some (.ref p2), some (.int m), v5, v6, v7, v8] ∧
      St ⟨H, H⟩ H H' ((p2, .lst (iv ds)) :: (p1, .lst (iv cs')) :: L) ∧ cs'.length = cs.length ∧ ds.length = i ∧ (∀ d ∈ ds, 0 ≤ d ∧ d < 1000) ∧ 0 ≤ m ∧ m < 2147483647)
    ⟨cs, [], 12345, none, none, none, none, rfl, G2, rfl, rfl, (fun _ h => nomatch h), by omega, by omega⟩ ?_ ?_
  · rintro i σ H' hi ⟨cs', ds, m, v5, v6, v7, v8, rfl, G3, hl, hdl, hr, hm0, hm1⟩
    have hi' : (i : Int) < 1000 := by omega
    have hcl : (0 : Int) < (iv cs').length := by rw [iv_len]; omega
    walk_at "go"
    generalize hj : (0 + (i : Int)) % ((iv cs').length : Int) = j
    have hj0 : 0 ≤ j := by rw [← hj]; exact Int.emod_nonneg _ (by omega)
    have hj1 : j < (cs'.length : Int) := by rw [← hj, iv_len]; rw [iv_len] at hcl; exact Int.emod_lt_of_pos _ hcl
    refine r_ixL (by walk_at "l") (atI_iv hj0 hj1) ?_
    generalize cs'.getD j.toNat 0 = z
    walk_at "go"
    refine r_mul (m := 32) (k := 32) (nab hm0 (by omega)) (by decide) ?_
    walk_at "go"
    have hz0 : 0 ≤ z % 1000003 := Int.emod_nonneg _ (by decide)
    have hz1 : z % 1000003 < 1000003 := Int.emod_lt_of_pos _ (by decide)
    refine r_mul (m := 32) (k := 32) (nab hz0 (by omega)) (by decide) ?_
    walk_at "go"
    refine r_mul (m := 32) (k := 32) (nab (by omega) (by omega)) (by decide) ?_
    walk_at "go"
    generalize hM : (m * 48271 + z % 1000003 * 69621 + (0 + (i : Int)) * 7919 + 11) % 2147483647 = m'
    have hm0' : 0 ≤ m' := by rw [← hM]; exact Int.emod_nonneg _ (by decide)
    have hm1' : m' < 2147483647 := by rw [← hM]; exact Int.emod_lt_of_pos _ (by decide)
    refine r_mul (m := 32) (k := 32) (nab hm0' (by omega)) (nab hm0' (by omega)) ?_
    walk_at "go"
    refine r_mul (m := 32) (k := 32) (by decide) (nab hm0' (by omega)) ?_
    walk_at "go"
    generalize (m' * m' + 31 * m' + (0 + (i : Int))) % 1000003 = w
    refine r_ifD (fun h => ?_) (fun h => ?_)
    · walk_at "go"
      refine r_append G3 (by walk_at "u") (szl (by rw [iv_len]; omega)) fun H4 G4 => ?_
      walk_at "go"
      refine r_div (by decide) (by decide) ?_
      walk_at "go"
      refine r_setL (xs := iv cs') G4 (ixN_of hj0 (by rw [iv_len]; exact hj1)) (by walk_at "u") fun H5 G5 => ?_
      rw [iv_snoc, iv_set] at G5
      refine ⟨_, _, m', _, _, _, _, rfl, G5, by rw [List.length_set]; exact hl, by simp [hdl], ?_, hm0', hm1'⟩
      intro d hd
      rcases List.mem_append.mp hd with q | q
      · exact hr d q
      · rw [List.mem_singleton.mp q]
        exact ⟨Int.emod_nonneg _ (by decide), Int.emod_lt_of_pos _ (by decide)⟩
    · walk_at "go"
      refine r_append G3 (by walk_at "u") (szl (by rw [iv_len]; omega)) fun H4 G4 => ?_
      rw [iv_snoc] at G4
      refine ⟨_, _, m', _, _, _, _, rfl, G4, hl, by simp [hdl], ?_, hm0', hm1'⟩
      intro d hd
      rcases List.mem_append.mp hd with q | q
      · exact hr d q
      · rw [List.mem_singleton.mp q]
        exact ⟨Int.emod_nonneg _ (by decide), Int.emod_lt_of_pos _ (by decide)⟩
  · rintro σ H' ⟨cs', ds, m, v5, v6, v7, v8, rfl, G3, hl, hdl, hr, hm0, hm1⟩
    walk_at "go"
    refine r_reverse G3 (by walk_at "u") fun H4 G4 => ?_
    walk_at "go"
    rw [show (iv ds).reverse = iv ds.reverse from by simp] at G4
    refine k p2 H4 ds.reverse ?_ G4.bh (G4.get (by walk_at "m")) ⟨by rw [List.length_reverse]; omega, fun d hd => hr d (List.mem_reverse.mp hd)⟩
    exact (G4.own _ (by walk_at "m")).2.2
theorem u_draws {K : PySem.W.Frag} {H F : Hp} {Q : VK} {X : XK} {E : En} {L : Led} {a : Addr} {ns : List Int} {c : Int} (G : St E F H L) (ha : SqL K H a (iv ns)) (hn : ns.length ≤ 63) (h0 : 0 ≤ c) (h1 : c ≤ 1000)
    (q : ∀ p ds H', Dok ds → St E F H' ((p, .lst (iv ds)) :: L) → Q (.ref p) H') : cp_draws K [.ref a, .int c] H Q X :=
  ⟨a, ns, c, rfl, ha, hn, h0, h1, fun p H' ds hn hs hp hd => q p ds H' hd (G.add hs hn hp)⟩
end
end SL

set_option Elab.async false
set_option linter.all false
set_option maxRecDepth 100000
set_option maxHeartbeats 4000000
namespace L2
open PySem PySem.Spec PyProof.Rows
/-! ## a list or a tuple is walked -/
def SqB (K : PySem.W.Frag) (H : Hp) (a : Addr) (xs : List V) : Bool → Prop
  | true => SqL K H a xs
  | false => SqT K H a xs
def Itb (K : PySem.W.Frag) (a : Addr) : Bool → It
  | true => Itl K a
  | false => Itt K a
def RISq (K : PySem.W.Frag) (x : V) (H : Hp) (R : It → Hp → Prop) : Prop := ∃ (a : Addr) (b : Bool) (xs : List V), x = .ref a ∧ SqB K H a xs b ∧ R (Itb K a b) H
def iSeq (K : PySem.W.Frag) (tl : TE) : TI := fun σ H R => tl σ H fun x H1 => RISq K x H1 R
section
variable {X : Cx} {tg : Expr}
theorem pi_seq {l : Expr} {tl : TE} (hl : PE X l tl) : PI X tg l (iSeq X.K tl) := by
  refine ⟨fun pins s σ H R I h => thn (hl.run pins s σ H _ I h) fun v s1 hq => ?_⟩
  obtain ⟨x, H1, I1, rx, a, b, xs, e, sq, q⟩ := hq
  subst e
  obtain rfl : v = Value.ref a := rx
  have fp : ∀ c ∈ [s1.heap.objs.size], FpOk X pins H1 c := fun c hc => by
    rw [List.mem_singleton.mp hc]
    exact I1.fpOk (Nat.le_refl _) (I1.hok.fresh (Nat.le_refl _))
  have old : ∀ (o : Obj), Inv X pins σ H1 { s1 with heap := s1.heap.push o } := fun o => I1.kept (t' := s1.toks) fun _ _ z => Heap.get?_push_of_some _ z
  cases b with
  | true =>
    obtain ⟨its, _, p, _⟩ := I1.list (show SqL X.K H1 a xs from sq)
    exact wpAny_pyIter_list p.isList ⟨_, [s1.heap.objs.size], _, Itl X.K a, H1, rfl, old _, turn_list a _, ⟨_, Heap.get?_push_size _ rfl, rfl, rfl⟩, fp, q⟩
  | false =>
    obtain ⟨its, _, p, _⟩ := I1.tuple (show SqT X.K H1 a xs from sq)
    exact wpAny_pyIter_tuple (show s1.heap.IsTuple a its.toArray from p) ⟨_, [s1.heap.objs.size], _, Itt X.K a, H1, rfl, old _, turn_tuple a _, ⟨_, Heap.get?_push_size _ rfl, rfl, rfl⟩, fp, q⟩
end
end L2
namespace SL
open PySem L2
section

set_option hygiene false
local macro_rules | `(tactic| walk_at "m") => `(tactic| first | exact List.Mem.head _ | (refine List.Mem.tail _ ?_; walk_at "m"))
local macro_rules | `(tactic| walk_at "u") => `(tactic| first | exact Upd.head | (apply Upd.tail; walk_at "u"))
local macro_rules | `(tactic| walk_at "tk") => `(tactic| first | exact Tak.head | (apply Tak.tail; walk_at "tk"))
local macro_rules | `(tactic| walk_at "l") => `(tactic| first | assumption | exact lS (St.fh (by assumption)) (by assumption) | exact SqL.of (St.get (by assumption) (by walk_at "m")))
local macro_rules | `(tactic| walk_at "t") => `(tactic| first | assumption | exact tS (St.fh (by assumption)) (by assumption) | exact SqT.of (St.get (by assumption) (by walk_at "m")))
local macro_rules | `(tactic| walk_at "lt") => `(tactic| first | exact .inl (by walk_at "l") | exact .inr (by walk_at "t"))
local macro_rules | `(tactic| walk_at "sz") => `(tactic| first | (show _ ≤ sizeLine; decide) | exact sz (by simp) | exact szl (by simp) | exact sz (by omega) | exact szl (by omega) | exact sz (by simp; omega) | exact szl (by simp; omega))
local macro_rules | `(tactic| walk_at "c") => `(tactic| first | assumption | decide | omega)
local macro_rules | `(tactic| walk_at "g1") => `(tactic| with_reducible first
  | refine w_seq ?_ | refine w_asg ?_ | refine w_c ?_ | refine w_op ?_
  | refine r_I0 ?_ | refine w_test ?_ | refine r_b ?_ | refine w_if ?_ | refine w_cons ?_ | refine w_nil ?_
  | refine w_ret ?_ | refine w_drop ?_ | refine w_cb ?_ | refine w_call ?_ | refine w_next ?_ | refine w_tup ?_ | refine w_lst ?_ | refine w_bm ?_ | refine w_bm0 ?_
  | refine w_and ?_ | refine w_or ?_ | refine w_not ?_ | refine w_andV ?_ | refine w_orV ?_ | refine w_notV ?_ | refine w_tB ?_ | refine w_un ?_ | refine r_U ?_
  | refine w_for ?_ | refine w_iL ?_ | refine w_iT ?_ | refine w_i1 ?_ | refine w_i2 ?_ | refine w_sl ?_ | refine w_part ?_ | refine w_nopart ?_ | refine r_part ?_
  | refine r_eqI ?_ | refine r_neI ?_ | refine r_eqS ?_ | refine r_neS ?_ | refine r_eqB ?_ | refine r_neB ?_ | refine r_ifT ?_ | refine r_ifF ?_ | refine r_ifNt ?_ | refine r_ifNf ?_ | refine r_ifRN ?_ | refine r_ifNRN ?_ | refine r_ifNN ?_ | refine r_ifNNN ?_
  | refine w_ifE ?_ | refine r_int1 ?_ | refine r_int1b ?_ | refine r_isnone ?_ | refine r_notnone ?_ | refine r_max2 ?_ | refine r_min2 ?_ | refine r_ipI ?_ | refine w_tru ?_ | refine w_rs ?_
  | refine w_retN ?_ | refine w_break ?_ | refine w_cont ?_ | refine w_callS ?_ | refine w_asgG ?_ | refine w_gsub ?_)
local macro_rules | `(tactic| walk_at "g2") => `(tactic| first
  | ((with_reducible refine' w_var ?hv ?_); (case hv => rfl)) | ((with_reducible refine' w_aug ?hv ?_); (case hv => rfl))
  | ((with_reducible show rLen _ _ _ _); refine r_len (by walk_at "lt") ?_)
  | (with_reducible refine r_I ?cnd ?_; (case cnd => first | decide | omega | assumption | (unfold CPow; decide)))
  | ((with_reducible show RTy _ _ _ _ _); refine r_tyL (by walk_at "l") ?_)
  | (with_reducible refine r_ifDT (by walk_at "c") ?_) | (with_reducible refine r_ifDF (by walk_at "c") ?_)
  | (with_reducible refine r_ifNT (by walk_at "c") ?_) | (with_reducible refine r_ifNF (by walk_at "c") ?_))
local macro_rules | `(tactic| walk_at "go") => `(tactic| repeat (first | walk_at "g1" | walk_at "g2"))

variable {n b c : L2.St → Hp → Prop} {r : VK} {σ : L2.St} {H H' : Hp} {Q : VK} {t : TS} {te : TE} {x y v : V} {K : PySem.W.Frag} {E : En} {F : Hp} {L L' : Led} {p a : Addr} {xs : List V} {k : Bool}
theorem qS (e : Same H H') (h : SqB K H a xs k) : SqB K H' a xs k := by
  cases k with
  | true => exact lS e h
  | false => exact tS e h
theorem qor (h : SqB K H a xs k) : SqL K H a xs ∨ SqT K H a xs := by
  cases k with
  | true => exact .inl h
  | false => exact .inr h
theorem w_iSq {R : It → Hp → Prop} (h : te σ H fun x H1 => RISq K x H1 R) : iSeq K te σ H R := h
theorem r_isq {R : It → Hp → Prop} (h : SqB K H a xs k) (q : R (Itb K a k) H) : RISq K (.ref a) H R := ⟨a, k, xs, rfl, h, q⟩
theorem r_forB {i0 : Nat} (Pv : Nat → L2.St → Hp → Prop) (h0 : Pv 0 σ H) (hl : ∀ i σ H, i ≤ xs.length → Pv i σ H → SqB K H a xs k)
    (hs : ∀ i x σ H, xs[i]? = some x → Pv i σ H → t ⟨Pv (i + 1), r, n, Pv (i + 1)⟩ (σ.set i0 (some x)) H) (hd : ∀ σ H, Pv xs.length σ H → n σ H) : RFor (Itb K a k) (gName i0) t ⟨n, r, b, c⟩ σ H := by
  cases k with
  | true => exact r_forL Pv h0 hl hs hd
  | false => exact r_forT Pv h0 hl hs hd
/-! ## comprehensions -/
def RApp (D : Addr) (y : V) (H : Hp) (P : Hp → Prop) : Prop := ∃ acc, H D = some (.lst acc) ∧ acc.length < sizeLine ∧ P (upd H D (.lst (acc ++ [y])))
def RLc (J : It) (g : TG) (tt : TT) (te : TE) (vs : List Nat) (σ : L2.St) (Q : VK) (H1 : Hp) : Prop := ∀ D, H1 D = none → ∃ W : Nat → Nat → Hp → Prop, (∃ m, W 0 m (upd H1 D (.lst []))) ∧ ∀ i m H, W i m H →
  (J.stop i H ∧ Q (.ref D) H) ∨ (J.go i H ∧ ∃ Nx : Hp → Prop, (∀ H', Nx H' → ∃ m', m' < m ∧ W (i + 1) m' H') ∧ ∀ x H', J.yld i H x H' → g x (wipe σ vs) H' fun σ2 H2 => wipe σ2 vs = wipe σ vs ∧ tt σ2 H2 fun b H3 =>
    if b = true then te σ2 H3 fun y H4 => RApp D y H4 Nx else Nx H3)
theorem w_lc {wi : TI} {g : TG} {tt : TT} {vs : List Nat} (h : wi σ H fun J H1 => RLc J g tt te vs σ Q H1) : tLc wi g tt te vs σ H Q := h
theorem r_app {P : Hp → Prop} {acc : List V} (G : St E F H L) (u : Upd L p (.lst acc) (.lst (acc ++ [y])) L') (hs : acc.length < sizeLine) (q : ∀ H', St E F H' L' → P H') : RApp p y H P :=
  ⟨acc, G.get u.mem, hs, q _ (G.put u)⟩
theorem wipe_set1 {σ : L2.St} {i : Nat} {v : Option V} : wipe ((wipe σ [i]).set i v) [i] = wipe σ [i] := by
  show ((σ.set i none).set i v).set i none = σ.set i none
  rw [List.set_set, List.set_set]
theorem yes_of {σ : L2.St} {H : Hp} {A B : Hp → Prop} (h : A H) : tYes σ H fun b H3 => if b = true then A H3 else B H3 := by
  show (if true = true then A H else B H)
  rw [if_pos rfl]
  exact h
/-- over a list or a tuple, no test -/
theorem r_lcB {i0 : Nat} (G : St E F H L) (Pv : Addr → Nat → Hp → Prop) (h0 : ∀ D H', St E F H' ((D, .lst []) :: L) → Pv D 0 H') (hl : ∀ D i H', i ≤ xs.length → Pv D i H' → SqB K H' a xs k)
    (hs : ∀ D i x H', xs[i]? = some x → Pv D i H' → te ((wipe σ [i0]).set i0 (some x)) H' fun y H4 => RApp D y H4 (Pv D (i + 1))) (hd : ∀ D H', Pv D xs.length H' → Q (.ref D) H') : RLc (Itb K a k) (gName i0) tYes te [i0] σ Q H := by
  intro D hD
  have h0' := h0 D _ (G.new hD)
  cases k with
  | true => exact lc_list (K := K) (a := a) (xs := xs) (Qd := fun H' => Q (.ref D) H') (Pv D) h0' (hl D) (fun i x H' hi p => ⟨wipe_set1, yes_of (hs D i x H' hi p)⟩) (hd D)
  | false => exact lc_tup (K := K) (a := a) (xs := xs) (Qd := fun H' => Q (.ref D) H') (Pv D) h0' (hl D) (fun i x H' hi p => ⟨wipe_set1, yes_of (hs D i x H' hi p)⟩) (hd D)
theorem r_lcR {lo : Int} {m i0 : Nat} (G : St E F H L) (Pv : Addr → Nat → Hp → Prop) (h0 : ∀ D H', St E F H' ((D, .lst []) :: L) → Pv D 0 H')
    (hs : ∀ D i H', i < m → Pv D i H' → te ((wipe σ [i0]).set i0 (some (.int (lo + i)))) H' fun y H4 => RApp D y H4 (Pv D (i + 1))) (hd : ∀ D H', Pv D m H' → Q (.ref D) H') : RLc (Itr lo m) (gName i0) tYes te [i0] σ Q H := by
  intro D hD
  exact lc_range (Qd := fun H' => Q (.ref D) H') (Pv D) (h0 D _ (G.new hD)) (fun i H' hi p => ⟨wipe_set1, yes_of (hs D i H' hi p)⟩) (hd D)
/-- .. with a test -/
theorem r_lcBT {i0 : Nat} {tt : TT} (G : St E F H L) (Pv : Addr → Nat → Hp → Prop) (h0 : ∀ D H', St E F H' ((D, .lst []) :: L) → Pv D 0 H') (hl : ∀ D i H', i ≤ xs.length → Pv D i H' → SqB K H' a xs k)
    (hs : ∀ D i x H', xs[i]? = some x → Pv D i H' → tt ((wipe σ [i0]).set i0 (some x)) H' fun b H3 => RIf b (te ((wipe σ [i0]).set i0 (some x)) H3 fun y H4 => RApp D y H4 (Pv D (i + 1))) (Pv D (i + 1) H3)) (hd : ∀ D H', Pv D xs.length H' → Q (.ref D) H') : RLc (Itb K a k) (gName i0) tt te [i0] σ Q H := by
  intro D hD
  have h0' := h0 D _ (G.new hD)
  cases k with
  | true => exact lc_list (K := K) (a := a) (xs := xs) (Qd := fun H' => Q (.ref D) H') (Pv D) h0' (hl D) (fun i x H' hi p => ⟨wipe_set1, hs D i x H' hi p⟩) (hd D)
  | false => exact lc_tup (K := K) (a := a) (xs := xs) (Qd := fun H' => Q (.ref D) H') (Pv D) h0' (hl D) (fun i x H' hi p => ⟨wipe_set1, hs D i x H' hi p⟩) (hd D)
theorem r_lcRT {lo : Int} {m i0 : Nat} {tt : TT} (G : St E F H L) (Pv : Addr → Nat → Hp → Prop) (h0 : ∀ D H', St E F H' ((D, .lst []) :: L) → Pv D 0 H')
    (hs : ∀ D i H', i < m → Pv D i H' → tt ((wipe σ [i0]).set i0 (some (.int (lo + i)))) H' fun b H3 => RIf b (te ((wipe σ [i0]).set i0 (some (.int (lo + i)))) H3 fun y H4 => RApp D y H4 (Pv D (i + 1))) (Pv D (i + 1) H3)) (hd : ∀ D H', Pv D m H' → Q (.ref D) H') : RLc (Itr lo m) (gName i0) tt te [i0] σ Q H := by
  intro D hD
  exact lc_range (Qd := fun H' => Q (.ref D) H') (Pv D) (h0 D _ (G.new hD)) (fun i H' hi p => ⟨wipe_set1, hs D i H' hi p⟩) (hd D)
theorem take_snoc {α : Type} : ∀ {l : List α} {i : Nat} {x : α}, l[i]? = some x → l.take (i + 1) = l.take i ++ [x]
  | [], i, x, h => by simp at h
  | y :: l, 0, x, h => by
    have e : y = x := Option.some.inj h
    rw [e]; rfl
  | y :: l, i + 1, x, h => by
    have ih := take_snoc (l := l) (i := i) (x := x) h
    rw [List.take_succ_cons, ih]; rfl
/-- each item on its own, nothing else happens -/
theorem r_lcM {i0 : Nat} (f : V → V) (hsz : xs.length ≤ 1000000) (G : St E F H L) (hx : SqB K H a xs k)
    (hs : ∀ D (i : Nat) x acc H' (Q' : VK), xs[i]? = some x → Same H H' → St E F H' ((D, .lst acc) :: L) → Q' (f x) H' → te ((wipe σ [i0]).set i0 (some x)) H' Q')
    (q : ∀ D H', Same H H' → St E F H' ((D, .lst (xs.map f)) :: L) → Q (.ref D) H') : RLc (Itb K a k) (gName i0) tYes te [i0] σ Q H := by
  intro D0 hD0
  have G0 := St.init (Same.refl H)
  refine r_lcB (L := []) G0 (fun D i H' => H D = none ∧ Same H H' ∧ H' D = some (.lst ((xs.take i).map f))) (fun D H' G' => ⟨(G'.own _ (by walk_at "m")).2.2, G'.bh, G'.get (by walk_at "m")⟩) (fun D i H' _ h => qS h.2.1 hx) (fun D i x H' hi h => ?_) (fun D H' h => ?_) D0 hD0
  · have G' : St E F H' ((D, .lst ((xs.take i).map f)) :: L) := G.add h.2.1 h.1 h.2.2
    refine hs D i x _ H' _ hi h.2.1 G' ⟨_, h.2.2, szl (by rw [List.length_map, List.length_take]; omega), h.1, fun b o e => ?_, ?_⟩
    · rw [upd_ne (ne_of_none e h.1)]; exact h.2.1 b o e
    · rw [upd_same, take_snoc hi, List.map_append]; rfl
  · refine q D H' h.2.1 ?_
    have := G.add h.2.1 h.1 h.2.2
    rw [List.take_length] at this
    exact this
end
end SL

set_option Elab.async false
set_option linter.all false
set_option maxRecDepth 100000
set_option maxHeartbeats 4000000

namespace PySem
open Sem (wp)
section
variable {prog : Program} {w : World} {A : Around} {E : Value → Shared → Prop} {RR : Result → Shared → Prop} {J : Addr} {fo wo : List Addr} {sz : Nat} {PP : Nat → Value → Prop} {ST : Nat → Heap → Prop} {kw : List (Str × Value)}
/-- the rest of max, from the second item on; whatever default was given -/
theorem mm_max_rest (Wk : Walks prog w A.in1 J fo wo sz PP ST) (bt : Nat → Nat → Bool) (cm : CmpOf prog w A.in1 .Gt PP bt) (B : Addr) (nB : B ∉ fo) :
    ∀ (d j : Nat) (s : Shared) (u : Value) (c : Nat), sz - (j + 1) = d → j + 1 ≤ sz → ST (j + 1) s.heap → PP (argBest bt j) u →
    s.heap.get? B = some { cls := .type "list", dict := none, data := .seq #[u, u] c, slots := #[] } →
    (∀ v h1 t1, PP (argBest bt (sz - 1)) v → (∀ b o, b ∉ wo → b ≠ B → s.heap.get? b = some o → h1.get? b = some o) → RR (.ok (.ret v)) { s with heap := h1, toks := t1 }) →
    codeAny (model prog w) A (.builtin "max.loop" ⟨[.ref J, .none, .ref B], kw⟩) RR s := by
  have nBw : B ∉ wo := fun h => nB (Wk.sub _ h)
  have nm : (toString "max" ++ toString ".loop" : String) = "max.loop" := by decide
  intro d
  induction d with
  | zero =>
    intro j s u c e1 e2 e3 e4 e5 fin
    have last : j + 1 = sz := by omega
    refine codeAny_builtin F.entry_max_loop ?_
    rw [Around.under_plainId F.plain_max_loop _]
    show wpAny _ A.in1 (seqItems? (.ref B) >>= _) _ _ s
    refine wpAny_bind (wpAny_seqItems e5 rfl ?_)
    show wpAny _ A.in1 (tryCatch (pyNext (.ref J)) _ >>= _) _ _ s
    refine wpAny_bind (wpAny_tryCatch (Wk.done s _ _ (last ▸ e3) fun h1 t1 kp => ?_))
    have e6 := kp B _ nBw e5
    show wpAny _ A.in1 (updateSeq B (fun _ => #[]) >>= _) _ _ _
    refine wpAny_bind ?_
    refine wpAny_updateSeq e6 rfl (wpAny_bind (wpAny_letGo (wpAny_pure ?_)))
    exact fin u _ t1 (by rw [← last]; exact e4) fun b o q1 q2 q3 => (Heap.get?_update_other _ _ (Ne.symm q2)).trans (kp b o q1 q3)
  | succ d ih =>
    intro j s u c e1 e2 e3 e4 e5 fin
    have more : j + 1 < sz := by omega
    refine codeAny_builtin F.entry_max_loop ?_
    rw [Around.under_plainId F.plain_max_loop _]
    show wpAny _ A.in1 (seqItems? (.ref B) >>= _) _ _ s
    refine wpAny_bind (wpAny_seqItems e5 rfl ?_)
    show wpAny _ A.in1 (tryCatch (pyNext (.ref J)) _ >>= _) _ _ s
    refine wpAny_bind (wpAny_tryCatch (Wk.item (j + 1) s _ _ more e3 fun v h1 t1 pv s1 kp => ?_))
    have e6 := kp B _ nBw e5
    show wpAny _ A.in1 (tryCatch (holding [v, v] (richCompare .Gt v u >>= _)) _ >>= _) _ _ _
    refine wpAny_bind (wpAny_tryCatch (wpAny_holding (wpAny_bind (cm (j + 1) (argBest bt j) v u _ _ _ pv e4 ?_))))
    refine wpAny_bind (wpAny_holding (wpAny_truthy_bool ?_))
    refine wpAny_bind (wpAny_letGo (wpAny_pure ?_))
    cases better : bt (j + 1) (argBest bt j) with
    | true =>
      simp only [if_true]
      refine wpAny_bind ?_
      refine wpAny_updateSeq e6 rfl (wpAny_bind (wpAny_letGo ?_))
      rw [nm]
      refine wpAny_pure ⟨plainId_quiet F.plain_max_loop _, ih (j + 1) _ v _ (by omega) more (Wk.frame _ _ _ s1 fun b q o z => ?_) (by simp only [argBest, better, if_true]; exact pv) (Heap.get?_update_self _ e6 rfl) fun v1 h2 t2 q1 q2 => ?_⟩
      · exact (Heap.get?_update_other _ _ (fun z : B = b => nB (by rw [z]; exact q))).trans z
      · exact fin v1 h2 t2 q1 fun b o z1 z2 z3 => q2 b o z1 z2 ((Heap.get?_update_other _ _ (Ne.symm z2)).trans (kp b o z1 z3))
    | false =>
      simp only [Bool.false_eq_true, if_false]
      refine wpAny_bind (wpAny_letGo ?_)
      rw [nm]
      refine wpAny_pure ⟨plainId_quiet F.plain_max_loop _, ih (j + 1) _ u c (by omega) more s1 (by simp only [argBest, better, Bool.false_eq_true, if_false]; exact e4) e6 fun v1 h2 t2 q1 q2 => ?_⟩
      exact fin v1 h2 t2 q1 fun b o z1 z2 z3 => q2 b o z1 z2 (kp b o z1 z3)
theorem mm_max_all (Wk : Walks prog w A.in1 J fo wo sz PP ST) (bt : Nat → Nat → Bool) (cm : CmpOf prog w A.in1 .Gt PP bt) (B : Addr) (nB : B ∉ fo) {s : Shared} {c : Nat} (e3 : ST 0 s.heap)
    (e5 : s.heap.get? B = some { cls := .type "list", dict := none, data := .seq #[] c, slots := #[] }) {dv : Value} (hkw : sz = 0 → kw = [(Str.ofString "default", dv)])
    (fin : ∀ v h1 t1, (0 < sz → PP (argBest bt (sz - 1)) v) → (sz = 0 → v = dv) → (∀ b o, b ∉ wo → b ≠ B → s.heap.get? b = some o → h1.get? b = some o) → RR (.ok (.ret v)) { s with heap := h1, toks := t1 }) :
    codeAny (model prog w) A (.builtin "max.loop" ⟨[.ref J, .none, .ref B], kw⟩) RR s := by
  have nBw : B ∉ wo := fun h => nB (Wk.sub _ h)
  have nm : (toString "max" ++ toString ".loop" : String) = "max.loop" := by decide
  refine codeAny_builtin F.entry_max_loop ?_
  rw [Around.under_plainId F.plain_max_loop _]
  show wpAny _ A.in1 (seqItems? (.ref B) >>= _) _ _ s
  refine wpAny_bind (wpAny_seqItems e5 rfl ?_)
  show wpAny _ A.in1 (tryCatch (pyNext (.ref J)) _ >>= _) _ _ s
  by_cases none : sz = 0
  · have hk := hkw none
    subst hk
    refine wpAny_bind (wpAny_tryCatch (Wk.done s _ _ (by rw [none]; exact e3) fun h1 t1 kp => ?_))
    show wpAny _ A.in1 (rule (toString "max" ++ toString ".default") >>= _) _ _ _
    refine wpAny_bind (wpAny_rule ?_)
    exact wpAny_pure (fin dv h1 t1 (fun z => absurd z (by omega)) (fun _ => rfl) fun b o q1 q2 q3 => kp b o q1 q3)
  · have some0 : 0 < sz := by omega
    refine wpAny_bind (wpAny_tryCatch (Wk.item 0 s _ _ some0 e3 fun v h1 t1 pv s1 kp => ?_))
    have e6 := kp B _ nBw e5
    show wpAny _ A.in1 (updateSeq B (fun _ => #[v, v]) >>= _) _ _ _
    refine wpAny_bind ?_
    refine wpAny_updateSeq e6 rfl ?_
    rw [nm]
    refine wpAny_pure ⟨plainId_quiet F.plain_max_loop _, mm_max_rest Wk bt cm B nB _ 0 _ v _ rfl some0 (Wk.frame _ _ _ s1 fun b q o z => ?_) pv (Heap.get?_update_self _ e6 rfl) fun v1 h2 t2 q1 q2 => ?_⟩
    · exact (Heap.get?_update_other _ _ (fun z : B = b => nB (by rw [z]; exact q))).trans z
    · exact fin v1 h2 t2 (fun _ => q1) (fun z => absurd z none) fun b o z1 z2 z3 => q2 b o z1 z2 ((Heap.get?_update_other _ _ (Ne.symm z2)).trans (kp b o z1 z3))
theorem F.mm_max_d (a v : Value) : argsOk "max" ⟨[a], [(Str.ofString "default", v)]⟩ := by unfold argsOk; kernel_rfl
/-- max(x), max(x, default=d) -/
theorem mm_max {s : Shared} {x : Value} {Q : Value → Shared → Prop} {kw : List (Str × Value)} {dv : Value} (hkw : kw = [] ∨ kw = [(Str.ofString "default", dv)])
    (h : wpAny (model prog w) A.in1 (pyIter x) (fun it s2 => ∃ J fo wo sz PP ST bt, it = .ref J ∧ Walks prog w A.in1 J fo wo sz PP ST ∧ ST 0 s2.heap ∧ (∀ b ∈ fo, b < s2.heap.objs.size) ∧ (sz = 0 → kw = [(Str.ofString "default", dv)]) ∧ CmpOf prog w A.in1 .Gt PP bt ∧
      ∀ v h1 t1, (0 < sz → PP (argBest bt (sz - 1)) v) → (sz = 0 → v = dv) → (∀ b o, b ∉ wo → s2.heap.get? b = some o → h1.get? b = some o) → Q v { s2 with heap := h1, toks := t1 }) E s) :
    wpAny (model prog w) A (call (.builtin "max") [x] kw) Q E s := by
  have nm : (toString "max" ++ toString ".loop" : String) = "max.loop" := by decide
  have go : ∀ (it : Value) (s2 : Shared), (∃ J fo wo sz PP ST bt, it = .ref J ∧ Walks prog w A.in1 J fo wo sz PP ST ∧ ST 0 s2.heap ∧ (∀ b ∈ fo, b < s2.heap.objs.size) ∧ (sz = 0 → kw = [(Str.ofString "default", dv)]) ∧ CmpOf prog w A.in1 .Gt PP bt ∧
      ∀ v h1 t1, (0 < sz → PP (argBest bt (sz - 1)) v) → (sz = 0 → v = dv) → (∀ b o, b ∉ wo → s2.heap.get? b = some o → h1.get? b = some o) → Q v { s2 with heap := h1, toks := t1 }) →
      codeAny (model prog w) A (.builtin "max.loop" ⟨[it, .none, .ref s2.heap.objs.size], kw⟩) (fun r s' => match r with | .ok (.ret v) => Q v s' | .ok _ => False | .error e => E e s')
        { s2 with heap := s2.heap.push { cls := .type "list", data := .seq #[] } } := by
    rintro it s2 ⟨J, fo, wo, sz, PP, ST, bt, rfl, Wk, st, lt, hd, cm, q⟩
    have nB : s2.heap.objs.size ∉ fo := fun z => Nat.lt_irrefl _ (lt _ z)
    refine mm_max_all (s := { s2 with heap := s2.heap.push { cls := .type "list", data := .seq #[] } }) (dv := dv) Wk bt cm s2.heap.objs.size nB (Wk.frame _ _ _ st fun b _ o e => Heap.get?_push_of_some _ e) (Heap.get?_push_size _ rfl) hd fun v h1 t1 q1 q2 q3 => ?_
    exact q v h1 t1 q1 q2 fun b o z1 z2 => q3 b o z1 (Nat.ne_of_lt (Heap.lt_size z2)) (Heap.get?_push_of_some _ z2)
  rcases hkw with z | z
  · subst z
    refine call_function_tree F.kind_max F.plain_max F.entry_max (F.args_max1 _) ?_
    show wpAny _ A.in1 (Builtin.Builtins.bindParams "max" ["key", "default"] 0 ⟨[], []⟩ >>= _) _ _ s
    refine wpAny_bind (wpAny_of_eq (show Builtin.Builtins.bindParams "max" ["key", "default"] 0 ⟨[], []⟩ = pure [none, none] from rfl) ?_)
    refine wpAny_bind (wpAny_pure ?_)
    refine wpAny_bind (wpAny_mono h (fun it s2 hh => ?_) fun _ _ e => e)
    refine wpAny_bind (wpAny_newObj_type ?_)
    rw [nm]
    exact wpAny_pure ⟨plainId_quiet F.plain_max_loop _, go it s2 hh⟩
  · subst z
    refine PyProof.Rows.kmk_tree F.kind_max F.plain_max F.entry_max (F.mm_max_d _ _) ?_
    show wpAny _ A.in1 (Builtin.Builtins.bindParams "max" ["key", "default"] 0 ⟨[], [(Str.ofString "default", dv)]⟩ >>= _) _ _ s
    refine wpAny_bind (wpAny_of_eq (show Builtin.Builtins.bindParams "max" ["key", "default"] 0 ⟨[], [(Str.ofString "default", dv)]⟩ = pure [none, some dv] from rfl) ?_)
    refine wpAny_bind (wpAny_pure ?_)
    refine wpAny_bind (wpAny_mono h (fun it s2 hh => ?_) fun _ _ e => e)
    refine wpAny_bind (wpAny_newObj_type ?_)
    rw [nm]
    exact wpAny_pure ⟨plainId_quiet F.plain_max_loop _, go it s2 hh⟩
end
end PySem

namespace PySem
open Sem (wp)
section
variable {prog : Program} {w : World} {A : Around} {E : Value → Shared → Prop} {RR : Result → Shared → Prop} {J : Addr} {fo wo : List Addr} {sz : Nat} {PP : Nat → Value → Prop} {ST : Nat → Heap → Prop} {kw : List (Str × Value)}
/-- the rest of min, from the second item on; whatever default was given -/
theorem mm_min_rest (Wk : Walks prog w A.in1 J fo wo sz PP ST) (bt : Nat → Nat → Bool) (cm : CmpOf prog w A.in1 .Lt PP bt) (B : Addr) (nB : B ∉ fo) :
    ∀ (d j : Nat) (s : Shared) (u : Value) (c : Nat), sz - (j + 1) = d → j + 1 ≤ sz → ST (j + 1) s.heap → PP (argBest bt j) u →
    s.heap.get? B = some { cls := .type "list", dict := none, data := .seq #[u, u] c, slots := #[] } →
    (∀ v h1 t1, PP (argBest bt (sz - 1)) v → (∀ b o, b ∉ wo → b ≠ B → s.heap.get? b = some o → h1.get? b = some o) → RR (.ok (.ret v)) { s with heap := h1, toks := t1 }) →
    codeAny (model prog w) A (.builtin "min.loop" ⟨[.ref J, .none, .ref B], kw⟩) RR s := by
  have nBw : B ∉ wo := fun h => nB (Wk.sub _ h)
  have nm : (toString "min" ++ toString ".loop" : String) = "min.loop" := by decide
  intro d
  induction d with
  | zero =>
    intro j s u c e1 e2 e3 e4 e5 fin
    have last : j + 1 = sz := by omega
    refine codeAny_builtin F.entry_min_loop ?_
    rw [Around.under_plainId F.plain_min_loop _]
    show wpAny _ A.in1 (seqItems? (.ref B) >>= _) _ _ s
    refine wpAny_bind (wpAny_seqItems e5 rfl ?_)
    show wpAny _ A.in1 (tryCatch (pyNext (.ref J)) _ >>= _) _ _ s
    refine wpAny_bind (wpAny_tryCatch (Wk.done s _ _ (last ▸ e3) fun h1 t1 kp => ?_))
    have e6 := kp B _ nBw e5
    show wpAny _ A.in1 (updateSeq B (fun _ => #[]) >>= _) _ _ _
    refine wpAny_bind ?_
    refine wpAny_updateSeq e6 rfl (wpAny_bind (wpAny_letGo (wpAny_pure ?_)))
    exact fin u _ t1 (by rw [← last]; exact e4) fun b o q1 q2 q3 => (Heap.get?_update_other _ _ (Ne.symm q2)).trans (kp b o q1 q3)
  | succ d ih =>
    intro j s u c e1 e2 e3 e4 e5 fin
    have more : j + 1 < sz := by omega
    refine codeAny_builtin F.entry_min_loop ?_
    rw [Around.under_plainId F.plain_min_loop _]
    show wpAny _ A.in1 (seqItems? (.ref B) >>= _) _ _ s
    refine wpAny_bind (wpAny_seqItems e5 rfl ?_)
    show wpAny _ A.in1 (tryCatch (pyNext (.ref J)) _ >>= _) _ _ s
    refine wpAny_bind (wpAny_tryCatch (Wk.item (j + 1) s _ _ more e3 fun v h1 t1 pv s1 kp => ?_))
    have e6 := kp B _ nBw e5
    show wpAny _ A.in1 (tryCatch (holding [v, v] (richCompare .Lt v u >>= _)) _ >>= _) _ _ _
    refine wpAny_bind (wpAny_tryCatch (wpAny_holding (wpAny_bind (cm (j + 1) (argBest bt j) v u _ _ _ pv e4 ?_))))
    refine wpAny_bind (wpAny_holding (wpAny_truthy_bool ?_))
    refine wpAny_bind (wpAny_letGo (wpAny_pure ?_))
    cases better : bt (j + 1) (argBest bt j) with
    | true =>
      simp only [if_true]
      refine wpAny_bind ?_
      refine wpAny_updateSeq e6 rfl (wpAny_bind (wpAny_letGo ?_))
      rw [nm]
      refine wpAny_pure ⟨plainId_quiet F.plain_min_loop _, ih (j + 1) _ v _ (by omega) more (Wk.frame _ _ _ s1 fun b q o z => ?_) (by simp only [argBest, better, if_true]; exact pv) (Heap.get?_update_self _ e6 rfl) fun v1 h2 t2 q1 q2 => ?_⟩
      · exact (Heap.get?_update_other _ _ (fun z : B = b => nB (by rw [z]; exact q))).trans z
      · exact fin v1 h2 t2 q1 fun b o z1 z2 z3 => q2 b o z1 z2 ((Heap.get?_update_other _ _ (Ne.symm z2)).trans (kp b o z1 z3))
    | false =>
      simp only [Bool.false_eq_true, if_false]
      refine wpAny_bind (wpAny_letGo ?_)
      rw [nm]
      refine wpAny_pure ⟨plainId_quiet F.plain_min_loop _, ih (j + 1) _ u c (by omega) more s1 (by simp only [argBest, better, Bool.false_eq_true, if_false]; exact e4) e6 fun v1 h2 t2 q1 q2 => ?_⟩
      exact fin v1 h2 t2 q1 fun b o z1 z2 z3 => q2 b o z1 z2 (kp b o z1 z3)
theorem mm_min_all (Wk : Walks prog w A.in1 J fo wo sz PP ST) (bt : Nat → Nat → Bool) (cm : CmpOf prog w A.in1 .Lt PP bt) (B : Addr) (nB : B ∉ fo) {s : Shared} {c : Nat} (e3 : ST 0 s.heap)
    (e5 : s.heap.get? B = some { cls := .type "list", dict := none, data := .seq #[] c, slots := #[] }) {dv : Value} (hkw : sz = 0 → kw = [(Str.ofString "default", dv)])
    (fin : ∀ v h1 t1, (0 < sz → PP (argBest bt (sz - 1)) v) → (sz = 0 → v = dv) → (∀ b o, b ∉ wo → b ≠ B → s.heap.get? b = some o → h1.get? b = some o) → RR (.ok (.ret v)) { s with heap := h1, toks := t1 }) :
    codeAny (model prog w) A (.builtin "min.loop" ⟨[.ref J, .none, .ref B], kw⟩) RR s := by
  have nBw : B ∉ wo := fun h => nB (Wk.sub _ h)
  have nm : (toString "min" ++ toString ".loop" : String) = "min.loop" := by decide
  refine codeAny_builtin F.entry_min_loop ?_
  rw [Around.under_plainId F.plain_min_loop _]
  show wpAny _ A.in1 (seqItems? (.ref B) >>= _) _ _ s
  refine wpAny_bind (wpAny_seqItems e5 rfl ?_)
  show wpAny _ A.in1 (tryCatch (pyNext (.ref J)) _ >>= _) _ _ s
  by_cases none : sz = 0
  · have hk := hkw none
    subst hk
    refine wpAny_bind (wpAny_tryCatch (Wk.done s _ _ (by rw [none]; exact e3) fun h1 t1 kp => ?_))
    show wpAny _ A.in1 (rule (toString "min" ++ toString ".default") >>= _) _ _ _
    refine wpAny_bind (wpAny_rule ?_)
    exact wpAny_pure (fin dv h1 t1 (fun z => absurd z (by omega)) (fun _ => rfl) fun b o q1 q2 q3 => kp b o q1 q3)
  · have some0 : 0 < sz := by omega
    refine wpAny_bind (wpAny_tryCatch (Wk.item 0 s _ _ some0 e3 fun v h1 t1 pv s1 kp => ?_))
    have e6 := kp B _ nBw e5
    show wpAny _ A.in1 (updateSeq B (fun _ => #[v, v]) >>= _) _ _ _
    refine wpAny_bind ?_
    refine wpAny_updateSeq e6 rfl ?_
    rw [nm]
    refine wpAny_pure ⟨plainId_quiet F.plain_min_loop _, mm_min_rest Wk bt cm B nB _ 0 _ v _ rfl some0 (Wk.frame _ _ _ s1 fun b q o z => ?_) pv (Heap.get?_update_self _ e6 rfl) fun v1 h2 t2 q1 q2 => ?_⟩
    · exact (Heap.get?_update_other _ _ (fun z : B = b => nB (by rw [z]; exact q))).trans z
    · exact fin v1 h2 t2 (fun _ => q1) (fun z => absurd z none) fun b o z1 z2 z3 => q2 b o z1 z2 ((Heap.get?_update_other _ _ (Ne.symm z2)).trans (kp b o z1 z3))
theorem F.mm_min_d (a v : Value) : argsOk "min" ⟨[a], [(Str.ofString "default", v)]⟩ := by unfold argsOk; kernel_rfl
/-- min(x), min(x, default=d) -/
theorem mm_min {s : Shared} {x : Value} {Q : Value → Shared → Prop} {kw : List (Str × Value)} {dv : Value} (hkw : kw = [] ∨ kw = [(Str.ofString "default", dv)])
    (h : wpAny (model prog w) A.in1 (pyIter x) (fun it s2 => ∃ J fo wo sz PP ST bt, it = .ref J ∧ Walks prog w A.in1 J fo wo sz PP ST ∧ ST 0 s2.heap ∧ (∀ b ∈ fo, b < s2.heap.objs.size) ∧ (sz = 0 → kw = [(Str.ofString "default", dv)]) ∧ CmpOf prog w A.in1 .Lt PP bt ∧
      ∀ v h1 t1, (0 < sz → PP (argBest bt (sz - 1)) v) → (sz = 0 → v = dv) → (∀ b o, b ∉ wo → s2.heap.get? b = some o → h1.get? b = some o) → Q v { s2 with heap := h1, toks := t1 }) E s) :
    wpAny (model prog w) A (call (.builtin "min") [x] kw) Q E s := by
  have nm : (toString "min" ++ toString ".loop" : String) = "min.loop" := by decide
  have go : ∀ (it : Value) (s2 : Shared), (∃ J fo wo sz PP ST bt, it = .ref J ∧ Walks prog w A.in1 J fo wo sz PP ST ∧ ST 0 s2.heap ∧ (∀ b ∈ fo, b < s2.heap.objs.size) ∧ (sz = 0 → kw = [(Str.ofString "default", dv)]) ∧ CmpOf prog w A.in1 .Lt PP bt ∧
      ∀ v h1 t1, (0 < sz → PP (argBest bt (sz - 1)) v) → (sz = 0 → v = dv) → (∀ b o, b ∉ wo → s2.heap.get? b = some o → h1.get? b = some o) → Q v { s2 with heap := h1, toks := t1 }) →
      codeAny (model prog w) A (.builtin "min.loop" ⟨[it, .none, .ref s2.heap.objs.size], kw⟩) (fun r s' => match r with | .ok (.ret v) => Q v s' | .ok _ => False | .error e => E e s')
        { s2 with heap := s2.heap.push { cls := .type "list", data := .seq #[] } } := by
    rintro it s2 ⟨J, fo, wo, sz, PP, ST, bt, rfl, Wk, st, lt, hd, cm, q⟩
    have nB : s2.heap.objs.size ∉ fo := fun z => Nat.lt_irrefl _ (lt _ z)
    refine mm_min_all (s := { s2 with heap := s2.heap.push { cls := .type "list", data := .seq #[] } }) (dv := dv) Wk bt cm s2.heap.objs.size nB (Wk.frame _ _ _ st fun b _ o e => Heap.get?_push_of_some _ e) (Heap.get?_push_size _ rfl) hd fun v h1 t1 q1 q2 q3 => ?_
    exact q v h1 t1 q1 q2 fun b o z1 z2 => q3 b o z1 (Nat.ne_of_lt (Heap.lt_size z2)) (Heap.get?_push_of_some _ z2)
  rcases hkw with z | z
  · subst z
    refine call_function_tree F.kind_min F.plain_min F.entry_min (F.args_min1 _) ?_
    show wpAny _ A.in1 (Builtin.Builtins.bindParams "min" ["key", "default"] 0 ⟨[], []⟩ >>= _) _ _ s
    refine wpAny_bind (wpAny_of_eq (show Builtin.Builtins.bindParams "min" ["key", "default"] 0 ⟨[], []⟩ = pure [none, none] from rfl) ?_)
    refine wpAny_bind (wpAny_pure ?_)
    refine wpAny_bind (wpAny_mono h (fun it s2 hh => ?_) fun _ _ e => e)
    refine wpAny_bind (wpAny_newObj_type ?_)
    rw [nm]
    exact wpAny_pure ⟨plainId_quiet F.plain_min_loop _, go it s2 hh⟩
  · subst z
    refine PyProof.Rows.kmk_tree F.kind_min F.plain_min F.entry_min (F.mm_min_d _ _) ?_
    show wpAny _ A.in1 (Builtin.Builtins.bindParams "min" ["key", "default"] 0 ⟨[], [(Str.ofString "default", dv)]⟩ >>= _) _ _ s
    refine wpAny_bind (wpAny_of_eq (show Builtin.Builtins.bindParams "min" ["key", "default"] 0 ⟨[], [(Str.ofString "default", dv)]⟩ = pure [none, some dv] from rfl) ?_)
    refine wpAny_bind (wpAny_pure ?_)
    refine wpAny_bind (wpAny_mono h (fun it s2 hh => ?_) fun _ _ e => e)
    refine wpAny_bind (wpAny_newObj_type ?_)
    rw [nm]
    exact wpAny_pure ⟨plainId_quiet F.plain_min_loop _, go it s2 hh⟩
end
end PySem

namespace L2
open PySem PySem.Spec PyProof.Rows
section
variable {X : Cx}
/-- max of a list or tuple of ints that is not empty; with a default: of any -/
def rB_max (K : PySem.W.Frag) : List V → Hp → VK → Prop := fun vs H Q => ∃ (a : Addr) (k : Bool) (ns : List Int), vs = [V.ref a] ∧ SqB K H a (ns.map V.int) k ∧ 0 < ns.length ∧ ∀ m, m ∈ ns → (∀ y ∈ ns, y ≤ m) → Q (.int m) H
def rD_max (K : PySem.W.Frag) : List V → List V → Hp → VK → Prop := fun vs zs H Q => ∃ (a : Addr) (k : Bool) (ns : List Int) (d : Int), vs = [V.ref a] ∧ zs = [V.int d] ∧ SqB K H a (ns.map V.int) k ∧
  ∀ m, (ns = [] → m = d) → (ns ≠ [] → m ∈ ns ∧ ∀ y ∈ ns, y ≤ m) → Q (.int m) H
theorem mm_core_max {pins : List (Addr × Obj)} {s : Shared} {σ : L2.St} {H : Hp} {Q : VK} (hc : X.calm = true) (I : Inv X pins σ H s) {a : Addr} {k : Bool} {ns : List Int} {kw : List (Str × Value)} {dv : Value} {d : Int} (hkw : kw = [] ∨ kw = [(Str.ofString "default", dv)])
    (h0 : ns.length = 0 → kw = [(Str.ofString "default", dv)]) (hd : ns.length = 0 → ∃ t, dv = .int d t) (hs : SqB X.K H a (ns.map V.int) k) (q : ∀ m, (ns = [] → m = d) → (ns ≠ [] → m ∈ ns ∧ ∀ y ∈ ns, y ≤ m) → Q (.int m) H) :
    wpAny (model X.prog X.w) X.A (call (.builtin "max") [.ref a] kw) (EP X pins σ Q) X.xe s := by
  have fin : ∀ (its : List Value), Vals (ns.map V.int) its → ∀ (xs : Array (Int × Tok)), its.toArray = intItems xs → ∀ (v : Value) (h1 : Heap) (t1 : Nat), (0 < xs.size → (intItems xs)[argBest (fun i j => decide (numAt xs i > numAt xs j)) (xs.size - 1)]? = some v) → (xs.size = 0 → v = dv) →
      (∀ b o, s.heap.get? b = some o → h1.get? b = some o) → EP X pins σ Q v { s with heap := h1, toks := t1 } := by
    intro its rv xs e v h1 t1 q1 q2 q3
    have hi := rv.ints
    have hn : numsOf (intItems xs).toList = ns := by rw [← e]; exact hi.numsOf
    rw [nums_intItems] at hn
    have hl : ns.length = xs.size := by rw [← hn]; simp
    by_cases z : xs.size = 0
    · obtain ⟨t, et⟩ := hd (by rw [hl]; exact z)
      rw [q2 z, et]
      have ne : ns = [] := List.eq_nil_of_length_eq_zero (by rw [hl]; exact z)
      exact ⟨.int d, H, I.kept q3, ⟨_, rfl⟩, q d (fun _ => rfl) fun w => absurd ne w⟩
    · have hv := q1 (by omega)
      obtain ⟨t, rfl⟩ := intItems_at hv
      obtain ⟨b1, b2⟩ := argBest_gt (numAt xs) (xs.size - 1)
      refine ⟨.int _, H, I.kept q3, ⟨_, rfl⟩, q _ (fun w => absurd (by rw [← hl, w]; rfl) z) fun _ => ⟨?_, fun y hy => ?_⟩⟩
      · rw [← hn, numAt_eq]; exact PySem.getD_mem (by rw [List.length_map, Array.length_toList]; omega)
      · rw [← hn] at hy
        obtain ⟨j, hj, rfl⟩ := mem_getD hy
        rw [List.length_map, Array.length_toList] at hj
        rw [← numAt_eq]; exact b2 j (by omega)
  have hh := I.ok.hd hc
  cases k with
  | true =>
    obtain ⟨its, rv, p, _⟩ := I.list (show SqL X.K H a (ns.map V.int) from hs)
    obtain ⟨xs, e⟩ := rv.ints.allInts.items
    have hl : ns.length = xs.size := by
      have h1 := rv.length
      have h2 : its.toArray.size = xs.size := by rw [e]; simp [intItems]
      simp at h1 h2
      omega
    have p' := p.isList
    rw [e] at p'
    refine mm_max hkw (iter_intList p' fun s₂ e2 st hfp hlI => ?_)
    subst e2
    refine ⟨_, _, _, _, _, _, _, rfl, Walks.list (A := X.A.in1) hh _ a hlI (intItems xs), st, hfp, (fun z => h0 (by rw [hl]; simpa [intItems] using z)), CmpOf.ints_gt (numAt xs) (fun _ _ => intItems_at), fun v h1 t1 q1 q2 q3 => ?_⟩
    exact fin its rv xs e v h1 t1 (fun z => by simpa [intItems] using q1 (by simpa [intItems] using z)) (fun z => q2 (by simpa [intItems] using z)) (old_kept q3)
  | false =>
    obtain ⟨its, rv, p, _⟩ := I.tuple (show SqT X.K H a (ns.map V.int) from hs)
    obtain ⟨xs, e⟩ := rv.ints.allInts.items
    have hl : ns.length = xs.size := by
      have h1 := rv.length
      have h2 : its.toArray.size = xs.size := by rw [e]; simp [intItems]
      simp at h1 h2
      omega
    have p' : s.heap.IsTuple a (intItems xs) := by rw [← e]; exact p
    have hlt : a < s.heap.objs.size := by obtain ⟨_, z, _⟩ := p'; exact Heap.lt_size z
    refine mm_max hkw (wpAny_pyIter_tuple p' ?_)
    refine ⟨s.heap.objs.size, _, _, _, _, _, _, rfl, Walks.tuple (A := X.A.in1) hh _ a (Nat.ne_of_lt hlt) (intItems xs), ⟨⟨_, Heap.get?_push_size _ rfl, rfl, rfl⟩, p'.push _⟩, fun b hb => ?_, (fun z => h0 (by rw [hl]; simpa [intItems] using z)), CmpOf.ints_gt (numAt xs) (fun _ _ => intItems_at), fun v h1 t1 q1 q2 q3 => ?_⟩
    · show b < (s.heap.push _).objs.size
      rw [Heap.size_push]
      rcases List.mem_cons.mp hb with z | z
      · rw [z]; exact Nat.lt_succ_self _
      · rw [List.mem_singleton.mp z]; exact Nat.lt_succ_of_lt hlt
    · refine fin its rv xs e v h1 t1 (fun z => by simpa [intItems] using q1 (by simpa [intItems] using z)) (fun z => q2 (by simpa [intItems] using z)) fun b o z => q3 b o (fun y => ?_) (Heap.get?_push_of_some _ z)
      rw [List.mem_singleton.mp y] at z
      exact absurd (Heap.lt_size z) (Nat.lt_irrefl _)
theorem cB_max (hc : X.calm = true) : CallR X (.builtin "max") (rB_max X.K) := by
  intro pins s σ H vs us Q I r h
  obtain ⟨a, k, ns, rfl, hs, hne, q⟩ := h
  rw [Vals.ref1 r]
  exact mm_core_max (kw := []) (dv := .none) (d := 0) hc I (.inl rfl) (fun z => absurd z (by omega)) (fun z => absurd z (by omega)) hs fun m _ h2 => (h2 (fun z => by rw [z] at hne; cases hne)).elim (q m)
theorem cD_max (hc : X.calm = true) : CallRK X (.builtin "max") [Str.ofString "default"] (rD_max X.K) := by
  intro pins s σ H vs zs us ws Q I r rz h
  obtain ⟨a, k, ns, d, rfl, rfl, hs, q⟩ := h
  rw [Vals.ref1 r]
  cases rz with
  | cons r1 r2 =>
    cases r2
    obtain ⟨t, rfl⟩ := r1
    exact mm_core_max (dv := .int d t) (d := d) hc I (.inr rfl) (fun _ => rfl) (fun _ => ⟨t, rfl⟩) hs q
end
end L2

namespace L2
open PySem PySem.Spec PyProof.Rows
section
variable {X : Cx}
/-- min of a list or tuple of ints that is not empty; with a default: of any -/
def rB_min (K : PySem.W.Frag) : List V → Hp → VK → Prop := fun vs H Q => ∃ (a : Addr) (k : Bool) (ns : List Int), vs = [V.ref a] ∧ SqB K H a (ns.map V.int) k ∧ 0 < ns.length ∧ ∀ m, m ∈ ns → (∀ y ∈ ns, m ≤ y) → Q (.int m) H
def rD_min (K : PySem.W.Frag) : List V → List V → Hp → VK → Prop := fun vs zs H Q => ∃ (a : Addr) (k : Bool) (ns : List Int) (d : Int), vs = [V.ref a] ∧ zs = [V.int d] ∧ SqB K H a (ns.map V.int) k ∧
  ∀ m, (ns = [] → m = d) → (ns ≠ [] → m ∈ ns ∧ ∀ y ∈ ns, m ≤ y) → Q (.int m) H
theorem mm_core_min {pins : List (Addr × Obj)} {s : Shared} {σ : L2.St} {H : Hp} {Q : VK} (hc : X.calm = true) (I : Inv X pins σ H s) {a : Addr} {k : Bool} {ns : List Int} {kw : List (Str × Value)} {dv : Value} {d : Int} (hkw : kw = [] ∨ kw = [(Str.ofString "default", dv)])
    (h0 : ns.length = 0 → kw = [(Str.ofString "default", dv)]) (hd : ns.length = 0 → ∃ t, dv = .int d t) (hs : SqB X.K H a (ns.map V.int) k) (q : ∀ m, (ns = [] → m = d) → (ns ≠ [] → m ∈ ns ∧ ∀ y ∈ ns, m ≤ y) → Q (.int m) H) :
    wpAny (model X.prog X.w) X.A (call (.builtin "min") [.ref a] kw) (EP X pins σ Q) X.xe s := by
  have fin : ∀ (its : List Value), Vals (ns.map V.int) its → ∀ (xs : Array (Int × Tok)), its.toArray = intItems xs → ∀ (v : Value) (h1 : Heap) (t1 : Nat), (0 < xs.size → (intItems xs)[argBest (fun i j => decide (numAt xs i < numAt xs j)) (xs.size - 1)]? = some v) → (xs.size = 0 → v = dv) →
      (∀ b o, s.heap.get? b = some o → h1.get? b = some o) → EP X pins σ Q v { s with heap := h1, toks := t1 } := by
    intro its rv xs e v h1 t1 q1 q2 q3
    have hi := rv.ints
    have hn : numsOf (intItems xs).toList = ns := by rw [← e]; exact hi.numsOf
    rw [nums_intItems] at hn
    have hl : ns.length = xs.size := by rw [← hn]; simp
    by_cases z : xs.size = 0
    · obtain ⟨t, et⟩ := hd (by rw [hl]; exact z)
      rw [q2 z, et]
      have ne : ns = [] := List.eq_nil_of_length_eq_zero (by rw [hl]; exact z)
      exact ⟨.int d, H, I.kept q3, ⟨_, rfl⟩, q d (fun _ => rfl) fun w => absurd ne w⟩
    · have hv := q1 (by omega)
      obtain ⟨t, rfl⟩ := intItems_at hv
      obtain ⟨b1, b2⟩ := argBest_lt (numAt xs) (xs.size - 1)
      refine ⟨.int _, H, I.kept q3, ⟨_, rfl⟩, q _ (fun w => absurd (by rw [← hl, w]; rfl) z) fun _ => ⟨?_, fun y hy => ?_⟩⟩
      · rw [← hn, numAt_eq]; exact PySem.getD_mem (by rw [List.length_map, Array.length_toList]; omega)
      · rw [← hn] at hy
        obtain ⟨j, hj, rfl⟩ := mem_getD hy
        rw [List.length_map, Array.length_toList] at hj
        rw [← numAt_eq]; exact b2 j (by omega)
  have hh := I.ok.hd hc
  cases k with
  | true =>
    obtain ⟨its, rv, p, _⟩ := I.list (show SqL X.K H a (ns.map V.int) from hs)
    obtain ⟨xs, e⟩ := rv.ints.allInts.items
    have hl : ns.length = xs.size := by
      have h1 := rv.length
      have h2 : its.toArray.size = xs.size := by rw [e]; simp [intItems]
      simp at h1 h2
      omega
    have p' := p.isList
    rw [e] at p'
    refine mm_min hkw (iter_intList p' fun s₂ e2 st hfp hlI => ?_)
    subst e2
    refine ⟨_, _, _, _, _, _, _, rfl, Walks.list (A := X.A.in1) hh _ a hlI (intItems xs), st, hfp, (fun z => h0 (by rw [hl]; simpa [intItems] using z)), CmpOf.ints_lt (numAt xs) (fun _ _ => intItems_at), fun v h1 t1 q1 q2 q3 => ?_⟩
    exact fin its rv xs e v h1 t1 (fun z => by simpa [intItems] using q1 (by simpa [intItems] using z)) (fun z => q2 (by simpa [intItems] using z)) (old_kept q3)
  | false =>
    obtain ⟨its, rv, p, _⟩ := I.tuple (show SqT X.K H a (ns.map V.int) from hs)
    obtain ⟨xs, e⟩ := rv.ints.allInts.items
    have hl : ns.length = xs.size := by
      have h1 := rv.length
      have h2 : its.toArray.size = xs.size := by rw [e]; simp [intItems]
      simp at h1 h2
      omega
    have p' : s.heap.IsTuple a (intItems xs) := by rw [← e]; exact p
    have hlt : a < s.heap.objs.size := by obtain ⟨_, z, _⟩ := p'; exact Heap.lt_size z
    refine mm_min hkw (wpAny_pyIter_tuple p' ?_)
    refine ⟨s.heap.objs.size, _, _, _, _, _, _, rfl, Walks.tuple (A := X.A.in1) hh _ a (Nat.ne_of_lt hlt) (intItems xs), ⟨⟨_, Heap.get?_push_size _ rfl, rfl, rfl⟩, p'.push _⟩, fun b hb => ?_, (fun z => h0 (by rw [hl]; simpa [intItems] using z)), CmpOf.ints_lt (numAt xs) (fun _ _ => intItems_at), fun v h1 t1 q1 q2 q3 => ?_⟩
    · show b < (s.heap.push _).objs.size
      rw [Heap.size_push]
      rcases List.mem_cons.mp hb with z | z
      · rw [z]; exact Nat.lt_succ_self _
      · rw [List.mem_singleton.mp z]; exact Nat.lt_succ_of_lt hlt
    · refine fin its rv xs e v h1 t1 (fun z => by simpa [intItems] using q1 (by simpa [intItems] using z)) (fun z => q2 (by simpa [intItems] using z)) fun b o z => q3 b o (fun y => ?_) (Heap.get?_push_of_some _ z)
      rw [List.mem_singleton.mp y] at z
      exact absurd (Heap.lt_size z) (Nat.lt_irrefl _)
theorem cB_min (hc : X.calm = true) : CallR X (.builtin "min") (rB_min X.K) := by
  intro pins s σ H vs us Q I r h
  obtain ⟨a, k, ns, rfl, hs, hne, q⟩ := h
  rw [Vals.ref1 r]
  exact mm_core_min (kw := []) (dv := .none) (d := 0) hc I (.inl rfl) (fun z => absurd z (by omega)) (fun z => absurd z (by omega)) hs fun m _ h2 => (h2 (fun z => by rw [z] at hne; cases hne)).elim (q m)
theorem cD_min (hc : X.calm = true) : CallRK X (.builtin "min") [Str.ofString "default"] (rD_min X.K) := by
  intro pins s σ H vs zs us ws Q I r rz h
  obtain ⟨a, k, ns, d, rfl, rfl, hs, q⟩ := h
  rw [Vals.ref1 r]
  cases rz with
  | cons r1 r2 =>
    cases r2
    obtain ⟨t, rfl⟩ := r1
    exact mm_core_min (dv := .int d t) (d := d) hc I (.inr rfl) (fun _ => rfl) (fun _ => ⟨t, rfl⟩) hs q
end
end L2

set_option Elab.async false
set_option linter.all false
set_option maxRecDepth 100000
set_option maxHeartbeats 4000000
namespace SL
open PySem L2
section

set_option hygiene false
local macro_rules | `(tactic| walk_at "m") => `(tactic| first | exact List.Mem.head _ | (refine List.Mem.tail _ ?_; walk_at "m"))
local macro_rules | `(tactic| walk_at "u") => `(tactic| first | exact Upd.head | (apply Upd.tail; walk_at "u"))
local macro_rules | `(tactic| walk_at "tk") => `(tactic| first | exact Tak.head | (apply Tak.tail; walk_at "tk"))
local macro_rules | `(tactic| walk_at "l") => `(tactic| first | assumption | exact lS (St.fh (by assumption)) (by assumption) | exact SqL.of (St.get (by assumption) (by walk_at "m")))
local macro_rules | `(tactic| walk_at "t") => `(tactic| first | assumption | exact tS (St.fh (by assumption)) (by assumption) | exact SqT.of (St.get (by assumption) (by walk_at "m")))
local macro_rules | `(tactic| walk_at "lt") => `(tactic| first | exact .inl (by walk_at "l") | exact .inr (by walk_at "t"))
local macro_rules | `(tactic| walk_at "sz") => `(tactic| first | (show _ ≤ sizeLine; decide) | exact sz (by simp) | exact szl (by simp) | exact sz (by omega) | exact szl (by omega) | exact sz (by simp; omega) | exact szl (by simp; omega))
local macro_rules | `(tactic| walk_at "c") => `(tactic| first | assumption | decide | omega)
local macro_rules | `(tactic| walk_at "g1") => `(tactic| with_reducible first
  | refine w_seq ?_ | refine w_asg ?_ | refine w_c ?_ | refine w_op ?_
  | refine r_I0 ?_ | refine w_test ?_ | refine r_b ?_ | refine w_if ?_ | refine w_cons ?_ | refine w_nil ?_
  | refine w_ret ?_ | refine w_drop ?_ | refine w_cb ?_ | refine w_call ?_ | refine w_next ?_ | refine w_tup ?_ | refine w_lst ?_ | refine w_bm ?_ | refine w_bm0 ?_
  | refine w_and ?_ | refine w_or ?_ | refine w_not ?_ | refine w_andV ?_ | refine w_orV ?_ | refine w_notV ?_ | refine w_tB ?_ | refine w_un ?_ | refine r_U ?_
  | refine w_for ?_ | refine w_iL ?_ | refine w_iT ?_ | refine w_i1 ?_ | refine w_i2 ?_ | refine w_sl ?_ | refine w_part ?_ | refine w_nopart ?_ | refine r_part ?_
  | refine r_eqI ?_ | refine r_neI ?_ | refine r_eqS ?_ | refine r_neS ?_ | refine r_eqB ?_ | refine r_neB ?_ | refine r_ifT ?_ | refine r_ifF ?_ | refine r_ifNt ?_ | refine r_ifNf ?_ | refine r_ifRN ?_ | refine r_ifNRN ?_ | refine r_ifNN ?_ | refine r_ifNNN ?_
  | refine w_ifE ?_ | refine r_int1 ?_ | refine r_int1b ?_ | refine r_isnone ?_ | refine r_notnone ?_ | refine r_max2 ?_ | refine r_min2 ?_ | refine r_ipI ?_ | refine w_tru ?_ | refine w_rs ?_
  | refine w_retN ?_ | refine w_break ?_ | refine w_cont ?_ | refine w_callS ?_ | refine w_asgG ?_ | refine w_gsub ?_)
local macro_rules | `(tactic| walk_at "g2") => `(tactic| first
  | ((with_reducible refine' w_var ?hv ?_); (case hv => rfl)) | ((with_reducible refine' w_aug ?hv ?_); (case hv => rfl))
  | ((with_reducible show rLen _ _ _ _); refine r_len (by walk_at "lt") ?_)
  | (with_reducible refine r_I ?cnd ?_; (case cnd => first | decide | omega | assumption | (unfold CPow; decide)))
  | ((with_reducible show RTy _ _ _ _ _); refine r_tyL (by walk_at "l") ?_)
  | (with_reducible refine r_ifDT (by walk_at "c") ?_) | (with_reducible refine r_ifDF (by walk_at "c") ?_)
  | (with_reducible refine r_ifNT (by walk_at "c") ?_) | (with_reducible refine r_ifNF (by walk_at "c") ?_))
local macro_rules | `(tactic| walk_at "go") => `(tactic| repeat (first | walk_at "g1" | walk_at "g2"))

variable {n b c : L2.St → Hp → Prop} {r : VK} {σ : L2.St} {H H' : Hp} {Q : VK} {t : TS} {te ta tb : TE} {x y v : V} {K : PySem.W.Frag} {E : En} {F F' : Hp} {L L' L1 L2 : Led} {p a : Addr} {xs ys : List V} {ns ms : List Int} {k : Bool} {QB : Bool → Hp → Prop} {C dx : Addr} {fs : List (Str × V)} {f : Str} {o : HO}
/-! ## min and max -/
theorem r_maxB (hs : SqB K H a (iv ns) k) (hn : 0 < ns.length) (q : ∀ m, m ∈ ns → (∀ y ∈ ns, y ≤ m) → Q (.int m) H) : rB_max K [.ref a] H Q := ⟨a, k, ns, rfl, hs, hn, q⟩
theorem r_minB (hs : SqB K H a (iv ns) k) (hn : 0 < ns.length) (q : ∀ m, m ∈ ns → (∀ y ∈ ns, m ≤ y) → Q (.int m) H) : rB_min K [.ref a] H Q := ⟨a, k, ns, rfl, hs, hn, q⟩
theorem r_maxD {d : Int} (hs : SqB K H a (iv ns) k) (q : ∀ m, (ns = [] → m = d) → (ns ≠ [] → m ∈ ns ∧ ∀ y ∈ ns, y ≤ m) → Q (.int m) H) : rD_max K [.ref a] [.int d] H Q := ⟨a, k, ns, d, rfl, rfl, hs, q⟩
theorem r_minD {d : Int} (hs : SqB K H a (iv ns) k) (q : ∀ m, (ns = [] → m = d) → (ns ≠ [] → m ∈ ns ∧ ∀ y ∈ ns, m ≤ y) → Q (.int m) H) : rD_min K [.ref a] [.int d] H Q := ⟨a, k, ns, d, rfl, rfl, hs, q⟩
theorem w_ckw {R : List V → List V → Hp → VK → Prop} {tr tk : TA} (h : tr σ H fun vs H1 => tk σ H1 fun zs H2 => R vs zs H2 Q) : tCKw R tr tk σ H Q := h
/-! ## isinstance -/
theorem r_isi {a b : String} {r : Bool} (ty : TyX K H x (.type a)) (h : kitB a b = some r) (q : Q (.bl r) H) : rIsi K [x, .ty b] H Q := ⟨x, .ty b, .type a, .type b, r, rfl, .ty b, ty, kit_ty h, q⟩
theorem tyB (h : SqB K H a xs k) : TyX K H (.ref a) (.type (if k then "list" else "tuple")) := by
  cases k with
  | true =>
    rcases (show SqL K H a xs from h) with (h | ⟨o, h⟩) | ⟨o, its, n, e, c, _⟩
    · exact .base (.lst h)
    · exact .base (.frz h)
    · exact .kList e c
  | false =>
    rcases (show SqT K H a xs from h) with (h | ⟨o, h⟩) | ⟨o, its, n, e, c, _⟩
    · exact .base (.tup h)
    · exact .fTuple h
    · exact .kTuple e c
theorem r_isiT (h : SqT K H a xs) (q : Q (.bl true) H) : rIsi K [.ref a, .ty "tuple"] H Q := r_isi (tyB (k := false) h) (by decide +kernel) q
theorem r_isiL (h : SqL K H a xs) (q : Q (.bl true) H) : rIsi K [.ref a, .ty "list"] H Q := r_isi (tyB (k := true) h) (by decide +kernel) q
theorem r_isiI {i : Int} (q : Q (.bl true) H) : rIsi K [.int i, .ty "int"] H Q := r_isi (.base (.int i)) (by decide +kernel) q
theorem r_isiIb {i : Int} (q : Q (.bl false) H) : rIsi K [.int i, .ty "bool"] H Q := r_isi (.base (.int i)) (by decide +kernel) q
theorem r_isiB {i : Bool} (q : Q (.bl true) H) : rIsi K [.bl i, .ty "bool"] H Q := r_isi (.base (.bl i)) (by decide +kernel) q
theorem r_isin_ref (q : Q (.bl false) H) : rIsNone (.ref a) .non H Q := r_isnone (by rw [decide_eq_false (fun z => nomatch z)]; exact q)
theorem r_isin_non (q : Q (.bl true) H) : rIsNone .non .non H Q := r_isnone (by rw [decide_eq_true rfl]; exact q)
theorem r_notn_ref (q : Q (.bl true) H) : rNotNone (.ref a) .non H Q := r_notnone (by rw [decide_eq_false (fun z => nomatch z)]; exact q)
theorem r_notn_non (q : Q (.bl false) H) : rNotNone .non .non H Q := r_notnone (by rw [decide_eq_true rfl]; exact q)
/-! ## fields, instances -/
def RFld (K : PySem.W.Frag) (f : Str) (x : V) (H : Hp) (Q : VK) : Prop := ∃ a C dx fs v, x = .ref a ∧ H a = some (.ins C dx fs) ∧ Cls K C ∧ NoAttr K C f ∧ fs.lookup f = some v ∧ Q v H
theorem w_fld (h : te σ H fun x H1 => RFld K f x H1 Q) : tFld K te f σ H Q := h
theorem r_fld (h : H a = some (.ins C dx fs)) (c : Cls K C) (nf : NoAttr K C f) (e : fs.lookup f = some v) (q : Q v H) : RFld K f (.ref a) H Q := ⟨a, C, dx, fs, v, rfl, h, c, nf, e, q⟩
def RSFld (K : PySem.W.Frag) (f : Str) (x y : V) (H : Hp) (P : Hp → Prop) : Prop := ∃ a C dx fs, x = .ref a ∧ H a = some (.ins C dx fs) ∧ Cls K C ∧ NoAttr K C f ∧ fs.length < 1000 ∧ P (upd H a (.ins C dx (putF f y fs)))
theorem w_sfld (h : tb σ H fun y H1 => ta σ H1 fun x H2 => RSFld K f x y H2 (n σ)) : sFld K ta tb f ⟨n, r, b, c⟩ σ H := h
theorem r_sfld {P : Hp → Prop} {fs' : List (Str × V)} (G : St E F H L) (cl : Cls K C) (nf : NoAttr K C f) (u : Upd L a (.ins C dx fs) (.ins C dx fs') L') (e : putF f y fs = fs') (hl : fs.length < 1000) (q : ∀ H', St E F H' L' → P H') : RSFld K f (.ref a) y H P :=
  ⟨a, C, dx, fs, rfl, G.get u.mem, cl, nf, hl, by rw [e]; exact q _ (G.put u)⟩
def RMk (C : Addr) (sp : Sp) (vs : List V) (H : Hp) (Q : VK) (X : XK) : Prop := ∀ x dx, H x = none → H dx = none → dx ≠ x → sp (.ref x :: vs) (upd (upd H dx (.own x)) x (.ins C dx [])) (fun v H2 => v = .non ∧ Q (.ref x) H2) X
theorem w_mk {sp : Sp} {X : XK} {tr : TA} (h : tr σ H fun vs H1 => RMk C sp vs H1 Q X) : tMake C sp [] X tr σ H Q := by
  have e : ∀ vs H1, RMk C sp vs H1 Q X → RMk C sp (vs ++ []) H1 Q X := fun vs H1 h => by rw [List.append_nil]; exact h
  show tr σ H fun vs H1 => RMk C sp (vs ++ []) H1 Q X
  simpa only [List.append_nil] using h
theorem r_mk {sp : Sp} {X : XK} {vs : List V} (G : St E F H L) (q : ∀ x dx H', St E F H' ((x, .ins C dx []) :: (dx, .own x) :: L) → sp (.ref x :: vs) H' (fun v H2 => v = .non ∧ Q (.ref x) H2) X) : RMk C sp vs H Q X := by
  intro x dx hx hd ne
  have G1 := G.new (o := .own x) hd
  exact q x dx _ (G1.new (by rw [upd_ne (Ne.symm ne)]; exact hx))
/-! ## more of the ledger -/
theorem St.perm (G : St E F H L) (pm : L'.Perm L) : St E F H L' := ⟨G.bh, G.fh, G.ff, G.pr, fun x hx => G.own x (pm.mem_iff.mp hx), (pm.map _).nodup_iff.mpr G.nd⟩
theorem St.frzs : ∀ {L1 : Led} {F : Hp}, St E F H (L1 ++ L2) → ∃ F', Same F F' ∧ (∀ x ∈ L1, F' x.1 = some x.2) ∧ St E F' H L2
  | [], F, G => ⟨F, Same.refl _, (fun _ h => nomatch h), G⟩
  | (a, o) :: r, F, G => by
    obtain ⟨F1, s1, h1, G1⟩ := G.frz (L' := r ++ L2) Tak.head
    obtain ⟨F2, s2, h2, G2⟩ := St.frzs G1
    refine ⟨F2, s1.trans s2, fun x hx => ?_, G2⟩
    rcases List.mem_cons.mp hx with q | q
    · subst q; exact s2 _ _ h1
    · exact h2 x q
theorem Tak.perm (t : Tak L a o L') : ((a, o) :: L').Perm L := by
  induction t with
  | head => exact List.Perm.refl _
  | tail _ ih => exact (List.Perm.swap _ _ _).trans (List.Perm.cons _ ih)
theorem St.front (G : St E F H L) (t : Tak L a o L') : St E F H ((a, o) :: L') := G.perm t.perm
theorem St.toEnd {x : Addr × HO} (G : St E F H (x :: L)) : St E F H (L ++ [x]) := G.perm (List.perm_append_comm (l₂ := [x]))
theorem St.same (G : St E F H L) : Same E.H H := G.bh
/-! ## data -/
abbrev dI (ns : List Int) : List PyData := ns.map PyData.int
theorem dpa_iv : ∀ {ns : List Int}, DpAll K H (iv ns) (dI ns)
  | [] => .nil
  | _ :: _ => .cons (.int _) dpa_iv
theorem dp_ints (h : SqL K H a (iv ns)) : Dp K H (.ref a) (.list (dI ns)) := .lst h dpa_iv
theorem dpT_ints (h : SqT K H a (iv ns)) : Dp K H (.ref a) (.tuple (dI ns)) := .tup h dpa_iv
theorem dpa_map {α : Type} {g : α → V} {d : α → PyData} : ∀ {xs : List α}, (∀ x ∈ xs, Dp K H (g x) (d x)) → DpAll K H (xs.map g) (xs.map d)
  | [], _ => .nil
  | x :: xs, h => .cons (h x List.mem_cons_self) (dpa_map fun y hy => h y (List.mem_cons_of_mem _ hy))
theorem eqvAll_map {α : Type} [DecidableEq α] {d : α → PyData} (h : ∀ x y, PyData.eqv (d x) (d y) = decide (x = y)) : ∀ (xs ys : List α), PyData.eqvAll (xs.map d) (ys.map d) = decide (xs = ys)
  | [], [] => rfl
  | [], _ :: _ => by simp [PyData.eqvAll]
  | _ :: _, [] => by simp [PyData.eqvAll]
  | x :: xs, y :: ys => by
    rw [List.map_cons, List.map_cons, PyData.eqvAll, h, eqvAll_map h xs ys]
    by_cases e : x = y <;> by_cases e2 : xs = ys <;> simp [e, e2]
theorem eqv_int (i j : Int) : PyData.eqv (.int i) (.int j) = decide (i = j) := by simp [PyData.eqv, Bool.beq_eq_decide_eq]
theorem eqvAll_ints (xs ys : List Int) : PyData.eqvAll (dI xs) (dI ys) = decide (xs = ys) := eqvAll_map eqv_int xs ys
theorem eqv_list (xs ys : List PyData) : PyData.eqv (.list xs) (.list ys) = PyData.eqvAll xs ys := by rw [PyData.eqv]
theorem eqv_tuple (xs ys : List PyData) : PyData.eqv (.tuple xs) (.tuple ys) = PyData.eqvAll xs ys := by rw [PyData.eqv]
theorem eqvAll_nil : PyData.eqvAll [] [] = true := rfl
theorem eqvAll_cons (x y : PyData) (xs ys : List PyData) : PyData.eqvAll (x :: xs) (y :: ys) = (PyData.eqv x y && PyData.eqvAll xs ys) := by rw [PyData.eqvAll]
/-- laid and not deep -/
structure Shp (m : Nat) (d : PyData) : Prop where
  lay : d.canLay0 = true
  dep : d.depth ≤ m
theorem Shp.ok {m : Nat} {d : PyData} (h : Shp m d) (hm : m ≤ 64) : SeqAt.shaped d = true := by
  unfold SeqAt.shaped
  rw [h.lay, decide_eq_true (Nat.le_trans h.dep hm)]; rfl
theorem Shp.mono {m m' : Nat} {d : PyData} (h : Shp m d) (hm : m ≤ m') : Shp m' d := ⟨h.lay, Nat.le_trans h.dep hm⟩
theorem eqv_self {m : Nat} {d : PyData} (h : Shp m d) : PyData.eqv d d = true := PySem.SeqAt.eqv_refl d h.lay
theorem shp_int {i : Int} : Shp 0 (.int i) := ⟨rfl, Nat.le_refl _⟩
theorem shp_bool {i : Bool} : Shp 0 (.bool i) := ⟨rfl, Nat.le_refl _⟩
theorem shp_none : Shp 0 .none := ⟨rfl, Nat.le_refl _⟩
structure ShpA (m : Nat) (ds : List PyData) : Prop where
  lay : PyData.canLayAll0 ds = true
  dep : PyData.depthAll ds ≤ m
theorem shpa_nil {m : Nat} : ShpA m [] := ⟨rfl, Nat.zero_le _⟩
theorem shpa_cons {m : Nat} {d : PyData} {ds : List PyData} (h : Shp m d) (h2 : ShpA m ds) : ShpA m (d :: ds) := by
  refine ⟨?_, ?_⟩
  · rw [PyData.canLayAll0, h.lay, h2.lay]; rfl
  · rw [PyData.depthAll]; exact Nat.max_le.mpr ⟨h.dep, h2.dep⟩
theorem shpa_map {α : Type} {m : Nat} {d : α → PyData} : ∀ {xs : List α}, (∀ x ∈ xs, Shp m (d x)) → ShpA m (xs.map d)
  | [], _ => shpa_nil
  | x :: xs, h => shpa_cons (h x List.mem_cons_self) (shpa_map fun y hy => h y (List.mem_cons_of_mem _ hy))
theorem shp_list {m : Nat} {ds : List PyData} (h : ShpA m ds) : Shp (m + 1) (.list ds) := ⟨by rw [PyData.canLay0]; exact h.lay, by rw [PyData.depth]; exact Nat.succ_le_succ h.dep⟩
theorem shp_tuple {m : Nat} {ds : List PyData} (h : ShpA m ds) : Shp (m + 1) (.tuple ds) := ⟨by rw [PyData.canLay0]; exact h.lay, by rw [PyData.depth]; exact Nat.succ_le_succ h.dep⟩
theorem shpa_ints {m : Nat} : ShpA m (dI ns) := shpa_map fun _ _ => shp_int.mono (Nat.zero_le _)
theorem r_eqD {d e : PyData} {m m' : Nat} {k : Bool} (h1 : Dp K H x d) (h2 : Dp K H y e) (s1 : Shp m d) (s2 : Shp m' e) (hk : PyData.eqv d e = k) (q : Q (.bl k) H) (hm : m ≤ 64 := by decide) (hm' : m' ≤ 64 := by decide) : rEqD K x y H Q :=
  ⟨d, e, h1, h2, s1.ok hm, s2.ok hm', by rw [hk]; exact q⟩
theorem r_neD {d e : PyData} {m m' : Nat} {k : Bool} (h1 : Dp K H x d) (h2 : Dp K H y e) (s1 : Shp m d) (s2 : Shp m' e) (hk : PyData.eqv d e = k) (q : Q (.bl (!k)) H) (hm : m ≤ 64 := by decide) (hm' : m' ≤ 64 := by decide) : rNeD K x y H Q :=
  ⟨d, e, h1, h2, s1.ok hm, s2.ok hm', by rw [hk]; exact q⟩
theorem sIx_nat {n d k : Nat} : HT.sIx n d (some (k : Int)) = min k n := by
  unfold HT.sIx
  simp
  omega
theorem cut_from {k : Nat} : cutV xs (some (k : Int)) none = xs.drop k := by
  unfold cutV
  rw [sIx_nat, show HT.sIx xs.length xs.length none = xs.length from rfl]
  by_cases h : k ≤ xs.length
  · rw [Nat.min_eq_left h, List.take_of_length_le (by simp)]
  · rw [Nat.min_eq_right (by omega), List.drop_of_length_le (by omega), List.drop_of_length_le (by omega)]; simp
theorem cut_to {k : Nat} : cutV xs none (some (k : Int)) = xs.take k := by
  unfold cutV
  rw [sIx_nat, show HT.sIx xs.length 0 none = 0 from rfl, List.drop_zero, Nat.sub_zero]
  by_cases h : k ≤ xs.length
  · rw [Nat.min_eq_left h]
  · rw [Nat.min_eq_right (by omega), List.take_of_length_le (by omega), List.take_of_length_le (by omega)]
/-! ## rows: lists of lists of ints -/
inductive Rows (K : PySem.W.Frag) (H : Hp) (k : Bool) : List Addr → List (List Int) → Prop
  | nil : Rows K H k [] []
  | cons {a as ns rs} : SqB K H a (iv ns) k → Rows K H k as rs → Rows K H k (a :: as) (ns :: rs)
theorem Rows.len {as : List Addr} {rs : List (List Int)} (h : Rows K H k as rs) : as.length = rs.length := by
  induction h with
  | nil => rfl
  | cons _ _ ih => rw [List.length_cons, List.length_cons, ih]
theorem Rows.mono {as : List Addr} {rs : List (List Int)} (e : Same H H') (h : Rows K H k as rs) : Rows K H' k as rs := by
  induction h with
  | nil => exact .nil
  | cons h1 _ ih => exact .cons (qS e h1) ih
theorem Rows.at {as : List Addr} {rs : List (List Int)} (h : Rows K H k as rs) : ∀ {i : Nat} {a : Addr}, as[i]? = some a → ∃ ns, rs[i]? = some ns ∧ SqB K H a (iv ns) k := by
  induction h with
  | nil => intro i a e; simp at e
  | cons h1 _ ih =>
    intro i a e
    cases i with
    | zero => rw [List.getElem?_cons_zero] at e; cases e; exact ⟨_, rfl, h1⟩
    | succ i => exact ih (by simpa using e)
theorem Rows.snoc {as : List Addr} {rs : List (List Int)} (h : Rows K H k as rs) (h2 : SqB K H a (iv ns) k) : Rows K H k (as ++ [a]) (rs ++ [ns]) := by
  induction h with
  | nil => exact .cons h2 .nil
  | cons h1 _ ih => exact .cons h1 ih
theorem Rows.set {as : List Addr} {rs : List (List Int)} (h : Rows K H k as rs) (h2 : SqB K H a (iv ns) k) : ∀ {j : Nat}, Rows K H k (as.set j a) (rs.set j ns) := by
  induction h with
  | nil => intro j; exact .nil
  | cons h1 hr ih =>
    intro j
    cases j with
    | zero => exact .cons h2 hr
    | succ j => exact .cons h1 ih
abbrev dRow : Bool → List Int → PyData
  | true, ns => .list (dI ns)
  | false, ns => .tuple (dI ns)
theorem Rows.dp {as : List Addr} {rs : List (List Int)} (h : Rows K H k as rs) : DpAll K H (as.map V.ref) (rs.map (dRow k)) := by
  induction h with
  | nil => exact .nil
  | cons h1 _ ih =>
    refine .cons ?_ ih
    cases k with
    | true => exact dp_ints h1
    | false => exact dpT_ints h1
theorem eqv_row {k : Bool} (xs ys : List Int) : PyData.eqv (dRow k xs) (dRow k ys) = decide (xs = ys) := by
  cases k with
  | true => rw [dRow, dRow, eqv_list, eqvAll_ints]
  | false => rw [dRow, dRow, eqv_tuple, eqvAll_ints]
theorem shp_row {k : Bool} : Shp 1 (dRow k ns) := by
  cases k with
  | true => exact shp_list shpa_ints
  | false => exact shp_tuple shpa_ints
abbrev rv (as : List Addr) : List V := as.map V.ref
theorem rv_len {as : List Addr} : (rv as).length = as.length := List.length_map ..
theorem rv_get {as : List Addr} {i : Nat} {x : V} (h : (rv as)[i]? = some x) : ∃ z, as[i]? = some z ∧ x = .ref z := by
  rw [List.getElem?_map] at h
  cases e : as[i]? with
  | none => rw [e] at h; cases h
  | some z => rw [e] at h; exact ⟨z, rfl, (Option.some.inj h).symm⟩
end
end SL

set_option Elab.async false
set_option linter.all false
set_option maxRecDepth 100000
set_option maxHeartbeats 4000000
namespace SL
open PySem L2
section

set_option hygiene false
local macro_rules | `(tactic| walk_at "m") => `(tactic| first | exact List.Mem.head _ | (refine List.Mem.tail _ ?_; walk_at "m"))
local macro_rules | `(tactic| walk_at "u") => `(tactic| first | exact Upd.head | (apply Upd.tail; walk_at "u"))
local macro_rules | `(tactic| walk_at "tk") => `(tactic| first | exact Tak.head | (apply Tak.tail; walk_at "tk"))
local macro_rules | `(tactic| walk_at "l") => `(tactic| first | assumption | exact lS (St.fh (by assumption)) (by assumption) | exact SqL.of (St.get (by assumption) (by walk_at "m")))
local macro_rules | `(tactic| walk_at "t") => `(tactic| first | assumption | exact tS (St.fh (by assumption)) (by assumption) | exact SqT.of (St.get (by assumption) (by walk_at "m")))
local macro_rules | `(tactic| walk_at "lt") => `(tactic| first | exact .inl (by walk_at "l") | exact .inr (by walk_at "t"))
local macro_rules | `(tactic| walk_at "sz") => `(tactic| first | (show _ ≤ sizeLine; decide) | exact sz (by simp) | exact szl (by simp) | exact sz (by omega) | exact szl (by omega) | exact sz (by simp; omega) | exact szl (by simp; omega))
local macro_rules | `(tactic| walk_at "c") => `(tactic| first | assumption | decide | omega)
local macro_rules | `(tactic| walk_at "g1") => `(tactic| with_reducible first
  | refine w_seq ?_ | refine w_asg ?_ | refine w_c ?_ | refine w_op ?_
  | refine r_I0 ?_ | refine w_test ?_ | refine r_b ?_ | refine w_if ?_ | refine w_cons ?_ | refine w_nil ?_
  | refine w_ret ?_ | refine w_drop ?_ | refine w_cb ?_ | refine w_call ?_ | refine w_next ?_ | refine w_tup ?_ | refine w_lst ?_ | refine w_bm ?_ | refine w_bm0 ?_
  | refine w_and ?_ | refine w_or ?_ | refine w_not ?_ | refine w_andV ?_ | refine w_orV ?_ | refine w_notV ?_ | refine w_tB ?_ | refine w_un ?_ | refine r_U ?_
  | refine w_for ?_ | refine w_iL ?_ | refine w_iT ?_ | refine w_i1 ?_ | refine w_i2 ?_ | refine w_sl ?_ | refine w_part ?_ | refine w_nopart ?_ | refine r_part ?_
  | refine r_eqI ?_ | refine r_neI ?_ | refine r_eqS ?_ | refine r_neS ?_ | refine r_eqB ?_ | refine r_neB ?_ | refine r_ifT ?_ | refine r_ifF ?_ | refine r_ifNt ?_ | refine r_ifNf ?_ | refine r_ifRN ?_ | refine r_ifNRN ?_ | refine r_ifNN ?_ | refine r_ifNNN ?_
  | refine w_ifE ?_ | refine r_int1 ?_ | refine r_int1b ?_ | refine r_isnone ?_ | refine r_notnone ?_ | refine r_max2 ?_ | refine r_min2 ?_ | refine r_ipI ?_ | refine w_tru ?_ | refine w_rs ?_
  | refine w_retN ?_ | refine w_break ?_ | refine w_cont ?_ | refine w_callS ?_ | refine w_asgG ?_ | refine w_gsub ?_)
local macro_rules | `(tactic| walk_at "g2") => `(tactic| first
  | ((with_reducible refine' w_var ?hv ?_); (case hv => rfl)) | ((with_reducible refine' w_aug ?hv ?_); (case hv => rfl))
  | ((with_reducible show rLen _ _ _ _); refine r_len (by walk_at "lt") ?_)
  | (with_reducible refine r_I ?cnd ?_; (case cnd => first | decide | omega | assumption | (unfold CPow; decide)))
  | ((with_reducible show RTy _ _ _ _ _); refine r_tyL (by walk_at "l") ?_)
  | (with_reducible refine r_ifDT (by walk_at "c") ?_) | (with_reducible refine r_ifDF (by walk_at "c") ?_)
  | (with_reducible refine r_ifNT (by walk_at "c") ?_) | (with_reducible refine r_ifNF (by walk_at "c") ?_))
local macro_rules | `(tactic| walk_at "go") => `(tactic| repeat (first | walk_at "g1" | walk_at "g2"))

variable {n b c : L2.St → Hp → Prop} {r : VK} {σ : L2.St} {H H' : Hp} {Q : VK} {t : TS} {te ta tb : TE} {x y v : V} {K : PySem.W.Frag} {E : En} {F F' : Hp} {L L' L1 L2 : Led} {p a : Addr} {xs ys : List V} {ns ms : List Int} {k : Bool} {o o' : HO}
/-! ## the law's promise, calls that hand back what they made -/
def spL (K : PySem.W.Frag) : Sp := fun vs H Q E => ∃ (a : Addr) (ns : List Int), vs = [.ref a] ∧ (SqL K H a (iv ns) ∧ ns.length ≤ 63 ∧ ∀ H', Q (.bl true) H')
structure Own (H H' : Hp) (L : Led) : Prop where
  hh : Same H H'
  own : ∀ x ∈ L, H' x.1 = some x.2 ∧ H x.1 = none
  nd : (L.map (·.1)).Nodup
structure OwnB (p : Addr) (H H' : Hp) (o' : HO) (L : Led) : Prop where
  hh : SameB p H H'
  hp : H' p = some o'
  own : ∀ x ∈ L, H' x.1 = some x.2 ∧ H x.1 = none
  nd : (L.map (·.1)).Nodup
theorem nd_app {L1 L2 : Led} (h1 : (L1.map (·.1)).Nodup) (h2 : (L2.map (·.1)).Nodup) (h : ∀ x ∈ L1, ∀ y ∈ L2, x.1 ≠ y.1) : ((L1 ++ L2).map (·.1)).Nodup := by
  rw [List.map_append, List.nodup_append]
  refine ⟨h1, h2, fun a ha b hb => ?_⟩
  obtain ⟨x, hx, rfl⟩ := List.mem_map.mp ha
  obtain ⟨y, hy, rfl⟩ := List.mem_map.mp hb
  exact h x hx y hy
theorem St.addL (G : St E F H L) (w : Own H H' L1) : St E F H' (L1 ++ L) := by
  have G1 := G.grow w.hh
  refine ⟨G1.bh, G1.fh, G1.ff, G1.pr, fun x hx => ?_, nd_app w.nd G.nd fun x hx y hy e => ?_⟩
  · rcases List.mem_append.mp hx with q | q
    · obtain ⟨h1, h2⟩ := w.own x q
      exact ⟨h1, free_of G.fh h2, free_of G.bh h2⟩
    · exact G1.own x q
  · have h1 := (w.own x hx).2
    rw [e, (G.own y hy).1] at h1
    cases h1
theorem St.addLB (G : St E F H L) (u : Upd L p o o' L') (w : OwnB p H H' o' L1) : St E F H' (L1 ++ L') := by
  have G1 := G.putB u w.hh w.hp
  refine ⟨G1.bh, G1.fh, G1.ff, G1.pr, fun x hx => ?_, nd_app w.nd G1.nd fun x hx y hy e => ?_⟩
  · rcases List.mem_append.mp hx with q | q
    · obtain ⟨h1, h2⟩ := w.own x q
      exact ⟨h1, free_of G.fh h2, free_of G.bh h2⟩
    · exact G1.own x q
  · have h1 := (w.own x hx).2
    have : y.1 ∈ L.map (·.1) := by rw [← u.fst]; exact List.mem_map.mpr ⟨y, hy, rfl⟩
    obtain ⟨z, hz, q⟩ := List.mem_map.mp this
    have q' : z.1 = y.1 := q
    rw [e, ← q', (G.own z hz).1] at h1
    cases h1
theorem St.toOwn (G : St ⟨F, H⟩ F' H' L) : Own H H' L := ⟨G.bh, fun x hx => ⟨(G.own x hx).1, (G.own x hx).2.2⟩, G.nd⟩
theorem St.toOwnB (G : St ⟨F, del H p⟩ F' H' ((p, o') :: L)) : OwnB p H H' o' L := by
  have hn := G.nd
  rw [List.map_cons, List.nodup_cons] at hn
  refine ⟨fun b u h e => G.bh b u (by rw [show (En.mk F (del H p)).H = del H p from rfl, del_ne h]; exact e), G.get List.mem_cons_self, fun x hx => ?_, hn.2⟩
  obtain ⟨h1, _, h3⟩ := G.own x (List.mem_cons_of_mem _ hx)
  have ne : x.1 ≠ p := fun e => hn.1 (List.mem_map.mpr ⟨x, hx, e⟩)
  exact ⟨h1, by rw [show (En.mk F (del H p)).H = del H p from rfl, del_ne ne] at h3; exact h3⟩
theorem St.same1 (G : St ⟨F, del H p⟩ F' H' L) (m : (p, o) ∈ L) (h : H p = some o) : Same H H' := fun b u e => by
  by_cases c : b = p
  · subst c; rw [h] at e; cases e; exact G.get m
  · exact G.bh b u (by rw [show (En.mk F (del H p)).H = del H p from rfl, del_ne c]; exact e)
/-- an instance is no list and no tuple -/
theorem sq_del {C dx : Addr} {fs : List (Str × V)} (h : H p = some (.ins C dx fs)) (s : SqB K H a xs k) : SqB K (del H p) a xs k := by
  cases k with
  | true =>
    rcases s with (s | ⟨z, s⟩) | s
    · exact .inl (.inl (by rw [del_ne (ne_of s h (fun z => nomatch z))]; exact s))
    · exact .inl (.inr ⟨z, by rw [del_ne (ne_of s h (fun z => nomatch z))]; exact s⟩)
    · exact .inr s
  | false =>
    rcases s with (s | ⟨z, s⟩) | s
    · exact .inl (.inl (by rw [del_ne (ne_of s h (fun z => nomatch z))]; exact s))
    · exact .inl (.inr ⟨z, by rw [del_ne (ne_of s h (fun z => nomatch z))]; exact s⟩)
    · exact .inr s
theorem Rows.del {C dx : Addr} {fs : List (Str × V)} {as : List Addr} {rs : List (List Int)} (h : H p = some (.ins C dx fs)) (s : Rows K H k as rs) : Rows K (del H p) k as rs := by
  induction s with
  | nil => exact .nil
  | cons h1 _ ih => exact .cons (sq_del h h1) ih
/-! ## rows that are owned -/
def rowL : List Addr → List (List Int) → Led
  | a :: as, r :: rs => (a, .lst (iv r)) :: rowL as rs
  | _, _ => []
theorem rowL_rows {as : List Addr} {rs : List (List Int)} (hl : as.length = rs.length) (h : ∀ x ∈ rowL as rs, H x.1 = some x.2) : Rows K H true as rs := by
  induction as generalizing rs with
  | nil => cases rs with
    | nil => exact .nil
    | cons _ _ => cases hl
  | cons a as ih => cases rs with
    | nil => cases hl
    | cons r rs => exact .cons (show SqL K H a (iv r) from SqL.of (h _ List.mem_cons_self)) (ih (by simpa using hl) fun x hx => h x (List.mem_cons_of_mem _ hx))
theorem rowL_upd : ∀ {as : List Addr} {rs : List (List Int)} {j : Nat} {a : Addr} {r r' : List Int}, as[j]? = some a → rs[j]? = some r → Upd (rowL as rs) a (.lst (iv r)) (.lst (iv r')) (rowL as (rs.set j r'))
  | [], _, _, _, _, _, h, _ => by simp at h
  | _ :: _, [], _, _, _, _, _, h => by simp at h
  | a :: as, r :: rs, 0, a', r0, r', h1, h2 => by
    simp at h1 h2
    subst h1 h2
    exact .head
  | a :: as, r :: rs, j + 1, a', r0, r', h1, h2 => .tail (rowL_upd (by simpa using h1) (by simpa using h2))
theorem rowL_snoc : ∀ {as : List Addr} {rs : List (List Int)} {a : Addr} {r : List Int}, as.length = rs.length → rowL (as ++ [a]) (rs ++ [r]) = rowL as rs ++ [(a, .lst (iv r))]
  | [], [], _, _, _ => rfl
  | [], _ :: _, _, _, h => by cases h
  | _ :: _, [], _, _, h => by cases h
  | x :: as, y :: rs, a, r, h => by
    show (x, HO.lst (iv y)) :: rowL (as ++ [a]) (rs ++ [r]) = (x, HO.lst (iv y)) :: (rowL as rs ++ [(a, .lst (iv r))])
    rw [rowL_snoc (by simpa using h)]
theorem Upd.app {L0 : Led} (u : Upd L a o o' L') : Upd (L0 ++ L) a o o' (L0 ++ L') := by
  induction L0 with
  | nil => exact u
  | cons x r ih => exact .tail ih
theorem Upd.appL {L0 : Led} (u : Upd L a o o' L') : Upd (L ++ L0) a o o' (L' ++ L0) := by
  induction u with
  | head => exact .head
  | tail _ ih => exact .tail ih
/-! ## integers in a tuple -/
def cp_is_integer (K : PySem.W.Frag) : Sp := fun vs H Q E => ∃ (i : Int), vs = [.int i] ∧ (Q (.bl true) H)
theorem u_isint {K : PySem.W.Frag} {i : Int} {H : Hp} {Q : VK} {X : XK} (q : Q (.bl true) H) : cp_is_integer K [.int i] H Q X := ⟨i, rfl, q⟩
def ct_is_integer (K : PySem.W.Frag) : TS := (tRet (tAndV (tCB (rIsi K) (tCons (tVar 0) (tCons (tC (.ty "int")) tNil))) (tNotV (tCB (rIsi K) (tCons (tVar 0) (tCons (tC (.ty "bool")) tNil))))))
theorem cv_is_integer {K : PySem.W.Frag} {vs : List V} {H : Hp} {Q : VK} {E : XK} (h : cp_is_integer K vs H Q E) : ct_is_integer K (D0 Q) (start ["actual"] vs) H := by
  obtain ⟨i, rfl, q⟩ := h
  unfold ct_is_integer
  show tRet _ (D0 Q) [some (.int i)] H
  unfold D0
  walk_at "go"
  refine r_isiI ?_
  walk_at "go"
  refine r_isiIb ?_
  walk_at "go"
  exact q
def cp_integers (K : PySem.W.Frag) : Sp := fun vs H Q E => ∃ (a : Addr) (ns : List Int) (lo hi : Int), vs = [.ref a, .int lo, .int hi] ∧ (SqT K H a (iv ns) ∧ ((∀ z ∈ ns, lo ≤ z ∧ z < hi) → Q (.bl true) H) ∧ (¬ (∀ z ∈ ns, lo ≤ z ∧ z < hi) → Q (.bl false) H))
def ct_integers (K : PySem.W.Frag) : TS := (tSeq (tIfS (tNot (tB (tCB (rIsi K) (tCons (tVar 0) (tCons (tC (.ty "tuple")) tNil))))) (tRet (tC (.bl false))) tNext)
 (tSeq (tFor (iTup K (tVar 0)) (gName 3) (tIfS (tOr (tNot (tB (tCall (cp_is_integer K) [] E0 (tCons (tVar 3) tNil)))) (tOr (tTest (tOp rLtI (tVar 3) (tVar 1))) (tTest (tOp rGeI (tVar 3) (tVar 2))))) (tRet (tC (.bl false))) tNext))
 (tRet (tC (.bl true)))))
theorem cv_integers {K : PySem.W.Frag} {vs : List V} {H : Hp} {Q : VK} {E : XK} (h : cp_integers K vs H Q E) : ct_integers K (D0 Q) (start ["actual", "low", "high", "item"] vs) H := by
  obtain ⟨a, ns, lo, hi, rfl, ha, q1, q2⟩ := h
  unfold ct_integers
  show tSeq _ _ (D0 Q) [some (.ref a), some (.int lo), some (.int hi), none] H
  unfold D0
  walk_at "go"
  refine r_isiT ha ?_
  walk_at "go"
  refine r_it ha ?_
  refine r_forT (xs := iv ns) (fun i σ H' => H' = H ∧ (∃ v, σ = [some (.ref a), some (.int lo), some (.int hi), v]) ∧ ∀ z ∈ ns.take i, lo ≤ z ∧ z < hi) ⟨rfl, ⟨_, rfl⟩, (fun _ h => by simp at h)⟩ (fun _ _ _ _ h => h.1 ▸ ha) ?_ ?_
  · rintro i x σ H' hi' ⟨rfl, ⟨v, rfl⟩, hz⟩
    obtain ⟨z, hz1, rfl⟩ := iv_get hi'
    walk_at "go"
    refine u_isint ?_
    walk_at "go"
    have hm : z ∈ ns := List.mem_of_getElem? hz1
    refine r_ifD (fun h => ?_) (fun h => ?_)
    · walk_at "go"
      exact q2 fun w => absurd (w z hm).1 (by omega)
    · walk_at "go"
      refine r_ifD (fun h2 => ?_) (fun h2 => ?_)
      · walk_at "go"
        exact q2 fun w => absurd (w z hm).2 (by omega)
      · walk_at "go"
        refine ⟨rfl, ⟨_, rfl⟩, fun y hy => ?_⟩
        rw [take_snoc hz1] at hy
        rcases List.mem_append.mp hy with q | q
        · exact hz y q
        · rw [List.mem_singleton.mp q]; omega
  · rintro σ H' ⟨rfl, ⟨v, rfl⟩, hz⟩
    walk_at "go"
    refine q1 fun z hz' => hz z ?_
    rw [iv_len, List.take_length]; exact hz'
end
end SL

set_option Elab.async false
set_option linter.all false
set_option maxRecDepth 100000
set_option maxHeartbeats 4000000
namespace L2
open PySem PySem.Spec PyProof.Rows
/-! ## an error that has a name -/
def wAllN (n : Nat) (W : WX) : XK := fun cls d H => ∀ σ : St, σ.length = n → W cls d σ H
theorem passes_allN {X : Cx} {W : WX} {n : Nat} (tk : Takes X W) (hn : X.N.length = n) : Passes (L2.CX X.prog X.w) X (wAllN n W) :=
  fun _ σ _ _ e s' I c => tk e s' (XE.of_call I (fun cls d H' h => h σ (I.len.trans hn)) c)
def rIsE' (K : PySem.W.Frag) (a : Addr) (cls : Value) (d : Option Addr) : List V → Hp → VK → Prop := fun xs H Q => ∃ D, cls = .ref D ∧ d = none ∧ ExcC K D ∧ rIsE K D a xs H Q
theorem call_isE' {X : Cx} {a : Addr} {cls : Value} {d : Option Addr} {oe : Obj} {pn : List (Addr × Obj)} (hz : Zc cls d oe) (hf : ∃ vs, oe.data = .fields vs) : CallR (X.suite a ((a, oe) :: pn)) (.builtin "isinstance") (rIsE' X.K a cls d) := by
  intro pins s σ H xs us Q I r h
  obtain ⟨D, rfl, rfl, C, q⟩ := h
  exact call_isE C hz hf pins s σ H xs us Q I r q
theorem kit_true {K : PySem.W.Frag} {R S : Addr} (h1 : PySem.W.hasDictIn K S = true) (ht : PySem.W.typeIn K (.ref S) = some (.type "type")) (h2 : PySem.W.subIn K (.ref R) (.ref S) = some true) : PySem.W.kitOne K (.ref R) (.ref S) = some true := by
  obtain ⟨cd, hc, _⟩ := PySem.W.any_some h1
  have e2 : ((PySem.W.clsIn K S).isSome && PySem.W.typeIn K (.ref S) == some (.type "type")) = true := by rw [hc, ht] <;> rfl
  unfold PySem.W.kitOne
  split
  · rfl
  · show (if ((PySem.W.clsIn K S).isSome && PySem.W.typeIn K (.ref S) == some (.type "type")) = true then PySem.W.subIn K (.ref R) (.ref S) else none) = some true
    rw [if_pos e2]; exact h2
theorem kit_self {K : PySem.W.Frag} {R : Addr} : PySem.W.kitOne K (.ref R) (.ref R) = some true := by
  unfold PySem.W.kitOne
  rw [if_pos (by simp)]
/-! ## a comprehension in a comprehension -/
def relabelS (scope sc : Scope) : Scope :=
  { scope with names := scope.names.map fun (n, k) => if (k == .free && sc.kind == .function && sc.names.lookup n == some .cell) then (n, .cell) else (n, k) }
theorem blk_in {N : List Str} {env : Env} {sc0 scope0 scope : Scope} {cl : List (Str × Addr)} {C : Addr} {own : List (Str × Nat)} (he : env.scope = sc0) (h : blkC N (relabelS scope0 sc0) scope own = true) : BlkOk N (compEnvC scope0 cl C env).scope scope own := by
  subst he
  exact blkOk_by h
end L2
namespace SL
open PySem L2
section

set_option hygiene false
local macro_rules | `(tactic| walk_at "m") => `(tactic| first | exact List.Mem.head _ | (refine List.Mem.tail _ ?_; walk_at "m"))
local macro_rules | `(tactic| walk_at "u") => `(tactic| first | exact Upd.head | (apply Upd.tail; walk_at "u"))
local macro_rules | `(tactic| walk_at "tk") => `(tactic| first | exact Tak.head | (apply Tak.tail; walk_at "tk"))
local macro_rules | `(tactic| walk_at "l") => `(tactic| first | assumption | exact lS (St.fh (by assumption)) (by assumption) | exact SqL.of (St.get (by assumption) (by walk_at "m")))
local macro_rules | `(tactic| walk_at "t") => `(tactic| first | assumption | exact tS (St.fh (by assumption)) (by assumption) | exact SqT.of (St.get (by assumption) (by walk_at "m")))
local macro_rules | `(tactic| walk_at "lt") => `(tactic| first | exact .inl (by walk_at "l") | exact .inr (by walk_at "t"))
local macro_rules | `(tactic| walk_at "sz") => `(tactic| first | (show _ ≤ sizeLine; decide) | exact sz (by simp) | exact szl (by simp) | exact sz (by omega) | exact szl (by omega) | exact sz (by simp; omega) | exact szl (by simp; omega))
local macro_rules | `(tactic| walk_at "c") => `(tactic| first | assumption | decide | omega)
local macro_rules | `(tactic| walk_at "g1") => `(tactic| with_reducible first
  | refine w_seq ?_ | refine w_asg ?_ | refine w_c ?_ | refine w_op ?_
  | refine r_I0 ?_ | refine w_test ?_ | refine r_b ?_ | refine w_if ?_ | refine w_cons ?_ | refine w_nil ?_
  | refine w_ret ?_ | refine w_drop ?_ | refine w_cb ?_ | refine w_call ?_ | refine w_next ?_ | refine w_tup ?_ | refine w_lst ?_ | refine w_bm ?_ | refine w_bm0 ?_
  | refine w_and ?_ | refine w_or ?_ | refine w_not ?_ | refine w_andV ?_ | refine w_orV ?_ | refine w_notV ?_ | refine w_tB ?_ | refine w_un ?_ | refine r_U ?_
  | refine w_for ?_ | refine w_iL ?_ | refine w_iT ?_ | refine w_i1 ?_ | refine w_i2 ?_ | refine w_sl ?_ | refine w_part ?_ | refine w_nopart ?_ | refine r_part ?_
  | refine r_eqI ?_ | refine r_neI ?_ | refine r_eqS ?_ | refine r_neS ?_ | refine r_eqB ?_ | refine r_neB ?_ | refine r_ifT ?_ | refine r_ifF ?_ | refine r_ifNt ?_ | refine r_ifNf ?_ | refine r_ifRN ?_ | refine r_ifNRN ?_ | refine r_ifNN ?_ | refine r_ifNNN ?_
  | refine w_ifE ?_ | refine r_int1 ?_ | refine r_int1b ?_ | refine r_isnone ?_ | refine r_notnone ?_ | refine r_max2 ?_ | refine r_min2 ?_ | refine r_ipI ?_ | refine w_tru ?_ | refine w_rs ?_
  | refine w_retN ?_ | refine w_break ?_ | refine w_cont ?_ | refine w_callS ?_ | refine w_asgG ?_ | refine w_gsub ?_ | refine w_fld ?_ | refine w_sfld ?_ | refine w_mk ?_ | refine w_lc ?_ | refine w_iSq ?_ | refine u_isint ?_ | refine w_dnew ?_ | refine w_dnotin ?_ | refine w_din ?_ | refine w_dget ?_ | refine w_dput ?_ | refine w_ckw ?_)
local macro_rules | `(tactic| walk_at "g2") => `(tactic| first
  | ((with_reducible refine' w_var ?hv ?_); (case hv => rfl)) | ((with_reducible refine' w_aug ?hv ?_); (case hv => rfl))
  | ((with_reducible show rLen _ _ _ _); refine r_len (by walk_at "lt") ?_)
  | (with_reducible refine r_I ?cnd ?_; (case cnd => first | decide | omega | assumption | (unfold CPow; decide)))
  | ((with_reducible show RTy _ _ _ _ _); refine r_tyL (by walk_at "l") ?_)
  | (with_reducible refine r_ifDT (by walk_at "c") ?_) | (with_reducible refine r_ifDF (by walk_at "c") ?_)
  | (with_reducible refine r_ifNT (by walk_at "c") ?_) | (with_reducible refine r_ifNF (by walk_at "c") ?_))
local macro_rules | `(tactic| walk_at "go") => `(tactic| repeat (first | walk_at "g1" | walk_at "g2"))

variable {n b c : L2.St → Hp → Prop} {r : VK} {σ : L2.St} {H H' : Hp} {Q : VK} {t : TS} {te ta tb : TE} {x y v : V} {K : PySem.W.Frag} {E : En} {F F' : Hp} {L L' L1 L2 : Led} {p a : Addr} {xs ys : List V} {ns ms : List Int} {k : Bool} {o o' : HO}
theorem r_isE {D S : Addr} {b : Bool} (C : ExcC K D) (h : PySem.W.kitOne K (.ref D) (.ref S) = some b) (q : Q (.bl b) H) : rIsE' K a (.ref D) none [.ref a, .ref S] H Q := ⟨D, rfl, rfl, C, .ref S, .ref S, b, rfl, fun u r => r, h, q⟩
theorem r_isiC {C : Addr} (ty : TyX K H (.ref a) (.ref C)) (q : Q (.bl true) H) : rIsi K [.ref a, .ref C] H Q := ⟨.ref a, .ref C, .ref C, .ref C, true, rfl, .own C, ty, kit_self, q⟩
theorem r_all {bs : List Bool} (h : SqL K H a (bs.map V.bl)) (q : Q (.bl (bs.all id)) H) : rAll K [.ref a] H Q := ⟨a, bs, rfl, h, q⟩
theorem r_any {bs : List Bool} (h : SqL K H a (bs.map V.bl)) (q : Q (.bl (bs.any id)) H) : rAny K [.ref a] H Q := ⟨a, bs, rfl, h, q⟩
theorem set_slot {i n : Nat} {v : Option V} (h : σ.length = n) (hi : i < n) : (σ.set i v)[i]? = some v := List.getElem?_set_self (by omega)
/-! ## calls that hand back what they own -/
theorem St.join (G : St E F H L) (w : St ⟨F, H⟩ F' H' L1) : St E F' H' (L1 ++ L) := by
  have G1 : St E F' H' L := G.call w.gr
  refine ⟨G1.bh, G1.fh, G1.ff, G1.pr, fun x hx => ?_, nd_app w.nd G.nd fun x hx y hy e => ?_⟩
  · rcases List.mem_append.mp hx with q | q
    · obtain ⟨h1, h2, h3⟩ := w.own x q
      exact ⟨h1, h2, free_of G.bh h3⟩
    · exact G1.own x q
  · have h1 : H x.1 = none := (w.own x hx).2.2
    rw [e, (G.own y hy).1] at h1
    cases h1
theorem St.joinB (G : St E F H L) (u : Upd L p o o' L') (w : St ⟨F, del H p⟩ F' H' ((p, o') :: L1)) : St E F' H' (L1 ++ L') := by
  have G1 : St E F' H' L' := G.callB u (w.grB List.mem_cons_self) (w.get List.mem_cons_self)
  have hn := w.nd
  rw [List.map_cons, List.nodup_cons] at hn
  have hf : ∀ x ∈ L1, H' x.1 = some x.2 ∧ F' x.1 = none ∧ H x.1 = none := fun x q => by
    obtain ⟨h1, h2, h3⟩ := w.own x (List.mem_cons_of_mem _ q)
    have ne : x.1 ≠ p := fun e => hn.1 (List.mem_map.mpr ⟨x, q, e⟩)
    exact ⟨h1, h2, by rw [← del_ne (H := H) ne]; exact h3⟩
  refine ⟨G1.bh, G1.fh, G1.ff, G1.pr, fun x hx => ?_, nd_app hn.2 G1.nd fun x hx y hy e => ?_⟩
  · rcases List.mem_append.mp hx with q | q
    · obtain ⟨h1, h2, h3⟩ := hf x q
      exact ⟨h1, h2, free_of G.bh h3⟩
    · exact G1.own x q
  · have h1 := (hf x hx).2.2
    have : y.1 ∈ L.map (·.1) := by rw [← u.fst]; exact List.mem_map.mpr ⟨y, hy, rfl⟩
    obtain ⟨z, hz, q⟩ := List.mem_map.mp this
    have q' : z.1 = y.1 := q
    rw [e, ← q', (G.own z hz).1] at h1
    cases h1
theorem St.dropL {L1 : Led} (G : St E F H (L1 ++ L)) : St E F H L := ⟨G.bh, G.fh, G.ff, G.pr, fun x hx => G.own x (List.mem_append_right _ hx), by have := G.nd; rw [List.map_append, List.nodup_append] at this; exact this.2.1⟩
/-! ## lists of refs that are owned -/
def rowV : List Addr → List (List V) → Led
  | a :: as, r :: rs => (a, .lst r) :: rowV as rs
  | _, _ => []
theorem rowV_upd : ∀ {as : List Addr} {rs : List (List V)} {j : Nat} {a : Addr} {r r' : List V}, as[j]? = some a → rs[j]? = some r → Upd (rowV as rs) a (.lst r) (.lst r') (rowV as (rs.set j r'))
  | [], _, _, _, _, _, h, _ => by simp at h
  | _ :: _, [], _, _, _, _, _, h => by simp at h
  | a :: as, r :: rs, 0, a', r0, r', h1, h2 => by
    simp at h1 h2
    subst h1 h2
    exact .head
  | a :: as, r :: rs, j + 1, a', r0, r', h1, h2 => .tail (rowV_upd (by simpa using h1) (by simpa using h2))
theorem rowV_snoc : ∀ {as : List Addr} {rs : List (List V)} {a : Addr} {r : List V}, as.length = rs.length → rowV (as ++ [a]) (rs ++ [r]) = rowV as rs ++ [(a, .lst r)]
  | [], [], _, _, _ => rfl
  | [], _ :: _, _, _, h => by cases h
  | _ :: _, [], _, _, h => by cases h
  | x :: as, y :: rs, a, r, h => by
    show (x, HO.lst y) :: rowV (as ++ [a]) (rs ++ [r]) = (x, HO.lst y) :: (rowV as rs ++ [(a, .lst r)])
    rw [rowV_snoc (by simpa using h)]
/-! ## a list in the heap or a tuple in the frozen part -/
def SqX (K : PySem.W.Frag) (F H : Hp) (a : Addr) (xs : List V) : Prop := SqL K H a xs ∨ SqT K F a xs
theorem SqX.mono (e : Same F F') (e2 : Same H H') (h : SqX K F H a xs) : SqX K F' H' a xs := by
  rcases h with h | h
  · exact .inl (lS e2 h)
  · exact .inr (tS e h)
theorem SqX.bb (e : Same F H) (h : SqX K F H a xs) : ∃ k, SqB K H a xs k := by
  rcases h with h | h
  · exact ⟨true, h⟩
  · exact ⟨false, tS e h⟩
theorem SqX.bs (h : SqX K F H a xs) : ∃ k, ∀ H', Same H H' → Same F H' → SqB K H' a xs k := by
  rcases h with h | h
  · exact ⟨true, fun _ e _ => lS e h⟩
  · exact ⟨false, fun _ _ e => tS e h⟩
theorem SqX.or (e : Same F H) (h : SqX K F H a xs) : SqL K H a xs ∨ SqT K H a xs := by
  rcases h with h | h
  · exact .inl h
  · exact .inr (tS e h)
theorem SqX.del {C dx : Addr} {fs : List (Str × V)} (e : H p = some (.ins C dx fs)) (h : SqX K F H a xs) : SqX K F (del H p) a xs := by
  rcases h with h | h
  · exact .inl (sq_del (k := true) e h)
  · exact .inr h
theorem r_tupX (G : St E F H L) (h : SqX K F H a xs) (q : ∀ F' H' t, Same F F' → Same H H' → SqT K F' t xs → St E F' H' L → Q (.ref t) H') : rTupOf K [.ref a] H Q := by
  rcases h with h | h
  · refine ⟨a, xs, rfl, .inl ⟨h, fun p hp => ?_⟩⟩
    obtain ⟨F1, s1, ht, G2⟩ := (G.new (o := .tup xs) hp).frz Tak.head
    exact q F1 _ _ s1 (same_new hp) (SqT.of ht) G2
  · exact r_tupofT (tS G.fh h) (q F H a (Same.refl _) (Same.refl _) h G)
inductive LeafX (K : PySem.W.Frag) (F H : Hp) : List Addr → List (List Int) → Prop
  | nil : LeafX K F H [] []
  | cons {a as ns rs} : SqX K F H a (iv ns) → LeafX K F H as rs → LeafX K F H (a :: as) (ns :: rs)
theorem LeafX.mono {as : List Addr} {rs : List (List Int)} (e : Same F F') (e2 : Same H H') (h : LeafX K F H as rs) : LeafX K F' H' as rs := by
  induction h with
  | nil => exact .nil
  | cons h1 _ ih => exact .cons (h1.mono e e2) ih
theorem LeafX.len {as : List Addr} {rs : List (List Int)} (h : LeafX K F H as rs) : as.length = rs.length := by
  induction h with
  | nil => rfl
  | cons _ _ ih => rw [List.length_cons, List.length_cons, ih]
theorem LeafX.del {C dx : Addr} {fs : List (Str × V)} {as : List Addr} {rs : List (List Int)} (e : H p = some (.ins C dx fs)) (h : LeafX K F H as rs) : LeafX K F (SL.del H p) as rs := by
  induction h with
  | nil => exact .nil
  | cons h1 _ ih => exact .cons (h1.del e) ih
theorem LeafX.at {as : List Addr} {rs : List (List Int)} (h : LeafX K F H as rs) : ∀ {i : Nat} {a : Addr}, as[i]? = some a → ∃ ns, rs[i]? = some ns ∧ SqX K F H a (iv ns) := by
  induction h with
  | nil => intro i a e; simp at e
  | cons h1 _ ih =>
    intro i a e
    cases i with
    | zero => rw [List.getElem?_cons_zero] at e; cases e; exact ⟨_, rfl, h1⟩
    | succ i => exact ih (by simpa using e)
theorem LeafX.ofL {as : List Addr} {rs : List (List Int)} (h : Rows K H true as rs) : LeafX K F H as rs := by
  induction h with
  | nil => exact .nil
  | cons h1 _ ih => exact .cons (.inl h1) ih
theorem LeafX.ofT {as : List Addr} {rs : List (List Int)} (h : Rows K F false as rs) : LeafX K F H as rs := by
  induction h with
  | nil => exact .nil
  | cons h1 _ ih => exact .cons (.inr h1) ih
inductive RowsX (K : PySem.W.Frag) (F H : Hp) : List Addr → List (List (List Int)) → Prop
  | nil : RowsX K F H [] []
  | cons {a as bs r rs} : SqX K F H a (rv bs) → LeafX K F H bs r → RowsX K F H as rs → RowsX K F H (a :: as) (r :: rs)
theorem RowsX.mono {as : List Addr} {rs : List (List (List Int))} (e : Same F F') (e2 : Same H H') (h : RowsX K F H as rs) : RowsX K F' H' as rs := by
  induction h with
  | nil => exact .nil
  | cons h1 h2 _ ih => exact .cons (h1.mono e e2) (h2.mono e e2) ih
theorem RowsX.len {as : List Addr} {rs : List (List (List Int))} (h : RowsX K F H as rs) : as.length = rs.length := by
  induction h with
  | nil => rfl
  | cons _ _ _ ih => rw [List.length_cons, List.length_cons, ih]
theorem RowsX.del {C dx : Addr} {fs : List (Str × V)} {as : List Addr} {rs : List (List (List Int))} (e : H p = some (.ins C dx fs)) (h : RowsX K F H as rs) : RowsX K F (SL.del H p) as rs := by
  induction h with
  | nil => exact .nil
  | cons h1 h2 _ ih => exact .cons (h1.del e) (h2.del e) ih
theorem RowsX.at {as : List Addr} {rs : List (List (List Int))} (h : RowsX K F H as rs) : ∀ {i : Nat} {a : Addr}, as[i]? = some a → ∃ bs r, rs[i]? = some r ∧ SqX K F H a (rv bs) ∧ LeafX K F H bs r := by
  induction h with
  | nil => intro i a e; simp at e
  | cons h1 h2 _ ih =>
    intro i a e
    cases i with
    | zero => rw [List.getElem?_cons_zero] at e; cases e; exact ⟨_, _, rfl, h1, h2⟩
    | succ i => exact ih (by simpa using e)
/-! ## rows of rows, all lists or all tuples -/
inductive Rows2 (K : PySem.W.Frag) (H : Hp) (k : Bool) : List Addr → List (List (List Int)) → Prop
  | nil : Rows2 K H k [] []
  | cons {a as bs r rs} : SqB K H a (rv bs) k → Rows K H k bs r → Rows2 K H k as rs → Rows2 K H k (a :: as) (r :: rs)
theorem Rows2.mono {as : List Addr} {rs : List (List (List Int))} (e : Same H H') (h : Rows2 K H k as rs) : Rows2 K H' k as rs := by
  induction h with
  | nil => exact .nil
  | cons h1 h2 _ ih => exact .cons (qS e h1) (h2.mono e) ih
theorem Rows2.len {as : List Addr} {rs : List (List (List Int))} (h : Rows2 K H k as rs) : as.length = rs.length := by
  induction h with
  | nil => rfl
  | cons _ _ _ ih => rw [List.length_cons, List.length_cons, ih]
theorem Rows2.at {as : List Addr} {rs : List (List (List Int))} (h : Rows2 K H k as rs) : ∀ {i : Nat} {a : Addr}, as[i]? = some a → ∃ bs r, rs[i]? = some r ∧ SqB K H a (rv bs) k ∧ Rows K H k bs r := by
  induction h with
  | nil => intro i a e; simp at e
  | cons h1 h2 _ ih =>
    intro i a e
    cases i with
    | zero => rw [List.getElem?_cons_zero] at e; cases e; exact ⟨_, _, rfl, h1, h2⟩
    | succ i => exact ih (by simpa using e)
theorem Rows2.snoc {as : List Addr} {bs : List Addr} {r : List (List Int)} {rs : List (List (List Int))} (h : Rows2 K H k as rs) (h1 : SqB K H a (rv bs) k) (h2 : Rows K H k bs r) : Rows2 K H k (as ++ [a]) (rs ++ [r]) := by
  induction h with
  | nil => exact .cons h1 h2 .nil
  | cons q1 q2 _ ih => exact .cons q1 q2 ih
theorem Rows2.set {as : List Addr} {bs : List Addr} {r : List (List Int)} {rs : List (List (List Int))} (h : Rows2 K H k as rs) (h1 : SqB K H a (rv bs) k) (h2 : Rows K H k bs r) : ∀ {j : Nat}, Rows2 K H k (as.set j a) (rs.set j r) := by
  induction h with
  | nil => intro j; exact .nil
  | cons q1 q2 hr ih =>
    intro j
    cases j with
    | zero => exact .cons h1 h2 hr
    | succ j => exact .cons q1 q2 ih
theorem _root_.SL.Rows.take {as : List Addr} {rs : List (List Int)} (h : Rows K H k as rs) : ∀ {n : Nat}, Rows K H k (as.take n) (rs.take n) := by
  induction h with
  | nil => intro n; rw [List.take_nil, List.take_nil]; exact .nil
  | cons h1 _ ih =>
    intro n
    cases n with
    | zero => exact .nil
    | succ n => exact .cons h1 ih
theorem Rows2.toX {as : List Addr} {rs : List (List (List Int))} (h : Rows2 K H true as rs) : RowsX K F H as rs := by
  induction h with
  | nil => exact .nil
  | cons h1 h2 _ ih => exact .cons (.inl h1) (.ofL h2) ih
theorem Rows2.toXT {as : List Addr} {rs : List (List (List Int))} (h : Rows2 K F false as rs) : RowsX K F H as rs := by
  induction h with
  | nil => exact .nil
  | cons h1 h2 _ ih => exact .cons (.inr h1) (.ofT h2) ih
abbrev dRow2 (r : List (List Int)) : PyData := .list (r.map (dRow true))
theorem Rows2.dp {as : List Addr} {rs : List (List (List Int))} (h : Rows2 K H true as rs) : DpAll K H (as.map V.ref) (rs.map dRow2) := by
  induction h with
  | nil => exact .nil
  | cons h1 h2 _ ih => exact .cons (.lst h1 h2.dp) ih
theorem shp_row2 {r : List (List Int)} : Shp 2 (dRow2 r) := shp_list (shpa_map fun _ _ => shp_row)
theorem eqv_row2 (xs ys : List (List Int)) : PyData.eqv (dRow2 xs) (dRow2 ys) = decide (xs = ys) := by
  rw [dRow2, dRow2, eqv_list]
  exact eqvAll_map eqv_row xs ys
/-- frozen leaves -/
inductive Leaf (K : PySem.W.Frag) (H : Hp) : List (List Addr) → List (List (List Int)) → Prop
  | nil : Leaf K H [] []
  | cons {bs r bss rs} : Rows K H true bs r → Leaf K H bss rs → Leaf K H (bs :: bss) (r :: rs)
theorem Leaf.mono {bss : List (List Addr)} {rs : List (List (List Int))} (e : Same H H') (h : Leaf K H bss rs) : Leaf K H' bss rs := by
  induction h with
  | nil => exact .nil
  | cons h1 _ ih => exact .cons (h1.mono e) ih
theorem Leaf.len {bss : List (List Addr)} {rs : List (List (List Int))} (h : Leaf K H bss rs) : bss.length = rs.length := by
  induction h with
  | nil => rfl
  | cons _ _ ih => rw [List.length_cons, List.length_cons, ih]
theorem Leaf.snoc {bs : List Addr} {r : List (List Int)} {bss : List (List Addr)} {rs : List (List (List Int))} (h : Leaf K H bss rs) (h1 : Rows K H true bs r) : Leaf K H (bss ++ [bs]) (rs ++ [r]) := by
  induction h with
  | nil => exact .cons h1 .nil
  | cons q1 _ ih => exact .cons q1 ih
theorem Leaf.set {bs : List Addr} {r : List (List Int)} {bss : List (List Addr)} {rs : List (List (List Int))} (h : Leaf K H bss rs) (h1 : Rows K H true bs r) : ∀ {j : Nat}, Leaf K H (bss.set j bs) (rs.set j r) := by
  induction h with
  | nil => intro j; exact .nil
  | cons q1 hr ih =>
    intro j
    cases j with
    | zero => exact .cons h1 hr
    | succ j => exact .cons q1 ih
theorem Leaf.at {bss : List (List Addr)} {rs : List (List (List Int))} (h : Leaf K H bss rs) : ∀ {i : Nat} {r : List (List Int)}, rs[i]? = some r → ∃ bs, bss[i]? = some bs ∧ Rows K H true bs r := by
  induction h with
  | nil => intro i a e; simp at e
  | cons h1 _ ih =>
    intro i a e
    cases i with
    | zero => rw [List.getElem?_cons_zero] at e; cases e; exact ⟨_, rfl, h1⟩
    | succ i => exact ih (by simpa using e)
theorem Rows2.of {as : List Addr} {bss : List (List Addr)} {rs : List (List (List Int))} (h : Leaf K H bss rs) (hl : as.length = bss.length) (hv : ∀ x ∈ rowV as (bss.map rv), H x.1 = some x.2) : Rows2 K H true as rs := by
  induction h generalizing as with
  | nil => cases as with
    | nil => exact .nil
    | cons _ _ => cases hl
  | cons h1 _ ih => cases as with
    | nil => cases hl
    | cons a as => exact .cons (show SqL K H a _ from SqL.of (hv _ List.mem_cons_self)) h1 (ih (by simpa using hl) fun x hx => hv x (List.mem_cons_of_mem _ hx))
/-! ## ascending lists of states -/
def asc (c : Int) : Int → List Int → Bool
  | _, [] => true
  | b, x :: xs => decide (b < x) && decide (x < c) && asc c x xs
theorem asc_iff {c : Int} : ∀ {ns : List Int} {b : Int}, asc c b ns = true ↔ (∀ x ∈ ns, b < x ∧ x < c) ∧ ns.Pairwise (· < ·)
  | [], b => by simp [asc]
  | x :: xs, b => by
    rw [asc, Bool.and_eq_true, Bool.and_eq_true, decide_eq_true_eq, decide_eq_true_eq, asc_iff (ns := xs) (b := x), List.pairwise_cons]
    constructor
    · rintro ⟨⟨h1, h2⟩, h3, h4⟩
      refine ⟨fun y hy => ?_, fun y hy => (h3 y hy).1, h4⟩
      rcases List.mem_cons.mp hy with e | e
      · subst e; exact ⟨h1, h2⟩
      · have := h3 y e; omega
    · rintro ⟨h1, h2, h3⟩
      exact ⟨h1 x List.mem_cons_self, fun y hy => ⟨h2 y hy, (h1 y (List.mem_cons_of_mem _ hy)).2⟩, h3⟩
theorem asc_mono {c c' b : Int} {ns : List Int} (h : asc c b ns = true) (hc : c ≤ c') : asc c' b ns = true := by
  obtain ⟨h1, h2⟩ := asc_iff.mp h
  exact asc_iff.mpr ⟨fun x hx => by have := h1 x hx; omega, h2⟩
theorem asc_snoc {c : Int} {ns : List Int} (h : asc c (-1) ns = true) (hc : 0 ≤ c) : asc (c + 1) (-1) (ns ++ [c]) = true := by
  obtain ⟨h1, h2⟩ := asc_iff.mp h
  refine asc_iff.mpr ⟨fun x hx => ?_, ?_⟩
  · rcases List.mem_append.mp hx with q | q
    · have := h1 x q; omega
    · rw [List.mem_singleton.mp q]; omega
  · rw [List.pairwise_append]
    exact ⟨h2, List.pairwise_singleton _ _, fun x hx y hy => by rw [List.mem_singleton.mp hy]; exact (h1 x hx).2⟩
theorem asc_len {c b : Int} : ∀ {ns : List Int}, asc c b ns = true → b < c → b + ns.length ≤ c - 1 + 0
  | [], _, hb => by simp; omega
  | x :: xs, h, hb => by
    rw [asc, Bool.and_eq_true, Bool.and_eq_true, decide_eq_true_eq, decide_eq_true_eq] at h
    have := asc_len h.2 h.1.2
    rw [List.length_cons]
    omega
theorem asc_get {ns : List Int} (h : ns.Pairwise (· < ·)) {i j : Nat} (hij : i < j) (hj : j < ns.length) : ns.getD i 0 < ns.getD j 0 := by
  have := List.pairwise_iff_getElem.mp h i j (by omega) hj hij
  rw [List.getD_eq_getElem?_getD, List.getD_eq_getElem?_getD, List.getElem?_eq_getElem (by omega), List.getElem?_eq_getElem hj]
  exact this
theorem drop_cons {α : Type} : ∀ {l : List α} {i : Nat} {x : α}, l[i]? = some x → l.drop i = x :: l.drop (i + 1)
  | [], i, x, h => by simp at h
  | y :: l, 0, x, h => by
    have e : y = x := Option.some.inj h
    rw [e]; rfl
  | y :: l, i + 1, x, h => by
    have ih := drop_cons (l := l) (i := i) (x := x) h
    rw [List.drop_succ_cons, ih]; rfl
/-! ## Buchi automata -/
structure Aok (m : Int) (is cs : List Int) (rs : List (List (List Int))) : Prop where
  m1 : 1 ≤ m
  ne : 0 < rs.length
  ai : asc rs.length (-1) is = true
  ac : asc rs.length (-1) cs = true
  rr : ∀ r ∈ rs, (r.length : Int) = m ∧ ∀ x ∈ r, asc rs.length (-1) x = true
def auF (m : Int) (ia ca ra : Addr) : List (Str × V) := [("letters", .int m), ("initial", .ref ia), ("accepting", .ref ca), ("rows", .ref ra)]
structure AuAt (K : PySem.W.Frag) (C : Addr) (F : Hp) (x : Addr) (m : Int) (is cs : List Int) (rs : List (List (List Int))) : Prop where
  ex : ∃ dx ia ca ra as, F x = some (.ins C dx (auF m ia ca ra)) ∧ SqT K F ia (iv is) ∧ SqT K F ca (iv cs) ∧ SqT K F ra (rv as) ∧ Rows2 K F false as rs
theorem AuAt.mono {C x : Addr} {m : Int} {is cs : List Int} {rs : List (List (List Int))} (e : Same F F') (h : AuAt K C F x m is cs rs) : AuAt K C F' x m is cs rs := by
  obtain ⟨dx, ia, ca, ra, as, h1, h2, h3, h4, h5⟩ := h.ex
  exact ⟨⟨dx, ia, ca, ra, as, e _ _ h1, tS e h2, tS e h3, tS e h4, h5.mono e⟩⟩
theorem la_letters {m : Int} {ia ca ra : Addr} : (auF m ia ca ra).lookup ("letters" : Str) = some (.int m) := rfl
theorem la_initial {m : Int} {ia ca ra : Addr} : (auF m ia ca ra).lookup ("initial" : Str) = some (.ref ia) := rfl
theorem la_accepting {m : Int} {ia ca ra : Addr} : (auF m ia ca ra).lookup ("accepting" : Str) = some (.ref ca) := rfl
theorem la_rows {m : Int} {ia ca ra : Addr} : (auF m ia ca ra).lookup ("rows" : Str) = some (.ref ra) := rfl
end
end SL

set_option Elab.async false
set_option linter.all false
set_option maxRecDepth 100000
set_option maxHeartbeats 4000000
namespace SL
open PySem L2
section

set_option hygiene false
local macro_rules | `(tactic| walk_at "m") => `(tactic| first | exact List.Mem.head _ | (refine List.Mem.tail _ ?_; walk_at "m"))
local macro_rules | `(tactic| walk_at "u") => `(tactic| first | exact Upd.head | (apply Upd.tail; walk_at "u"))
local macro_rules | `(tactic| walk_at "tk") => `(tactic| first | exact Tak.head | (apply Tak.tail; walk_at "tk"))
local macro_rules | `(tactic| walk_at "l") => `(tactic| first | assumption | exact lS (St.fh (by assumption)) (by assumption) | exact SqL.of (St.get (by assumption) (by walk_at "m")))
local macro_rules | `(tactic| walk_at "t") => `(tactic| first | assumption | exact tS (St.fh (by assumption)) (by assumption) | exact SqT.of (St.get (by assumption) (by walk_at "m")))
local macro_rules | `(tactic| walk_at "lt") => `(tactic| first | exact .inl (by walk_at "l") | exact .inr (by walk_at "t"))
local macro_rules | `(tactic| walk_at "sz") => `(tactic| first | (show _ ≤ sizeLine; decide) | exact sz (by simp) | exact szl (by simp) | exact sz (by omega) | exact szl (by omega) | exact sz (by simp; omega) | exact szl (by simp; omega))
local macro_rules | `(tactic| walk_at "c") => `(tactic| first | assumption | decide | omega)
local macro_rules | `(tactic| walk_at "g1") => `(tactic| with_reducible first
  | refine w_seq ?_ | refine w_asg ?_ | refine w_c ?_ | refine w_op ?_
  | refine r_I0 ?_ | refine w_test ?_ | refine r_b ?_ | refine w_if ?_ | refine w_cons ?_ | refine w_nil ?_
  | refine w_ret ?_ | refine w_drop ?_ | refine w_cb ?_ | refine w_call ?_ | refine w_next ?_ | refine w_tup ?_ | refine w_lst ?_ | refine w_bm ?_ | refine w_bm0 ?_
  | refine w_and ?_ | refine w_or ?_ | refine w_not ?_ | refine w_andV ?_ | refine w_orV ?_ | refine w_notV ?_ | refine w_tB ?_ | refine w_un ?_ | refine r_U ?_
  | refine w_for ?_ | refine w_iL ?_ | refine w_iT ?_ | refine w_i1 ?_ | refine w_i2 ?_ | refine w_sl ?_ | refine w_part ?_ | refine w_nopart ?_ | refine r_part ?_
  | refine r_eqI ?_ | refine r_neI ?_ | refine r_eqS ?_ | refine r_neS ?_ | refine r_eqB ?_ | refine r_neB ?_ | refine r_ifT ?_ | refine r_ifF ?_ | refine r_ifNt ?_ | refine r_ifNf ?_ | refine r_ifRN ?_ | refine r_ifNRN ?_ | refine r_ifNN ?_ | refine r_ifNNN ?_
  | refine w_ifE ?_ | refine r_int1 ?_ | refine r_int1b ?_ | refine r_isnone ?_ | refine r_notnone ?_ | refine r_max2 ?_ | refine r_min2 ?_ | refine r_ipI ?_ | refine w_tru ?_ | refine w_rs ?_
  | refine w_retN ?_ | refine w_break ?_ | refine w_cont ?_ | refine w_callS ?_ | refine w_asgG ?_ | refine w_gsub ?_ | refine w_fld ?_ | refine w_sfld ?_ | refine w_mk ?_ | refine w_lc ?_ | refine w_iSq ?_ | refine u_isint ?_ | refine w_dnew ?_ | refine w_dnotin ?_ | refine w_din ?_ | refine w_dget ?_ | refine w_dput ?_ | refine w_ckw ?_)
local macro_rules | `(tactic| walk_at "g2") => `(tactic| first
  | ((with_reducible refine' w_var ?hv ?_); (case hv => rfl)) | ((with_reducible refine' w_aug ?hv ?_); (case hv => rfl))
  | ((with_reducible show rLen _ _ _ _); refine r_len (by walk_at "lt") ?_)
  | (with_reducible refine r_I ?cnd ?_; (case cnd => first | decide | omega | assumption | (unfold CPow; decide)))
  | ((with_reducible show RTy _ _ _ _ _); refine r_tyL (by walk_at "l") ?_)
  | (with_reducible refine r_ifDT (by walk_at "c") ?_) | (with_reducible refine r_ifDF (by walk_at "c") ?_)
  | (with_reducible refine r_ifNT (by walk_at "c") ?_) | (with_reducible refine r_ifNF (by walk_at "c") ?_))
local macro_rules | `(tactic| walk_at "go") => `(tactic| repeat (first | walk_at "g1" | walk_at "g2"))

variable {n b c : L2.St → Hp → Prop} {r : VK} {σ : L2.St} {H H' : Hp} {Q : VK} {t : TS} {te ta tb ty td tv : TE} {x y v : V} {K : PySem.W.Frag} {E : En} {F F' : Hp} {L L' L1 : Led} {p a : Addr} {xs ys : List V} {ns ms : List Int} {k : Bool} {kvs : List (Key × V)} {i : Int}
/-! ## dicts with integers as keys -/
def RDNew (H : Hp) (Q : VK) : Prop := ∀ p, H p = none → Q (.ref p) (upd H p (.dK []))
theorem w_dnew (h : RDNew H Q) : tDNewK σ H Q := h
theorem r_dnew (G : St E F H L) (q : ∀ p H', St E F H' ((p, .dK []) :: L) → Q (.ref p) H') : RDNew H Q := fun p hp => q p _ (G.new hp)
def RDN (x y : V) (H : Hp) (Q : VK) : Prop := ∃ a o, x = .ref a ∧ DGet H a y o ∧ Q (.bl (!o.isSome)) H
def RDI (x y : V) (H : Hp) (Q : VK) : Prop := ∃ a o, x = .ref a ∧ DGet H a y o ∧ Q (.bl o.isSome) H
def RDG (x y : V) (H : Hp) (Q : VK) : Prop := ∃ a v, x = .ref a ∧ DGet H a y (some v) ∧ Q v H
def RDP (x y v : V) (H : Hp) (P : Hp → Prop) : Prop := ∃ a H4, x = .ref a ∧ DPut H a y v H4 ∧ P H4
theorem w_dnotin (h : ty σ H fun y H1 => td σ H1 fun x H2 => RDN x y H2 Q) : tDNotIn ty td σ H Q := h
theorem w_din (h : ty σ H fun y H1 => td σ H1 fun x H2 => RDI x y H2 Q) : tDIn ty td σ H Q := h
theorem w_dget (h : td σ H fun x H1 => ty σ H1 fun y H2 => RDG x y H2 Q) : tDGet td ty σ H Q := h
theorem w_dput (h : tv σ H fun v H1 => td σ H1 fun x H2 => ty σ H2 fun y H3 => RDP x y v H3 (n σ)) : sDPut td ty tv ⟨n, r, b, c⟩ σ H := h
theorem r_dnot (h : H a = some (.dK kvs)) (q : Q (.bl (!(valV kvs (.inl i)).isSome)) H) : RDN (.ref a) (.int i) H Q := ⟨a, _, rfl, DGet.k (k := .inl i) h, q⟩
theorem r_din (h : H a = some (.dK kvs)) (q : Q (.bl (valV kvs (.inl i)).isSome) H) : RDI (.ref a) (.int i) H Q := ⟨a, _, rfl, DGet.k (k := .inl i) h, q⟩
theorem r_dget (h : H a = some (.dK kvs)) (e : valV kvs (.inl i) = some v) (q : Q v H) : RDG (.ref a) (.int i) H Q := ⟨a, v, rfl, by rw [← e]; exact DGet.k (k := .inl i) h, q⟩
theorem r_dput {P : Hp → Prop} (G : St E F H L) (u : Upd L a (.dK kvs) (.dK (putK kvs (.inl i) v)) L') (hs : kvs.length < sizeLine) (q : ∀ H', St E F H' L' → P H') : RDP (.ref a) (.int i) v H P := ⟨a, _, rfl, DPut.k (k := .inl i) (G.get u.mem) hs, q _ (G.put u)⟩
theorem putK_new {k : Key} (h : valV kvs k = none) : putK kvs k v = kvs ++ [(k, v)] := by
  unfold putK
  rw [valV_any, h]
  rfl
/-- a dict that tells of the first numbers where they stand -/
def kvF (q : Nat → Int) (t : Nat) : List (Key × V) := (List.range t).map fun k => (.inl (q k), .int k)
theorem kvF_succ {q : Nat → Int} {t : Nat} : kvF q (t + 1) = kvF q t ++ [(.inl (q t), .int t)] := by
  unfold kvF; rw [List.range_succ, List.map_append]; rfl
theorem kvF_len {q : Nat → Int} {t : Nat} : (kvF q t).length = t := by unfold kvF; simp
theorem kvF_val {q : Nat → Int} {t : Nat} {z : Int} : (∃ k, k < t ∧ q k = z ∧ valV (kvF q t) (.inl z) = some (.int k)) ∨ (valV (kvF q t) (.inl z) = none ∧ ∀ k, k < t → q k ≠ z) := by
  induction t with
  | zero => exact .inr ⟨rfl, fun k h => absurd h (Nat.not_lt_zero _)⟩
  | succ t ih =>
    have e : valV (kvF q (t + 1)) (.inl z) = (valV (kvF q t) (.inl z)).or (valV [((.inl (q t) : Key), V.int t)] (.inl z)) := by
      rw [kvF_succ]
      unfold valV
      rw [List.find?_append]
      cases (List.find? (fun kv => decide (kv.1 = Sum.inl z)) (kvF q t)) <;> rfl
    rcases ih with ⟨k, h1, h2, h3⟩ | ⟨h1, h2⟩
    · exact .inl ⟨k, by omega, h2, by rw [e, h3]; rfl⟩
    · by_cases c : q t = z
      · refine .inl ⟨t, by omega, c, ?_⟩
        rw [e, h1, c, valV_pos rfl]; rfl
      · refine .inr ⟨?_, fun k hk => ?_⟩
        · rw [e, h1, valV_neg (fun w => c (Sum.inl.inj w))]; rfl
        · rcases Nat.lt_succ_iff_lt_or_eq.mp hk with w | w
          · exact h2 k w
          · rw [w]; exact c
/-! ## while -/
def RWb (k : Bool) (Pv : Nat → L2.St → Hp → Prop) (m : Nat) (t : TS) (n : L2.St → Hp → Prop) (r : VK) (σ : L2.St) (H : Hp) : Prop :=
  if k = true then ∃ N : L2.St → Hp → Prop, (∀ σ' H', N σ' H' → ∃ m', m' < m ∧ Pv m' σ' H') ∧ t { nx := N, rt := r, bk := n, ct := N } σ H else n σ H
theorem r_while {c' : TT} (Pv : Nat → L2.St → Hp → Prop) (m : Nat) (h0 : Pv m σ H) (hs : ∀ m σ H, Pv m σ H → c' σ H fun k H1 => RWb k Pv m t n r σ H1) : tWhile c' t ⟨n, r, b, c⟩ σ H := ⟨Pv, ⟨m, h0⟩, hs⟩
theorem r_wb {Pv : Nat → L2.St → Hp → Prop} {m : Nat} (h1 : k = true → t ⟨fun σ' H' => ∃ m', m' < m ∧ Pv m' σ' H', r, n, fun σ' H' => ∃ m', m' < m ∧ Pv m' σ' H'⟩ σ H) (h2 : k = false → n σ H) : RWb k Pv m t n r σ H := by
  unfold RWb
  cases k with
  | true => rw [if_pos rfl]; exact ⟨_, fun _ _ h => h, h1 rfl⟩
  | false => rw [if_neg Bool.false_ne_true]; exact h2 rfl
/-! ## few places -/
theorem nodup_few : ∀ {n : Nat} {l : List Int}, l.Nodup → (∀ x ∈ l, 0 ≤ x ∧ x < n) → l.length ≤ n
  | 0, [], _, _ => Nat.le_refl _
  | 0, x :: l, _, h => by have := h x List.mem_cons_self; omega
  | n + 1, l, hn, h => by
    by_cases c : (n : Int) ∈ l
    · have e := List.length_erase_of_mem c
      have ih := nodup_few (n := n) (l := l.erase n) (hn.erase _) fun x hx => by
        have h1 := (List.Nodup.mem_erase_iff hn).mp hx
        have := h x h1.2
        have : x ≠ n := h1.1
        omega
      omega
    · have ih := nodup_few (n := n) (l := l) hn fun x hx => by
        have := h x hx
        have : x ≠ n := fun w => c (w ▸ hx)
        omega
      omega
def Inj (q : Nat → Int) (t : Nat) : Prop := ∀ a b, a < t → b < t → q a = q b → a = b
theorem inj_few {q : Nat → Int} {t n : Nat} (h : Inj q t) (hb : ∀ k, 0 ≤ q k ∧ q k < n) : t ≤ n := by
  have := nodup_few (n := n) (l := (List.range t).map q) (by
    unfold List.Nodup
    rw [List.pairwise_map]
    refine List.Pairwise.imp_of_mem (R := (· ≠ ·)) (fun {a b} ha hb ne w => ne (h a b (List.mem_range.mp ha) (List.mem_range.mp hb) w)) List.nodup_range) (fun x hx => by
    obtain ⟨k, _, rfl⟩ := List.mem_map.mp hx
    exact hb k)
  simpa using this
theorem pigeon {q : Nat → Int} {n : Nat} (hb : ∀ k, 0 ≤ q k ∧ q k < n) : ∃ i r, i < r ∧ r ≤ n ∧ q i = q r := by
  by_cases c : ∃ i r, i < r ∧ r ≤ n ∧ q i = q r
  · exact c
  · exfalso
    have : Inj q (n + 1) := fun a b ha hb e => by
      rcases Nat.lt_trichotomy a b with w | w | w
      · exact absurd ⟨a, b, w, by omega, e⟩ c
      · exact w
      · exact absurd ⟨b, a, w, by omega, e.symm⟩ c
    have := inj_few this hb
    omega
def InfBest (g : Nat → Int) (M : Int) : Prop := (∀ N, ∃ k, N ≤ k ∧ g k = M) ∧ ∃ N, ∀ k, N ≤ k → g k ≤ M
theorem InfBest.uniq {g : Nat → Int} {M M' : Int} (h : InfBest g M) (h' : InfBest g M') : M = M' := by
  obtain ⟨h1, N, h2⟩ := h
  obtain ⟨h3, N', h4⟩ := h'
  obtain ⟨k, k1, k2⟩ := h1 (max N N')
  obtain ⟨l, l1, l2⟩ := h3 (max N N')
  have a1 := h4 k (by omega)
  have a2 := h2 l (by omega)
  omega
theorem inf_best {q g : Nat → Int} {i r k0 : Nat} {M : Int} (hq : ∀ a b, q a = q b → q (a + 1) = q (b + 1)) (hg : ∀ a b, q a = q b → g a = g b) (e : q i = q r) (hir : i < r) (hb : ∀ k, i ≤ k → k < r → g k ≤ M) (hk : i ≤ k0) (hM : g k0 = M) : InfBest g M := by
  have per : ∀ s, q (i + s) = q (r + s) := fun s => by
    induction s with
    | zero => exact e
    | succ s ih => exact hq _ _ ih
  have per2 : ∀ k, i ≤ k → q (k + (r - i)) = q k := fun k h => by
    have := per (k - i)
    rw [show i + (k - i) = k from by omega, show r + (k - i) = k + (r - i) from by omega] at this
    exact this.symm
  have per3 : ∀ N, q (k0 + N * (r - i)) = q k0 := fun N => by
    induction N with
    | zero => rw [Nat.zero_mul]; rfl
    | succ N ih => rw [Nat.succ_mul, ← Nat.add_assoc, per2 _ (by omega), ih]
  have le : ∀ (f k : Nat), k ≤ f → i ≤ k → g k ≤ M := fun f => by
    induction f with
    | zero => intro k h1 h2; exact hb k h2 (by omega)
    | succ f ih =>
      intro k h1 h2
      by_cases c : k < r
      · exact hb k h2 c
      · have := per2 (k - (r - i)) (by omega)
        rw [show k - (r - i) + (r - i) = k from by omega] at this
        rw [hg _ _ this]
        exact ih _ (by omega) (by omega)
  refine ⟨fun N => ⟨k0 + N * (r - i), ?_, by rw [hg _ _ (per3 N)]; exact hM⟩, i, fun k h => le k k (Nat.le_refl _) h⟩
  have : N * 1 ≤ N * (r - i) := Nat.mul_le_mul_left _ (by omega)
  omega
/-! ## runs of parity automata -/
def mx (i j : Int) : Int := if j > i then j else i
theorem mx_le {i j : Int} : i ≤ mx i j ∧ j ≤ mx i j ∧ (mx i j = i ∨ mx i j = j) := by
  unfold mx
  split <;> omega
def stp (rs : List (List Int)) (s z : Int) : Int := (rs.getD s.toNat []).getD z.toNat 0
def gp (ps : List Int) (s : Int) : Int := ps.getD s.toNat 0
def run (rs : List (List Int)) (s : Int) (zs : List Int) : Int := zs.foldl (stp rs) s
def lb (rs : List (List Int)) (ps : List Int) : Int → List Int → Int → Int
  | _, [], b => b
  | s, z :: zs, b => lb rs ps (stp rs s z) zs (mx b (gp ps (stp rs s z)))
def qk (rs : List (List Int)) (ls : List Int) (s : Int) : Nat → Int
  | 0 => s
  | k + 1 => run rs (qk rs ls s k) ls
def gk (rs : List (List Int)) (ps ls : List Int) (s : Int) (k : Nat) : Int := lb rs ps (qk rs ls s k) ls 0
theorem run_snoc {rs : List (List Int)} {s z : Int} {zs : List Int} : run rs s (zs ++ [z]) = stp rs (run rs s zs) z := by
  unfold run; rw [List.foldl_append]; rfl
theorem lb_snoc {rs : List (List Int)} {ps : List Int} : ∀ {zs : List Int} {s z b : Int}, lb rs ps s (zs ++ [z]) b = mx (lb rs ps s zs b) (gp ps (stp rs (run rs s zs) z))
  | [], _, _, _ => rfl
  | y :: zs, s, z, b => by
    show lb rs ps (stp rs s y) (zs ++ [z]) _ = _
    rw [lb_snoc]; rfl
theorem lb_mx {rs : List (List Int)} {ps : List Int} : ∀ {zs : List Int} {s b : Int}, 0 ≤ b → lb rs ps s zs b = mx b (lb rs ps s zs 0) ∧ 0 ≤ lb rs ps s zs 0
  | [], s, b, hb => by refine ⟨?_, Int.le_refl _⟩; unfold lb mx; split <;> omega
  | z :: zs, s, b, hb => by
    have e1 := mx_le (i := b) (j := gp ps (stp rs s z))
    have e2 := mx_le (i := 0) (j := gp ps (stp rs s z))
    have i1 := lb_mx (rs := rs) (ps := ps) (zs := zs) (s := stp rs s z) (b := mx b (gp ps (stp rs s z))) (by omega)
    have i2 := lb_mx (rs := rs) (ps := ps) (zs := zs) (s := stp rs s z) (b := mx 0 (gp ps (stp rs s z))) (by omega)
    have e3 : lb rs ps s (z :: zs) b = lb rs ps (stp rs s z) zs (mx b (gp ps (stp rs s z))) := rfl
    have e4 : lb rs ps s (z :: zs) 0 = lb rs ps (stp rs s z) zs (mx 0 (gp ps (stp rs s z))) := rfl
    rw [e3, e4, i1.1, i2.1]
    generalize lb rs ps (stp rs s z) zs 0 = u at *
    generalize gp ps (stp rs s z) = w at *
    unfold mx
    refine ⟨?_, ?_⟩
    · repeat' split
      all_goals omega
    · repeat' split
      all_goals omega
theorem gk_pos {rs : List (List Int)} {ps ls : List Int} {s : Int} {k : Nat} : 0 ≤ gk rs ps ls s k := (lb_mx (b := 0) (Int.le_refl _)).2
theorem qk_next {rs : List (List Int)} {ls : List Int} {s : Int} {a b : Nat} (h : qk rs ls s a = qk rs ls s b) : qk rs ls s (a + 1) = qk rs ls s (b + 1) := by
  show run rs (qk rs ls s a) ls = run rs (qk rs ls s b) ls
  rw [h]
theorem gk_same {rs : List (List Int)} {ps ls : List Int} {s : Int} {a b : Nat} (h : qk rs ls s a = qk rs ls s b) : gk rs ps ls s a = gk rs ps ls s b := by
  unfold gk; rw [h]
/-- a lasso -/
structure LasAt (K : PySem.W.Frag) (H : Hp) (w : Addr) (hs ls : List Int) : Prop where
  ex : ∃ h l, SqT K H w [.ref h, .ref l] ∧ SqT K H h (iv hs) ∧ SqT K H l (iv ls)
theorem LasAt.mono {w : Addr} {hs ls : List Int} (e : Same H H') (h : LasAt K H w hs ls) : LasAt K H' w hs ls := by
  obtain ⟨h1, l, q1, q2, q3⟩ := h.ex
  exact ⟨⟨h1, l, tS e q1, tS e q2, tS e q3⟩⟩
theorem atI_rv {as : List Addr} {i : Int} {a : Addr} (h0 : 0 ≤ i) (h : as[i.toNat]? = some a) : atI (rv as) i = some (.ref a) := by
  have e : ((i.toNat : Nat) : Int) = i := by omega
  have q := atI_nat (xs := rv as) (j := i.toNat) (v := .ref a) (by rw [List.getElem?_map, h]; rfl)
  rw [e] at q
  exact q
theorem r_ifnn {k : Bool} {A B : Prop} (h : B) : RIf (decide (V.bl k = V.non)) A B := by rw [decide_eq_false (fun z => nomatch z)]; exact r_ifF h
end
end SL

set_option Elab.async false
set_option linter.all false
set_option maxRecDepth 100000
set_option maxHeartbeats 4000000
/-! words without end, borders and roots: numbers and lists alone -/
namespace SL
def Bd (x : Nat → Int) (n b : Nat) : Prop := b < n ∧ ∀ i, i < b → x i = x (n - b + i)
structure LBd (x : Nat → Int) (n b : Nat) : Prop where
  bd : Bd x n b
  mx : ∀ c, Bd x n c → c ≤ b
theorem bd_zero {x : Nat → Int} {n : Nat} (h : 0 < n) : Bd x n 0 := ⟨h, fun i h => absurd h (Nat.not_lt_zero _)⟩
theorem bd_trans {x : Nat → Int} {n b c : Nat} (h1 : Bd x n b) (h2 : Bd x b c) : Bd x n c := by
  obtain ⟨a1, a2⟩ := h1
  obtain ⟨b1, b2⟩ := h2
  refine ⟨by omega, fun i hi => ?_⟩
  rw [b2 i hi, a2 (b - c + i) (by omega)]
  congr 1
  omega
theorem bd_sub {x : Nat → Int} {n b c : Nat} (h1 : Bd x n b) (h2 : Bd x n c) (h : c < b) : Bd x b c := by
  obtain ⟨a1, a2⟩ := h1
  obtain ⟨b1, b2⟩ := h2
  refine ⟨h, fun i hi => ?_⟩
  rw [b2 i hi, a2 (b - c + i) (by omega)]
  congr 1
  omega
theorem bd_succ {x : Nat → Int} {n c : Nat} : Bd x (n + 1) (c + 1) ↔ Bd x n c ∧ x c = x n := by
  constructor
  · rintro ⟨h1, h2⟩
    refine ⟨⟨by omega, fun i hi => ?_⟩, ?_⟩
    · rw [h2 i (by omega)]; congr 1; omega
    · rw [h2 c (by omega)]; congr 1; omega
  · rintro ⟨⟨h1, h2⟩, h3⟩
    refine ⟨by omega, fun i hi => ?_⟩
    rcases Nat.lt_succ_iff_lt_or_eq.mp hi with q | q
    · rw [h2 i q]; congr 1; omega
    · subst q; rw [h3]; congr 1; omega
/-- a candidate while the border of the next prefix is looked for -/
structure Cand (x : Nat → Int) (k b : Nat) : Prop where
  bd : Bd x k b
  mx : ∀ c, Bd x (k + 1) (c + 1) → c ≤ b
theorem cand_of {x : Nat → Int} {k b : Nat} (h : LBd x k b) : Cand x k b := ⟨h.bd, fun c hc => h.mx c (bd_succ.mp hc).1⟩
theorem cand_step {x : Nat → Int} {k b b' : Nat} (h : Cand x k b) (ne : x k ≠ x b) (h' : LBd x b b') : Cand x k b' := by
  refine ⟨bd_trans h.bd h'.bd, fun c hc => ?_⟩
  obtain ⟨h1, h2⟩ := bd_succ.mp hc
  have h3 := h.mx c hc
  have h4 : c ≠ b := fun e => ne (by rw [← e, h2])
  exact h'.mx c (bd_sub h.bd h1 (by omega))
theorem cand_yes {x : Nat → Int} {k b : Nat} (h : Cand x k b) (e : x k = x b) : LBd x (k + 1) (b + 1) := by
  refine ⟨bd_succ.mpr ⟨h.bd, e.symm⟩, fun c hc => ?_⟩
  cases c with
  | zero => omega
  | succ c => have := h.mx c hc; omega
theorem cand_no {x : Nat → Int} {k : Nat} (h : Cand x k 0) (ne : x k ≠ x 0) : LBd x (k + 1) 0 := by
  refine ⟨bd_zero (by omega), fun c hc => ?_⟩
  cases c with
  | zero => omega
  | succ c =>
    have := h.mx c hc
    have e : c = 0 := by omega
    subst e
    exact absurd (bd_succ.mp hc).2.symm ne
/-! ## periods -/
def Per (x : Nat → Int) (n p : Nat) : Prop := ∀ i, i + p < n → x (i + p) = x i
theorem per_bd {x : Nat → Int} {n p : Nat} (h1 : 1 ≤ p) (h2 : p ≤ n) : Per x n p ↔ Bd x n (n - p) := by
  constructor
  · intro h
    refine ⟨by omega, fun i hi => ?_⟩
    have := h i (by omega)
    rw [← this]; congr 1; omega
  · rintro ⟨_, h⟩ i hi
    have := h i (by omega)
    rw [this]; congr 1; omega
theorem per_all {x : Nat → Int} {n p : Nat} (h : n ≤ p) : Per x n p := fun i hi => by omega
structure LPer (x : Nat → Int) (n p : Nat) : Prop where
  p1 : 1 ≤ p
  pn : p ≤ n
  per : Per x n p
  mn : ∀ q, 1 ≤ q → Per x n q → p ≤ q
theorem lper_of {x : Nat → Int} {n b : Nat} (h : LBd x n b) : LPer x n (n - b) := by
  have hb := h.bd.1
  refine ⟨by omega, by omega, (per_bd (by omega) (by omega)).mpr (by rw [show n - (n - b) = b from by omega]; exact h.bd), fun q hq hp => ?_⟩
  by_cases c : q ≤ n
  · have := h.mx _ ((per_bd hq c).mp hp)
    omega
  · omega
theorem per_diff {x : Nat → Int} {n p q : Nat} (hp : Per x n p) (hq : Per x n q) (h : p ≤ q) (hn : p + q ≤ n) : Per x n (q - p) := by
  intro i hi
  by_cases c : i + q < n
  · have h1 := hq i c
    have h2 := hp (i + (q - p)) (by omega)
    rw [show i + (q - p) + p = i + q from by omega] at h2
    rw [← h2, h1]
  · have h1 := hq (i - p) (by omega)
    have h2 := hp (i - p) (by omega)
    rw [show i - p + p = i from by omega] at h2
    rw [show i + (q - p) = i - p + q from by omega, h1, h2]
theorem per_dvd {x : Nat → Int} {n p : Nat} (h : LPer x n p) : ∀ (f q : Nat), q ≤ f → 1 ≤ q → Per x n q → p + q ≤ n → p ∣ q
  | 0, q, h1, h2, _, _ => by omega
  | f + 1, q, h1, h2, h3, h4 => by
    have h5 := h.mn q h2 h3
    by_cases c : q = p
    · rw [c]; exact Nat.dvd_refl _
    · have h6 := per_dvd h f (q - p) (by have := h.p1; omega) (by omega) (per_diff h.per h3 h5 h4) (by omega)
      have h7 := Nat.dvd_add h6 (Nat.dvd_refl p)
      rw [show q - p + p = q from by omega] at h7
      exact h7
/-- the shortest word of which a word of n letters is a power has p letters -/
structure IsRoot (x : Nat → Int) (n p : Nat) : Prop where
  p1 : 1 ≤ p
  dv : p ∣ n
  per : Per x n p
  mn : ∀ q, 1 ≤ q → q ∣ n → Per x n q → p ≤ q
theorem root_of {x : Nat → Int} {n p : Nat} (h0 : 0 < n) (h : LPer x n p) : IsRoot x n (if n % p = 0 then p else n) := by
  split
  · rename_i c
    exact ⟨h.p1, Nat.dvd_of_mod_eq_zero c, h.per, fun q hq _ hp => h.mn q hq hp⟩
  · rename_i c
    refine ⟨h0, Nat.dvd_refl _, per_all (Nat.le_refl _), fun q hq hd hp => ?_⟩
    by_cases e : q = n
    · omega
    · exfalso
      have hle := Nat.le_of_dvd h0 hd
      obtain ⟨k, hk⟩ := hd
      have k2 : 2 ≤ k := by
        rcases Nat.lt_or_ge k 2 with z | z
        · rcases (show k = 0 ∨ k = 1 by omega) with y | y
          · rw [y] at hk; omega
          · rw [y] at hk; omega
        · exact z
      have h2 : q * 2 ≤ q * k := Nat.mul_le_mul_left _ k2
      have h3 := h.mn q hq hp
      have h4 := per_dvd h q q (Nat.le_refl _) hq hp (by omega)
      have h5 : p ∣ n := Nat.dvd_trans h4 ⟨k, hk⟩
      exact c (Nat.mod_eq_zero_of_dvd h5)
theorem IsRoot.uniq {x : Nat → Int} {n p q : Nat} (h : IsRoot x n p) (h' : IsRoot x n q) : p = q := by
  have h1 := h.mn q h'.p1 h'.dv h'.per
  have h2 := h'.mn p h.p1 h.dv h.per
  omega
/-- a letter of a periodic word stands in its first period -/
theorem per_mod {x : Nat → Int} {n p : Nat} (h : Per x n p) (hp : 1 ≤ p) : ∀ (f i : Nat), i ≤ f → i < n → x i = x (i % p)
  | 0, i, h1, h2 => by
    have : i = 0 := by omega
    subst this
    rw [Nat.zero_mod]
  | f + 1, i, h1, h2 => by
    by_cases c : i < p
    · rw [Nat.mod_eq_of_lt c]
    · have := h (i - p) (by omega)
      rw [show i - p + p = i from by omega] at this
      rw [this, per_mod h hp f (i - p) (by omega) (by omega), ← Nat.mod_eq_sub_mod (by omega)]
/-! ## words of lassos -/
abbrev fx (ns : List Int) : Nat → Int := fun i => ns.getD i 0
def wd (hs ls : List Int) (i : Nat) : Int := if i < hs.length then fx hs i else fx ls ((i - hs.length) % ls.length)
def SameW (hs ls hs' ls' : List Int) : Prop := ∀ i, wd hs ls i = wd hs' ls' i
/-- the normal form -/
structure Nf (hs ls : List Int) : Prop where
  ne : 0 < ls.length
  rt : IsRoot (fx ls) ls.length ls.length
  lst : ∀ k, hs.length = k + 1 → fx hs k ≠ fx ls (ls.length - 1)
theorem wd_root {hs ls : List Int} {p : Nat} (h : IsRoot (fx ls) ls.length p) : SameW hs ls hs (ls.take p) := by
  intro i
  unfold wd
  have hd := h.dv
  by_cases hn : ls.length = 0
  · have e : ls = [] := List.length_eq_zero_iff.mp hn
    subst e; simp
  have hp : p ≤ ls.length := Nat.le_of_dvd (by omega) hd
  have hl : (ls.take p).length = p := by rw [List.length_take]; omega
  split
  · rfl
  · rw [hl]
    have h1 := per_mod h.per h.p1 _ ((i - hs.length) % ls.length) (Nat.le_refl _) (Nat.mod_lt _ (by omega))
    rw [h1, Nat.mod_mod_of_dvd _ hd]
    show ls.getD _ 0 = (ls.take p).getD _ 0
    have h2 : (i - hs.length) % p < p := Nat.mod_lt _ (by have := h.p1; omega)
    rw [List.getD_eq_getElem?_getD, List.getD_eq_getElem?_getD, List.getElem?_take, if_pos h2]
/-! ## read round and round -/
def rI (x : Nat → Int) (p : Nat) (z : Int) : Int := x (z % (p : Int)).toNat
theorem rI_nat {x : Nat → Int} {p i : Nat} (h : i < p) : rI x p i = x i := by
  unfold rI
  rw [show (i : Int) % (p : Int) = ((i % p : Nat) : Int) from (Int.natCast_emod i p).symm, Nat.mod_eq_of_lt h]
  rfl
theorem rI_mod {x : Nat → Int} {p : Nat} {z z' : Int} (h : z % (p : Int) = z' % (p : Int)) : rI x p z = rI x p z' := by unfold rI; rw [h]
theorem rI_add {x : Nat → Int} {p : Nat} {z : Int} : rI x p (z + p) = rI x p z := rI_mod (by rw [Int.add_emod_right])
theorem rI_natmod {x : Nat → Int} {p i : Nat} (hp : 0 < p) : x (i % p) = rI x p i := by
  unfold rI
  rw [show (i : Int) % (p : Int) = ((i % p : Nat) : Int) from (Int.natCast_emod i p).symm]
  rfl
theorem rI_per {x : Nat → Int} {p q : Nat} (hq : 1 ≤ q) (hp : 0 < p) (hd : q ∣ p) (h : Per x p q) (z : Int) : rI x p (z + q) = rI x p z := by
  have h0 : 0 ≤ z % (p : Int) := Int.emod_nonneg _ (by omega)
  have h1 : z % (p : Int) < p := Int.emod_lt_of_pos _ (by omega)
  have hle := Nat.le_of_dvd hp hd
  obtain ⟨i, hi⟩ : ∃ i : Nat, z % (p : Int) = i := ⟨(z % (p : Int)).toNat, by omega⟩
  have e1 : rI x p z = x i := by unfold rI; rw [hi]; rfl
  have e2 : (z + q) % (p : Int) = ((i : Int) + q) % p := by rw [← hi, Int.emod_add_emod]
  have hip : i < p := by omega
  by_cases c : i + q < p
  · have e3 : rI x p (z + q) = x (i + q) := by
      unfold rI
      rw [e2, show ((i : Int) + q) % (p : Int) = (i : Int) + q from Int.emod_eq_of_lt (by omega) (by omega)]
      rfl
    rw [e1, e3, h i c]
  · have e3 : rI x p (z + q) = x (i + q - p) := by
      unfold rI
      rw [e2, show ((i : Int) + q) % (p : Int) = (i : Int) + q - p from by
        rw [show (i : Int) + q = ((i : Int) + q - p) + p from by omega, Int.add_emod_right, Int.emod_eq_of_lt (by omega) (by omega)]
        omega]
      congr 1
      omega
    obtain ⟨k, hk⟩ := hd
    rw [e1, e3, per_mod h hq _ i (Nat.le_refl _) hip, per_mod h hq _ (i + q - p) (Nat.le_refl _) (by omega)]
    congr 1
    have e4 : (i + q - p + p) % q = (i + q) % q := by congr 1; omega
    rw [Nat.add_mod_right, hk, Nat.add_mul_mod_self_left] at e4
    rw [hk]
    exact e4
/-- a loop begins earlier -/
def rotL (ls : List Int) (cut : Nat) : List Int := ls.drop cut ++ ls.take cut
theorem rotL_len {ls : List Int} {cut : Nat} : (rotL ls cut).length = ls.length := by unfold rotL; rw [List.length_append, List.length_drop, List.length_take]; omega
theorem rotL_at {ls : List Int} {cut i : Nat} (hc : cut ≤ ls.length) (hi : i < ls.length) : fx (rotL ls cut) i = rI (fx ls) ls.length ((i : Int) + cut) := by
  have hr : fx (rotL ls cut) i = if i < ls.length - cut then fx ls (i + cut) else fx ls (i + cut - ls.length) := by
    show (rotL ls cut).getD i 0 = _
    unfold rotL
    rw [List.getD_eq_getElem?_getD, List.getElem?_append, List.length_drop]
    split
    · rw [List.getElem?_drop, Nat.add_comm cut i]; rfl
    · rw [List.getElem?_take, if_pos (by omega), show i - (ls.length - cut) = i + cut - ls.length from by omega]; rfl
  rw [hr]
  split
  · rw [show (i : Int) + cut = ((i + cut : Nat) : Int) from by omega, rI_nat (by omega)]
  · rw [show (i : Int) + cut = ((i + cut - ls.length : Nat) : Int) + (ls.length : Nat) from by omega, rI_add, rI_nat (by omega)]
/-- what the search for the shortest head ends with -/
theorem nf_of {hs R : List Int} {kept moved cut : Nat} (h0 : 0 < R.length) (hR : IsRoot (fx R) R.length R.length) (hk : kept + moved = hs.length) (hm : ∀ t, t < moved → fx hs (hs.length - 1 - t) = rI (fx R) R.length (-1 - (t : Int)))
    (hx : 0 < kept → fx hs (kept - 1) ≠ rI (fx R) R.length (-1 - (moved : Int))) (hc : (cut : Int) = R.length - (moved : Int) % R.length) : Nf (hs.take kept) (rotL R cut) ∧ SameW hs R (hs.take kept) (rotL R cut) := by
  have hcle : cut ≤ R.length := by have : 0 ≤ (moved : Int) % R.length := Int.emod_nonneg _ (by omega); omega
  have hkl : (hs.take kept).length = kept := by rw [List.length_take]; omega
  have hcm : ∀ z : Int, rI (fx R) R.length (z + cut) = rI (fx R) R.length (z - moved) := fun z => by
    rw [hc, show z + ((R.length : Int) - (moved : Int) % R.length) = (z - (moved : Int) % R.length) + (R.length : Nat) from by omega, rI_add]
    exact rI_mod (by rw [Int.sub_emod_emod])
  have hrot : ∀ i : Nat, i < R.length → fx (rotL R cut) i = rI (fx R) R.length ((i : Int) - moved) := fun i hi => by rw [rotL_at hcle hi, hcm]
  have hmod : ∀ i : Nat, fx (rotL R cut) (i % R.length) = rI (fx R) R.length ((i : Int) - moved) := fun i => by
    rw [hrot _ (Nat.mod_lt _ h0)]
    exact rI_mod (by rw [Int.natCast_emod, Int.emod_sub_emod])
  refine ⟨⟨by rw [rotL_len]; exact h0, ⟨by rw [rotL_len]; omega, Nat.dvd_refl _, per_all (Nat.le_refl _), fun q hq hd hp => ?_⟩, fun k hk2 => ?_⟩, fun i => ?_⟩
  · rw [rotL_len] at hd hp ⊢
    refine hR.mn q hq hd fun i hi => ?_
    have h1 := rI_per hq h0 hd hp ((i : Int) + moved)
    have h2 : ∀ z : Int, rI (fx (rotL R cut)) R.length z = rI (fx R) R.length (z - moved) := fun z => by
      have z0 : 0 ≤ z % (R.length : Int) := Int.emod_nonneg _ (by omega)
      have z1 : z % (R.length : Int) < R.length := Int.emod_lt_of_pos _ (by omega)
      obtain ⟨j, hj⟩ : ∃ j : Nat, z % (R.length : Int) = j := ⟨(z % (R.length : Int)).toNat, by omega⟩
      have : rI (fx (rotL R cut)) R.length z = fx (rotL R cut) j := by unfold rI; rw [hj]; rfl
      rw [this, hrot j (by omega), ← hj]
      exact rI_mod (by rw [Int.emod_sub_emod])
    rw [h2, h2, show (i : Int) + moved + q - moved = ((i + q : Nat) : Int) from by omega, show (i : Int) + moved - moved = (i : Int) from by omega, rI_nat hi, rI_nat (by omega)] at h1
    exact h1
  · rw [hkl] at hk2
    rw [rotL_len, hrot _ (by omega)]
    have e1 : fx (hs.take kept) k = fx hs k := by
      show (hs.take kept).getD k 0 = hs.getD k 0
      rw [List.getD_eq_getElem?_getD, List.getD_eq_getElem?_getD, List.getElem?_take, if_pos (by omega)]
    rw [e1, show (((R.length - 1 : Nat) : Int) - moved) = (-1 - (moved : Int)) + (R.length : Nat) from by omega, rI_add]
    have := hx (by omega)
    rw [show kept - 1 = k from by omega] at this
    exact this
  · unfold wd
    rw [hkl, rotL_len]
    by_cases c1 : i < kept
    · rw [if_pos c1, if_pos (by omega)]
      show hs.getD i 0 = (hs.take kept).getD i 0
      rw [List.getD_eq_getElem?_getD, List.getD_eq_getElem?_getD, List.getElem?_take, if_pos c1]
    · rw [if_neg c1, hmod]
      by_cases c2 : i < hs.length
      · rw [if_pos c2]
        have := hm (hs.length - 1 - i) (by omega)
        rw [show hs.length - 1 - (hs.length - 1 - i) = i from by omega] at this
        rw [this]
        congr 1
        omega
      · rw [if_neg c2, rI_natmod (x := fx R) h0]
        congr 1
        omega
end SL

set_option Elab.async false
set_option linter.all false
set_option maxRecDepth 100000
set_option maxHeartbeats 4000000
namespace L2
open PySem PySem.Spec PyProof.Rows
/-! ## a part of a list or of a tuple -/
def rSlQ (K : PySem.W.Frag) : V → Option Int → Option Int → Hp → VK → Prop := fun x lo hi H Q => rSlL K x lo hi H Q ∨ rSlA K x lo hi H Q
theorem sl_seq {X : Cx} : SlR X (rSlQ X.K) := sl_list.or sl_tupA
end L2
namespace SL
open PySem L2
section

set_option hygiene false
local macro_rules | `(tactic| walk_at "m") => `(tactic| first | exact List.Mem.head _ | (refine List.Mem.tail _ ?_; walk_at "m"))
local macro_rules | `(tactic| walk_at "u") => `(tactic| first | exact Upd.head | (apply Upd.tail; walk_at "u"))
local macro_rules | `(tactic| walk_at "tk") => `(tactic| first | exact Tak.head | (apply Tak.tail; walk_at "tk"))
local macro_rules | `(tactic| walk_at "l") => `(tactic| first | assumption | exact lS (St.fh (by assumption)) (by assumption) | exact SqL.of (St.get (by assumption) (by walk_at "m")))
local macro_rules | `(tactic| walk_at "t") => `(tactic| first | assumption | exact tS (St.fh (by assumption)) (by assumption) | exact SqT.of (St.get (by assumption) (by walk_at "m")))
local macro_rules | `(tactic| walk_at "lt") => `(tactic| first | exact .inl (by walk_at "l") | exact .inr (by walk_at "t"))
local macro_rules | `(tactic| walk_at "sz") => `(tactic| first | (show _ ≤ sizeLine; decide) | exact sz (by simp) | exact szl (by simp) | exact sz (by omega) | exact szl (by omega) | exact sz (by simp; omega) | exact szl (by simp; omega))
local macro_rules | `(tactic| walk_at "c") => `(tactic| first | assumption | decide | omega)
local macro_rules | `(tactic| walk_at "g1") => `(tactic| with_reducible first
  | refine w_seq ?_ | refine w_asg ?_ | refine w_c ?_ | refine w_op ?_
  | refine r_I0 ?_ | refine w_test ?_ | refine r_b ?_ | refine w_if ?_ | refine w_cons ?_ | refine w_nil ?_
  | refine w_ret ?_ | refine w_drop ?_ | refine w_cb ?_ | refine w_call ?_ | refine w_next ?_ | refine w_tup ?_ | refine w_lst ?_ | refine w_bm ?_ | refine w_bm0 ?_
  | refine w_and ?_ | refine w_or ?_ | refine w_not ?_ | refine w_andV ?_ | refine w_orV ?_ | refine w_notV ?_ | refine w_tB ?_ | refine w_un ?_ | refine r_U ?_
  | refine w_for ?_ | refine w_iL ?_ | refine w_iT ?_ | refine w_i1 ?_ | refine w_i2 ?_ | refine w_sl ?_ | refine w_part ?_ | refine w_nopart ?_ | refine r_part ?_
  | refine r_eqI ?_ | refine r_neI ?_ | refine r_eqS ?_ | refine r_neS ?_ | refine r_eqB ?_ | refine r_neB ?_ | refine r_ifT ?_ | refine r_ifF ?_ | refine r_ifNt ?_ | refine r_ifNf ?_ | refine r_ifRN ?_ | refine r_ifNRN ?_ | refine r_ifNN ?_ | refine r_ifNNN ?_
  | refine w_ifE ?_ | refine r_int1 ?_ | refine r_int1b ?_ | refine r_isnone ?_ | refine r_notnone ?_ | refine r_max2 ?_ | refine r_min2 ?_ | refine r_ipI ?_ | refine w_tru ?_ | refine w_rs ?_
  | refine w_retN ?_ | refine w_break ?_ | refine w_cont ?_ | refine w_callS ?_ | refine w_asgG ?_ | refine w_gsub ?_ | refine w_fld ?_ | refine w_sfld ?_ | refine w_mk ?_ | refine w_lc ?_ | refine w_iSq ?_ | refine u_isint ?_ | refine w_dnew ?_ | refine w_dnotin ?_ | refine w_din ?_ | refine w_dget ?_ | refine w_dput ?_ | refine w_ckw ?_)
local macro_rules | `(tactic| walk_at "g2") => `(tactic| first
  | ((with_reducible refine' w_var ?hv ?_); (case hv => rfl)) | ((with_reducible refine' w_aug ?hv ?_); (case hv => rfl))
  | ((with_reducible show rLen _ _ _ _); refine r_len (by walk_at "lt") ?_)
  | (with_reducible refine r_I ?cnd ?_; (case cnd => first | decide | omega | assumption | (unfold CPow; decide)))
  | ((with_reducible show RTy _ _ _ _ _); refine r_tyL (by walk_at "l") ?_)
  | (with_reducible refine r_ifDT (by walk_at "c") ?_) | (with_reducible refine r_ifDF (by walk_at "c") ?_)
  | (with_reducible refine r_ifNT (by walk_at "c") ?_) | (with_reducible refine r_ifNF (by walk_at "c") ?_))
local macro_rules | `(tactic| walk_at "go") => `(tactic| repeat (first | walk_at "g1" | walk_at "g2"))

variable {n b c : L2.St → Hp → Prop} {r : VK} {σ : L2.St} {H H' : Hp} {Q : VK} {t : TS} {te ta tb : TE} {x y v : V} {K : PySem.W.Frag} {E : En} {F F' : Hp} {L L' L1 : Led} {p a : Addr} {xs ys : List V} {ns ms : List Int} {k : Bool} {lo hi : Option Int}
theorem cut_full (h : HT.sIx xs.length 0 lo = 0 ∧ HT.sIx xs.length xs.length hi = xs.length) : cutV xs lo hi = xs := by
  unfold cutV
  rw [h.1, h.2]
  simp
/-- a part of a tuple, that lies still -/
theorem r_slAX (G : St E F H L) (h : SqT K F a xs) (q : ∀ F' H' t, Same F F' → Same H H' → SqT K F' t (cutV xs lo hi) → St E F' H' L → Q (.ref t) H') : rSlA K (.ref a) lo hi H Q := by
  refine ⟨a, xs, rfl, tS G.fh h, fun w => ?_, fun _ p hp => ?_⟩
  · exact q F H a (Same.refl _) (Same.refl _) (by rw [cut_full w]; exact h) G
  · obtain ⟨F1, s1, ht, G2⟩ := (G.new (o := .tup (cutV xs lo hi)) hp).frz Tak.head
    exact q F1 _ p s1 (same_new hp) (SqT.of ht) G2
/-- a part of a list or a tuple -/
theorem r_slX (G : St E F H L) (h : SqX K F H a xs) (q : ∀ F' H' t, Same F F' → Same H H' → SqX K F' F' t (cutV xs lo hi) → St E F' H' L → Q (.ref t) H') : rSlQ K (.ref a) lo hi H Q := by
  rcases h with h | h
  · refine .inl ⟨a, xs, rfl, h, fun p hp => ?_⟩
    obtain ⟨F1, s1, ht, G2⟩ := (G.new (o := .lst (cutV xs lo hi)) hp).frz Tak.head
    exact q F1 _ p s1 (same_new hp) (.inl (SqL.of ht)) G2
  · exact .inr (r_slAX G h fun F' H' t s1 s2 ht G' => q F' H' t s1 s2 (.inr ht) G')
theorem r_catAX {a2 : Addr} (G : St E F H L) (h : SqT K F a xs) (h2 : SqT K F a2 ys) (hs : xs.length + ys.length ≤ sizeLine) (q : ∀ F' H' t, Same F F' → Same H H' → SqT K F' t (xs ++ ys) → St E F' H' L → Q (.ref t) H') : rCatA K (.ref a) (.ref a2) H Q := by
  refine ⟨a, a2, xs, ys, rfl, rfl, tS G.fh h, tS G.fh h2, hs, fun e => ?_, fun _ e => ?_, fun _ _ p hp => ?_⟩
  · subst e; exact q F H a2 (Same.refl _) (Same.refl _) h2 G
  · subst e; exact q F H a (Same.refl _) (Same.refl _) (by rw [List.append_nil]; exact h) G
  · obtain ⟨F1, s1, ht, G2⟩ := (G.new (o := .tup (xs ++ ys)) hp).frz Tak.head
    exact q F1 _ p s1 (same_new hp) (SqT.of ht) G2
theorem r_ixQ {i : Int} (h : SqL K H a xs ∨ SqT K H a xs) (e : atI xs i = some v) (q : Q v H) : rIx K (.ref a) (.int i) H Q := by
  rcases h with h | h
  · exact .inl (r_ixL h e q)
  · exact .inr (.inl (r_ixT h e q))
theorem r_rep {m : Int} (G : St E F H L) (u : (a, HO.lst xs) ∈ L) (h0 : 0 ≤ m) (h1 : m < 2 ^ 63) (hs : xs.length * m.toNat ≤ sizeLine) (q : ∀ p H', St E F H' ((p, .lst (List.replicate m.toNat xs).flatten) :: L) → Q (.ref p) H') : rRep (.ref a) (.int m) H Q :=
  ⟨a, m, xs, rfl, rfl, G.get u, by omega, h1, hs, fun p hp => q p _ (G.new hp)⟩
theorem flat_one {α : Type} {z : α} : ∀ {m : Nat}, (List.replicate m [z]).flatten = List.replicate m z
  | 0 => rfl
  | m + 1 => by rw [List.replicate_succ, List.flatten_cons, flat_one, List.replicate_succ]; rfl
theorem r_wA {Pv : Nat → L2.St → Hp → Prop} {m : Nat} (h1 : t ⟨fun σ' H' => ∃ m', m' < m ∧ Pv m' σ' H', r, n, fun σ' H' => ∃ m', m' < m ∧ Pv m' σ' H'⟩ σ H) : RWb true Pv m t n r σ H := r_wb (fun _ => h1) (fun z => by cases z)
theorem r_wB {Pv : Nat → L2.St → Hp → Prop} {m : Nat} (h2 : n σ H) : RWb false Pv m t n r σ H := r_wb (fun z => by cases z) (fun _ => h2)
theorem r_wD {p : Prop} [Decidable p] {Pv : Nat → L2.St → Hp → Prop} {m : Nat} (h1 : p → t ⟨fun σ' H' => ∃ m', m' < m ∧ Pv m' σ' H', r, n, fun σ' H' => ∃ m', m' < m ∧ Pv m' σ' H'⟩ σ H) (h2 : ¬ p → n σ H) : RWb (decide p) Pv m t n r σ H := r_wb (fun z => h1 (of_decide_eq_true z)) (fun z => h2 (of_decide_eq_false z))
theorem r_wN {p : Prop} [Decidable p] {Pv : Nat → L2.St → Hp → Prop} {m : Nat} (h1 : ¬ p → t ⟨fun σ' H' => ∃ m', m' < m ∧ Pv m' σ' H', r, n, fun σ' H' => ∃ m', m' < m ∧ Pv m' σ' H'⟩ σ H) (h2 : p → n σ H) : RWb (!decide p) Pv m t n r σ H := r_wb (fun z => h1 (by simpa using z)) (fun z => h2 (by simpa using z))
theorem w_rng2n {n' : Nat} {R : It → Hp → Prop} {i : Int} (h : -(2 ^ 62) ≤ i ∧ i < 2 ^ 62 ∧ (n' : Int) < 2 ^ 62) (q : R (Itr i ((n' : Int) - i).toNat) H) : RI2 [.int i, .int n'] H R := r_i2 (by omega) q
end
end SL

set_option Elab.async false
set_option linter.all false
set_option maxRecDepth 100000
set_option maxHeartbeats 4000000
namespace L2
open PySem PySem.Spec PyProof.Rows
/-! ## several except clauses, each with a name for its error or without one -/
def hEnds (D : Ends) : Option Nat → Ends
  | none => D
  | some i => ⟨fun σ1 H1 => D.nx (σ1.set i none) H1, D.rt, fun σ1 H1 => D.bk (σ1.set i none) H1, fun σ1 H1 => D.ct (σ1.set i none) H1⟩
def hSt (σ : St) (a : Addr) : Option Nat → St
  | none => σ
  | some i => σ.set i (some (.ref a))
abbrev Hdl := Value × Option Nat × (Addr → Value → Option Addr → TS)
def wHds (K : PySem.W.Frag) (Wo : WX) (D : Ends) : List Hdl → WX
  | [] => Wo
  | h :: r => fun cls d σ H => ∃ b, PySem.W.exmOne K cls h.1 = some b ∧ (b = true → ∀ a, H a = none → h.2.2 a cls d (hEnds D h.2.1) (hSt σ a h.2.1) H) ∧ (b = false → wHds K Wo D r cls d σ H)
/-- the name of a clause and its slot -/
def NameIn (X : Cx) : Option Str → Option Nat → Prop
  | none, none => True
  | some n, some i => X.N[i]? = some n ∧ X.env.kindOf n = some .local
  | _, _ => False
inductive HdsN (X : Cx) : List ExceptHandler → List Hdl → Prop
  | nil : HdsN X [] []
  | cons {x : Str} {c : Value} {s : Option Nat} {on : Option Str} {ts : Addr → Value → Option Addr → TS} {q₀ : Stmt} {qs : List Stmt} {p1 p2 : Pos} {hr : List ExceptHandler} {lr : List Hdl} (hn : NameIn X on s) (hc : Names X x c)
      (hq : ∀ (a : Addr) (oe : Obj) (cls : Value) (d : Option Addr) (pn : List (Addr × Obj)), Zc cls d oe → (∃ vs, oe.data = .fields vs) → PSs (X.suite a ((a, oe) :: pn)) (q₀ :: qs) (ts a cls d)) (rest : HdsN X hr lr) :
      HdsN X (.ExceptHandler (some (.Name x p1)) on (q₀ :: qs) p2 :: hr) ((c, s, ts) :: lr)
theorem flow_back {X : Cx} {pins : List (Addr × Obj)} {D : Ends} {a : Addr} {q : Addr × Obj} {f : Flow} {s6 : Shared} (ok : X.Ok) (h : SP (X.suite a (q :: (X.pn ++ pins))) [] D f s6) : SP X pins D f s6 := by
  cases f with
  | ret u =>
    obtain ⟨v, σ1, H1, S, r, w⟩ := h
    exact ⟨v, σ1, H1, S.unsuite ok, r, w⟩
  | next => obtain ⟨σ1, H1, S, w⟩ := h; exact ⟨σ1, H1, S.unsuite ok, w⟩
  | brk => obtain ⟨σ1, H1, S, w⟩ := h; exact ⟨σ1, H1, S.unsuite ok, w⟩
  | cont => obtain ⟨σ1, H1, S, w⟩ := h; exact ⟨σ1, H1, S.unsuite ok, w⟩
theorem flow_try {X : Cx} {pins : List (Addr × Obj)} {xe : Value → Shared → Prop} {D : Ends} {f : Flow} {s1 : Shared} (ok : X.Ok) (h : SP (X.tr (X.pn ++ pins) xe) [] D f s1) : SP X pins D f s1 := by
  cases f with
  | ret u =>
    obtain ⟨v, σ1, H1, S, r, w⟩ := h
    exact ⟨v, σ1, H1, S.ofTry ok, r, w⟩
  | next => obtain ⟨σ1, H1, S, w⟩ := h; exact ⟨σ1, H1, S.ofTry ok, w⟩
  | brk => obtain ⟨σ1, H1, S, w⟩ := h; exact ⟨σ1, H1, S.ofTry ok, w⟩
  | cont => obtain ⟨σ1, H1, S, w⟩ := h; exact ⟨σ1, H1, S.ofTry ok, w⟩
theorem ps_try_hds {X : Cx} {body : List Stmt} {hh : ExceptHandler} {hr : List ExceptHandler} {l : List Hdl} {pos : Pos} {tb : WX → TS} {Wo : WX} (stk : X.stack = X.env :: X.outer) (fr : X.env.frame = some X.env.locals) (nd : X.N.Nodup) (tk : Takes X Wo)
    (hb : ∀ (W : WX) (pn : List (Addr × Obj)) (xe : Value → Shared → Prop), Takes (X.tr pn xe) W → PassesOwn (model X.prog X.w) X.A X.env xe → PSs (X.tr pn xe) body (tb W)) (cl : HdsN X (hh :: hr) l) :
    PS X (.Try body (hh :: hr) [] [] pos) (fun D σ H => tb (wHds X.K Wo D l) D σ H) := by
  refine ⟨fun pins s σ H D I q => ?_⟩
  have okX := I.ok
  have frx : X.A.frames = some (X.env :: X.outer) := okX.frames.trans (congrArg some stk)
  let down : Value → Shared → Prop := fun e t1 => wpAny (model X.prog X.w) X.A (noteFrame e X.env) (fun _ t2 => wpAny (model X.prog X.w) X.A (setFlight e none) (fun _ t3 => wpAny (model X.prog X.w) X.A (handleBy e X.env (hh :: hr)) (SP X pins D) X.xe t3) X.xe t2) X.xe t1
  have caught : Takes (X.tr (X.pn ++ pins) down) (wHds X.K Wo D l) := by
    rintro u t ⟨a, B, tI, _, σ1, H1, cls, d, rfl, J0, nb, up, sky, na, os, ag, wish⟩
    have J := J0.ofTry okX
    have sky1 : Sky B (X.env :: X.outer) a (Zc cls d) X.env.locals t.heap := stk ▸ sky
    show wpAny (model X.prog X.w) X.A (noteFrame (.ref a) X.env) _ _ _
    refine Sky.land Zc.steady frx fr sky1 fun hA flA upA => ?_
    have JA : Inv X pins σ1 H1 { t with heap := hA } := J.landed nb flA.1 (up.trans upA) os ag
    obtain ⟨oeA, vsA, getA, zcA, fieldsA⟩ := flA.there
    have away : a ∉ frs (X.env :: X.outer) := fun mem => by
      obtain ⟨_, o1, g1, no⟩ := flA.2.2.1.mem mem
      rw [getA] at g1
      cases g1
      exact no _ fieldsA
    have aL : a ≠ X.env.locals := fun z => away (List.mem_filterMap.mpr ⟨X.env, List.mem_cons_self, by rw [fr, z]⟩)
    have aF : a ∉ X.fs := fun mem => by
      obtain ⟨e, he, z⟩ := List.mem_filterMap.mp mem
      exact away (List.mem_filterMap.mpr ⟨e, List.mem_cons_of_mem _ he, z⟩)
    have SA := JA.suite getA fieldsA na aL aF
    have walk : ∀ {hs' : List ExceptHandler} {l' : List Hdl}, HdsN X hs' l' → wHds X.K Wo D l' cls d σ1 H1 → wpAny (model X.prog X.w) X.A (handleBy (.ref a) X.env hs') (SP X pins D) X.xe { t with heap := hA } := fun cl' => by
      induction cl' with
      | nil =>
        intro w'
        obtain ⟨_, _, _, oe, vs, U, oU, us, g0, _, f0, at1, _⟩ := id flA
        refine wpAny_handleBy_nil ?_
        unfold PySem.passOn
        refine wpAny_bind (wpAny_field g0 f0 at1 ?_)
        have out : wpAny (model X.prog X.w) X.A (setFlight (.ref a) X.env.frame) (fun _ t4 => wpAny (model X.prog X.w) X.A (throw (.ref a) : Sem Flow) (SP X pins D) X.xe t4) X.xe { t with heap := hA } := by
          rw [fr]
          exact HandSPX.setFlight_upZ flA fun hB heldB upB => wpAny_throw (tk _ _ ⟨a, B, tI, pins, σ1, H1, cls, d, rfl, J, nb, (up.trans upA).trans upB, .inr (.inr (by rw [stk]; exact heldB)), na, os, ag, w'⟩)
        rw [if_neg (show ¬ (Value.ref U == Value.none) = true from by simp)]
        first
          | exact wpAny_bind (wpAny_pure (wpAny_bind out))
          | exact wpAny_bind out
      | @cons x c s on ts q₀ qs p1 p2 hr' lr' hn hc hq rest ih =>
        rintro ⟨b, m, yes, no⟩
        have lt : PySem.W.Looks (model X.prog X.w) hA (typeOf (.ref a)) cls := fun A' Q' E' t' k' q' => wpAny_typeOf_ref (k' _ _ getA) (by rw [zcA.1]; exact q')
        have name : ∀ {Q1 E1 : Value → Shared → Prop}, Q1 c { t with heap := hA } → wpAny (model X.prog X.w) (X.A.mark (some (.ref a))) (eval (.Name x p1) X.env) Q1 E1 { t with heap := hA } := fun {Q1 E1} z => by
          rcases hc with ⟨g, dbg, glob | ⟨ng, bl, nn⟩⟩
          · exact ld_glob (X := X.suite a ((a, oeA) :: (X.pn ++ pins))) SA g glob z dbg
          · exact ld_blt (X := X.suite a ((a, oeA) :: (X.pn ++ pins))) SA g ng bl z nn dbg
        refine wpAny_handleBy_cons (codeAny_handlers_test (name ((PySem.W.exm_one (M := model X.prog X.w) JA.kIn lt m).here ?_))) (by intro z; cases z)
        cases b with
        | false => exact ih (no rfl)
        | true =>
          have begin_ : ∀ {hB : Heap}, HandSPX.FlyingZ B (X.env :: X.outer) a (Zc cls d) hB → t.heap.UpToSlots hB → ∃ oe, Zc cls d oe ∧ (∃ vs, oe.data = .fields vs) ∧ Inv (X.suite a ((a, oe) :: (X.pn ++ pins))) [] σ1 H1 { t with heap := hB } := fun {hB} flB upB => by
            obtain ⟨oe, vs, g, z, f⟩ := flB.there
            have JB : Inv X pins σ1 H1 { t with heap := hB } := J.landed nb flB.1 (up.trans upB) os ag
            exact ⟨oe, z, ⟨vs, f⟩, JB.suite g f na aL aF⟩
          have go := yes rfl a na
          match on, s, hn with
          | none, none, _ =>
            refine codeAny_handlers_suite (HandSPX.lands_againZ flA fun hB flB upB => ?_)
            obtain ⟨oe, z, f, S⟩ := begin_ flB (upA.trans upB)
            exact wpAny_mono ((hq a oe cls d (X.pn ++ pins) z f).run [] _ _ H1 _ S go) (fun fl t6 r => flow_back okX r) (fun _ _ w' => False.elim w')
          | some n, some i, ⟨hi, hl⟩ =>
            refine codeAny_handlers_suite_as (HandSPX.lands_againZ flA fun hB flB upB => ?_)
            obtain ⟨oe, z, f, S⟩ := begin_ flB (upA.trans upB)
            refine store_ok (X := X.suite a ((a, oe) :: (X.pn ++ pins))) (v := .ref a) S nd hi (.inl hl) rfl (fun t5 S5 => ?_) (.inr hl)
            refine wpAny_mono ((hq a oe cls d (X.pn ++ pins) z f).run [] t5 _ H1 _ S5 go) (fun fl t6 r => ?_) (fun _ _ w' => False.elim w')
            have fin : ∀ {σ6 : St} {H6 : Hp} {R : Shared → Prop}, Inv (X.suite a ((a, oe) :: (X.pn ++ pins))) [] σ6 H6 t6 → (∀ t7, Inv X pins (σ6.set i none) H6 t7 → R t7) → wpAny (model X.prog X.w) X.A (do bindName X.env n .none; unbindBehindTheSuite X.env n p2) (fun _ t7 => R t7) X.xe t6 := fun S6 k6 => gone_ok (S6.unsuite okX) nd hi hl k6
            cases fl with
            | ret u => obtain ⟨v, σ6, H6, S6, rv6, w6⟩ := r; exact fin S6 fun t7 J7 => ⟨v, _, _, J7, rv6, w6⟩
            | next => obtain ⟨σ6, H6, S6, w6⟩ := r; exact fin S6 fun t7 J7 => ⟨_, _, J7, w6⟩
            | brk => obtain ⟨σ6, H6, S6, w6⟩ := r; exact fin S6 fun t7 J7 => ⟨_, _, J7, w6⟩
            | cont => obtain ⟨σ6, H6, S6, w6⟩ := r; exact fin S6 fun t7 J7 => ⟨_, _, J7, w6⟩
    exact walk cl wish
  refine wpAny_Try_except (wpAny_mono ((hb _ (X.pn ++ pins) down caught PassesOwn.looking).run [] s σ H D (I.toTry _) q) (fun f s1 r => ?_) (fun e s1 z => z))
  have r1 : SP X pins D f s1 := flow_try okX r
  cases f with
  | next => exact wpAny_execs_nil r1
  | ret u => exact r1
  | brk => exact r1
  | cont => exact r1
end L2

set_option Elab.async false
set_option linter.all false
set_option maxRecDepth 100000
set_option maxHeartbeats 4000000
namespace L2
open PySem PySem.Spec PyProof.Rows
theorem kit_false {K : PySem.W.Frag} {R S : Addr} (h1 : PySem.W.hasDictIn K S = true) (ht : PySem.W.typeIn K (.ref S) = some (.type "type")) (hr : PySem.W.subIn K (.ref R) (.ref R) = some true) (h2 : PySem.W.subIn K (.ref R) (.ref S) = some false) : PySem.W.kitOne K (.ref R) (.ref S) = some false := by
  obtain ⟨cd, hc, _⟩ := PySem.W.any_some h1
  have e2 : ((PySem.W.clsIn K S).isSome && PySem.W.typeIn K (.ref S) == some (.type "type")) = true := by rw [hc, ht] <;> rfl
  have ne : ¬ (Value.ref R == Value.ref S) = true := fun z => by
    have e : R = S := Value.ref.inj (beq_iff_eq.mp z)
    subst e
    rw [hr] at h2
    cases h2
  unfold PySem.W.kitOne
  rw [if_neg ne]
  show (if ((PySem.W.clsIn K S).isSome && PySem.W.typeIn K (.ref S) == some (.type "type")) = true then PySem.W.subIn K (.ref R) (.ref S) else none) = some false
  rw [if_pos e2]; exact h2
theorem kit_tyT {K : PySem.W.Frag} {R : Addr} {T : String} (hm : PySem.W.kitMeta T = true) (h : PySem.W.subIn K (.ref R) (.type T) = some true) : PySem.W.kitOne K (.ref R) (.type T) = some true := by
  unfold PySem.W.kitOne
  split
  · rfl
  · show (if PySem.W.kitMeta T = true then PySem.W.subIn K (.ref R) (.type T) else none) = some true
    rw [if_pos hm]; exact h
end L2
namespace SL
open PySem L2
section

set_option hygiene false
local macro_rules | `(tactic| walk_at "m") => `(tactic| first | exact List.Mem.head _ | (refine List.Mem.tail _ ?_; walk_at "m"))
local macro_rules | `(tactic| walk_at "u") => `(tactic| first | exact Upd.head | (apply Upd.tail; walk_at "u"))
local macro_rules | `(tactic| walk_at "tk") => `(tactic| first | exact Tak.head | (apply Tak.tail; walk_at "tk"))
local macro_rules | `(tactic| walk_at "l") => `(tactic| first | assumption | exact lS (St.fh (by assumption)) (by assumption) | exact SqL.of (St.get (by assumption) (by walk_at "m")))
local macro_rules | `(tactic| walk_at "t") => `(tactic| first | assumption | exact tS (St.fh (by assumption)) (by assumption) | exact SqT.of (St.get (by assumption) (by walk_at "m")))
local macro_rules | `(tactic| walk_at "lt") => `(tactic| first | exact .inl (by walk_at "l") | exact .inr (by walk_at "t"))
local macro_rules | `(tactic| walk_at "sz") => `(tactic| first | (show _ ≤ sizeLine; decide) | exact sz (by simp) | exact szl (by simp) | exact sz (by omega) | exact szl (by omega) | exact sz (by simp; omega) | exact szl (by simp; omega))
local macro_rules | `(tactic| walk_at "c") => `(tactic| first | assumption | decide | omega)
local macro_rules | `(tactic| walk_at "g1") => `(tactic| with_reducible first
  | refine w_seq ?_ | refine w_asg ?_ | refine w_c ?_ | refine w_op ?_
  | refine r_I0 ?_ | refine w_test ?_ | refine r_b ?_ | refine w_if ?_ | refine w_cons ?_ | refine w_nil ?_
  | refine w_ret ?_ | refine w_drop ?_ | refine w_cb ?_ | refine w_call ?_ | refine w_next ?_ | refine w_tup ?_ | refine w_lst ?_ | refine w_bm ?_ | refine w_bm0 ?_
  | refine w_and ?_ | refine w_or ?_ | refine w_not ?_ | refine w_andV ?_ | refine w_orV ?_ | refine w_notV ?_ | refine w_tB ?_ | refine w_un ?_ | refine r_U ?_
  | refine w_for ?_ | refine w_iL ?_ | refine w_iT ?_ | refine w_i1 ?_ | refine w_i2 ?_ | refine w_sl ?_ | refine w_part ?_ | refine w_nopart ?_ | refine r_part ?_
  | refine r_eqI ?_ | refine r_neI ?_ | refine r_eqS ?_ | refine r_neS ?_ | refine r_eqB ?_ | refine r_neB ?_ | refine r_ifT ?_ | refine r_ifF ?_ | refine r_ifNt ?_ | refine r_ifNf ?_ | refine r_ifRN ?_ | refine r_ifNRN ?_ | refine r_ifNN ?_ | refine r_ifNNN ?_
  | refine w_ifE ?_ | refine r_int1 ?_ | refine r_int1b ?_ | refine r_isnone ?_ | refine r_notnone ?_ | refine r_max2 ?_ | refine r_min2 ?_ | refine r_ipI ?_ | refine w_tru ?_ | refine w_rs ?_
  | refine w_retN ?_ | refine w_break ?_ | refine w_cont ?_ | refine w_callS ?_ | refine w_asgG ?_ | refine w_gsub ?_ | refine w_fld ?_ | refine w_sfld ?_ | refine w_mk ?_ | refine w_lc ?_ | refine w_iSq ?_ | refine u_isint ?_ | refine w_dnew ?_ | refine w_dnotin ?_ | refine w_din ?_ | refine w_dget ?_ | refine w_dput ?_ | refine w_ckw ?_)
local macro_rules | `(tactic| walk_at "g2") => `(tactic| first
  | ((with_reducible refine' w_var ?hv ?_); (case hv => rfl)) | ((with_reducible refine' w_aug ?hv ?_); (case hv => rfl))
  | ((with_reducible show rLen _ _ _ _); refine r_len (by walk_at "lt") ?_)
  | (with_reducible refine r_I ?cnd ?_; (case cnd => first | decide | omega | assumption | (unfold CPow; decide)))
  | ((with_reducible show RTy _ _ _ _ _); refine r_tyL (by walk_at "l") ?_)
  | (with_reducible refine r_ifDT (by walk_at "c") ?_) | (with_reducible refine r_ifDF (by walk_at "c") ?_)
  | (with_reducible refine r_ifNT (by walk_at "c") ?_) | (with_reducible refine r_ifNF (by walk_at "c") ?_))
local macro_rules | `(tactic| walk_at "go") => `(tactic| repeat (first | walk_at "g1" | walk_at "g2"))

variable {n b c : L2.St → Hp → Prop} {r : VK} {σ : L2.St} {H H' : Hp} {Q : VK} {t : TS} {te ta tb : TE} {x y v : V} {K : PySem.W.Frag} {E : En} {F F' : Hp} {L L' L1 : Led} {p a : Addr} {xs ys : List V} {ns ms : List Int} {k : Bool} {lo hi : Option Int}
theorem r_isET {D : Addr} {T : String} (C : ExcC K D) (h : PySem.W.kitOne K (.ref D) (.type T) = some k) (q : Q (.bl k) H) : rIsE' K a (.ref D) none [.ref a, .ty T] H Q := ⟨D, rfl, rfl, C, .ty T, .type T, k, rfl, fun u r => r, h, q⟩
theorem r_repT {m : Int} (G : St E F H L) (h : SqT K F a xs) (ne : xs ≠ []) (h0 : 2 ≤ m) (h1 : m ≤ 1000) (hl : xs.length ≤ 1000) (q : ∀ p H', St E F H' ((p, .tup (List.replicate m.toNat xs).flatten) :: L) → Q (.ref p) H') : rRepT K (.ref a) (.int m) H Q :=
  ⟨a, m, xs, rfl, rfl, tS G.fh h, ne, h0, h1, hl, fun p hp => q p _ (G.new hp)⟩
theorem atI_last (h : 0 < ns.length) : atI (iv ns) (-1) = some (.int (ns.getD (ns.length - 1) 0)) := by
  have e : (iv ns)[ns.length - 1]? = some (.int (ns.getD (ns.length - 1) 0)) := by
    rw [List.getElem?_map, List.getElem?_eq_getElem (by omega), List.getD_eq_getElem?_getD, List.getElem?_eq_getElem (by omega)]; rfl
  have q : ixN ns.length (-1) = some (ns.length - 1) := by
    unfold ixN
    rw [if_neg (by decide)]
    first
      | (rw [if_pos (by omega)]; congr 1; omega)
      | (split <;> (first | (congr 1; omega) | omega))
  unfold atI
  rw [iv_len, q]
  exact e
theorem eqv_str (x y : Str) : PyData.eqv (.str x) (.str y) = decide (x = y) := by simp [PyData.eqv, Bool.beq_eq_decide_eq]
theorem eqv_bool (x y : Bool) : PyData.eqv (.bool x) (.bool y) = decide (x = y) := by simp [PyData.eqv, Bool.beq_eq_decide_eq]
theorem shp_str {z : Str} (h : (PyData.str z).canLay0 = true) : Shp 0 (.str z) := ⟨h, Nat.le_refl _⟩
theorem flat_at {α : Type} {l : List α} : ∀ {m i : Nat}, i < l.length → 0 < m → ((List.replicate m l).flatten)[i]? = l[i]?
  | 0, _, _, h => absurd h (by decide)
  | m + 1, i, h, _ => by rw [List.replicate_succ, List.flatten_cons, List.getElem?_append_left h]
theorem flat_add {α : Type} {l : List α} : ∀ {m i : Nat}, i < l.length * m → ((List.replicate (m + 1) l).flatten)[i + l.length]? = ((List.replicate (m + 1) l).flatten)[i]?
  | 0, i, h => by simp at h
  | m + 1, i, h => by
    have e1 : ((List.replicate (m + 2) l).flatten)[i + l.length]? = ((List.replicate (m + 1) l).flatten)[i]? := by
      rw [List.replicate_succ, List.flatten_cons, List.getElem?_append_right (by omega), Nat.add_sub_cancel]
    by_cases c : i < l.length
    · rw [e1, flat_at c (by omega), flat_at c (by omega)]
    · rw [e1]
      have e2 : ((List.replicate (m + 2) l).flatten)[i]? = ((List.replicate (m + 1) l).flatten)[i - l.length]? := by
        rw [List.replicate_succ, List.flatten_cons, List.getElem?_append_right (by omega)]
      rw [e2]
      have := flat_add (l := l) (m := m) (i := i - l.length) (by rw [Nat.mul_succ] at h; omega)
      rw [show i - l.length + l.length = i from by omega] at this
      exact this
end
end SL

set_option Elab.async false
set_option linter.all false
set_option maxRecDepth 100000
set_option maxHeartbeats 4000000
/-! a word without end has one normal form: numbers and lists alone -/
namespace SL
theorem wd_head {hs ls : List Int} {i : Nat} (h : i < hs.length) : wd hs ls i = fx hs i := by unfold wd; rw [if_pos h]
theorem wd_loop {hs ls : List Int} {j : Nat} (h : j < ls.length) : wd hs ls (hs.length + j) = fx ls j := by
  unfold wd
  rw [if_neg (by omega), show hs.length + j - hs.length = j from by omega, Nat.mod_eq_of_lt h]
theorem wd_per {hs ls : List Int} {i : Nat} (h : hs.length ≤ i) : wd hs ls (i + ls.length) = wd hs ls i := by
  unfold wd
  rw [if_neg (by omega), if_neg (by omega), show i + ls.length - hs.length = i - hs.length + ls.length from by omega, Nat.add_mod_right]
theorem gcd_per {w : Nat → Int} {n : Nat} : ∀ (f p q : Nat), p + q ≤ f → 1 ≤ p → 1 ≤ q → (∀ i, n ≤ i → w (i + p) = w i) → (∀ i, n ≤ i → w (i + q) = w i) → ∀ i, n ≤ i → w (i + Nat.gcd p q) = w i
  | 0, p, q, h, h1, _, _, _ => by omega
  | f + 1, p, q, h, h1, h2, hp, hq => by
    rcases Nat.lt_trichotomy p q with c | c | c
    · have := gcd_per f p (q - p) (by omega) h1 (by omega) hp (fun i hi => by
        have e1 := hp (i + (q - p)) (by omega)
        rw [show i + (q - p) + p = i + q from by omega, hq i hi] at e1
        exact e1.symm)
      rw [Nat.gcd_sub_self_right (by omega)] at this
      exact this
    · subst c
      rw [Nat.gcd_self]
      exact hp
    · have := gcd_per f (p - q) q (by omega) (by omega) h2 (fun i hi => by
        have e1 := hq (i + (p - q)) (by omega)
        rw [show i + (p - q) + q = i + p from by omega, hp i hi] at e1
        exact e1.symm) hq
      rw [Nat.gcd_comm, Nat.gcd_sub_self_right (by omega), Nat.gcd_comm] at this
      exact this
theorem per_mul {w : Nat → Int} {m p : Nat} (h : ∀ i, m ≤ i → w (i + p) = w i) (i : Nat) (hi : m ≤ i) : ∀ k, w (i + k * p) = w i
  | 0 => by rw [Nat.zero_mul]; rfl
  | k + 1 => by rw [Nat.succ_mul, ← Nat.add_assoc, h _ (by omega), per_mul h i hi k]
theorem tail_back {w : Nat → Int} {n m p d : Nat} (p1 : 1 ≤ p) (hp : ∀ i, m ≤ i → w (i + p) = w i) (hd : ∀ i, n ≤ i → w (i + d) = w i) (i : Nat) (hi : m ≤ i) : w (i + d) = w i := by
  have h1 := per_mul hp i hi n
  have h2 := per_mul hp (i + d) (by omega) n
  have h3 : n * 1 ≤ n * p := Nat.mul_le_mul_left _ p1
  rw [← h2, show i + d + n * p = i + n * p + d from by omega, hd _ (by omega), h1]
theorem root_le {hs ls : List Int} {d : Nat} (nf : Nf hs ls) (d1 : 1 ≤ d) (dv : d ∣ ls.length) (h : ∀ i, hs.length ≤ i → wd hs ls (i + d) = wd hs ls i) : ls.length ≤ d :=
  nf.rt.mn d d1 dv fun i hi => by
    have := h (hs.length + i) (by omega)
    rw [show hs.length + i + d = hs.length + (i + d) from by omega, wd_loop hi, wd_loop (by omega)] at this
    exact this
theorem nf_len {h1 l1 h2 l2 : List Int} (n1 : Nf h1 l1) (n2 : Nf h2 l2) (hS : SameW h1 l1 h2 l2) : l1.length = l2.length := by
  have p1 := n1.ne
  have p2 := n2.ne
  have e : wd h1 l1 = wd h2 l2 := funext hS
  have a1 : ∀ i, h1.length ≤ i → wd h1 l1 (i + l1.length) = wd h1 l1 i := fun i hi => wd_per hi
  have a2 : ∀ i, h2.length ≤ i → wd h1 l1 (i + l2.length) = wd h1 l1 i := fun i hi => by rw [e]; exact wd_per hi
  have g := gcd_per (w := wd h1 l1) (n := max h1.length h2.length) _ l1.length l2.length (Nat.le_refl _) p1 p2 (fun i hi => a1 i (by omega)) (fun i hi => a2 i (by omega))
  have gp : 1 ≤ Nat.gcd l1.length l2.length := Nat.gcd_pos_of_pos_left _ p1
  have b1 := root_le n1 gp (Nat.gcd_dvd_left _ _) (tail_back p1 a1 g)
  have b2 := root_le n2 gp (Nat.gcd_dvd_right _ _) (by rw [← e]; exact tail_back p2 a2 g)
  have c1 := Nat.le_of_dvd p1 (Nat.gcd_dvd_left l1.length l2.length)
  have c2 := Nat.le_of_dvd p2 (Nat.gcd_dvd_right l1.length l2.length)
  omega
theorem nf_head {h1 l1 h2 l2 : List Int} (n1 : Nf h1 l1) (n2 : Nf h2 l2) (hS : SameW h1 l1 h2 l2) : h2.length ≤ h1.length := by
  rcases Nat.lt_or_ge h1.length h2.length with c | c
  · exfalso
    have el := nf_len n1 n2 hS
    have p2 := n2.ne
    refine n2.lst (h2.length - 1) (by omega) ?_
    have q1 := wd_per (hs := h1) (ls := l1) (i := h2.length - 1) (by omega)
    rw [hS, hS, el, show h2.length - 1 + l2.length = h2.length + (l2.length - 1) from by omega, wd_loop (by omega), wd_head (by omega)] at q1
    exact q1.symm
  · exact c
theorem fx_ext {xs ys : List Int} (hl : xs.length = ys.length) (h : ∀ i, i < xs.length → fx xs i = fx ys i) : xs = ys := by
  refine List.ext_getElem hl fun i h1 h2 => ?_
  have := h i h1
  have e1 : fx xs i = xs[i] := by show xs.getD i 0 = _; rw [List.getD_eq_getElem?_getD, List.getElem?_eq_getElem h1]; rfl
  have e2 : fx ys i = ys[i] := by show ys.getD i 0 = _; rw [List.getD_eq_getElem?_getD, List.getElem?_eq_getElem h2]; rfl
  rw [← e1, ← e2]
  exact this
/-- two normal forms of one word are one -/
theorem nf_uniq {h1 l1 h2 l2 : List Int} (n1 : Nf h1 l1) (n2 : Nf h2 l2) (hS : SameW h1 l1 h2 l2) : h1 = h2 ∧ l1 = l2 := by
  have el := nf_len n1 n2 hS
  have a := nf_head n1 n2 hS
  have b := nf_head n2 n1 fun i => (hS i).symm
  refine ⟨fx_ext (by omega) fun i hi => ?_, fx_ext el fun i hi => ?_⟩
  · have := hS i
    rw [wd_head hi, wd_head (by omega)] at this
    exact this
  · have := hS (h1.length + i)
    rw [wd_loop hi, show h1.length + i = h2.length + i from by omega, wd_loop (by omega)] at this
    exact this
/-- words that are alike long enough are the same -/
theorem same_of {h1 l1 h2 l2 : List Int} (p1 : 0 < l1.length) (p2 : 0 < l2.length) (h : ∀ i, i < max h1.length h2.length + l1.length + l2.length → wd h1 l1 i = wd h2 l2 i) : SameW h1 l1 h2 l2 := by
  have all : ∀ (f i : Nat), i ≤ f → wd h1 l1 i = wd h2 l2 i := fun f => by
    induction f with
    | zero => intro i hi; exact h i (by omega)
    | succ f ih =>
      intro i hi
      by_cases c : i < max h1.length h2.length + l1.length + l2.length
      · exact h i c
      · have a1 := wd_per (hs := h1) (ls := l1) (i := i - l1.length) (by omega)
        have a2 := wd_per (hs := h2) (ls := l2) (i := i - l2.length) (by omega)
        have a3 := wd_per (hs := h1) (ls := l1) (i := i - l2.length - l1.length) (by omega)
        have a4 := wd_per (hs := h2) (ls := l2) (i := i - l2.length - l1.length) (by omega)
        rw [show i - l1.length + l1.length = i from by omega] at a1
        rw [show i - l2.length + l2.length = i from by omega] at a2
        rw [show i - l2.length - l1.length + l1.length = i - l2.length from by omega] at a3
        rw [show i - l2.length - l1.length + l2.length = i - l1.length from by omega] at a4
        rw [a1, a2, ih (i - l1.length) (by omega), a4, ← ih (i - l2.length - l1.length) (by omega), ← a3, ih (i - l2.length) (by omega)]
  exact fun i => all i i (Nat.le_refl _)
end SL

set_option Elab.async false
set_option linter.all false
set_option maxRecDepth 100000
set_option maxHeartbeats 4000000
namespace L2
open PySem PySem.Spec PyProof.Rows
/-! ## the least common multiple of two small numbers -/
def rLcm : List V → Hp → VK → Prop := fun vs H Q => ∃ a b : Nat, vs = [.int (a : Int), .int (b : Int)] ∧ (0 < a ∧ a < 2 ^ 20 ∧ 0 < b ∧ b < 2 ^ 20) ∧ Q (.int ((Nat.lcm a b : Nat) : Int)) H
theorem lcm_small {a b : Nat} (h1 : a < 2 ^ 20) (h2 : b < 2 ^ 20) : ((Nat.lcm a b : Nat) : Int).natAbs.log2 < bitsLine := by
  have h : Nat.lcm a b < 2 ^ 41 := by
    have h3 : Nat.lcm a b ≤ a * b := Nat.div_le_self _ _
    have h4 : a * b ≤ 2 ^ 20 * 2 ^ 20 := Nat.mul_le_mul (by omega) (by omega)
    have : (2 : Nat) ^ 20 * 2 ^ 20 = 1099511627776 := by decide
    have : (2 : Nat) ^ 41 = 2199023255552 := by decide
    omega
  have h5 : (Nat.lcm a b).log2 ≤ 40 := PySem.W.mg_log h
  exact Nat.lt_of_le_of_lt h5 (by decide)
theorem cr_lcm {X : Cx} : CallR X (.builtin "math.lcm") rLcm := by
  intro pins s σ H vs us Q I r h
  obtain ⟨a, b, rfl, ⟨h1, h2, h3, h4⟩, q⟩ := h
  obtain ⟨t, u, rfl⟩ := Vals.int2 r
  have e : (((Nat.lcm 1 (a : Int).natAbs).lcm (b : Int).natAbs : Nat) : Int) = ((Nat.lcm a b : Nat) : Int) := by
    show (((Nat.lcm 1 a).lcm b : Nat) : Int) = _
    rw [Nat.lcm_one_left]
  have w64 : (2 : Nat) ^ 20 < 2 ^ 64 := by decide
  refine PySem.W.mg_lcm (show a < 2 ^ 64 by omega) (show b < 2 ^ 64 by omega) (by rw [e]; exact lcm_small h2 h4) ?_
  rw [e]
  exact ⟨.int _, H, I.tok _, ⟨_, rfl⟩, q⟩
end L2
namespace SL
open PySem L2
/-! ## words from words -/
theorem wd_cut {f : Nat → Int} {s p : Nat} (p0 : 0 < p) (hf : ∀ i, s ≤ i → f (i + p) = f i) (i : Nat) : wd (((List.range (s + p)).map f).take s) (((List.range (s + p)).map f).drop s) i = f i := by
  have g : ∀ j, j < s + p → ((List.range (s + p)).map f)[j]? = some (f j) := fun j hj => by rw [List.getElem?_map, List.getElem?_range hj]; rfl
  have l1 : (((List.range (s + p)).map f).take s).length = s := by simp
  have l2 : (((List.range (s + p)).map f).drop s).length = p := by simp
  unfold wd
  rw [l1, l2]
  split
  · rename_i h
    show (((List.range (s + p)).map f).take s).getD i 0 = f i
    rw [List.getD_eq_getElem?_getD, List.getElem?_take, if_pos h, g i (by omega)]; rfl
  · rename_i h
    have hm := Nat.mod_lt (i - s) p0
    show (((List.range (s + p)).map f).drop s).getD ((i - s) % p) 0 = f i
    rw [List.getD_eq_getElem?_getD, List.getElem?_drop, g _ (by omega)]
    show f (s + (i - s) % p) = f i
    have := per_mul (w := f) (m := s) (p := p) hf (s + (i - s) % p) (by omega) ((i - s) / p)
    rw [← this]
    congr 1
    have := Nat.mod_add_div (i - s) p
    rw [Nat.mul_comm] at this
    omega
theorem wd_drop {hs ls : List Int} {t : Nat} (h : t ≤ hs.length) (i : Nat) : wd (hs.drop t) ls i = wd hs ls (i + t) := by
  unfold wd
  rw [List.length_drop]
  by_cases c : i < hs.length - t
  · rw [if_pos c, if_pos (by omega)]
    show (hs.drop t).getD i 0 = hs.getD (i + t) 0
    rw [List.getD_eq_getElem?_getD, List.getD_eq_getElem?_getD, List.getElem?_drop, Nat.add_comm]
  · rw [if_neg c, if_neg (by omega), show i - (hs.length - t) = i + t - hs.length from by omega]
theorem wd_rot {hs ls : List Int} {t : Nat} (h0 : 0 < ls.length) (h : hs.length ≤ t) (i : Nat) : wd [] (rotL ls ((t - hs.length) % ls.length)) i = wd hs ls (i + t) := by
  have hc := Nat.mod_lt (t - hs.length) h0
  have hi := Nat.mod_lt i h0
  unfold wd
  rw [if_neg (by simp), if_neg (by omega), rotL_len]
  show fx (rotL ls _) ((i - 0) % ls.length) = _
  rw [Nat.sub_zero, rotL_at (by omega) hi]
  show fx ls ((((i % ls.length : Nat) : Int) + (((t - hs.length) % ls.length : Nat) : Int)) % (ls.length : Int)).toNat = _
  congr 1
  rw [← Int.natCast_add, ← Int.natCast_emod, ← Nat.add_mod]
  show ((((i + (t - hs.length)) % ls.length : Nat)) : Int).toNat = _
  rw [Int.toNat_natCast]
  congr 1
  omega
theorem wd_map {g : Int → Int} {hs ls : List Int} (h0 : 0 < ls.length) (i : Nat) : wd (hs.map g) (ls.map g) i = g (wd hs ls i) := by
  have gt : ∀ (xs : List Int) (j : Nat), j < xs.length → fx (xs.map g) j = g (fx xs j) := fun xs j hj => by
    show (xs.map g).getD j 0 = g (xs.getD j 0)
    rw [List.getD_eq_getElem?_getD, List.getD_eq_getElem?_getD, List.getElem?_map, List.getElem?_eq_getElem hj]; rfl
  unfold wd
  rw [List.length_map, List.length_map]
  split
  · exact gt _ _ (by assumption)
  · exact gt _ _ (Nat.mod_lt _ h0)
theorem wd_mem {hs ls : List Int} (h0 : 0 < ls.length) (i : Nat) : wd hs ls i ∈ hs ++ ls := by
  have gm : ∀ (xs : List Int) (j : Nat), j < xs.length → fx xs j ∈ xs := fun xs j hj => by
    show xs.getD j 0 ∈ xs
    rw [List.getD_eq_getElem?_getD, List.getElem?_eq_getElem hj]
    exact List.getElem_mem _
  unfold wd
  split
  · exact List.mem_append_left _ (gm _ _ (by assumption))
  · exact List.mem_append_right _ (gm _ _ (Nat.mod_lt _ h0))
theorem wd_dvd {hs ls : List Int} {p : Nat} (hd : ls.length ∣ p) (i : Nat) (h : hs.length ≤ i) : wd hs ls (i + p) = wd hs ls i := by
  obtain ⟨c, rfl⟩ := hd
  rw [Nat.mul_comm]
  exact per_mul (w := wd hs ls) (m := hs.length) (p := ls.length) (fun j hj => wd_per hj) i h c
/-- a word is known by its letters -/
theorem mem_wdH {hs ls : List Int} {z : Int} (h : z ∈ hs) : ∃ i, z = wd hs ls i := by
  obtain ⟨i, hi⟩ := List.mem_iff_getElem?.mp h
  have hl := (List.getElem?_eq_some_iff.mp hi).1
  refine ⟨i, ?_⟩
  rw [wd_head hl]
  show z = hs.getD i 0
  rw [List.getD_eq_getElem?_getD, hi]; rfl
theorem mem_wdL {hs ls : List Int} {z : Int} (h : z ∈ ls) : ∃ i, z = wd hs ls i := by
  obtain ⟨i, hi⟩ := List.mem_iff_getElem?.mp h
  have hl := (List.getElem?_eq_some_iff.mp hi).1
  refine ⟨hs.length + i, ?_⟩
  rw [wd_loop hl]
  show z = ls.getD i 0
  rw [List.getD_eq_getElem?_getD, hi]; rfl
theorem r_lcm {a b : Nat} {H : Hp} {Q : VK} (h : 0 < a ∧ a < 2 ^ 20 ∧ 0 < b ∧ b < 2 ^ 20) (q : Q (.int ((Nat.lcm a b : Nat) : Int)) H) : rLcm [.int (a : Int), .int (b : Int)] H Q := ⟨a, b, rfl, h, q⟩
end SL

set_option Elab.async false
set_option linter.all false
set_option maxRecDepth 100000
set_option maxHeartbeats 4000000
namespace L2
open PySem PySem.Spec PyProof.Rows
/-! ## an instance is called -/
theorem FnOk.rawN {P : Program} {w : World} {K : PySem.W.Frag} {mg : Str → Option Value} {base : Heap} {CX : CXT} {k : Nat} {f : Addr} {fd : FuncData} {ps : List Str} {sp : Sp} (F : FnOk P w K mg base CX k f fd ps sp) (hb : Binds K fd ps []) : FnR P w K mg base CX k f sp :=
  (F.raw hb .nil).imp fun vs H Q E h => by simpa using h
def tCallO2 (C : Addr) (sp : Sp) (E : XK) (tf : TE) (t : TA) : TE := fun σ H Q => tf σ H fun y H1 => ∃ a, y = V.ref a ∧ t σ H1 fun vs H2 => (∃ dx fs, H2 a = some (.ins C dx fs)) ∧ sp (V.ref a :: vs) H2 Q E
abbrev CallO2 := StX.CallO
theorem pe_callO2 {X : Cx} {CX : CXT} {k : Nat} {C g : Addr} {sp : Sp} {E : XK} {fe e : Expr} {es : List Expr} {tf : TE} {t : TA} {pos : Pos} (hf : PE X fe tf) (c : CallO2 X.K C g) (F : FnR X.prog X.w X.K X.mg X.base CX k g sp) (hr : Room k X.A) (hx : Passes CX X E) (ha : PA X (e :: es) t)
    (ht : eval (.Call fe (e :: es) [] pos) X.env = (do callWith pos (← eval fe X.env) [] (backTo pos (starEach (e :: es) X.env)) (backToKw pos (keywordEach [] X.env))) := by rfl)
    (he : starEach (e :: es) X.env = (false, eval e X.env) :: starEach es X.env := by rfl) (hpl : (backTo pos (starEach es X.env)).any (·.1) = false := by rfl) : PE X (.Call fe (e :: es) [] pos) (tCallO2 C sp E tf t) := by
  refine ⟨fun pins s σ H Q I h => ?_⟩
  refine Call_ (thn (hf.run pins s σ H _ I h) fun u s1 ⟨y, H1, I1, ry, a, ey, q⟩ => ?_) ht
  subst ey
  obtain rfl : u = Value.ref a := ry
  refine StX.callO_with (thn (ha.run pos pins s1 σ H1 _ I1 q) fun us s2 ⟨vs, H2, I2, r, hi, q2⟩ => ?_) he hpl
  have hi' : StX.InsC X H2 a C := .inr hi
  obtain ⟨ox, od, J, hd⟩ := StX.insC_at I2 hi'
  exact ⟨⟨C, ox, od, J, hd⟩, StX.run_callO c F hr hx I2 hi' r q2⟩
end L2
namespace SL
open PySem L2
section

set_option hygiene false
local macro_rules | `(tactic| walk_at "m") => `(tactic| first | exact List.Mem.head _ | (refine List.Mem.tail _ ?_; walk_at "m"))
local macro_rules | `(tactic| walk_at "u") => `(tactic| first | exact Upd.head | (apply Upd.tail; walk_at "u"))
local macro_rules | `(tactic| walk_at "tk") => `(tactic| first | exact Tak.head | (apply Tak.tail; walk_at "tk"))
local macro_rules | `(tactic| walk_at "l") => `(tactic| first | assumption | exact lS (St.fh (by assumption)) (by assumption) | exact SqL.of (St.get (by assumption) (by walk_at "m")))
local macro_rules | `(tactic| walk_at "t") => `(tactic| first | assumption | exact tS (St.fh (by assumption)) (by assumption) | exact SqT.of (St.get (by assumption) (by walk_at "m")))
local macro_rules | `(tactic| walk_at "lt") => `(tactic| first | exact .inl (by walk_at "l") | exact .inr (by walk_at "t"))
local macro_rules | `(tactic| walk_at "sz") => `(tactic| first | (show _ ≤ sizeLine; decide) | exact sz (by simp) | exact szl (by simp) | exact sz (by omega) | exact szl (by omega) | exact sz (by simp; omega) | exact szl (by simp; omega))
local macro_rules | `(tactic| walk_at "c") => `(tactic| first | assumption | decide | omega)
local macro_rules | `(tactic| walk_at "g1") => `(tactic| with_reducible first
  | refine w_seq ?_ | refine w_asg ?_ | refine w_c ?_ | refine w_op ?_
  | refine r_I0 ?_ | refine w_test ?_ | refine r_b ?_ | refine w_if ?_ | refine w_cons ?_ | refine w_nil ?_
  | refine w_ret ?_ | refine w_drop ?_ | refine w_cb ?_ | refine w_call ?_ | refine w_next ?_ | refine w_tup ?_ | refine w_lst ?_ | refine w_bm ?_ | refine w_bm0 ?_
  | refine w_and ?_ | refine w_or ?_ | refine w_not ?_ | refine w_andV ?_ | refine w_orV ?_ | refine w_notV ?_ | refine w_tB ?_ | refine w_un ?_ | refine r_U ?_
  | refine w_for ?_ | refine w_iL ?_ | refine w_iT ?_ | refine w_i1 ?_ | refine w_i2 ?_ | refine w_sl ?_ | refine w_part ?_ | refine w_nopart ?_ | refine r_part ?_
  | refine r_eqI ?_ | refine r_neI ?_ | refine r_eqS ?_ | refine r_neS ?_ | refine r_eqB ?_ | refine r_neB ?_ | refine r_ifT ?_ | refine r_ifF ?_ | refine r_ifNt ?_ | refine r_ifNf ?_ | refine r_ifRN ?_ | refine r_ifNRN ?_ | refine r_ifNN ?_ | refine r_ifNNN ?_
  | refine w_ifE ?_ | refine r_int1 ?_ | refine r_int1b ?_ | refine r_isnone ?_ | refine r_notnone ?_ | refine r_max2 ?_ | refine r_min2 ?_ | refine r_ipI ?_ | refine w_tru ?_ | refine w_rs ?_
  | refine w_retN ?_ | refine w_break ?_ | refine w_cont ?_ | refine w_callS ?_ | refine w_asgG ?_ | refine w_gsub ?_ | refine w_fld ?_ | refine w_sfld ?_ | refine w_mk ?_ | refine w_lc ?_ | refine w_iSq ?_ | refine u_isint ?_ | refine w_dnew ?_ | refine w_dnotin ?_ | refine w_din ?_ | refine w_dget ?_ | refine w_dput ?_ | refine w_ckw ?_)
local macro_rules | `(tactic| walk_at "g2") => `(tactic| first
  | ((with_reducible refine' w_var ?hv ?_); (case hv => rfl)) | ((with_reducible refine' w_aug ?hv ?_); (case hv => rfl))
  | ((with_reducible show rLen _ _ _ _); refine r_len (by walk_at "lt") ?_)
  | (with_reducible refine r_I ?cnd ?_; (case cnd => first | decide | omega | assumption | (unfold CPow; decide)))
  | ((with_reducible show RTy _ _ _ _ _); refine r_tyL (by walk_at "l") ?_)
  | (with_reducible refine r_ifDT (by walk_at "c") ?_) | (with_reducible refine r_ifDF (by walk_at "c") ?_)
  | (with_reducible refine r_ifNT (by walk_at "c") ?_) | (with_reducible refine r_ifNF (by walk_at "c") ?_))
local macro_rules | `(tactic| walk_at "go") => `(tactic| repeat (first | walk_at "g1" | walk_at "g2"))

variable {n b c : L2.St → Hp → Prop} {r : VK} {σ : L2.St} {H H' : Hp} {Q : VK} {t : TS} {te ta tb : TE} {x y v : V} {K : PySem.W.Frag} {E : En} {F F' : Hp} {L L' L1 : Led} {p a : Addr} {xs ys : List V} {ns ms : List Int} {k : Bool} {i j : Int}
/-- for i, x in enumerate(xs) -/
theorem r_forE {i0 j0 : Nat} (Pv : Nat → L2.St → Hp → Prop) (h0 : Pv 0 σ H) (hl : ∀ i σ H, i ≤ xs.length → Pv i σ H → SqL K H a xs)
    (hs : ∀ i x σ H H', xs[i]? = some x → Pv i σ H → Same H H' → t ⟨Pv (i + 1), r, n, Pv (i + 1)⟩ ((σ.set i0 (some (.int (i : Nat)))).set j0 (some x)) H') (hd : ∀ σ H, Pv xs.length σ H → n σ H) : RFor (Ite K a) (gTup K 2 (gCons (gName i0) (gCons (gName j0) gNil))) t ⟨n, r, b, c⟩ σ H := by
  refine L2.for_it (D := ⟨n, r, b, c⟩) L2.walk_enum Pv h0 hl (fun i x σ H H' hi p y => ?_) hd
  obtain ⟨T, u, w, rfl, hT, rfl, e1, e2⟩ := y
  have e1' : V.int (i : Nat) = u := Option.some.inj e1
  subst e1'
  refine ⟨T, _, rfl, SqT.of upd_same, rfl, ?_⟩
  exact ⟨_, _, rfl, _, _, rfl, rfl, hs i w σ H _ e2 p (same_new hT)⟩
theorem w_iE {ta : TA} {R : It → Hp → Prop} (h : ta σ H fun vs H1 => ∃ a xs, vs = [.ref a] ∧ SqL K H1 a xs ∧ R (Ite K a) H1) : iEnum K ta σ H R := h
theorem St.clr (G : St E F H L) : St E F H [] := ⟨G.bh, G.fh, G.ff, G.pr, (fun _ h => nomatch h), List.nodup_nil⟩
theorem w_callO2 {C : Addr} {sp : Sp} {X : XK} {tf : TE} {ta : TA} (h : tf σ H fun y H1 => ∃ a, y = V.ref a ∧ ta σ H1 fun vs H2 => (∃ dx fs, H2 a = some (.ins C dx fs)) ∧ sp (V.ref a :: vs) H2 Q X) : tCallO2 C sp X tf ta σ H Q := h
theorem inV_leads {l : Int} : inV (.int l) [.int (-3), .int (-2), .int (-1), .int 0, .int 1, .int 2] = decide (-3 ≤ l ∧ l ≤ 2) := by
  have h : ∀ k : Int, eqV (.int k) (.int l) = decide (k = l) := fun k => by
    show (k == l) = _
    by_cases q : k = l
    · subst q; simp
    · rw [decide_eq_false q]; simpa using q
  unfold inV
  simp only [List.any_cons, List.any_nil, h, Bool.or_false]
  by_cases q : -3 ≤ l ∧ l ≤ 2
  · rw [decide_eq_true q]
    have : l = -3 ∨ l = -2 ∨ l = -1 ∨ l = 0 ∨ l = 1 ∨ l = 2 := by omega
    rcases this with e | e | e | e | e | e <;> subst e <;> decide
  · rw [decide_eq_false q]
    rw [decide_eq_false (by omega), decide_eq_false (by omega), decide_eq_false (by omega), decide_eq_false (by omega), decide_eq_false (by omega), decide_eq_false (by omega)]
    rfl
theorem r_notinI (hs : SqL K H a xs ∨ SqT K H a xs) (hf : xs.all flatV = true) (q : Q (.bl (!inV (.int i) xs)) H) : rIn K true (.int i) (.ref a) H Q := ⟨a, xs, rfl, hs, rfl, hf, q⟩
/-! ## dicts from integers to integers -/
def kvG (q g : Nat → Int) (t : Nat) : List (Key × V) := (List.range t).map fun k => (.inl (q k), .int (g k))
theorem kvG_succ {q g : Nat → Int} {t : Nat} : kvG q g (t + 1) = kvG q g t ++ [(.inl (q t), .int (g t))] := by
  unfold kvG; rw [List.range_succ, List.map_append]; rfl
theorem kvG_len {q g : Nat → Int} {t : Nat} : (kvG q g t).length = t := by unfold kvG; simp
theorem kvG_val {q g : Nat → Int} {t : Nat} {z : Int} : (∃ k, k < t ∧ q k = z ∧ valV (kvG q g t) (.inl z) = some (.int (g k))) ∨ (valV (kvG q g t) (.inl z) = none ∧ ∀ k, k < t → q k ≠ z) := by
  induction t with
  | zero => exact .inr ⟨rfl, fun k h => absurd h (Nat.not_lt_zero _)⟩
  | succ t ih =>
    have e : valV (kvG q g (t + 1)) (.inl z) = (valV (kvG q g t) (.inl z)).or (valV [((.inl (q t) : Key), V.int (g t))] (.inl z)) := by
      rw [kvG_succ]
      unfold valV
      rw [List.find?_append]
      cases (List.find? (fun kv => decide (kv.1 = Sum.inl z)) (kvG q g t)) <;> rfl
    rcases ih with ⟨k, h1, h2, h3⟩ | ⟨h1, h2⟩
    · exact .inl ⟨k, by omega, h2, by rw [e, h3]; rfl⟩
    · by_cases c : q t = z
      · refine .inl ⟨t, by omega, c, ?_⟩
        rw [e, h1, c, valV_pos rfl]; rfl
      · refine .inr ⟨?_, fun k hk => ?_⟩
        · rw [e, h1, valV_neg (fun w => c (Sum.inl.inj w))]; rfl
        · rcases Nat.lt_succ_iff_lt_or_eq.mp hk with w | w
          · exact h2 k w
          · rw [w]; exact c
/-! ## machines -/
structure Mok (m o l : Int) (os : List Int) (rs : List (List (List Int))) : Prop where
  m1 : 1 ≤ m
  o1 : 1 ≤ o
  l0 : -3 ≤ l
  l1 : l ≤ 2
  ol : (os.length : Int) = if -l > 0 then -l else 0
  ob : ∀ z ∈ os, 0 ≤ z ∧ z < o
  ne : 0 < rs.length
  rr : ∀ r ∈ rs, (r.length : Int) = m ∧ ∀ x ∈ r, (0 ≤ x.getD 0 0 ∧ x.getD 0 0 < rs.length) ∧ 0 ≤ x.getD 1 0 ∧ x.getD 1 0 < o
def maF (m o l : Int) (oa ra : Addr) : List (Str × V) := [("inputs", .int m), ("outputs", .int o), ("lead", .int l), ("opening", .ref oa), ("rows", .ref ra)]
structure MaAt (K : PySem.W.Frag) (C : Addr) (F : Hp) (x : Addr) (m o l : Int) (os : List Int) (rs : List (List (List Int))) : Prop where
  ex : ∃ dx oa ra as, F x = some (.ins C dx (maF m o l oa ra)) ∧ SqT K F oa (iv os) ∧ SqT K F ra (rv as) ∧ Rows2 K F false as rs
  p2 : ∀ r ∈ rs, ∀ x ∈ r, x.length = 2
theorem MaAt.mono {C x : Addr} {m o l : Int} {os : List Int} {rs : List (List (List Int))} (e : Same F F') (h : MaAt K C F x m o l os rs) : MaAt K C F' x m o l os rs := by
  obtain ⟨dx, oa, ra, as, h1, h2, h3, h4⟩ := h.ex
  exact ⟨⟨dx, oa, ra, as, e _ _ h1, tS e h2, tS e h3, h4.mono e⟩, h.p2⟩
theorem lm_inputs {m o l : Int} {oa ra : Addr} : (maF m o l oa ra).lookup ("inputs" : Str) = some (.int m) := rfl
theorem lm_outputs {m o l : Int} {oa ra : Addr} : (maF m o l oa ra).lookup ("outputs" : Str) = some (.int o) := rfl
theorem lm_lead {m o l : Int} {oa ra : Addr} : (maF m o l oa ra).lookup ("lead" : Str) = some (.int l) := rfl
theorem lm_opening {m o l : Int} {oa ra : Addr} : (maF m o l oa ra).lookup ("opening" : Str) = some (.ref oa) := rfl
theorem lm_rows {m o l : Int} {oa ra : Addr} : (maF m o l oa ra).lookup ("rows" : Str) = some (.ref ra) := rfl
/-- rows that are lists of tuples, all frozen -/
inductive RowsLT (K : PySem.W.Frag) (H : Hp) : List Addr → List (List (List Int)) → Prop
  | nil : RowsLT K H [] []
  | cons {a as bs r rs} : SqL K H a (rv bs) → Rows K H false bs r → RowsLT K H as rs → RowsLT K H (a :: as) (r :: rs)
theorem RowsLT.mono {as : List Addr} {rs : List (List (List Int))} (e : Same H H') (h : RowsLT K H as rs) : RowsLT K H' as rs := by
  induction h with
  | nil => exact .nil
  | cons h1 h2 _ ih => exact .cons (lS e h1) (h2.mono e) ih
theorem RowsLT.len {as : List Addr} {rs : List (List (List Int))} (h : RowsLT K H as rs) : as.length = rs.length := by
  induction h with
  | nil => rfl
  | cons _ _ _ ih => rw [List.length_cons, List.length_cons, ih]
theorem RowsLT.at {as : List Addr} {rs : List (List (List Int))} (h : RowsLT K H as rs) : ∀ {i : Nat} {a : Addr}, as[i]? = some a → ∃ bs r, rs[i]? = some r ∧ SqL K H a (rv bs) ∧ Rows K H false bs r := by
  induction h with
  | nil => intro i a e; simp at e
  | cons h1 h2 _ ih =>
    intro i a e
    cases i with
    | zero => rw [List.getElem?_cons_zero] at e; cases e; exact ⟨_, _, rfl, h1, h2⟩
    | succ i => exact ih (by simpa using e)
theorem RowsLT.snoc {as : List Addr} {bs : List Addr} {r : List (List Int)} {rs : List (List (List Int))} (h : RowsLT K H as rs) (h1 : SqL K H a (rv bs)) (h2 : Rows K H false bs r) : RowsLT K H (as ++ [a]) (rs ++ [r]) := by
  induction h with
  | nil => exact .cons h1 h2 .nil
  | cons q1 q2 _ ih => exact .cons q1 q2 ih
theorem RowsLT.toX {as : List Addr} {rs : List (List (List Int))} (e : Same F H) (h : RowsLT K F as rs) : RowsX K F H as rs := by
  induction h with
  | nil => exact .nil
  | cons h1 h2 _ ih => exact .cons (.inl (lS e h1)) (.ofT h2) ih
def cellM (rs : List (List (List Int))) (s z : Int) : List Int := (rs.getD s.toNat []).getD z.toNat []
def nxt (rs : List (List (List Int))) (s z : Int) : Int := (cellM rs s z).getD 0 0
def outM (rs : List (List (List Int))) (s z : Int) : Int := (cellM rs s z).getD 1 0
def smM (rs : List (List (List Int))) (f : Nat → Int) : Nat → Int
  | 0 => 0
  | k + 1 => nxt rs (smM rs f k) (f k)
def emM (rs : List (List (List Int))) (f : Nat → Int) (k : Nat) : Int := outM rs (smM rs f k) (f k)
/-- what is said in turn i -/
def sd (os : List Int) (l : Int) (e : Nat → Int) (i : Nat) : Int := if (i : Int) + l < 0 then fx os i else e ((i : Int) + l).toNat
theorem two_of {x : List Int} (h : x.length = 2) : x = [x.getD 0 0, x.getD 1 0] := by
  match x, h with
  | [a, b], _ => rfl
theorem stp_okM {m o l : Int} {os : List Int} {rs : List (List (List Int))} (OK : Mok m o l os rs) (p2 : ∀ r ∈ rs, ∀ x ∈ r, x.length = 2) {s z : Int} (hs : 0 ≤ s ∧ s < rs.length) (hz : 0 ≤ z ∧ z < m) :
    ∃ r, rs[s.toNat]? = some r ∧ r[z.toNat]? = some [nxt rs s z, outM rs s z] ∧ (r.length : Int) = m ∧ (0 ≤ nxt rs s z ∧ nxt rs s z < rs.length) ∧ 0 ≤ outM rs s z ∧ outM rs s z < o := by
  have hl : s.toNat < rs.length := by omega
  have hm := List.getElem_mem hl
  obtain ⟨h1, h2⟩ := OK.rr _ hm
  have hz2 : z.toNat < rs[s.toNat].length := by omega
  have hx := List.getElem_mem hz2
  have e : cellM rs s z = rs[s.toNat][z.toNat] := by
    unfold cellM
    rw [List.getD_eq_getElem?_getD (l := rs), List.getElem?_eq_getElem hl, Option.getD_some, List.getD_eq_getElem?_getD, List.getElem?_eq_getElem hz2]; rfl
  obtain ⟨a, b⟩ := h2 _ hx
  rw [← e] at a b
  refine ⟨_, List.getElem?_eq_getElem hl, ?_, h1, a, b⟩
  rw [List.getElem?_eq_getElem hz2, ← e]
  have := p2 _ hm _ hx
  rw [← e] at this
  rw [two_of this]; rfl
theorem st_ok {m o l : Int} {os : List Int} {rs : List (List (List Int))} (OK : Mok m o l os rs) (p2 : ∀ r ∈ rs, ∀ x ∈ r, x.length = 2) {f : Nat → Int} {N : Nat} (hf : ∀ i, i < N → 0 ≤ f i ∧ f i < m) : ∀ k, k ≤ N → 0 ≤ smM rs f k ∧ smM rs f k < rs.length
  | 0, _ => ⟨Int.le_refl _, by have := OK.ne; show (0 : Int) < _; omega⟩
  | k + 1, h => by
    obtain ⟨_, _, _, _, q, _⟩ := stp_okM OK p2 (st_ok OK p2 hf k (by omega)) (hf k (by omega))
    exact q
theorem st_per {rs : List (List (List Int))} {f : Nat → Int} {b p : Nat} (hf : ∀ i, b ≤ i → f (i + p) = f i) (hs : smM rs f (b + p) = smM rs f b) : ∀ d, smM rs f (b + d + p) = smM rs f (b + d)
  | 0 => hs
  | d + 1 => by
    show smM rs f (b + d + 1 + p) = nxt rs (smM rs f (b + d)) (f (b + d))
    rw [show b + d + 1 + p = (b + d + p) + 1 from by omega]
    show nxt rs (smM rs f (b + d + p)) (f (b + d + p)) = _
    rw [st_per hf hs d, hf _ (by omega)]
theorem em_per {rs : List (List (List Int))} {f : Nat → Int} {b p : Nat} (hf : ∀ i, b ≤ i → f (i + p) = f i) (hs : smM rs f (b + p) = smM rs f b) (i : Nat) (h : b ≤ i) : emM rs f (i + p) = emM rs f i := by
  obtain ⟨d, rfl⟩ : ∃ d, i = b + d := ⟨i - b, by omega⟩
  unfold emM
  rw [st_per hf hs d, hf _ h]
theorem em_ext {rs : List (List (List Int))} {f g : Nat → Int} {N : Nat} (h : ∀ i, i < N → f i = g i) : ∀ k, k ≤ N → smM rs f k = smM rs g k
  | 0, _ => rfl
  | k + 1, hk => by
    show nxt rs (smM rs f k) (f k) = nxt rs (smM rs g k) (g k)
    rw [em_ext h k (by omega), h k (by omega)]
theorem wd_front {fs hs ls : List Int} (i : Nat) : wd (fs ++ hs) ls (i + fs.length) = wd hs ls i := by
  have e : (fs ++ hs).drop fs.length = hs := List.drop_left' rfl
  have q := wd_drop (hs := fs ++ hs) (ls := ls) (t := fs.length) (by simp) i
  rw [e] at q
  exact q.symm
theorem wd_app {fs hs ls : List Int} (i : Nat) (h : i < fs.length) : wd (fs ++ hs) ls i = fx fs i := by
  rw [wd_head (by rw [List.length_append]; omega)]
  show (fs ++ hs).getD i 0 = fs.getD i 0
  rw [List.getD_eq_getElem?_getD, List.getD_eq_getElem?_getD, List.getElem?_append_left h]
def saidL (os : List Int) (l : Int) (rs : List (List (List Int))) (f : Nat → Int) (n : Nat) : List Int := os ++ ((List.range n).map (emM rs f)).drop l.toNat
theorem saidL_succ {os : List Int} {l : Int} {rs : List (List (List Int))} {f : Nat → Int} {n : Nat} : saidL os l rs f (n + 1) = if (n : Int) ≥ l then saidL os l rs f n ++ [emM rs f n] else saidL os l rs f n := by
  unfold saidL
  rw [List.range_succ, List.map_append]
  split
  · rw [List.drop_append_of_le_length (by simp; omega), List.append_assoc]; rfl
  · rw [List.drop_eq_nil_of_le (by simp; omega), List.drop_eq_nil_of_le (by simp; omega)]
end
end SL

set_option Elab.async false
set_option linter.all false
set_option maxRecDepth 100000
set_option maxHeartbeats 4000000
namespace L2
open PySem PySem.Spec PyProof.Rows
/-! ## a tuple once -/
theorem tuple_mul1 (l : Addr) (items : Array Value) (n : Nat) (dd : Option Addr) (sl : Array (Option Value)) (u : Tok) :
    Meets (Builtin.«tuple.__mul__» ⟨[.ref l, .int 1 u], []⟩) (fun _ R s => s.heap.get? l = some { cls := .type "tuple", dict := dd, data := .seq items n, slots := sl } ∧
      R (.ok (.ret (Value.ref l))) s) :=
  .of_wp fun prog w A R s h => by
    obtain ⟨hp, g, d, tk, os⟩ := s
    obtain ⟨hl, h⟩ := h
    have f1 := AutoSeq1.idx_int
    have c1 : (items.isEmpty || (1 : Int) == 1) = true := by simp
    wp_walk using wpAny_loadPart' hl
    repeat (first
      | (refine wpAny_ite_false (decide_eq_false (by decide)) ?_; wp_walk using wpAny_loadPart' hl)
      | (refine wpAny_ite_true (decide_eq_true c1) ?_; wp_walk using wpAny_loadPart' hl))
    exact ⟨_, rfl, h⟩
def rRepT1 (K : PySem.W.Frag) : R2 := fun x y H Q => ∃ l xs, x = .ref l ∧ y = .int 1 ∧ SqT K H l xs ∧ Q (.ref l) H
theorem op_repT1 {X : Cx} : OpR X (binaryOp .Mult) (rRepT1 X.K) := by
  intro pins s σ H x y v u Q I rx ry h
  obtain ⟨l, xs, rfl, rfl, hT, q⟩ := h
  cases rx
  obtain ⟨t, rfl⟩ := ry
  obtain ⟨its, r, ⟨⟨cls, dd, data, sl⟩, ho, hc, n, hd⟩, hs⟩ := I.tuple hT
  simp only at hc hd
  subst hc hd
  refine wpAny_binaryOp_repeat_ref (T := "tuple") (U := "int") (by decide) ⟨_, ho, rfl⟩ (fun s' => typeIs_int s' 1 t) noFill_tuple_mul F.fills_int_mul F.slot_int_rmul repeat_tuple F.slot_int_index.lookup
    (call_meets F.slot_int_rmul (typeIs_int s 1 t) F.entry_int_rmul (F.args_int_rmul_2 _ _) (int_rmul_tuple 1 t l its.toArray n dd sl)
      ⟨ho, rfl, ⟨_, ho, rfl⟩, call_meets F.slot_tuple_mul ⟨_, ho, rfl⟩ F.entry_tuple_mul (F.args_tuple_mul_2 _ _) (tuple_mul1 l its.toArray n dd sl t) ⟨ho, ?_⟩⟩)
  exact ⟨.ref l, H, I, rfl, q⟩
def rRepTQ (K : PySem.W.Frag) : R2 := fun x y H Q => rRepT1 K x y H Q ∨ rRepT K x y H Q
theorem op_repTQ {X : Cx} : OpR X (binaryOp .Mult) (rRepTQ X.K) := by
  intro pins s σ H x y v u Q I rx ry h
  rcases h with h | h
  · exact op_repT1 pins s σ H x y v u Q I rx ry h
  · exact op_repT pins s σ H x y v u Q I rx ry h
end L2
namespace SL
open PySem L2
section

set_option hygiene false
local macro_rules | `(tactic| walk_at "m") => `(tactic| first | exact List.Mem.head _ | (refine List.Mem.tail _ ?_; walk_at "m"))
local macro_rules | `(tactic| walk_at "u") => `(tactic| first | exact Upd.head | (apply Upd.tail; walk_at "u"))
local macro_rules | `(tactic| walk_at "tk") => `(tactic| first | exact Tak.head | (apply Tak.tail; walk_at "tk"))
local macro_rules | `(tactic| walk_at "l") => `(tactic| first | assumption | exact lS (St.fh (by assumption)) (by assumption) | exact SqL.of (St.get (by assumption) (by walk_at "m")))
local macro_rules | `(tactic| walk_at "t") => `(tactic| first | assumption | exact tS (St.fh (by assumption)) (by assumption) | exact SqT.of (St.get (by assumption) (by walk_at "m")))
local macro_rules | `(tactic| walk_at "lt") => `(tactic| first | exact .inl (by walk_at "l") | exact .inr (by walk_at "t"))
local macro_rules | `(tactic| walk_at "sz") => `(tactic| first | (show _ ≤ sizeLine; decide) | exact sz (by simp) | exact szl (by simp) | exact sz (by omega) | exact szl (by omega) | exact sz (by simp; omega) | exact szl (by simp; omega))
local macro_rules | `(tactic| walk_at "c") => `(tactic| first | assumption | decide | omega)
local macro_rules | `(tactic| walk_at "g1") => `(tactic| with_reducible first
  | refine w_seq ?_ | refine w_asg ?_ | refine w_c ?_ | refine w_op ?_
  | refine r_I0 ?_ | refine w_test ?_ | refine r_b ?_ | refine w_if ?_ | refine w_cons ?_ | refine w_nil ?_
  | refine w_ret ?_ | refine w_drop ?_ | refine w_cb ?_ | refine w_call ?_ | refine w_next ?_ | refine w_tup ?_ | refine w_lst ?_ | refine w_bm ?_ | refine w_bm0 ?_
  | refine w_and ?_ | refine w_or ?_ | refine w_not ?_ | refine w_andV ?_ | refine w_orV ?_ | refine w_notV ?_ | refine w_tB ?_ | refine w_un ?_ | refine r_U ?_
  | refine w_for ?_ | refine w_iL ?_ | refine w_iT ?_ | refine w_i1 ?_ | refine w_i2 ?_ | refine w_sl ?_ | refine w_part ?_ | refine w_nopart ?_ | refine r_part ?_
  | refine r_eqI ?_ | refine r_neI ?_ | refine r_eqS ?_ | refine r_neS ?_ | refine r_eqB ?_ | refine r_neB ?_ | refine r_ifT ?_ | refine r_ifF ?_ | refine r_ifNt ?_ | refine r_ifNf ?_ | refine r_ifRN ?_ | refine r_ifNRN ?_ | refine r_ifNN ?_ | refine r_ifNNN ?_
  | refine w_ifE ?_ | refine r_int1 ?_ | refine r_int1b ?_ | refine r_isnone ?_ | refine r_notnone ?_ | refine r_max2 ?_ | refine r_min2 ?_ | refine r_ipI ?_ | refine w_tru ?_ | refine w_rs ?_
  | refine w_retN ?_ | refine w_break ?_ | refine w_cont ?_ | refine w_callS ?_ | refine w_asgG ?_ | refine w_gsub ?_ | refine w_fld ?_ | refine w_sfld ?_ | refine w_mk ?_ | refine w_lc ?_ | refine w_iSq ?_ | refine u_isint ?_ | refine w_dnew ?_ | refine w_dnotin ?_ | refine w_din ?_ | refine w_dget ?_ | refine w_dput ?_ | refine w_ckw ?_)
local macro_rules | `(tactic| walk_at "g2") => `(tactic| first
  | ((with_reducible refine' w_var ?hv ?_); (case hv => rfl)) | ((with_reducible refine' w_aug ?hv ?_); (case hv => rfl))
  | ((with_reducible show rLen _ _ _ _); refine r_len (by walk_at "lt") ?_)
  | (with_reducible refine r_I ?cnd ?_; (case cnd => first | decide | omega | assumption | (unfold CPow; decide)))
  | ((with_reducible show RTy _ _ _ _ _); refine r_tyL (by walk_at "l") ?_)
  | (with_reducible refine r_ifDT (by walk_at "c") ?_) | (with_reducible refine r_ifDF (by walk_at "c") ?_)
  | (with_reducible refine r_ifNT (by walk_at "c") ?_) | (with_reducible refine r_ifNF (by walk_at "c") ?_))
local macro_rules | `(tactic| walk_at "go") => `(tactic| repeat (first | walk_at "g1" | walk_at "g2"))

variable {n b c : L2.St → Hp → Prop} {r : VK} {σ : L2.St} {H H' : Hp} {Q : VK} {K : PySem.W.Frag} {E : En} {F F' : Hp} {L L' L1 : Led} {p a : Addr} {xs ys : List V} {ns ms : List Int}
theorem wd_grow {hs ls : List Int} (h0 : 0 < ls.length) (i : Nat) : wd (hs ++ ls) ls i = wd hs ls i := by
  by_cases c : i < hs.length
  · rw [wd_head (by rw [List.length_append]; omega), wd_head c]
    show (hs ++ ls).getD i 0 = hs.getD i 0
    rw [List.getD_eq_getElem?_getD, List.getD_eq_getElem?_getD, List.getElem?_append_left c]
  · by_cases c2 : i < hs.length + ls.length
    · obtain ⟨j, rfl⟩ : ∃ j, i = hs.length + j := ⟨i - hs.length, by omega⟩
      rw [wd_head (by rw [List.length_append]; omega), wd_loop (by omega)]
      show (hs ++ ls).getD (hs.length + j) 0 = ls.getD j 0
      rw [List.getD_eq_getElem?_getD, List.getD_eq_getElem?_getD, List.getElem?_append_right (by omega)]
      congr 2
      omega
    · unfold wd
      rw [if_neg (by rw [List.length_append]; omega), if_neg c, List.length_append]
      congr 1
      have e : i - hs.length = (i - (hs.length + ls.length)) + ls.length := by omega
      rw [e, Nat.add_mod_right]
theorem em_ok {m o l : Int} {os : List Int} {rs : List (List (List Int))} (OK : Mok m o l os rs) (p2 : ∀ r ∈ rs, ∀ x ∈ r, x.length = 2) {f : Nat → Int} (hf : ∀ i, 0 ≤ f i ∧ f i < m) (k : Nat) : 0 ≤ emM rs f k ∧ emM rs f k < o := by
  obtain ⟨_, _, _, _, _, q⟩ := stp_okM OK p2 (st_ok OK p2 (N := k) (fun i _ => hf i) k (Nat.le_refl _)) (hf k)
  exact q
theorem sd_ok {m o l : Int} {os : List Int} {rs : List (List (List Int))} (OK : Mok m o l os rs) (p2 : ∀ r ∈ rs, ∀ x ∈ r, x.length = 2) {f : Nat → Int} (hf : ∀ i, 0 ≤ f i ∧ f i < m) (k : Nat) : 0 ≤ sd os l (emM rs f) k ∧ sd os l (emM rs f) k < o := by
  unfold sd
  split
  · have ol := OK.ol
    have hk : k < os.length := by split at ol <;> omega
    refine OK.ob _ ?_
    show os.getD k 0 ∈ os
    rw [List.getD_eq_getElem?_getD, List.getElem?_eq_getElem hk]
    exact List.getElem_mem _
  · exact em_ok OK p2 hf _
theorem emc {rs : List (List (List Int))} {cs : List Int} {f : Nat → Int} (h : ∀ i, i < cs.length → f i = fx cs i) (i : Nat) (hi : i < cs.length) : emM rs f i = emM rs (fx cs) i := by
  unfold emM
  rw [em_ext (N := cs.length) h i (by omega), h i hi]
theorem saidL_len {os : List Int} {l : Int} {rs : List (List (List Int))} {f : Nat → Int} {n : Nat} : (saidL os l rs f n).length = os.length + (n - l.toNat) := by unfold saidL; simp
theorem saidL_get {m o l : Int} {os cs : List Int} {rs : List (List (List Int))} (OK : Mok m o l os rs) {f : Nat → Int} (h : ∀ i, i < cs.length → f i = fx cs i) (i : Nat) (hi : i < (saidL os l rs (fx cs) cs.length).length) : (saidL os l rs (fx cs) cs.length).getD i 0 = sd os l (emM rs f) i := by
  have ol := OK.ol
  rw [saidL_len] at hi
  unfold saidL sd
  rw [List.getD_eq_getElem?_getD]
  by_cases c : i < os.length
  · rw [List.getElem?_append_left c, if_pos (by split at ol <;> omega)]
    show os[i]?.getD 0 = os.getD i 0
    rw [List.getD_eq_getElem?_getD]
  · rw [List.getElem?_append_right (by omega), if_neg (by split at ol <;> omega), List.getElem?_drop, List.getElem?_map, List.getElem?_range (by omega)]
    have e : ((i : Int) + l).toNat = l.toNat + (i - os.length) := by split at ol <;> omega
    rw [e, emc h _ (by omega)]; rfl
theorem cellL_at {m o l : Int} {os : List Int} {rs : List (List (List Int))} {as : List Addr} (OK : Mok m o l os rs) (p2 : ∀ r ∈ rs, ∀ x ∈ r, x.length = 2) (hR : RowsLT K F as rs) {s z : Int} (hs : 0 ≤ s ∧ s < rs.length) (hz : 0 ≤ z ∧ z < m) :
    ∃ e bs u, atI (rv as) s = some (.ref e) ∧ SqL K F e (rv bs) ∧ atI (rv bs) z = some (.ref u) ∧ SqT K F u [.int (nxt rs s z), .int (outM rs s z)] := by
  obtain ⟨r, hr, hx, hl, _, _⟩ := stp_okM OK p2 hs hz
  have al := hR.len
  obtain ⟨e, he⟩ : ∃ e, as[s.toNat]? = some e := ⟨_, List.getElem?_eq_getElem (by omega)⟩
  obtain ⟨bs, r', hr', h1, h2⟩ := hR.at he
  rw [hr] at hr'
  cases hr'
  have bl := h2.len
  obtain ⟨u, hu⟩ : ∃ u, bs[z.toNat]? = some u := ⟨_, List.getElem?_eq_getElem (by omega)⟩
  obtain ⟨ns, hn, h3⟩ := h2.at hu
  rw [hx] at hn
  cases hn
  exact ⟨e, bs, u, atI_rv hs.1 he, h1, atI_rv hz.1 hu, h3⟩
/-- where the rounds through the loop began -/
structure Beg (q g : Nat → Int) (n i : Nat) (bs : List Int) : Prop where
  len : bs.length = n
  at_ : ∀ z, z < n → (∃ k, k < i ∧ q k = z ∧ bs.getD z 0 = g k) ∨ (bs.getD z 0 = -1 ∧ ∀ k, k < i → q k ≠ z)
theorem Beg.zero {q g : Nat → Int} {n : Nat} : Beg q g n 0 (List.replicate n (-1)) := ⟨by simp, fun z hz => .inr ⟨by rw [List.getD_eq_getElem?_getD, List.getElem?_replicate, if_pos hz]; rfl, fun k h => absurd h (Nat.not_lt_zero _)⟩⟩
theorem Beg.next {q g : Nat → Int} {n i : Nat} {bs : List Int} (h : Beg q g n i bs) (hq : 0 ≤ q i ∧ q i < n) : Beg q g n (i + 1) (bs.set (q i).toNat (g i)) := by
  refine ⟨by rw [List.length_set]; exact h.len, fun z hz => ?_⟩
  by_cases c : z = (q i).toNat
  · refine .inl ⟨i, by omega, by omega, ?_⟩
    rw [c, List.getD_eq_getElem?_getD, List.getElem?_set_self (by rw [h.len]; omega)]; rfl
  · rw [List.getD_eq_getElem?_getD, List.getElem?_set_ne (by omega), ← List.getD_eq_getElem?_getD]
    rcases h.at_ z hz with ⟨k, h1, h2, h3⟩ | ⟨h1, h2⟩
    · exact .inl ⟨k, by omega, h2, h3⟩
    · refine .inr ⟨h1, fun k hk => ?_⟩
      rcases Nat.lt_succ_iff_lt_or_eq.mp hk with d | d
      · exact h2 k d
      · subst d; omega
end
end SL

set_option Elab.async false
set_option linter.all false
set_option maxRecDepth 100000
set_option maxHeartbeats 4000000
namespace SL
open PySem L2
section

set_option hygiene false
local macro_rules | `(tactic| walk_at "m") => `(tactic| first | exact List.Mem.head _ | (refine List.Mem.tail _ ?_; walk_at "m"))
local macro_rules | `(tactic| walk_at "u") => `(tactic| first | exact Upd.head | (apply Upd.tail; walk_at "u"))
local macro_rules | `(tactic| walk_at "tk") => `(tactic| first | exact Tak.head | (apply Tak.tail; walk_at "tk"))
local macro_rules | `(tactic| walk_at "l") => `(tactic| first | assumption | exact lS (St.fh (by assumption)) (by assumption) | exact SqL.of (St.get (by assumption) (by walk_at "m")))
local macro_rules | `(tactic| walk_at "t") => `(tactic| first | assumption | exact tS (St.fh (by assumption)) (by assumption) | exact SqT.of (St.get (by assumption) (by walk_at "m")))
local macro_rules | `(tactic| walk_at "lt") => `(tactic| first | exact .inl (by walk_at "l") | exact .inr (by walk_at "t"))
local macro_rules | `(tactic| walk_at "sz") => `(tactic| first | (show _ ≤ sizeLine; decide) | exact sz (by simp) | exact szl (by simp) | exact sz (by omega) | exact szl (by omega) | exact sz (by simp; omega) | exact szl (by simp; omega))
local macro_rules | `(tactic| walk_at "c") => `(tactic| first | assumption | decide | omega)
local macro_rules | `(tactic| walk_at "g1") => `(tactic| with_reducible first
  | refine w_seq ?_ | refine w_asg ?_ | refine w_c ?_ | refine w_op ?_
  | refine r_I0 ?_ | refine w_test ?_ | refine r_b ?_ | refine w_if ?_ | refine w_cons ?_ | refine w_nil ?_
  | refine w_ret ?_ | refine w_drop ?_ | refine w_cb ?_ | refine w_call ?_ | refine w_next ?_ | refine w_tup ?_ | refine w_lst ?_ | refine w_bm ?_ | refine w_bm0 ?_
  | refine w_and ?_ | refine w_or ?_ | refine w_not ?_ | refine w_andV ?_ | refine w_orV ?_ | refine w_notV ?_ | refine w_tB ?_ | refine w_un ?_ | refine r_U ?_
  | refine w_for ?_ | refine w_iL ?_ | refine w_iT ?_ | refine w_i1 ?_ | refine w_i2 ?_ | refine w_sl ?_ | refine w_part ?_ | refine w_nopart ?_ | refine r_part ?_
  | refine r_eqI ?_ | refine r_neI ?_ | refine r_eqS ?_ | refine r_neS ?_ | refine r_eqB ?_ | refine r_neB ?_ | refine r_ifT ?_ | refine r_ifF ?_ | refine r_ifNt ?_ | refine r_ifNf ?_ | refine r_ifRN ?_ | refine r_ifNRN ?_ | refine r_ifNN ?_ | refine r_ifNNN ?_
  | refine w_ifE ?_ | refine r_int1 ?_ | refine r_int1b ?_ | refine r_isnone ?_ | refine r_notnone ?_ | refine r_max2 ?_ | refine r_min2 ?_ | refine r_ipI ?_ | refine w_tru ?_ | refine w_rs ?_
  | refine w_retN ?_ | refine w_break ?_ | refine w_cont ?_ | refine w_callS ?_ | refine w_asgG ?_ | refine w_gsub ?_ | refine w_fld ?_ | refine w_sfld ?_ | refine w_mk ?_ | refine w_lc ?_ | refine w_iSq ?_ | refine u_isint ?_ | refine w_dnew ?_ | refine w_dnotin ?_ | refine w_din ?_ | refine w_dget ?_ | refine w_dput ?_ | refine w_ckw ?_)
local macro_rules | `(tactic| walk_at "g2") => `(tactic| first
  | ((with_reducible refine' w_var ?hv ?_); (case hv => rfl)) | ((with_reducible refine' w_aug ?hv ?_); (case hv => rfl))
  | ((with_reducible show rLen _ _ _ _); refine r_len (by walk_at "lt") ?_)
  | (with_reducible refine r_I ?cnd ?_; (case cnd => first | decide | omega | assumption | (unfold CPow; decide)))
  | ((with_reducible show RTy _ _ _ _ _); refine r_tyL (by walk_at "l") ?_)
  | (with_reducible refine r_ifDT (by walk_at "c") ?_) | (with_reducible refine r_ifDF (by walk_at "c") ?_)
  | (with_reducible refine r_ifNT (by walk_at "c") ?_) | (with_reducible refine r_ifNF (by walk_at "c") ?_))
local macro_rules | `(tactic| walk_at "go") => `(tactic| repeat (first | walk_at "g1" | walk_at "g2"))

variable {n b c : L2.St → Hp → Prop} {r : VK} {σ : L2.St} {H H' : Hp} {Q : VK} {K : PySem.W.Frag} {E : En} {F F' : Hp} {L L' L1 : Led} {p a : Addr} {xs ys : List V} {ns ms : List Int} {o : HO}
/-- rows that are lists of tuples, all frozen, and what stands in them -/
inductive RowsR (K : PySem.W.Frag) (H : Hp) : List Addr → List (List Addr) → List (List (List Int)) → Prop
  | nil : RowsR K H [] [] []
  | cons {a as bs bss r rs} : H a = some (.lst (rv bs)) → Rows K H false bs r → RowsR K H as bss rs → RowsR K H (a :: as) (bs :: bss) (r :: rs)
variable {as as' : List Addr} {bss bss' : List (List Addr)} {rs rs' : List (List (List Int))}
theorem RowsR.mono (e : Same H H') (h : RowsR K H as bss rs) : RowsR K H' as bss rs := by
  induction h with
  | nil => exact .nil
  | cons h1 h2 _ ih => exact .cons (e _ _ h1) (h2.mono e) ih
theorem RowsR.len1 (h : RowsR K H as bss rs) : as.length = bss.length := by
  induction h with
  | nil => rfl
  | cons _ _ _ ih => rw [List.length_cons, List.length_cons, ih]
theorem RowsR.len (h : RowsR K H as bss rs) : as.length = rs.length := by
  induction h with
  | nil => rfl
  | cons _ _ _ ih => rw [List.length_cons, List.length_cons, ih]
theorem RowsR.at (h : RowsR K H as bss rs) : ∀ {i : Nat} {a : Addr}, as[i]? = some a → ∃ bs r, bss[i]? = some bs ∧ rs[i]? = some r ∧ H a = some (.lst (rv bs)) ∧ Rows K H false bs r := by
  induction h with
  | nil => intro i a e; simp at e
  | cons h1 h2 _ ih =>
    intro i a e
    cases i with
    | zero => rw [List.getElem?_cons_zero] at e; cases e; exact ⟨_, _, rfl, rfl, h1, h2⟩
    | succ i => exact ih (by simpa using e)
theorem RowsR.app (h : RowsR K H as bss rs) (h' : RowsR K H as' bss' rs') : RowsR K H (as ++ as') (bss ++ bss') (rs ++ rs') := by
  induction h with
  | nil => exact h'
  | cons h1 h2 _ ih => exact .cons h1 h2 ih
theorem RowsR.one {bs : List Addr} {r : List (List Int)} (h1 : H a = some (.lst (rv bs))) (h2 : Rows K H false bs r) : RowsR K H [a] [bs] [r] := .cons h1 h2 .nil
theorem RowsR.take (h : RowsR K H as bss rs) : ∀ (n : Nat), RowsR K H (as.take n) (bss.take n) (rs.take n) := by
  induction h with
  | nil => intro n; rw [List.take_nil, List.take_nil, List.take_nil]; exact .nil
  | cons h1 h2 _ ih =>
    intro n
    cases n with
    | zero => exact .nil
    | succ n => exact .cons h1 h2 (ih n)
theorem RowsR.drop (h : RowsR K H as bss rs) : ∀ (n : Nat), RowsR K H (as.drop n) (bss.drop n) (rs.drop n) := by
  induction h with
  | nil => intro n; rw [List.drop_nil, List.drop_nil, List.drop_nil]; exact .nil
  | cons h1 h2 h3 ih =>
    intro n
    cases n with
    | zero => exact .cons h1 h2 h3
    | succ n => exact ih n
theorem RowsR.lt (h : RowsR K H as bss rs) : RowsLT K H as rs := by
  induction h with
  | nil => exact .nil
  | cons h1 h2 _ ih => exact .cons (SqL.of h1) h2 ih
theorem Rows.drop {k : Bool} {ts : List Addr} {r : List (List Int)} (h : Rows K H k ts r) : ∀ (n : Nat), Rows K H k (ts.drop n) (r.drop n) := by
  induction h with
  | nil => intro n; rw [List.drop_nil, List.drop_nil]; exact .nil
  | cons h1 h2 ih =>
    intro n
    cases n with
    | zero => exact .cons h1 h2
    | succ n => exact ih n
theorem Rows.app {k : Bool} {ts ts' : List Addr} {r r' : List (List Int)} (h : Rows K H k ts r) (h' : Rows K H k ts' r') : Rows K H k (ts ++ ts') (r ++ r') := by
  induction h with
  | nil => exact h'
  | cons h1 _ ih => exact .cons h1 ih
theorem RowsX.own {bs : List Addr} (h : RowsR K F as bss rs) (hl : bs.length = bss.length) (ho : ∀ x ∈ rowV bs (bss.map rv), H x.1 = some x.2) : RowsX K F H bs rs := by
  induction h generalizing bs with
  | nil => cases bs with
    | nil => exact .nil
    | cons _ _ => cases hl
  | cons h1 h2 _ ih => cases bs with
    | nil => cases hl
    | cons b bs => exact .cons (.inl (SqL.of (ho _ List.mem_cons_self))) (.ofT h2) (ih (by simpa using hl) fun x hx => ho x (List.mem_cons_of_mem _ hx))
abbrev dRowT (r : List (List Int)) : PyData := .list (r.map (dRow false))
theorem RowsLT.dp (h : RowsLT K H as rs) : DpAll K H (as.map V.ref) (rs.map dRowT) := by
  induction h with
  | nil => exact .nil
  | cons h1 h2 _ ih => exact .cons (.lst h1 h2.dp) ih
theorem shp_rowT {r : List (List Int)} : Shp 2 (dRowT r) := shp_list (shpa_map fun _ _ => shp_row)
theorem St.only (G : St E F H L) (m : (a, o) ∈ L) : St E F H [(a, o)] := ⟨G.bh, G.fh, G.ff, G.pr, fun x hx => by rw [List.mem_singleton.mp hx]; exact G.own _ m, by simp⟩
/-- rows that are owned, with what stands in them frozen -/
theorem RowsLT.own {bs : List Addr} (e : Same F H) (h : RowsR K F as bss rs) (hl : bs.length = bss.length) (ho : ∀ x ∈ rowV bs (bss.map rv), H x.1 = some x.2) : RowsLT K H bs rs := by
  induction h generalizing bs with
  | nil => cases bs with
    | nil => exact .nil
    | cons _ _ => cases hl
  | cons h1 h2 _ ih => cases bs with
    | nil => cases hl
    | cons b bs => exact .cons (SqL.of (ho _ List.mem_cons_self)) (h2.mono e) (ih (by simpa using hl) fun x hx => ho x (List.mem_cons_of_mem _ hx))
theorem Mok.no {m o l : Int} {os : List Int} {rs : List (List (List Int))} {r : List (List Int)} (hr : r ∈ rs) (h : (r.length : Int) ≠ m) : ¬ Mok m o l os rs := fun w => h (w.rr r hr).1
end
end SL

set_option Elab.async false
set_option linter.all false
set_option maxRecDepth 100000
set_option maxHeartbeats 4000000
namespace L2
open PySem PySem.Spec PyProof.Rows
/-! ## every so many items of a tuple -/
theorem vals_places {xs : List V} {us : List Value} (h : Vals xs us) : ∀ js : List Nat, Vals (js.filterMap (xs[·]?)) (js.filterMap (us[·]?))
  | [] => .nil
  | j :: js => by
    have ih := vals_places h js
    cases hx : xs[j]? with
    | some x =>
      obtain ⟨u, hu, ru⟩ := h.get hx
      simp only [List.filterMap_cons, hx, hu]
      exact .cons ru ih
    | none =>
      have hu : us[j]? = none := by
        rw [List.getElem?_eq_none_iff] at hx ⊢
        rw [← h.length]; exact hx
      simp only [List.filterMap_cons, hx, hu]
      exact ih
def jsOf (l m c : Nat) : List Nat := (List.range c).map fun k => l + k * m
theorem places_step {l m c : Nat} (hl : l < m) (hc : 0 < c) : Builtin.Slice.slicePlaces (l : Int) ((c * m : Nat) : Int) (m : Int) = c := by
  unfold Builtin.Slice.slicePlaces
  have h1 : (m : Int) > 0 := by omega
  have h2 : (l : Int) < ((c * m : Nat) : Int) := by
    have : 1 * m ≤ c * m := Nat.mul_le_mul_right m hc
    omega
  rw [if_pos h1, if_pos h2]
  obtain ⟨d, rfl⟩ : ∃ d, c = d + 1 := ⟨c - 1, by omega⟩
  have e : (((d + 1) * m : Nat) : Int) - (l : Int) - 1 = (m - 1 - l : Nat) + (m : Int) * (d : Int) := by
    rw [Nat.add_mul, Nat.one_mul, Int.natCast_add, Int.natCast_mul, Int.mul_comm]
    omega
  rw [e, Int.add_mul_ediv_left _ _ (by omega), Int.ediv_eq_zero_of_lt (by omega) (by omega)]
  omega
theorem sliceApplied_step {prog : Program} {w : World} {A : Around} {E : Value → Shared → Prop} {s : Shared} {sl : Addr} {vl vu vk : Value} {l m c : Nat} {Q : Int × Int × Nat → Shared → Prop} (hs : s.heap.IsSliceOf sl vl vu vk) (pl : IsPart vl (some (l : Int))) (pu : IsPart vu none) (pk : IsPart vk (some (m : Int))) (hl : l < m) (hc : 0 < c)
    (h : Q ((l : Int), (m : Int), c) s) : wpAny (model prog w) A (Builtin.Slice.sliceApplied (.ref sl) (pure ((c * m : Nat) : Int))) Q E s := by
  obtain ⟨os, hos, hcs, hds⟩ := id hs
  unfold Builtin.Slice.sliceApplied Builtin.Slice.sliceFields
  refine wpAny_bind (wpAny_bind (wpAny_field hos hds (x := vl) rfl (wpAny_bind (wpAny_field hos hds (x := vu) rfl (wpAny_bind (wpAny_field hos hds (x := vk) rfl (wpAny_pure ?_)))))))
  refine wpAny_bind (HT.slicePart_ pk ?_)
  show wpAny _ _ (if (((m : Nat) : Int) == 0) = true then _ else _) _ _ s
  rw [if_neg (by intro q; have := eq_of_beq q; omega)]
  refine wpAny_bind (HT.slicePart_ pl (wpAny_bind (HT.slicePart_ pu (wpAny_bind (wpAny_pure ?_)))))
  have ha : Builtin.Slice.sliceAdjust (some (l : Int)) none (m : Int) ((c * m : Nat) : Int) = ((l : Int), ((c * m : Nat) : Int)) := by
    have h1 : ¬ ((m : Int) < 0) := by omega
    have h2 : (l : Int) ≤ ((c * m : Nat) : Int) := by
      have : 1 * m ≤ c * m := Nat.mul_le_mul_right m hc
      omega
    unfold Builtin.Slice.sliceAdjust
    simp only [h1, if_false]
    refine Prod.ext ?_ rfl
    show (if (l : Int) < 0 then max ((l : Int) + ((c * m : Nat) : Int)) 0 else min (l : Int) ((c * m : Nat) : Int)) = (l : Int)
    rw [if_neg (by omega)]
    omega
  show wpAny _ _ (match Builtin.Slice.sliceAdjust (some (l : Int)) none (m : Int) ((c * m : Nat) : Int) with | (lo, hi) => pure (lo, (m : Int), Builtin.Slice.slicePlaces lo hi (m : Int))) _ _ s
  rw [ha]
  show wpAny _ _ (pure ((l : Int), (m : Int), Builtin.Slice.slicePlaces (l : Int) ((c * m : Nat) : Int) (m : Int))) _ _ s
  rw [places_step hl hc]
  exact wpAny_pure h
theorem pick_step (xs : Array Value) (l m c : Nat) : ((List.range c).filterMap fun (k : Nat) => xs[((l : Int) + (k : Int) * (m : Int)).toNat]?).toArray = ((jsOf l m c).filterMap (xs.toList[·]?)).toArray := by
  unfold jsOf
  rw [List.filterMap_map]
  congr 2
  funext k
  show xs[((l : Int) + (k : Int) * (m : Int)).toNat]? = xs.toList[l + k * m]?
  rw [show ((l : Int) + (k : Int) * (m : Int)).toNat = l + k * m from by rw [← Int.natCast_mul, ← Int.natCast_add]; rfl, Array.getElem?_toList]
theorem getItem_tuple_step {prog : Program} {w : World} {A : Around} {E : Value → Shared → Prop} {s : Shared} {t sl : Addr} {items : Array Value} {vl vu vk : Value} {l m c : Nat} {Q : Value → Shared → Prop} (ht : IsTup s.heap t items) (hs : s.heap.IsSliceOf sl vl vu vk) (pl : IsPart vl (some (l : Int))) (pu : IsPart vu none) (pk : IsPart vk (some (m : Int))) (hl : l < m) (hc : 0 < c)
    (hsize : items.size = c * m) (hm : 1 < m)
    (h : Q (.ref s.heap.objs.size) { s with heap := s.heap.push { cls := .type "tuple", data := .seq ((jsOf l m c).filterMap (items.toList[·]?)).toArray } })
    (hsz : items.size ≤ sizeLine) : wpAny (model prog w) A (getItem (.ref t) (.ref sl)) Q E s := by
  have htake : sizeOk (.seq ((jsOf l m c).filterMap (items.toList[·]?)).toArray) := by
    show ((jsOf l m c).filterMap (items.toList[·]?)).toArray.size ≤ sizeLine
    rw [List.size_toArray]
    have h1 := List.length_filterMap_le (items.toList[·]?) (jsOf l m c)
    have h2 : (jsOf l m c).length = c := by unfold jsOf; simp
    have h3 : c * 1 ≤ c * m := Nat.mul_le_mul_left c (by omega)
    omega
  obtain ⟨os, hos, hcs, hds⟩ := id hs
  have hTs : s.TypeIs (.ref sl) "slice" := ⟨os, hos, hcs⟩
  unfold getItem
  try with_reducible refine wpAny_holding ?_
  first | refine wpAny_bind (wpAny_pure ?_) | skip
  refine wpAny_bind (wpAny_sequenceKey ht.typeIs (by decide) ?_)
  refine wpAny_bind (wpAny_callSpecial?_slot (name := Str.ofString "__getitem__") ht.typeIs PyProof.Rows.slot_tuple_getitem
    (wpAny_call_entry PyProof.Rows.slot_tuple_getitem ht.typeIs entry_tuple_getitem ?_ (args_tuple_getitem _ _)))
  show wpAny _ _ (Builtin.Tuple.tupleItemsOf (.ref t) >>= _) _ _ s
  refine wpAny_bind (tupleItemsOf_ ht ?_)
  refine wpAny_bind (wpAny_typeOf hTs ?_)
  rw [if_pos (by decide)]
  rw [hsize]
  refine wpAny_bind (sliceApplied_step hs pl pu pk hl hc ?_)
  have hno : ¬ (((l : Int) == 0 && (m : Int) == 1 && c == items.size) = true) := by
    intro q
    rw [Bool.and_eq_true, Bool.and_eq_true] at q
    have q1 : (m : Int) = 1 := eq_of_beq q.1.2
    omega
  rw [hsize] at hno
  show wpAny _ _ (if ((l : Int) == 0 && (m : Int) == 1 && c == c * m) = true then _ else _) _ _ s
  rw [if_neg hno, pick_step]
  first
    | exact wpAny_bind (m := Builtin.Tuple.tupleExact _) (wpAny_newObj_type (wpAny_pure ⟨_, rfl, wpAny_pure h⟩) htake)
    | exact wpAny_bind (m := Builtin.Tuple.tupleExact _) (wpAny_newObj_type (wpAny_bind (wpAny_pure (wpAny_pure ⟨_, rfl, wpAny_pure h⟩))) htake)
    | exact wpAny_bind (wpAny_bind (m := Builtin.Tuple.tupleExact _) (wpAny_newObj_type (wpAny_pure (wpAny_pure ⟨_, rfl, wpAny_pure h⟩)) htake))
    | exact wpAny_bind (wpAny_bind (m := Builtin.Tuple.tupleExact _) (wpAny_newObj_type (wpAny_pure ⟨_, rfl, wpAny_pure h⟩) htake))
end L2
namespace L2
open PySem PySem.Spec PyProof.Rows
theorem getItem_tuple_step1 {prog : Program} {w : World} {A : Around} {E : Value → Shared → Prop} {s : Shared} {t sl : Addr} {items : Array Value} {vl vu vk : Value} {c : Nat} {Q : Value → Shared → Prop} (ht : IsTup s.heap t items) (hs : s.heap.IsSliceOf sl vl vu vk) (pl : IsPart vl (some ((0 : Nat) : Int))) (pu : IsPart vu none) (pk : IsPart vk (some ((1 : Nat) : Int))) (hc : 0 < c)
    (hsize : items.size = c) (h : Q (.ref t) s) : wpAny (model prog w) A (getItem (.ref t) (.ref sl)) Q E s := by
  obtain ⟨os, hos, hcs, hds⟩ := id hs
  have hTs : s.TypeIs (.ref sl) "slice" := ⟨os, hos, hcs⟩
  unfold getItem
  try with_reducible refine wpAny_holding ?_
  first | refine wpAny_bind (wpAny_pure ?_) | skip
  refine wpAny_bind (wpAny_sequenceKey ht.typeIs (by decide) ?_)
  refine wpAny_bind (wpAny_callSpecial?_slot (name := Str.ofString "__getitem__") ht.typeIs PyProof.Rows.slot_tuple_getitem
    (wpAny_call_entry PyProof.Rows.slot_tuple_getitem ht.typeIs entry_tuple_getitem ?_ (args_tuple_getitem _ _)))
  show wpAny _ _ (Builtin.Tuple.tupleItemsOf (.ref t) >>= _) _ _ s
  refine wpAny_bind (tupleItemsOf_ ht ?_)
  refine wpAny_bind (wpAny_typeOf hTs ?_)
  rw [if_pos (by decide)]
  rw [show items.size = c * 1 from by omega]
  refine wpAny_bind (sliceApplied_step (l := 0) (m := 1) hs pl pu pk (by decide) hc ?_)
  have hyes : ((((0 : Nat) : Int)) == 0 && (((1 : Nat) : Int)) == 1 && c == c * 1) = true := by simp
  show wpAny _ _ (if ((((0 : Nat) : Int)) == 0 && (((1 : Nat) : Int)) == 1 && c == c * 1) = true then _ else _) _ _ s
  rw [if_pos hyes]
  refine wpAny_bind ?_
  show wpAny _ _ (typeOf (.ref t) >>= fun T => pure (T == .type "tuple")) _ _ s
  refine wpAny_bind (wpAny_typeOf ht.typeIs (wpAny_pure ?_))
  rw [if_pos (by decide)]
  first
    | exact wpAny_bind (wpAny_rule (wpAny_pure ⟨_, rfl, wpAny_pure h⟩))
    | exact wpAny_bind (wpAny_rule (wpAny_bind (wpAny_pure (wpAny_pure ⟨_, rfl, wpAny_pure h⟩))))
/-- t[l::m], t a tuple of c * m items, l below m -/
def rSl3 (K : PySem.W.Frag) : V → Option Int → Option Int → Hp → VK → Prop := fun x lo st H Q => ∃ (a : Addr) (xs : List V) (l m c : Nat), x = .ref a ∧ lo = some (l : Int) ∧ st = some (m : Int) ∧ SqT K H a xs ∧ (l < m ∧ 0 < c ∧ xs.length = c * m) ∧
  (m = 1 → Q (.ref a) H) ∧ (1 < m → ∀ p, H p = none → Q (.ref p) (upd H p (.tup ((jsOf l m c).filterMap (xs[·]?)))))
def tSl3 (r : V → Option Int → Option Int → Hp → VK → Prop) (te : TE) (tl tk : TO) : TE := fun σ H Q => te σ H fun x H1 => tl σ H1 fun lo H2 => tk σ H2 fun st H3 => r x lo st H3 Q
theorem pe_slice3 {X : Cx} {e : Expr} {lo : Option Expr} {ke : Expr} {te : TE} {tl tk : TO} {pos p2 : Pos} (he : PE X e te) (hl : PO X lo tl) (hk : PO X (some ke) tk) : PE X (.Subscript e (.Slice lo none (some ke) p2) pos) (tSl3 (rSl3 X.K) te tl tk) := by
  refine ⟨fun pins s σ H Q I h => ?_⟩
  refine Subscript_ (thn (he.run pins s σ H _ I h) fun v s1 ⟨x, H1, I1, r1, q1⟩ => ?_)
  refine wpAny_Slice (thn (hl.run pins s1 σ H1 _ I1 q1) fun vl s2 ⟨l, H2, I2, pl, q2⟩ => ?_)
  rw [evalPart_none]
  refine wpAny_pure ?_
  refine thn (hk.run pins s2 σ H2 _ I2 q2) fun vk s3 ⟨o2, H3, I3, pk, q3⟩ => ?_
  have I4 : Inv X pins σ H3 { s3 with heap := s3.heap.push { cls := .type "slice", data := .fields #[vl, .none, vk] } } := I3.kept (t' := s3.toks) fun b ob q => Heap.get?_push_of_some _ q
  obtain ⟨a, xs, l', m, c, rfl, rfl, rfl, hx, ⟨h1, h2, h3⟩, k1, k2⟩ := q3
  cases r1
  obtain ⟨its, r, ht, hz⟩ := I4.tuple hx
  have hlen : its.toArray.size = xs.length := by rw [List.size_toArray]; exact r.length.symm
  have hsl : Heap.IsSliceOf (Shared.heap { s3 with heap := s3.heap.push { cls := .type "slice", data := .fields #[vl, .none, vk] } }) s3.heap.objs.size vl .none vk := Heap.IsSliceOf.new ..
  show wpAny (model X.prog X.w) X.A (subscriptTail e (.Slice lo none (some ke) p2) (.ref a) (.ref s3.heap.objs.size)) (EP X pins σ Q) X.xe { s3 with heap := s3.heap.push { cls := .type "slice", data := .fields #[vl, .none, vk] } }
  refine tail_any (ops := [.ref a, .ref s3.heap.objs.size]) ht.typeIs PyProof.Rows.slot_tuple_getitem.lookup ?_ (by with_unfolding_all rfl)
  by_cases hm : m = 1
  · subst hm
    have e0 : l' = 0 := by omega
    subst e0
    exact getItem_tuple_step1 ht hsl pl .none pk h2 (by rw [hlen, h3]; omega) ⟨.ref a, H3, I4, rfl, k1 rfl⟩
  · refine getItem_tuple_step ht hsl pl .none pk h1 h2 (by rw [hlen, h3]) (by omega) ?_ (by rw [hlen]; exact hz)
    refine ⟨.ref _, _, I4.laid (t' := s3.toks) (o := .tup ((jsOf l' m c).filterMap (xs[·]?))) (fun b ob q => Heap.get?_push_of_some _ q) (Nat.le_refl _) ?_, rfl, k2 (by omega) _ (I4.hok.fresh (Nat.le_refl _))⟩
    refine ⟨?_, _, vals_places r (jsOf l' m c), IsTup.new _ _⟩
    have q1 := List.length_filterMap_le (xs[·]?) (jsOf l' m c)
    have q2 : (jsOf l' m c).length = c := by unfold jsOf; simp
    have q3 : c * 1 ≤ c * m := Nat.mul_le_mul_left c (by omega)
    omega
end L2
namespace L2
open PySem PySem.Spec PyProof.Rows
/-- a list that may be locked, and another -/
def rCatD : R2 := fun x y H Q => ∃ l b xs zs, x = .ref l ∧ y = .ref b ∧ Rd H l (.lst xs) ∧ Rd H b (.lst zs) ∧ xs.length + zs.length ≤ sizeLine ∧ ∀ p, H p = none → Q (.ref p) (upd H p (.lst (xs ++ zs)))
theorem op_catD {X : Cx} : OpR X (binaryOp .Add) rCatD := by
  intro pins s σ H x y v u Q I rx ry h
  obtain ⟨l, b, xs, zs, rfl, rfl, hH, hB, hz, q⟩ := h
  cases rx
  cases ry
  obtain ⟨z, its, n, r, e⟩ := hH.ok I.hok
  obtain ⟨z2, its2, n2, r2, e2⟩ := hB.ok I.hok
  have hl := r.length
  have hl2 := r2.length
  refine PySem.P.add_list e e2 ?_ (by rw [List.size_toArray, List.size_toArray]; omega)
  have ea : its.toArray ++ its2.toArray = (its ++ its2).toArray := by simp
  rw [ea]
  exact ⟨.ref _, _, I.lnew (t' := s.toks) (r.append r2) (by rw [List.length_append]; omega), rfl, q _ I.fresh⟩
end L2
namespace SL
open PySem L2
section

set_option hygiene false
local macro_rules | `(tactic| walk_at "m") => `(tactic| first | exact List.Mem.head _ | (refine List.Mem.tail _ ?_; walk_at "m"))
local macro_rules | `(tactic| walk_at "u") => `(tactic| first | exact Upd.head | (apply Upd.tail; walk_at "u"))
local macro_rules | `(tactic| walk_at "tk") => `(tactic| first | exact Tak.head | (apply Tak.tail; walk_at "tk"))
local macro_rules | `(tactic| walk_at "l") => `(tactic| first | assumption | exact lS (St.fh (by assumption)) (by assumption) | exact SqL.of (St.get (by assumption) (by walk_at "m")))
local macro_rules | `(tactic| walk_at "t") => `(tactic| first | assumption | exact tS (St.fh (by assumption)) (by assumption) | exact SqT.of (St.get (by assumption) (by walk_at "m")))
local macro_rules | `(tactic| walk_at "lt") => `(tactic| first | exact .inl (by walk_at "l") | exact .inr (by walk_at "t"))
local macro_rules | `(tactic| walk_at "sz") => `(tactic| first | (show _ ≤ sizeLine; decide) | exact sz (by simp) | exact szl (by simp) | exact sz (by omega) | exact szl (by omega) | exact sz (by simp; omega) | exact szl (by simp; omega))
local macro_rules | `(tactic| walk_at "c") => `(tactic| first | assumption | decide | omega)
local macro_rules | `(tactic| walk_at "g1") => `(tactic| with_reducible first
  | refine w_seq ?_ | refine w_asg ?_ | refine w_c ?_ | refine w_op ?_
  | refine r_I0 ?_ | refine w_test ?_ | refine r_b ?_ | refine w_if ?_ | refine w_cons ?_ | refine w_nil ?_
  | refine w_ret ?_ | refine w_drop ?_ | refine w_cb ?_ | refine w_call ?_ | refine w_next ?_ | refine w_tup ?_ | refine w_lst ?_ | refine w_bm ?_ | refine w_bm0 ?_
  | refine w_and ?_ | refine w_or ?_ | refine w_not ?_ | refine w_andV ?_ | refine w_orV ?_ | refine w_notV ?_ | refine w_tB ?_ | refine w_un ?_ | refine r_U ?_
  | refine w_for ?_ | refine w_iL ?_ | refine w_iT ?_ | refine w_i1 ?_ | refine w_i2 ?_ | refine w_sl ?_ | refine w_part ?_ | refine w_nopart ?_ | refine r_part ?_
  | refine r_eqI ?_ | refine r_neI ?_ | refine r_eqS ?_ | refine r_neS ?_ | refine r_eqB ?_ | refine r_neB ?_ | refine r_ifT ?_ | refine r_ifF ?_ | refine r_ifNt ?_ | refine r_ifNf ?_ | refine r_ifRN ?_ | refine r_ifNRN ?_ | refine r_ifNN ?_ | refine r_ifNNN ?_
  | refine w_ifE ?_ | refine r_int1 ?_ | refine r_int1b ?_ | refine r_isnone ?_ | refine r_notnone ?_ | refine r_max2 ?_ | refine r_min2 ?_ | refine r_ipI ?_ | refine w_tru ?_ | refine w_rs ?_
  | refine w_retN ?_ | refine w_break ?_ | refine w_cont ?_ | refine w_callS ?_ | refine w_asgG ?_ | refine w_gsub ?_ | refine w_fld ?_ | refine w_sfld ?_ | refine w_mk ?_ | refine w_lc ?_ | refine w_iSq ?_ | refine u_isint ?_ | refine w_dnew ?_ | refine w_dnotin ?_ | refine w_din ?_ | refine w_dget ?_ | refine w_dput ?_ | refine w_ckw ?_)
local macro_rules | `(tactic| walk_at "g2") => `(tactic| first
  | ((with_reducible refine' w_var ?hv ?_); (case hv => rfl)) | ((with_reducible refine' w_aug ?hv ?_); (case hv => rfl))
  | ((with_reducible show rLen _ _ _ _); refine r_len (by walk_at "lt") ?_)
  | (with_reducible refine r_I ?cnd ?_; (case cnd => first | decide | omega | assumption | (unfold CPow; decide)))
  | ((with_reducible show RTy _ _ _ _ _); refine r_tyL (by walk_at "l") ?_)
  | (with_reducible refine r_ifDT (by walk_at "c") ?_) | (with_reducible refine r_ifDF (by walk_at "c") ?_)
  | (with_reducible refine r_ifNT (by walk_at "c") ?_) | (with_reducible refine r_ifNF (by walk_at "c") ?_))
local macro_rules | `(tactic| walk_at "go") => `(tactic| repeat (first | walk_at "g1" | walk_at "g2"))

variable {n b c : L2.St → Hp → Prop} {r : VK} {σ : L2.St} {H H' : Hp} {Q : VK} {K : PySem.W.Frag} {E : En} {F F' : Hp} {L L' L1 : Led} {p a : Addr} {xs ys : List V} {ns ms : List Int} {o : HO} {te : TE} {tl tk : TO} {v : V}
theorem w_sl3 {rr : V → Option Int → Option Int → Hp → VK → Prop} (h : te σ H fun x H1 => tl σ H1 fun lo H2 => tk σ H2 fun st H3 => rr x lo st H3 Q) : tSl3 rr te tl tk σ H Q := h
/-- a dict that is a set of integers -/
def kS (ks : List Int) : List (Key × V) := ks.map fun z => (.inl z, .bl true)
theorem kS_val {ks : List Int} {z : Int} : valV (kS ks) (.inl z) = if z ∈ ks then some (.bl true) else none := by
  induction ks with
  | nil => rfl
  | cons y ks ih =>
    by_cases e : y = z
    · subst e
      rw [if_pos List.mem_cons_self]
      exact valV_pos rfl
    · show valV ((.inl y, .bl true) :: kS ks) (.inl z) = _
      rw [valV_neg (fun w => e (Sum.inl.inj w)), ih]
      by_cases m : z ∈ ks
      · rw [if_pos m, if_pos (List.mem_cons_of_mem _ m)]
      · rw [if_neg m, if_neg (fun w => by rcases List.mem_cons.mp w with q | q; exact e q.symm; exact m q)]
def addS (ks : List Int) (z : Int) : List Int := if z ∈ ks then ks else ks ++ [z]
theorem kS_put {ks : List Int} {z : Int} : putK (kS ks) (.inl z) (.bl true) = kS (addS ks z) := by
  unfold addS
  by_cases m : z ∈ ks
  · rw [if_pos m]
    unfold putK
    rw [valV_any, kS_val, if_pos m]
    show (kS ks).map _ = kS ks
    unfold kS
    rw [List.map_map]
    refine List.map_congr_left fun y _ => ?_
    show (if (Sum.inl y : Key) = .inl z then ((Sum.inl y : Key), V.bl true) else (Sum.inl y, V.bl true)) = _
    split <;> rfl
  · rw [if_neg m, putK_new (by rw [kS_val, if_neg m])]
    unfold kS
    rw [List.map_append]; rfl
theorem addS_mem {ks : List Int} {z x : Int} : x ∈ addS ks z ↔ x ∈ ks ∨ x = z := by
  unfold addS
  split
  · exact ⟨.inl, fun h => by rcases h with h | h; exact h; exact h ▸ ‹_›⟩
  · rw [List.mem_append, List.mem_singleton]
theorem addS_nodup {ks : List Int} {z : Int} (h : ks.Nodup) : (addS ks z).Nodup := by
  unfold addS
  split
  · exact h
  · rename_i m
    rw [List.nodup_append]
    exact ⟨h, by simp, fun a ha b hb e => m (by rw [List.mem_singleton.mp hb] at e; exact e ▸ ha)⟩
theorem kS_keys {ks : List Int} : (kS ks).map (fun kv => kV kv.1) = iv ks := by
  unfold kS
  rw [List.map_map]; rfl
theorem kS_len {ks : List Int} : (kS ks).length = ks.length := by unfold kS; simp
theorem r_listdK {ks : List Int} (G : St E F H L) (m : (a, HO.dK (kS ks)) ∈ L) (q : ∀ p H', St E F H' ((p, .lst (iv ks)) :: L) → Q (.ref p) H') : rListD [.ref a] H Q :=
  ⟨a, kS ks, rfl, G.get m, fun p hp => by rw [kS_keys]; exact q p _ (G.new hp)⟩
theorem r_sorted (G : St E F H L) (h : SqL K H a (iv ns)) (hl : ns.length < 64) (q : ∀ ns' p H', ns'.Perm ns → ns'.Pairwise (· ≤ ·) → St E F H' ((p, .lst (iv ns')) :: L) → Q (.ref p) H') : rSorted K [.ref a] H Q :=
  ⟨a, ns, rfl, h, hl, fun ns' p hp hs hn => q ns' p _ hp hs (G.new hn)⟩
theorem asc_of {ns ks : List Int} {n : Int} (hp : ns.Perm ks) (hs : ns.Pairwise (· ≤ ·)) (hn : ks.Nodup) (hb : ∀ x ∈ ks, 0 ≤ x ∧ x < n) : asc n (-1) ns = true := by
  refine asc_iff.mpr ⟨fun x hx => by have := hb x (hp.mem_iff.mp hx); omega, ?_⟩
  have hn' : ns.Nodup := hp.nodup_iff.mpr hn
  refine List.Pairwise.imp ?_ (hs.and hn')
  rintro x y ⟨h1, h2⟩
  have : x ≠ y := h2
  omega
theorem rv_pick {es : List Addr} : ∀ (js : List Nat), js.filterMap ((rv es)[·]?) = rv (js.filterMap (es[·]?))
  | [] => rfl
  | j :: js => by
    have e : (rv es)[j]? = (es[j]?).map V.ref := List.getElem?_map ..
    rw [List.filterMap_cons, List.filterMap_cons, e]
    cases es[j]? with
    | none => exact rv_pick js
    | some z => exact congrArg (V.ref z :: ·) (rv_pick js)
theorem Rows.pick {k : Bool} {es : List Addr} {r : List (List Int)} (h : Rows K H k es r) : ∀ (js : List Nat), Rows K H k (js.filterMap (es[·]?)) (js.filterMap (r[·]?))
  | [] => .nil
  | j :: js => by
    rw [List.filterMap_cons, List.filterMap_cons]
    cases e : es[j]? with
    | none =>
      have : r[j]? = none := by rw [List.getElem?_eq_none_iff] at e ⊢; rw [← h.len]; exact e
      rw [this]; exact h.pick js
    | some z =>
      obtain ⟨ns, h1, h2⟩ := h.at e
      rw [h1]; exact .cons h2 (h.pick js)
/-- lists that are frozen as they are -/
inductive RawL (H : Hp) : List Addr → List (List Int) → Prop
  | nil : RawL H [] []
  | cons {a as ns rs} : H a = some (.lst (iv ns)) → RawL H as rs → RawL H (a :: as) (ns :: rs)
theorem RawL.mono {as : List Addr} {rs : List (List Int)} (e : Same H H') (h : RawL H as rs) : RawL H' as rs := by
  induction h with
  | nil => exact .nil
  | cons h1 _ ih => exact .cons (e _ _ h1) ih
theorem RawL.rows {as : List Addr} {rs : List (List Int)} (h : RawL H as rs) : Rows K H true as rs := by
  induction h with
  | nil => exact .nil
  | cons h1 _ ih => exact .cons (SqL.of h1) ih
theorem RawL.len {as : List Addr} {rs : List (List Int)} (h : RawL H as rs) : as.length = rs.length := by
  induction h with
  | nil => rfl
  | cons _ _ ih => rw [List.length_cons, List.length_cons, ih]
theorem RawL.at {as : List Addr} {rs : List (List Int)} (h : RawL H as rs) : ∀ {i : Nat} {a : Addr}, as[i]? = some a → ∃ ns, rs[i]? = some ns ∧ H a = some (.lst (iv ns)) := by
  induction h with
  | nil => intro i a e; simp at e
  | cons h1 _ ih =>
    intro i a e
    cases i with
    | zero => rw [List.getElem?_cons_zero] at e; cases e; exact ⟨_, rfl, h1⟩
    | succ i => exact ih (by simpa using e)
theorem RawL.snoc {as : List Addr} {rs : List (List Int)} (h : RawL H as rs) (h2 : H a = some (.lst (iv ns))) : RawL H (as ++ [a]) (rs ++ [ns]) := by
  induction h with
  | nil => exact .cons h2 .nil
  | cons h1 _ ih => exact .cons h1 ih
inductive Raw2 (K : PySem.W.Frag) (H : Hp) : List Addr → List (List (List Int)) → Prop
  | nil : Raw2 K H [] []
  | cons {a as bs r rs} : SqL K H a (rv bs) → RawL H bs r → Raw2 K H as rs → Raw2 K H (a :: as) (r :: rs)
theorem Raw2.mono {as : List Addr} {rs : List (List (List Int))} (e : Same H H') (h : Raw2 K H as rs) : Raw2 K H' as rs := by
  induction h with
  | nil => exact .nil
  | cons h1 h2 _ ih => exact .cons (lS e h1) (h2.mono e) ih
theorem Raw2.rows {as : List Addr} {rs : List (List (List Int))} (h : Raw2 K H as rs) : Rows2 K H true as rs := by
  induction h with
  | nil => exact .nil
  | cons h1 h2 _ ih => exact .cons h1 h2.rows ih
theorem Raw2.at {as : List Addr} {rs : List (List (List Int))} (h : Raw2 K H as rs) : ∀ {i : Nat} {a : Addr}, as[i]? = some a → ∃ bs r, rs[i]? = some r ∧ SqL K H a (rv bs) ∧ RawL H bs r := by
  induction h with
  | nil => intro i a e; simp at e
  | cons h1 h2 _ ih =>
    intro i a e
    cases i with
    | zero => rw [List.getElem?_cons_zero] at e; cases e; exact ⟨_, _, rfl, h1, h2⟩
    | succ i => exact ih (by simpa using e)
theorem Raw2.snoc {as : List Addr} {bs : List Addr} {r : List (List Int)} {rs : List (List (List Int))} (h : Raw2 K H as rs) (h1 : SqL K H a (rv bs)) (h2 : RawL H bs r) : Raw2 K H (as ++ [a]) (rs ++ [r]) := by
  induction h with
  | nil => exact .cons h1 h2 .nil
  | cons q1 q2 _ ih => exact .cons q1 q2 ih
/-! ## the law's own search for a good round -/
abbrev bv (bs : List Bool) : List V := bs.map V.bl
theorem bv_len {bs : List Bool} : (bv bs).length = bs.length := List.length_map ..
theorem atI_bv {bs : List Bool} {i : Int} (h0 : 0 ≤ i) (h1 : i < bs.length) : atI (bv bs) i = some (.bl (bs.getD i.toNat false)) := by
  have e : ((i.toNat : Nat) : Int) = i := by omega
  have hlt : i.toNat < bs.length := by omega
  have g : (bv bs)[i.toNat]? = some (.bl (bs.getD i.toNat false)) := by
    rw [List.getElem?_map, List.getElem?_eq_getElem hlt, List.getD_eq_getElem?_getD, List.getElem?_eq_getElem hlt]; rfl
  have q := atI_nat g
  rw [e] at q
  exact q
theorem bv_set {bs : List Bool} {j : Nat} {z : Bool} : (bv bs).set j (.bl z) = bv (bs.set j z) := by simp [List.map_set]
def hit1 (g kept reach : List Bool) (t : Int) : Bool := kept.getD t.toNat false && (g.getD t.toNat false || reach.getD t.toNat false)
def hitM (M : List (List Int)) (g kept reach : List Bool) (k : Nat) : Bool := (M.getD k []).any (hit1 g kept reach)
def stepL (M : List (List Int)) (g kept : List Bool) (rc : List Bool × Bool) (k : Nat) : List Bool × Bool := if kept.getD k false && !(rc.1.getD k false) && hitM M g kept rc.1 k then (rc.1.set k true, true) else rc
def psL (M : List (List Int)) (g kept reach : List Bool) (j : Nat) : List Bool × Bool := ((List.range j).map fun j => M.length - 1 - j).foldl (stepL M g kept) (reach, false)
def againL (M : List (List Int)) (g kept : List Bool) : Nat → List Bool → List Bool
  | 0, reach => reach
  | f + 1, reach => if (psL M g kept reach M.length).2 then againL M g kept f (psL M g kept reach M.length).1 else (psL M g kept reach M.length).1
def turnL (M : List (List Int)) (g : List Bool) : Nat → List Bool → List Bool
  | 0, kept => kept
  | f + 1, kept => if againL M g kept (M.length + 1) (List.replicate M.length false) = kept then kept else turnL M g f (againL M g kept (M.length + 1) (List.replicate M.length false))
def LV (M : List (List Int)) (g : List Bool) (st : List Int) : Bool := st.any fun s => (turnL M g (M.length + 1) (List.replicate M.length true)).getD s.toNat false
theorem any_mem {α : Type} {p : α → Bool} {xs ys : List α} (h : ∀ t, t ∈ xs ↔ t ∈ ys) : xs.any p = ys.any p := by
  rw [Bool.eq_iff_iff, List.any_eq_true, List.any_eq_true]
  exact ⟨fun ⟨x, h1, h2⟩ => ⟨x, (h x).mp h1, h2⟩, fun ⟨x, h1, h2⟩ => ⟨x, (h x).mpr h1, h2⟩⟩
theorem LV_congr {M M' : List (List Int)} (hl : M.length = M'.length) (h : ∀ k t, t ∈ M.getD k [] ↔ t ∈ M'.getD k []) (g : List Bool) (st : List Int) : LV M g st = LV M' g st := by
  have e1 : hitM M = hitM M' := by
    funext g kept reach k
    exact any_mem (h k)
  have e2 : stepL M = stepL M' := by
    funext g kept rc k
    unfold stepL
    rw [e1]
  have e3 : psL M = psL M' := by
    funext g kept reach j
    unfold psL
    rw [e2, hl]
  have e4 : ∀ f g kept reach, againL M g kept f reach = againL M' g kept f reach := fun f => by
    induction f with
    | zero => intros; rfl
    | succ f ih =>
      intro g kept reach
      unfold againL
      rw [e3, hl, ih]
  have e5 : ∀ f g kept, turnL M g f kept = turnL M' g f kept := fun f => by
    induction f with
    | zero => intros; rfl
    | succ f ih =>
      intro g kept
      unfold turnL
      rw [e4, hl, ih]
  unfold LV
  rw [e5, hl]
end
end SL

set_option Elab.async false
set_option linter.all false
set_option maxRecDepth 100000
set_option maxHeartbeats 4000000
namespace SL
open PySem L2
/-! ## what the law's own search for a good round finds -/
abbrev tru (b : List Bool) (k : Nat) : Prop := b.getD k false = true
def Ed (M : List (List Int)) (k t : Nat) : Prop := (t : Int) ∈ M.getD k []
inductive Wk (M : List (List Int)) : Nat → Nat → Prop
  | nil {k} : Wk M k k
  | step {k t u} : Ed M k t → Wk M t u → Wk M k u
theorem Wk.trans {M : List (List Int)} {a b c : Nat} (h : Wk M a b) (h2 : Wk M b c) : Wk M a c := by
  induction h with
  | nil => exact h2
  | step e _ ih => exact .step e (ih h2)
/-- v lies on a round -/
def Cyc (M : List (List Int)) (v : Nat) : Prop := ∃ t, Ed M v t ∧ Wk M t v
/-- a way inside kept to something good -/
inductive Ht (M : List (List Int)) (g : List Bool) (P : Nat → Prop) : Nat → Prop
  | base {k t} : P k → Ed M k t → P t → tru g t → Ht M g P k
  | step {k t} : P k → Ed M k t → P t → Ht M g P t → Ht M g P k
theorem Ht.mono {M : List (List Int)} {g : List Bool} {P P' : Nat → Prop} {k : Nat} (h : Ht M g P k) (m : ∀ k, P k → P' k) : Ht M g P' k := by
  induction h with
  | base a b c d => exact .base (m _ a) b (m _ c) d
  | step a b c _ ih => exact .step (m _ a) b (m _ c) ih
theorem Ht.here {M : List (List Int)} {g : List Bool} {P : Nat → Prop} {k : Nat} (h : Ht M g P k) : P k := by
  cases h with
  | base a _ _ _ => exact a
  | step a _ _ _ => exact a
theorem Ht.walk {M : List (List Int)} {g : List Bool} {P : Nat → Prop} {k : Nat} (h : Ht M g P k) : ∃ t v, Ed M k t ∧ Wk M t v ∧ P v ∧ tru g v := by
  induction h with
  | base a b c d => exact ⟨_, _, b, .nil, c, d⟩
  | step a b _ _ ih =>
    obtain ⟨t, v, h1, h2, h3⟩ := ih
    exact ⟨_, v, b, .step h1 h2, h3⟩
theorem tru_lt {b : List Bool} {k : Nat} (h : tru b k) : k < b.length := by
  rcases Nat.lt_or_ge k b.length with q | q
  · exact q
  · unfold tru at h
    rw [List.getD_eq_getElem?_getD, List.getElem?_eq_none q] at h
    cases h
theorem tru_set {b : List Bool} {k j : Nat} : tru (b.set k true) j ↔ tru b j ∨ j = k ∧ k < b.length := by
  unfold tru
  rw [List.getD_eq_getElem?_getD, List.getElem?_set, List.getD_eq_getElem?_getD]
  by_cases e : k = j
  · subst e
    rw [if_pos rfl]
    by_cases l : k < b.length
    · rw [if_pos l]; simp [l]
    · rw [if_neg l, List.getElem?_eq_none (by omega)]; simp [l]
  · rw [if_neg e]
    exact ⟨.inl, fun h => by rcases h with h | ⟨h, _⟩; exact h; exact absurd h.symm e⟩
theorem ext_tru {a b : List Bool} (hl : a.length = b.length) (h : ∀ k, tru a k ↔ tru b k) : a = b := by
  refine List.ext_getElem hl fun i h1 h2 => ?_
  have e1 : a.getD i false = a[i] := by rw [List.getD_eq_getElem?_getD, List.getElem?_eq_getElem h1]; rfl
  have e2 : b.getD i false = b[i] := by rw [List.getD_eq_getElem?_getD, List.getElem?_eq_getElem h2]; rfl
  have := h i
  unfold tru at this
  rw [e1, e2] at this
  exact Bool.eq_iff_iff.mpr this
/-- how many -/
def cnt (b : List Bool) : Nat := b.countP id
theorem cnt_le {b : List Bool} : cnt b ≤ b.length := List.countP_le_length
theorem cnt_set {b : List Bool} {k : Nat} (h : ¬ tru b k) (hk : k < b.length) : cnt (b.set k true) = cnt b + 1 := by
  induction b generalizing k with
  | nil => simp at hk
  | cons x b ih =>
    cases k with
    | zero =>
      have : x = false := by
        cases x with
        | true => exact absurd rfl h
        | false => rfl
      subst this
      unfold cnt
      simp
    | succ k =>
      have h' : ¬ tru b k := fun q => h q
      have := ih h' (by simpa using hk)
      unfold cnt at *
      rw [List.set_cons_succ, List.countP_cons, List.countP_cons, this]
      omega
theorem cnt_mono {a b : List Bool} (hl : a.length = b.length) (h : ∀ k, tru a k → tru b k) : cnt a ≤ cnt b := by
  induction a generalizing b with
  | nil => exact Nat.zero_le _
  | cons x a ih =>
    cases b with
    | nil => simp at hl
    | cons y b =>
      have := ih (b := b) (by simpa using hl) fun k q => h (k + 1) q
      have h0 : x = true → y = true := fun q => h 0 q
      unfold cnt at *
      rw [List.countP_cons, List.countP_cons]
      cases x with
      | false => simp; omega
      | true => rw [h0 rfl]; simp; exact this
theorem cnt_lt {a b : List Bool} (hl : a.length = b.length) (h : ∀ k, tru a k → tru b k) (ne : a ≠ b) : cnt a < cnt b := by
  obtain ⟨k, h1, h2⟩ : ∃ k, tru b k ∧ ¬ tru a k := Classical.byContradiction fun c => ne (ext_tru hl fun k => ⟨h k, fun q => Classical.byContradiction fun z => c ⟨k, q, z⟩⟩)
  have hk : k < a.length := by rw [hl]; exact tru_lt h1
  have := cnt_set h2 hk
  have := cnt_mono (a := a.set k true) (b := b) (by rw [List.length_set]; exact hl) fun j q => by
    rcases tru_set.mp q with q | ⟨rfl, _⟩
    · exact h j q
    · exact h1
  omega
section
variable {M : List (List Int)} {g kept : List Bool}
theorem hit_iff (hM : ∀ ts ∈ M, ∀ t ∈ ts, 0 ≤ t) {reach : List Bool} {k : Nat} : hitM M g kept reach k = true ↔ ∃ t, Ed M k t ∧ tru kept t ∧ (tru g t ∨ tru reach t) := by
  unfold hitM
  rw [List.any_eq_true]
  have hn : ∀ t ∈ M.getD k [], 0 ≤ t := fun t ht => by
    rw [List.getD_eq_getElem?_getD] at ht
    cases e : M[k]? with
    | none => rw [e] at ht; simp at ht
    | some ts => rw [e] at ht; exact hM ts (List.mem_of_getElem? e) t ht
  constructor
  · rintro ⟨t, ht, h⟩
    unfold hit1 at h
    rw [Bool.and_eq_true, Bool.or_eq_true] at h
    exact ⟨t.toNat, by unfold Ed; rw [show ((t.toNat : Nat) : Int) = t from by have := hn t ht; omega]; exact ht, h.1, h.2⟩
  · rintro ⟨t, ht, h1, h2⟩
    refine ⟨(t : Int), ht, ?_⟩
    unfold hit1
    rw [Bool.and_eq_true, Bool.or_eq_true, Int.toNat_natCast]
    exact ⟨h1, h2⟩
theorem step_cases (rc : List Bool × Bool) (k : Nat) : (stepL M g kept rc k = rc ∧ ¬ (tru kept k ∧ ¬ tru rc.1 k ∧ hitM M g kept rc.1 k = true)) ∨ (stepL M g kept rc k = (rc.1.set k true, true) ∧ tru kept k ∧ ¬ tru rc.1 k ∧ hitM M g kept rc.1 k = true) := by
  unfold stepL
  by_cases h : (kept.getD k false && !(rc.1.getD k false) && hitM M g kept rc.1 k) = true
  · rw [if_pos h]
    rw [Bool.and_eq_true, Bool.and_eq_true] at h
    refine .inr ⟨rfl, h.1.1, fun q => ?_, h.2⟩
    have := h.1.2
    unfold tru at q
    rw [q] at this
    cases this
  · rw [if_neg h]
    refine .inl ⟨rfl, fun ⟨a, b, c⟩ => h ?_⟩
    rw [Bool.and_eq_true, Bool.and_eq_true]
    refine ⟨⟨a, ?_⟩, c⟩
    cases e : rc.1.getD k false with
    | true => exact absurd e b
    | false => rfl
/-- one pass over some nodes: what is found stays, what is added is right, and if nothing is told nothing is open -/
theorem pass (hM : ∀ ts ∈ M, ∀ t ∈ ts, 0 ≤ t) (lk : kept.length = M.length) : ∀ (ks : List Nat) (rc : List Bool × Bool), rc.1.length = M.length → (∀ k, tru rc.1 k → Ht M g (tru kept) k) →
    (ks.foldl (stepL M g kept) rc).1.length = M.length ∧ (∀ k, tru (ks.foldl (stepL M g kept) rc).1 k → Ht M g (tru kept) k) ∧ cnt rc.1 ≤ cnt (ks.foldl (stepL M g kept) rc).1 ∧
    ((ks.foldl (stepL M g kept) rc).2 = true → rc.2 = true ∨ cnt rc.1 < cnt (ks.foldl (stepL M g kept) rc).1) ∧
    ((ks.foldl (stepL M g kept) rc).2 = false → (ks.foldl (stepL M g kept) rc).1 = rc.1 ∧ ∀ k ∈ ks, ¬ (tru kept k ∧ ¬ tru rc.1 k ∧ hitM M g kept rc.1 k = true))
  | [], rc, hl, hs => ⟨hl, hs, Nat.le_refl _, .inl, fun _ => ⟨rfl, fun _ h => nomatch h⟩⟩
  | k :: ks, rc, hl, hs => by
    rw [List.foldl_cons]
    rcases step_cases (M := M) (g := g) (kept := kept) rc k with ⟨e, h⟩ | ⟨e, h1, h2, h3⟩
    · rw [e]
      obtain ⟨a, b, c, d, f⟩ := pass hM lk ks rc hl hs
      refine ⟨a, b, c, d, fun q => ⟨(f q).1, fun j hj => ?_⟩⟩
      rcases List.mem_cons.mp hj with rfl | hj
      · exact h
      · exact (f q).2 j hj
    · rw [e]
      have hk : k < rc.1.length := by rw [hl, ← lk]; exact tru_lt h1
      have hs' : ∀ j, tru (rc.1.set k true) j → Ht M g (tru kept) j := fun j q => by
        rcases tru_set.mp q with q | ⟨rfl, _⟩
        · exact hs j q
        · obtain ⟨t, t1, t2, t3⟩ := (hit_iff hM).mp h3
          rcases t3 with t3 | t3
          · exact .base h1 t1 t2 t3
          · exact .step h1 t1 t2 (hs t t3)
      obtain ⟨a, b, c, d, f⟩ := pass hM lk ks (rc.1.set k true, true) (by rw [List.length_set]; exact hl) hs'
      have hc := cnt_set h2 hk
      have c' : cnt (rc.1.set k true) ≤ cnt (ks.foldl (stepL M g kept) (rc.1.set k true, true)).1 := c
      refine ⟨a, b, by omega, fun _ => .inr (by omega), fun q => ?_⟩
      -- the flag stays
      have stay : ∀ (ks : List Nat) (rc : List Bool × Bool), rc.2 = true → (ks.foldl (stepL M g kept) rc).2 = true := fun ks => by
        induction ks with
        | nil => intro rc h; exact h
        | cons j ks ih =>
          intro rc h
          rw [List.foldl_cons]
          refine ih _ ?_
          rcases step_cases (M := M) (g := g) (kept := kept) rc j with ⟨e, _⟩ | ⟨e, _⟩
          · rw [e]; exact h
          · rw [e]
      rw [stay ks _ rfl] at q
      cases q
theorem Inj_def {q : Nat → Int} {t : Nat} (h : ∀ i j, i < t → j < t → q i = q j → i = j) : Inj q t := h
theorem again_spec (hM : ∀ ts ∈ M, ∀ t ∈ ts, 0 ≤ t) (lk : kept.length = M.length) : ∀ (f : Nat) (reach : List Bool), reach.length = M.length → M.length + 1 ≤ cnt reach + f → (∀ k, tru reach k → Ht M g (tru kept) k) →
    (againL M g kept f reach).length = M.length ∧ ∀ k, tru (againL M g kept f reach) k ↔ Ht M g (tru kept) k
  | 0, reach, hl, hc, _ => absurd (cnt_le (b := reach)) (by omega)
  | f + 1, reach, hl, hc, hs => by
    obtain ⟨a, b, c, d, e⟩ := pass (g := g) hM lk ((List.range M.length).map fun j => M.length - 1 - j) (reach, false) hl hs
    unfold againL
    show ((if (psL M g kept reach M.length).2 then againL M g kept f (psL M g kept reach M.length).1 else (psL M g kept reach M.length).1).length = _ ∧ _)
    have ep : psL M g kept reach M.length = ((List.range M.length).map fun j => M.length - 1 - j).foldl (stepL M g kept) (reach, false) := rfl
    rw [← ep] at a b c d e
    by_cases h : (psL M g kept reach M.length).2 = true
    · rw [if_pos h]
      rcases d h with q | q
      · cases q
      · exact again_spec hM lk f _ a (by have q' : cnt reach < cnt (psL M g kept reach M.length).1 := q; omega) b
    · rw [if_neg h]
      obtain ⟨e1, e2⟩ := e (by cases x : (psL M g kept reach M.length).2 with | true => exact absurd x h | false => rfl)
      refine ⟨a, fun k => ⟨b k, fun hk => ?_⟩⟩
      rw [e1]
      show tru reach k
      have cl : ∀ k, tru kept k → hitM M g kept reach k = true → tru reach k := fun k h1 h2 => by
        refine Classical.byContradiction fun h3 => e2 k ?_ ⟨h1, h3, h2⟩
        have := tru_lt h1
        exact List.mem_map.mpr ⟨M.length - 1 - k, List.mem_range.mpr (by omega), by omega⟩
      induction hk with
      | base x1 x2 x3 x4 => exact cl _ x1 ((hit_iff hM).mpr ⟨_, x2, x3, .inl x4⟩)
      | step x1 x2 x3 _ ih => exact cl _ x1 ((hit_iff hM).mpr ⟨_, x2, x3, .inr ih⟩)
theorem tru_rep {n k : Nat} {x : Bool} : tru (List.replicate n x) k ↔ k < n ∧ x = true := by
  unfold tru
  rw [List.getD_eq_getElem?_getD, List.getElem?_replicate]
  by_cases h : k < n
  · rw [if_pos h]; simp [h]
  · rw [if_neg h]; simp [h]
theorem again_all (hM : ∀ ts ∈ M, ∀ t ∈ ts, 0 ≤ t) (lk : kept.length = M.length) : (againL M g kept (M.length + 1) (List.replicate M.length false)).length = M.length ∧ ∀ k, tru (againL M g kept (M.length + 1) (List.replicate M.length false)) k ↔ Ht M g (tru kept) k :=
  again_spec hM lk (M.length + 1) _ (by simp) (by omega) fun k h => by have := (tru_rep.mp h).2; cases this
/-- the end: what is kept is what has a way inside it, and nothing that has to stay is lost -/
theorem turn_spec (hM : ∀ ts ∈ M, ∀ t ∈ ts, 0 ≤ t) {S : Nat → Prop} (hS : ∀ k, S k → Ht M g S k) : ∀ (f : Nat) (kept : List Bool), kept.length = M.length → cnt kept + 1 ≤ f → (∀ k, S k → tru kept k) →
    (turnL M g f kept).length = M.length ∧ (∀ k, tru (turnL M g f kept) k → Ht M g (tru (turnL M g f kept)) k) ∧ ∀ k, S k → tru (turnL M g f kept) k
  | 0, kept, _, h, _ => absurd h (by omega)
  | f + 1, kept, lk, hc, hk => by
    obtain ⟨l1, h1⟩ := again_all (g := g) hM lk
    unfold turnL
    by_cases e : againL M g kept (M.length + 1) (List.replicate M.length false) = kept
    · rw [if_pos e]
      rw [e] at h1
      exact ⟨lk, fun k q => (h1 k).mp q, hk⟩
    · rw [if_neg e]
      have := cnt_lt (a := againL M g kept (M.length + 1) (List.replicate M.length false)) (b := kept) (by omega) (fun k q => ((h1 k).mp q).here) e
      exact turn_spec hM hS f _ l1 (by omega) fun k q => (h1 k).mpr ((hS k q).mono hk)
/-- what the law finds: a start from which a good node on a round is reached -/
theorem LV_iff (hM : ∀ ts ∈ M, ∀ t ∈ ts, 0 ≤ t ∧ t < M.length) {st : List Int} (hst : ∀ s ∈ st, 0 ≤ s ∧ s < M.length) : LV M g st = true ↔ ∃ s ∈ st, ∃ v, Wk M s.toNat v ∧ tru g v ∧ Cyc M v := by
  have hM0 : ∀ ts ∈ M, ∀ t ∈ ts, 0 ≤ t := fun ts h t h2 => (hM ts h t h2).1
  have edb : ∀ {k t : Nat}, Ed M k t → t < M.length := fun {k t} h => by
    unfold Ed at h
    rw [List.getD_eq_getElem?_getD] at h
    cases e : M[k]? with
    | none => rw [e] at h; simp at h
    | some ts =>
      rw [e] at h
      have := (hM ts (List.mem_of_getElem? e) _ h).2
      omega
  have wkb : ∀ {k t : Nat}, Wk M k t → k < M.length → t < M.length := fun {k t} h => by
    induction h with
    | nil => exact id
    | step e _ ih => exact fun _ => ih (edb e)
  let S : Nat → Prop := fun u => u < M.length ∧ ∃ v, Wk M u v ∧ tru g v ∧ Cyc M v
  have hS : ∀ u, S u → Ht M g S u := by
    -- along a way
    have along : ∀ {u v : Nat}, Wk M u v → v < M.length → tru g v → Cyc M v → u < M.length → u = v ∨ Ht M g S u := by
      intro u v h hv gv cv
      induction h with
      | nil => exact fun _ => .inl rfl
      | step e w ih =>
        intro hu
        have ht := edb e
        rcases ih hv gv cv ht with rfl | q
        · exact .inr (.base ⟨hu, _, .step e w, gv, cv⟩ e ⟨ht, _, w, gv, cv⟩ gv)
        · exact .inr (.step ⟨hu, _, .step e w, gv, cv⟩ e q.here q)
    rintro u ⟨hu, v, w, gv, cv⟩
    have hv := wkb w hu
    have self : Ht M g S v := by
      obtain ⟨t, e, w2⟩ := id cv
      have ht := edb e
      rcases along w2 hv gv cv ht with rfl | q
      · exact .base ⟨hv, _, .nil, gv, cv⟩ e ⟨ht, _, .nil, gv, cv⟩ gv
      · exact .step ⟨hv, _, .nil, gv, cv⟩ e q.here q
    rcases along w hv gv cv hu with rfl | q
    · exact self
    · exact q
  obtain ⟨l1, h1, h2⟩ := turn_spec (g := g) hM0 hS (M.length + 1) (List.replicate M.length true) (by simp) (by have := cnt_le (b := List.replicate M.length true); simp at this; omega) fun k q => tru_rep.mpr ⟨q.1, rfl⟩
  unfold LV
  rw [List.any_eq_true]
  constructor
  · rintro ⟨s, hs, ht⟩
    refine ⟨s, hs, ?_⟩
    -- from each kept node another good one
    have nx : ∀ k, tru (turnL M g (M.length + 1) (List.replicate M.length true)) k → ∃ v, (∃ t, Ed M k t ∧ Wk M t v) ∧ tru (turnL M g (M.length + 1) (List.replicate M.length true)) v ∧ tru g v := fun k q => by
      obtain ⟨t, v, a, b, c, d⟩ := (h1 k q).walk
      exact ⟨v, ⟨t, a, b⟩, c, d⟩
    generalize turnL M g (M.length + 1) (List.replicate M.length true) = T at *
    let nxt : Nat → Nat := fun k => if q : tru T k then (nx k q).choose else 0
    have nxs : ∀ k, tru T k → (∃ t, Ed M k t ∧ Wk M t (nxt k)) ∧ tru T (nxt k) ∧ tru g (nxt k) := fun k q => by
      show (∃ t, Ed M k t ∧ Wk M t (if q : tru T k then (nx k q).choose else 0)) ∧ _ ∧ _
      have : nxt k = (nx k q).choose := dif_pos q
      rw [this, dif_pos q]
      exact (nx k q).choose_spec
    let it : Nat → Nat := fun i => i.rec s.toNat fun _ k => nxt k
    have itT : ∀ i, tru T (it i) := fun i => by
      induction i with
      | zero => exact ht
      | succ i ih => exact (nxs _ ih).2.1
    have itW : ∀ i j, ∃ t, Ed M (it i) t ∧ Wk M t (it (i + j + 1)) := fun i j => by
      induction j with
      | zero => exact (nxs _ (itT i)).1
      | succ j ih =>
        obtain ⟨t, a, b⟩ := ih
        obtain ⟨t2, a2, b2⟩ := (nxs _ (itT (i + j + 1))).1
        exact ⟨t, a, b.trans (.step a2 b2)⟩
    obtain ⟨i, j, hij, heq⟩ : ∃ i j, i < j ∧ it (i + 1) = it (j + 1) := by
      refine Classical.byContradiction fun c => ?_
      have := inj_few (q := fun i => ((it (i + 1) : Nat) : Int)) (t := M.length + 1) (n := M.length) (fun a b _ _ w => by
        have w' : it (a + 1) = it (b + 1) := by
          have w2 : ((it (a + 1) : Nat) : Int) = ((it (b + 1) : Nat) : Int) := w
          omega
        rcases Nat.lt_trichotomy a b with q | q | q
        · exact absurd ⟨a, b, q, w'⟩ c
        · exact q
        · exact absurd ⟨b, a, q, w'.symm⟩ c) fun k => ⟨by show (0 : Int) ≤ ((it (k + 1) : Nat) : Int); omega, by
          show ((it (k + 1) : Nat) : Int) < (M.length : Int)
          have := tru_lt (itT (k + 1))
          omega⟩
      omega
    refine ⟨it (i + 1), ?_, (nxs _ (itT i)).2.2, ?_⟩
    · obtain ⟨t, a, b⟩ := itW 0 i
      rw [show 0 + i + 1 = i + 1 from by omega] at b
      exact .step a b
    · obtain ⟨t, a, b⟩ := itW (i + 1) (j - i - 1)
      rw [show i + 1 + (j - i - 1) + 1 = j + 1 from by omega, ← heq] at b
      exact ⟨t, a, b⟩
  · rintro ⟨s, hs, v, w, gv, cv⟩
    exact ⟨s, hs, h2 s.toNat ⟨by have := hst s hs; omega, v, w, gv, cv⟩⟩
end
end SL

set_option Elab.async false
set_option linter.all false
set_option maxRecDepth 100000
set_option maxHeartbeats 4000000
namespace SL
open PySem L2
/-! ## the search for strongly connected components, step by step (no program) -/
def up (f : Nat → Int) (a : Nat) (x : Int) : Nat → Int := fun v => if v = a then x else f v
theorem up_eq {f : Nat → Int} {a : Nat} {x : Int} : up f a x a = x := if_pos rfl
theorem up_ne {f : Nat → Int} {a v : Nat} {x : Int} (h : v ≠ a) : up f a x v = f v := if_neg h
/-- pn: the nodes of the path, the newest first; Pr: the edges that were looked at -/
structure TInv (M : List (List Int)) (ent low cmp : Nat → Int) (total clock : Int) (pn opn : List Nat) (Pr : Nat → Nat → Prop) : Prop where
  c0 : 0 ≤ clock
  t0 : 0 ≤ total
  a : ∀ v, 0 ≤ ent v → v < M.length ∧ ent v < clock
  b : ∀ v w, 0 ≤ ent v → ent v = ent w → v = w
  c : ∀ v, v ∈ opn ↔ 0 ≤ ent v ∧ cmp v < 0
  d : opn.Pairwise fun x y => ent y < ent x
  e : pn.Pairwise fun x y => ent y < ent x
  e2 : ∀ x ∈ pn, x ∈ opn
  f1 : ∀ v, 0 ≤ cmp v → 0 ≤ ent v ∧ cmp v < total
  f2 : ∀ v t, 0 ≤ cmp v → Ed M v t → 0 ≤ cmp t
  g : ∀ x ∈ pn, ∀ v ∈ opn, ent x ≤ ent v → Wk M x v
  h : ∀ v ∈ opn, ∃ x ∈ pn, ent x ≤ ent v ∧ (∀ y ∈ pn, ent y ≤ ent v → ent y ≤ ent x) ∧ Wk M v x
  i1 : ∀ x ∈ pn, low x ≤ ent x
  i2 : ∀ x ∈ pn, ∃ w ∈ opn, ent w = low x ∧ Wk M x w
  j : ∀ x ∈ pn, ∀ v ∈ opn, ent x ≤ ent v → (∀ y ∈ pn, ent y ≤ ent v → ent y ≤ ent x) → ∀ t, Pr v t → 0 ≤ ent t ∧ (0 ≤ cmp t ∨ low x ≤ ent t)
  k : ∀ v w, 0 ≤ cmp v → 0 ≤ cmp w → (cmp v = cmp w ↔ Wk M v w ∧ Wk M w v)
  l : ∀ v ∈ opn, v ∉ pn → ∀ t, Ed M v t → Pr v t
section
variable {M : List (List Int)} {ent low cmp : Nat → Int} {total clock : Int} {pn opn : List Nat} {Pr : Nat → Nat → Prop}
theorem TInv.start : TInv M (fun _ => -1) low (fun _ => -1) 0 0 [] [] Pr where
  c0 := by omega
  t0 := by omega
  a v h := by omega
  b v w h := by omega
  c v := by simp
  d := .nil
  e := .nil
  e2 x h := nomatch h
  f1 v h := by omega
  f2 v t h := by omega
  g x h := nomatch h
  h v h := nomatch h
  i1 x h := nomatch h
  i2 x h := nomatch h
  j x h := nomatch h
  k v w h := by omega
  l v h := nomatch h
theorem TInv.fresh (I : TInv M ent low cmp total clock pn opn Pr) {n : Nat} (hn : ent n < 0) : cmp n < 0 ∧ n ∉ opn ∧ n ∉ pn := by
  have h1 : cmp n < 0 := by
    rcases Int.lt_or_le (cmp n) 0 with q | q
    · exact q
    · have := (I.f1 n q).1; omega
  have h2 : n ∉ opn := fun q => by have := ((I.c n).mp q).1; omega
  exact ⟨h1, h2, fun q => h2 (I.e2 n q)⟩
/-- a new node: a root, or one that an edge from the newest node of the path leads to -/
theorem TInv.enter (I : TInv M ent low cmp total clock pn opn Pr) {n : Nat} (hn : ent n < 0) (hM : n < M.length) (hp : ∀ p, pn.head? = some p → Ed M p n) :
    TInv M (up ent n clock) (up low n clock) cmp total (clock + 1) (n :: pn) (n :: opn) (fun v t => Pr v t ∧ v ≠ n ∨ (pn.head? = some v ∧ t = n)) := by
  obtain ⟨cn, no, np⟩ := I.fresh hn
  have c0 := I.c0
  have ne : ∀ v ∈ opn, v ≠ n := fun v hv e => no (e ▸ hv)
  have eo : ∀ v ∈ opn, up ent n clock v = ent v := fun v hv => up_ne (ne v hv)
  have ep : ∀ v ∈ pn, up ent n clock v = ent v := fun v hv => eo v (I.e2 v hv)
  have lp : ∀ v ∈ pn, up low n clock v = low v := fun v hv => up_ne (ne v (I.e2 v hv))
  have oc : ∀ v ∈ opn, 0 ≤ ent v ∧ ent v < clock := fun v hv => by
    have h1 := ((I.c v).mp hv).1
    exact ⟨h1, (I.a v h1).2⟩
  -- all nodes of the path lead to the new one
  have top : ∀ x ∈ pn, Wk M x n := fun x hx => by
    cases e : pn with
    | nil => rw [e] at hx; cases hx
    | cons p rest =>
      have hpp : p ∈ pn := by rw [e]; exact List.mem_cons_self
      have le : ent x ≤ ent p := by
        rw [e] at hx
        rcases List.mem_cons.mp hx with rfl | q
        · exact Int.le_refl _
        · have := I.e
          rw [e] at this
          exact Int.le_of_lt ((List.pairwise_cons.mp this).1 x q)
      exact (I.g x hx p (I.e2 p hpp) le).trans (.step (hp p (by rw [e]; rfl)) .nil)
  refine ⟨by omega, I.t0, fun v hv => ?_, fun v w hv hw => ?_, fun v => ?_, ?_, ?_, fun x hx => ?_, fun v hv => ?_, I.f2, fun x hx v hv le => ?_, fun v hv => ?_, fun x hx => ?_, fun x hx => ?_, fun x hx v hv le hy t ht => ?_, I.k, fun v hv hnp t ht => ?_⟩
  · by_cases q : v = n
    · subst q; rw [up_eq]; exact ⟨hM, by omega⟩
    · rw [up_ne q] at hv ⊢
      have := I.a v hv
      exact ⟨this.1, by omega⟩
  · by_cases q : v = n
    · by_cases q2 : w = n
      · rw [q, q2]
      · subst q
        rw [up_eq, up_ne q2] at hw
        have := (I.a w (by omega)).2
        omega
    · rw [up_ne q] at hv hw
      by_cases q2 : w = n
      · subst q2
        rw [up_eq] at hw
        have := (I.a v hv).2
        omega
      · rw [up_ne q2] at hw
        exact I.b v w hv hw
  · rw [List.mem_cons]
    by_cases q : v = n
    · subst q; rw [up_eq]; exact ⟨fun _ => ⟨c0, cn⟩, fun _ => .inl rfl⟩
    · rw [up_ne q, ← I.c v]
      exact ⟨fun h => h.resolve_left q, .inr⟩
  · rw [List.pairwise_cons]
    refine ⟨fun v hv => ?_, I.d.imp_of_mem fun {x y} hx hy h => by rw [eo x hx, eo y hy]; exact h⟩
    rw [up_eq, eo v hv]; exact (oc v hv).2
  · rw [List.pairwise_cons]
    refine ⟨fun v hv => ?_, I.e.imp_of_mem fun {x y} hx hy h => by rw [ep x hx, ep y hy]; exact h⟩
    rw [up_eq, ep v hv]; exact (oc v (I.e2 v hv)).2
  · rcases List.mem_cons.mp hx with rfl | q
    · exact List.mem_cons_self
    · exact List.mem_cons_of_mem _ (I.e2 x q)
  · have := I.f1 v hv
    have q : v ≠ n := fun e => by rw [e] at hv; omega
    rw [up_ne q]; exact this
  · rcases List.mem_cons.mp hx with rfl | hx'
    · rcases List.mem_cons.mp hv with rfl | hv'
      · exact .nil
      · rw [up_eq, eo v hv'] at le
        have := (oc v hv').2
        omega
    · rcases List.mem_cons.mp hv with rfl | hv'
      · exact top x hx'
      · rw [ep x hx', eo v hv'] at le
        exact I.g x hx' v hv' le
  · rcases List.mem_cons.mp hv with rfl | hv'
    · exact ⟨v, List.mem_cons_self, Int.le_refl _, fun y _ h => h, .nil⟩
    · obtain ⟨x, hx, h1, h2, h3⟩ := I.h v hv'
      refine ⟨x, List.mem_cons_of_mem _ hx, by rw [ep x hx, eo v hv']; exact h1, fun y hy le => ?_, h3⟩
      rcases List.mem_cons.mp hy with rfl | hy'
      · rw [up_eq, eo v hv'] at le
        have := (oc v hv').2
        omega
      · rw [ep y hy', eo v hv'] at le
        rw [ep y hy', ep x hx]
        exact h2 y hy' le
  · rcases List.mem_cons.mp hx with rfl | hx'
    · rw [up_eq, up_eq]; exact Int.le_refl _
    · rw [lp x hx', ep x hx']; exact I.i1 x hx'
  · rcases List.mem_cons.mp hx with rfl | hx'
    · exact ⟨x, List.mem_cons_self, by rw [up_eq, up_eq], .nil⟩
    · obtain ⟨w, hw, h1, h2⟩ := I.i2 x hx'
      exact ⟨w, List.mem_cons_of_mem _ hw, by rw [eo w hw, lp x hx']; exact h1, h2⟩
  · rcases List.mem_cons.mp hx with rfl | hx'
    · -- only the new node itself, none of whose edges was looked at
      rcases List.mem_cons.mp hv with rfl | hv'
      · rcases ht with ⟨_, q⟩ | ⟨q, _⟩
        · exact absurd rfl q
        · exact absurd (List.mem_of_mem_head? (by rw [q]; rfl)) np
      · rw [up_eq, eo v hv'] at le
        have := (oc v hv').2
        omega
    · rcases List.mem_cons.mp hv with rfl | hv'
      · have := hy v List.mem_cons_self (Int.le_refl _)
        rw [up_eq, ep x hx'] at this
        have := (oc x (I.e2 x hx')).2
        omega
      · rw [ep x hx', eo v hv'] at le
        have hxx := oc x (I.e2 x hx')
        have li := I.i1 x hx'
        rw [lp x hx']
        rcases ht with ⟨q, _⟩ | ⟨_, q⟩
        · have := I.j x hx' v hv' le (fun y hy' le' => by
            have := hy y (List.mem_cons_of_mem _ hy') (by rw [ep y hy', eo v hv']; exact le')
            rw [ep y hy', ep x hx'] at this
            exact this) t q
          have tn : t ≠ n := fun e => by rw [e] at this; omega
          rw [up_ne tn]; exact this
        · rw [q, up_eq]
          exact ⟨c0, .inr (by omega)⟩
  · have hvn : v ≠ n := fun e => hnp (by rw [e]; exact List.mem_cons_self)
    rcases List.mem_cons.mp hv with q | hv'
    · exact absurd q hvn
    · exact .inl ⟨I.l v hv' (fun q => hnp (List.mem_cons_of_mem _ q)) t ht, hvn⟩
/-- an edge of the newest node that leads to a node that was entered before -/
theorem TInv.look {p : Nat} {rest : List Nat} (I : TInv M ent low cmp total clock (p :: rest) opn Pr) {t : Nat} (hE : Ed M p t) (ht : 0 ≤ ent t) :
    TInv M ent (if cmp t < 0 then up low p (min (low p) (ent t)) else low) cmp total clock (p :: rest) opn (fun v u => Pr v u ∨ v = p ∧ u = t) := by
  have hp : p ∈ p :: rest := List.mem_cons_self
  have np : ∀ x ∈ rest, x ≠ p := fun x hx e => by
    have := (List.pairwise_cons.mp I.e).1 x hx
    rw [e] at this; omega
  have ptop : ∀ x ∈ p :: rest, ent x ≤ ent p := fun x hx => by
    rcases List.mem_cons.mp hx with rfl | q
    · exact Int.le_refl _
    · exact Int.le_of_lt ((List.pairwise_cons.mp I.e).1 x q)
  obtain ⟨low', hl⟩ : ∃ l, l = (if cmp t < 0 then up low p (min (low p) (ent t)) else low) := ⟨_, rfl⟩
  rw [← hl]
  have le' : ∀ x, low' x ≤ low x := fun x => by
    rw [hl]
    split
    · by_cases q : x = p
      · rw [q, up_eq]; omega
      · rw [up_ne q]; exact Int.le_refl _
    · exact Int.le_refl _
  refine ⟨I.c0, I.t0, I.a, I.b, I.c, I.d, I.e, I.e2, I.f1, I.f2, I.g, I.h, fun x hx => Int.le_trans (le' x) (I.i1 x hx), fun x hx => ?_, fun x hx v hv le hy u hu => ?_, I.k, fun v hv hnp u hu => .inl (I.l v hv hnp u hu)⟩
  · by_cases c : cmp t < 0
    · rw [if_pos c] at hl
      by_cases q : x = p
      · subst q
        rw [hl, up_eq]
        rcases Int.le_total (low x) (ent t) with z | z
        · rw [Int.min_eq_left z]; exact I.i2 x hx
        · rw [Int.min_eq_right z]
          exact ⟨t, (I.c t).mpr ⟨ht, c⟩, rfl, .step hE .nil⟩
      · rw [hl, up_ne q]; exact I.i2 x hx
    · rw [if_neg c] at hl
      rw [hl]; exact I.i2 x hx
  · rcases hu with hu | ⟨rfl, rfl⟩
    · obtain ⟨h1, h2⟩ := I.j x hx v hv le hy u hu
      exact ⟨h1, h2.imp id fun z => Int.le_trans (le' x) z⟩
    · refine ⟨ht, ?_⟩
      rcases Int.lt_or_le (cmp u) 0 with c | c
      · rw [if_pos c] at hl
        have : v = x := by
          have h1 := hy v hp (Int.le_refl _)
          have h2 := ptop x hx
          exact I.b v x ((I.c v).mp hv).1 (by omega)
        subst this
        rw [hl, up_eq]
        exact .inr (by omega)
      · exact .inl c
theorem TInv.top {p : Nat} {rest : List Nat} (I : TInv M ent low cmp total clock (p :: rest) opn Pr) : ∀ x ∈ p :: rest, ent x ≤ ent p := fun x hx => by
  rcases List.mem_cons.mp hx with rfl | q
  · exact Int.le_refl _
  · exact Int.le_of_lt ((List.pairwise_cons.mp I.e).1 x q)
/-- the newest node is done, and something older is reached from it -/
theorem TInv.leave1 {u : Nat} {rest : List Nat} (I : TInv M ent low cmp total clock (u :: rest) opn Pr) (hall : ∀ t, Ed M u t → Pr u t) (hne : low u ≠ ent u) :
    ∃ p r, rest = p :: r ∧ TInv M ent (up low p (min (low p) (low u))) cmp total clock (p :: r) opn Pr := by
  have hu : u ∈ u :: rest := List.mem_cons_self
  have hlt : low u < ent u := by have := I.i1 u hu; omega
  obtain ⟨w, hw, w1, w2⟩ := I.i2 u hu
  obtain ⟨x0, hx0, x1, x2, x3⟩ := I.h w hw
  have hx0r : x0 ∈ rest := by
    rcases List.mem_cons.mp hx0 with rfl | q
    · omega
    · exact q
  cases rest with
  | nil => cases hx0r
  | cons p r =>
    have hp : p ∈ u :: p :: r := List.mem_cons_of_mem _ List.mem_cons_self
    have ee := List.pairwise_cons.mp I.e
    have pu : ent p < ent u := ee.1 p List.mem_cons_self
    have ptop : ∀ x ∈ p :: r, ent x ≤ ent p := fun x hx => by
      rcases List.mem_cons.mp hx with rfl | q
      · exact Int.le_refl _
      · exact Int.le_of_lt ((List.pairwise_cons.mp ee.2).1 x q)
    have wp : Wk M u p := w2.trans (x3.trans (I.g x0 hx0 p (I.e2 p hp) (ptop x0 hx0r)))
    have le' : ∀ x, up low p (min (low p) (low u)) x ≤ low x := fun x => by
      by_cases q : x = p
      · rw [q, up_eq]; omega
      · rw [up_ne q]; exact Int.le_refl _
    refine ⟨p, r, rfl, I.c0, I.t0, I.a, I.b, I.c, I.d, ee.2, fun x hx => I.e2 x (List.mem_cons_of_mem _ hx), I.f1, I.f2, fun x hx => I.g x (List.mem_cons_of_mem _ hx), fun v hv => ?_, fun x hx => Int.le_trans (le' x) (I.i1 x (List.mem_cons_of_mem _ hx)), fun x hx => ?_, fun x hx v hv le hy t ht => ?_, I.k, fun v hv hnp t ht => ?_⟩
    · obtain ⟨x, hx, h1, h2, h3⟩ := I.h v hv
      rcases List.mem_cons.mp hx with rfl | hx'
      · exact ⟨p, List.mem_cons_self, by omega, fun y hy _ => ptop y hy, h3.trans wp⟩
      · exact ⟨x, hx', h1, fun y hy => h2 y (List.mem_cons_of_mem _ hy), h3⟩
    · by_cases q : x = p
      · subst q
        rw [up_eq]
        rcases Int.le_total (low x) (low u) with z | z
        · rw [Int.min_eq_left z]; exact I.i2 x hp
        · rw [Int.min_eq_right z]
          exact ⟨w, hw, w1, (I.g x hp u (I.e2 u hu) (Int.le_of_lt pu)).trans w2⟩
      · rw [up_ne q]; exact I.i2 x (List.mem_cons_of_mem _ hx)
    · rcases Int.lt_or_le (ent v) (ent u) with c | c
      · obtain ⟨h1, h2⟩ := I.j x (List.mem_cons_of_mem _ hx) v hv le (fun y hyy le2 => by
          rcases List.mem_cons.mp hyy with rfl | q
          · omega
          · exact hy y q le2) t ht
        exact ⟨h1, h2.imp id fun z => Int.le_trans (le' x) z⟩
      · obtain ⟨h1, h2⟩ := I.j u hu v hv c (fun y hyy _ => I.top y hyy) t ht
        have e : x = p := by
          have q1 := hy p List.mem_cons_self (by omega)
          have q2 := ptop x hx
          exact I.b x p ((I.c x).mp (I.e2 x (List.mem_cons_of_mem _ hx))).1 (by omega)
        subst e
        rw [up_eq]
        exact ⟨h1, h2.imp id fun z => by omega⟩
    · by_cases q : v = u
      · subst q; exact hall t ht
      · exact I.l v hv (fun z => by
          rcases List.mem_cons.mp z with z | z
          · exact q z
          · exact hnp z) t ht
/-- what is closed leads to what is closed -/
theorem TInv.clos (I : TInv M ent low cmp total clock pn opn Pr) {v w : Nat} (h : Wk M v w) (c : 0 ≤ cmp v) : 0 ≤ cmp w := by
  induction h with
  | nil => exact c
  | step e _ ih => exact ih (I.f2 _ _ c e)
/-- the newest node is done, and nothing older is reached from it: it and all newer open nodes are a component -/
theorem TInv.leave2 {u : Nat} {rest l1 l2 : List Nat} (I : TInv M ent low cmp total clock (u :: rest) opn Pr) (hall : ∀ t, Ed M u t → Pr u t) (heq : low u = ent u) (hsp : opn = l1 ++ u :: l2) :
    TInv M ent low (fun v => if v ∈ l1 ∨ v = u then total else cmp v) (total + 1) clock rest l2 Pr ∧ ∀ p ∈ rest, min (low p) (low u) = low p := by
  have hu : u ∈ u :: rest := List.mem_cons_self
  have uo := I.e2 u hu
  have dd := I.d
  rw [hsp] at dd
  obtain ⟨d1, d2, d3⟩ := List.pairwise_append.mp dd
  obtain ⟨d4, d5⟩ := List.pairwise_cons.mp d2
  have g1 : ∀ v ∈ l1, ent u < ent v := fun v hv => d3 v hv u List.mem_cons_self
  have g2 : ∀ v ∈ l2, ent v < ent u := d4
  have o1 : ∀ v ∈ l1, v ∈ opn := fun v hv => by rw [hsp]; exact List.mem_append_left _ hv
  have o2 : ∀ v ∈ l2, v ∈ opn := fun v hv => by rw [hsp]; exact List.mem_append_right _ (List.mem_cons_of_mem _ hv)
  have cc : ∀ v, (v ∈ l1 ∨ v = u) ↔ v ∈ opn ∧ ent u ≤ ent v := fun v => by
    constructor
    · rintro (h | rfl)
      · exact ⟨o1 v h, Int.le_of_lt (g1 v h)⟩
      · exact ⟨uo, Int.le_refl _⟩
    · rintro ⟨h1, h2⟩
      rw [hsp] at h1
      rcases List.mem_append.mp h1 with q | q
      · exact .inl q
      · rcases List.mem_cons.mp q with q | q
        · exact .inr q
        · have := g2 v q; omega
  have in2 : ∀ v, v ∈ opn → ent v < ent u → v ∈ l2 := fun v h1 h2 => by
    rw [hsp] at h1
    rcases List.mem_append.mp h1 with q | q
    · have := g1 v q; omega
    · rcases List.mem_cons.mp q with q | q
      · rw [q] at h2; omega
      · exact q
  have t0 := I.t0
  have er : ∀ x ∈ rest, ent x < ent u := (List.pairwise_cons.mp I.e).1
  have cC : ∀ v, (v ∈ l1 ∨ v = u) → (if v ∈ l1 ∨ v = u then total else cmp v) = total := fun v h => if_pos h
  have cN : ∀ v, ¬ (v ∈ l1 ∨ v = u) → (if v ∈ l1 ∨ v = u then total else cmp v) = cmp v := fun v h => if_neg h
  have cpos : ∀ v, 0 ≤ cmp v → 0 ≤ (if v ∈ l1 ∨ v = u then total else cmp v) := fun v h => by
    split
    · exact t0
    · exact h
  -- from the component to its head and back
  have toU : ∀ v, (v ∈ l1 ∨ v = u) → Wk M v u ∧ Wk M u v := fun v h => by
    obtain ⟨h1, h2⟩ := (cc v).mp h
    obtain ⟨x, hx, x1, x2, x3⟩ := I.h v h1
    have q1 := x2 u hu h2
    have q2 := I.top x hx
    have e : x = u := I.b x u ((I.c x).mp (I.e2 x hx)).1 (by omega)
    rw [e] at x3
    exact ⟨x3, I.g u hu v h1 h2⟩
  refine ⟨⟨I.c0, by omega, I.a, I.b, fun v => ?_, d5, (List.pairwise_cons.mp I.e).2, fun x hx => in2 x (I.e2 x (List.mem_cons_of_mem _ hx)) (er x hx), fun v hv => ?_, fun v t hv ht => ?_, fun x hx v hv => I.g x (List.mem_cons_of_mem _ hx) v (o2 v hv), fun v hv => ?_, fun x hx => I.i1 x (List.mem_cons_of_mem _ hx), fun x hx => ?_, fun x hx v hv le hy t ht => ?_, fun v w hv hw => ?_, fun v hv hnp t ht => ?_⟩, fun p hp => ?_⟩
  · constructor
    · intro hv
      have h := (I.c v).mp (o2 v hv)
      rw [cN v (fun q => by have := ((cc v).mp q).2; have := g2 v hv; omega)]
      exact h
    · rintro ⟨h1, h2⟩
      by_cases q : v ∈ l1 ∨ v = u
      · rw [cC v q] at h2; omega
      · rw [cN v q] at h2
        have ho := (I.c v).mpr ⟨h1, h2⟩
        rcases Int.lt_or_le (ent v) (ent u) with z | z
        · exact in2 v ho z
        · exact absurd ((cc v).mpr ⟨ho, z⟩) q
  · by_cases q : v ∈ l1 ∨ v = u
    · rw [cC v q]
      exact ⟨((I.c v).mp ((cc v).mp q).1).1, by omega⟩
    · rw [cN v q] at hv ⊢
      have := I.f1 v hv
      exact ⟨this.1, by omega⟩
  · by_cases q : v ∈ l1 ∨ v = u
    · obtain ⟨h1, h2⟩ := (cc v).mp q
      have pr : Pr v t := by
        by_cases e : v = u
        · subst e; exact hall t ht
        · refine I.l v h1 (fun z => ?_) t ht
          rcases List.mem_cons.mp z with z | z
          · exact e z
          · have := er v z; omega
      obtain ⟨h3, h4⟩ := I.j u hu v h1 h2 (fun y hy _ => I.top y hy) t pr
      rcases h4 with h4 | h4
      · exact cpos t h4
      · by_cases z : 0 ≤ cmp t
        · exact cpos t z
        · rw [cC t ((cc t).mpr ⟨(I.c t).mpr ⟨h3, by omega⟩, by omega⟩)]
          exact t0
    · rw [cN v q] at hv
      exact cpos t (I.f2 v t hv ht)
  · obtain ⟨x, hx, h1, h2, h3⟩ := I.h v (o2 v hv)
    have := g2 v hv
    rcases List.mem_cons.mp hx with rfl | hx'
    · omega
    · exact ⟨x, hx', h1, fun y hy => h2 y (List.mem_cons_of_mem _ hy), h3⟩
  · obtain ⟨w, hw, h1, h2⟩ := I.i2 x (List.mem_cons_of_mem _ hx)
    have := I.i1 x (List.mem_cons_of_mem _ hx)
    have := er x hx
    exact ⟨w, in2 w hw (by omega), h1, h2⟩
  · have := g2 v hv
    obtain ⟨h1, h2⟩ := I.j x (List.mem_cons_of_mem _ hx) v (o2 v hv) le (fun y hyy le2 => by
      rcases List.mem_cons.mp hyy with rfl | q
      · omega
      · exact hy y q le2) t ht
    exact ⟨h1, h2.imp (cpos t) id⟩
  · by_cases q : v ∈ l1 ∨ v = u
    · by_cases q2 : w ∈ l1 ∨ w = u
      · rw [cC v q, cC w q2]
        exact ⟨fun _ => ⟨(toU v q).1.trans (toU w q2).2, (toU w q2).1.trans (toU v q).2⟩, fun _ => rfl⟩
      · rw [cC v q, cN w q2]
        rw [cN w q2] at hw
        have h1 := (I.f1 w hw).2
        have h2 := ((I.c v).mp ((cc v).mp q).1).2
        exact ⟨fun e => by omega, fun ⟨_, e⟩ => by have := I.clos e hw; omega⟩
    · rw [cN v q] at hv
      by_cases q2 : w ∈ l1 ∨ w = u
      · rw [cN v q, cC w q2]
        have h1 := (I.f1 v hv).2
        have h2 := ((I.c w).mp ((cc w).mp q2).1).2
        exact ⟨fun e => by omega, fun ⟨e, _⟩ => by have := I.clos e hv; omega⟩
      · rw [cN v q, cN w q2]
        rw [cN w q2] at hw
        exact I.k v w hv hw
  · refine I.l v (o2 v hv) (fun z => ?_) t ht
    rcases List.mem_cons.mp z with rfl | z
    · have := g2 v hv; omega
    · exact hnp z
  · have h1 := I.i1 p (List.mem_cons_of_mem _ hp)
    have h2 := er p hp
    rw [heq]
    omega
/-- at the end of a root nothing is open; at the end of all, the numbers tell the components -/
theorem TInv.empty (I : TInv M ent low cmp total clock [] opn Pr) : opn = [] := by
  cases e : opn with
  | nil => rfl
  | cons v l =>
    obtain ⟨x, hx, _⟩ := I.h v (by rw [e]; exact List.mem_cons_self)
    cases hx
theorem TInv.final (I : TInv M ent low cmp total clock [] opn Pr) (hall : ∀ v, v < M.length → 0 ≤ ent v) {v w : Nat} (hv : v < M.length) (hw : w < M.length) : cmp v = cmp w ↔ Wk M v w ∧ Wk M w v := by
  have cl : ∀ v, v < M.length → 0 ≤ cmp v := fun v h => by
    rcases Int.lt_or_le (cmp v) 0 with q | q
    · have := (I.c v).mpr ⟨hall v h, q⟩
      rw [I.empty] at this
      cases this
    · exact q
  exact I.k v w (cl v hv) (cl w hw)
end
end SL

set_option Elab.async false
set_option linter.all false
set_option maxRecDepth 100000
set_option maxHeartbeats 4000000
namespace L2
open PySem PySem.Spec PyProof.Rows
/-- a list at a place, for l[i] += .. -/
def rGetP (K : PySem.W.Frag) : V → V → Hp → VK → Prop := fun x y H Q => ∃ p xs i v, x = .ref p ∧ y = .int i ∧ 0 ≤ i ∧ SqL K H p xs ∧ atI xs i = some v ∧ Q v H
theorem gt_list {X : Cx} : PGet X (rGetP X.K) := by
  intro pins s σ H o i ov iv Q I rx ry h
  obtain ⟨p, xs, i, z, rfl, rfl, h0, hq, he, q⟩ := h
  cases rx
  obtain ⟨t, rfl⟩ := ry
  obtain ⟨its, r, pl, hz⟩ := I.list hq
  obtain ⟨j, h1, h2, h3, h4, h5⟩ := atI_get he
  obtain ⟨w, ew, rw'⟩ := r.get h2
  have hl := r.length
  have hn := line63
  have fin : EP X pins σ Q w s := ⟨z, H, I, rw', q⟩
  have hj : i.toNat = j := by
    rw [seqIndex_of h0 h5] at h1
    exact Option.some.inj h1
  exact wpAny_getItem_list pl.isList h0 (by omega) (by rw [hj]; simpa using ew) fin
end L2
namespace SL
open PySem L2
section

set_option hygiene false
local macro_rules | `(tactic| walk_at "m") => `(tactic| first | exact List.Mem.head _ | (refine List.Mem.tail _ ?_; walk_at "m"))
local macro_rules | `(tactic| walk_at "u") => `(tactic| first | exact Upd.head | (apply Upd.tail; walk_at "u"))
local macro_rules | `(tactic| walk_at "tk") => `(tactic| first | exact Tak.head | (apply Tak.tail; walk_at "tk"))
local macro_rules | `(tactic| walk_at "l") => `(tactic| first | assumption | exact lS (St.fh (by assumption)) (by assumption) | exact SqL.of (St.get (by assumption) (by walk_at "m")))
local macro_rules | `(tactic| walk_at "t") => `(tactic| first | assumption | exact tS (St.fh (by assumption)) (by assumption) | exact SqT.of (St.get (by assumption) (by walk_at "m")))
local macro_rules | `(tactic| walk_at "lt") => `(tactic| first | exact .inl (by walk_at "l") | exact .inr (by walk_at "t"))
local macro_rules | `(tactic| walk_at "sz") => `(tactic| first | (show _ ≤ sizeLine; decide) | exact sz (by simp) | exact szl (by simp) | exact sz (by omega) | exact szl (by omega) | exact sz (by simp; omega) | exact szl (by simp; omega))
local macro_rules | `(tactic| walk_at "c") => `(tactic| first | assumption | decide | omega)
local macro_rules | `(tactic| walk_at "g1") => `(tactic| with_reducible first
  | refine w_seq ?_ | refine w_asg ?_ | refine w_c ?_ | refine w_op ?_
  | refine r_I0 ?_ | refine w_test ?_ | refine r_b ?_ | refine w_if ?_ | refine w_cons ?_ | refine w_nil ?_
  | refine w_ret ?_ | refine w_drop ?_ | refine w_cb ?_ | refine w_call ?_ | refine w_next ?_ | refine w_tup ?_ | refine w_lst ?_ | refine w_bm ?_ | refine w_bm0 ?_
  | refine w_and ?_ | refine w_or ?_ | refine w_not ?_ | refine w_andV ?_ | refine w_orV ?_ | refine w_notV ?_ | refine w_tB ?_ | refine w_un ?_ | refine r_U ?_
  | refine w_for ?_ | refine w_iL ?_ | refine w_iT ?_ | refine w_i1 ?_ | refine w_i2 ?_ | refine w_sl ?_ | refine w_part ?_ | refine w_nopart ?_ | refine r_part ?_
  | refine r_eqI ?_ | refine r_neI ?_ | refine r_eqS ?_ | refine r_neS ?_ | refine r_eqB ?_ | refine r_neB ?_ | refine r_ifT ?_ | refine r_ifF ?_ | refine r_ifNt ?_ | refine r_ifNf ?_ | refine r_ifRN ?_ | refine r_ifNRN ?_ | refine r_ifNN ?_ | refine r_ifNNN ?_
  | refine w_ifE ?_ | refine r_int1 ?_ | refine r_int1b ?_ | refine r_isnone ?_ | refine r_notnone ?_ | refine r_max2 ?_ | refine r_min2 ?_ | refine r_ipI ?_ | refine w_tru ?_ | refine w_rs ?_
  | refine w_retN ?_ | refine w_break ?_ | refine w_cont ?_ | refine w_callS ?_ | refine w_asgG ?_ | refine w_gsub ?_ | refine w_fld ?_ | refine w_sfld ?_ | refine w_mk ?_ | refine w_lc ?_ | refine w_iSq ?_ | refine u_isint ?_ | refine w_dnew ?_ | refine w_dnotin ?_ | refine w_din ?_ | refine w_dget ?_ | refine w_dput ?_ | refine w_ckw ?_)
local macro_rules | `(tactic| walk_at "g2") => `(tactic| first
  | ((with_reducible refine' w_var ?hv ?_); (case hv => rfl)) | ((with_reducible refine' w_aug ?hv ?_); (case hv => rfl))
  | ((with_reducible show rLen _ _ _ _); refine r_len (by walk_at "lt") ?_)
  | (with_reducible refine r_I ?cnd ?_; (case cnd => first | decide | omega | assumption | (unfold CPow; decide)))
  | ((with_reducible show RTy _ _ _ _ _); refine r_tyL (by walk_at "l") ?_)
  | (with_reducible refine r_ifDT (by walk_at "c") ?_) | (with_reducible refine r_ifDF (by walk_at "c") ?_)
  | (with_reducible refine r_ifNT (by walk_at "c") ?_) | (with_reducible refine r_ifNF (by walk_at "c") ?_))
local macro_rules | `(tactic| walk_at "go") => `(tactic| repeat (first | walk_at "g1" | walk_at "g2"))

variable {n b c : L2.St → Hp → Prop} {r : VK} {σ : L2.St} {H H' : Hp} {Q : VK} {K : PySem.W.Frag} {E : En} {F F' : Hp} {L L' L1 : Led} {p a : Addr} {xs ys : List V} {ns ms : List Int} {o : HO} {te : TE} {v : V}
theorem w_augS {to ti te : TE} {tget : V → V → Hp → VK → Prop} {tip : TIp} {tset : TSet} {D : Ends} (h : to σ H fun o H1 => ti σ H1 fun i H2 => tget o i H2 fun x H3 => te σ H3 fun y H4 => tip x y H4 fun z H5 => tset o i z H5 fun H6 => D.nx σ H6) : tAugS to ti te tget tip tset D σ H := h
theorem r_getP {i : Int} (h : SqL K H p xs) (h0 : 0 ≤ i) (ha : atI xs i = some v) (q : Q v H) : rGetP K (.ref p) (.int i) H Q := ⟨p, xs, i, v, rfl, rfl, h0, h, ha, q⟩
end
end SL

set_option Elab.async false
set_option linter.all false
set_option maxRecDepth 100000
set_option maxHeartbeats 4000000
namespace SL
open PySem L2
def fn (d : Int) (l : List Int) : Nat → Int := fun v => l.getD v d
theorem fn_set {d x : Int} {l : List Int} {n : Nat} (h : n < l.length) : fn d (l.set n x) = up (fn d l) n x := by
  funext v
  unfold fn up
  rw [List.getD_eq_getElem?_getD, List.getElem?_set]
  by_cases e : v = n
  · subst e; rw [if_pos rfl, if_pos h, if_pos rfl]; rfl
  · rw [if_neg (fun q => e q.symm), if_neg e]
    show _ = l.getD v d
    rw [List.getD_eq_getElem?_getD]
def sumR (f : Nat → Nat) : Nat → Nat
  | 0 => 0
  | n + 1 => sumR f n + f n
theorem sumR_same {f g : Nat → Nat} : ∀ {n : Nat}, (∀ v, v < n → f v = g v) → sumR f n = sumR g n
  | 0, _ => rfl
  | n + 1, h => by
    show sumR f n + f n = sumR g n + g n
    rw [sumR_same fun v hv => h v (by omega), h n (by omega)]
theorem sumR_one {f g : Nat → Nat} {k : Nat} (h : ∀ v, v ≠ k → f v = g v) : ∀ {n : Nat}, k < n → sumR f n + g k = sumR g n + f k
  | 0, q => absurd q (by omega)
  | n + 1, q => by
    show sumR f n + f n + g k = sumR g n + g n + f k
    by_cases e : k = n
    · subst e
      rw [sumR_same fun v hv => h v (by omega)]
      omega
    · have := sumR_one h (n := n) (by omega)
      rw [h n (fun z => e z.symm)]
      omega
def deg (M : List (List Int)) (v : Nat) : Nat := (M.getD v []).length
/-- how much is left to do -/
def mu (M : List (List Int)) (ent : Nat → Int) (path : List (Nat × Nat)) : Nat := sumR (fun v => if ent v < 0 then deg M v + 2 else 0) M.length + (path.map fun y => deg M y.1 - y.2 + 1).sum
theorem mu_enter {M : List (List Int)} {ent : Nat → Int} {n : Nat} {c : Int} (hn : ent n < 0) (hc : 0 ≤ c) (hM : n < M.length) : sumR (fun v => if up ent n c v < 0 then deg M v + 2 else 0) M.length + (deg M n + 2) = sumR (fun v => if ent v < 0 then deg M v + 2 else 0) M.length := by
  have := sumR_one (f := fun v => if up ent n c v < 0 then deg M v + 2 else 0) (g := fun v => if ent v < 0 then deg M v + 2 else 0) (k := n) (fun v hv => by
    show (if up ent n c v < 0 then deg M v + 2 else 0) = _
    rw [up_ne hv]) hM
  simp only [up_eq] at this
  rw [if_pos hn, if_neg (by omega)] at this
  omega
theorem TInv.few {M : List (List Int)} {ent low cmp : Nat → Int} {total clock : Int} {pn opn : List Nat} {Pr : Nat → Nat → Prop} (I : TInv M ent low cmp total clock pn opn Pr) : opn.length ≤ M.length ∧ pn.length ≤ M.length ∧ opn.Nodup ∧ pn.Nodup ∧ (∀ v ∈ opn, v < M.length) ∧ ∀ v ∈ pn, v < M.length := by
  have h1 : opn.Nodup := I.d.imp fun {a b} h e => by rw [e] at h; omega
  have h2 : pn.Nodup := I.e.imp fun {a b} h e => by rw [e] at h; omega
  have b1 : ∀ v ∈ opn, v < M.length := fun v hv => (I.a v ((I.c v).mp hv).1).1
  have b2 : ∀ v ∈ pn, v < M.length := fun v hv => b1 v (I.e2 v hv)
  have few : ∀ l : List Nat, l.Nodup → (∀ v ∈ l, v < M.length) → l.length ≤ M.length := fun l hl hb => by
    have := nodup_few (n := M.length) (l := l.map fun (v : Nat) => (v : Int)) (by
      unfold List.Nodup at *
      rw [List.pairwise_map]
      exact hl.imp fun {a b} h e => h (by omega)) (fun x hx => by
      obtain ⟨v, hv, rfl⟩ := List.mem_map.mp hx
      have := hb v hv
      omega)
    rw [List.length_map] at this
    exact this
  exact ⟨few _ h1 b1, few _ h2 b2, h1, h2, b1, b2⟩
end SL

set_option Elab.async false
set_option linter.all false
set_option maxRecDepth 100000
set_option maxHeartbeats 4000000
namespace UL
open PySem SL
open L2 hiding rLen
/-! data: what a value stands for; o = true: owned -/
inductive Stp where
  | fld (f : Str) | idx (n : Nat)
inductive D where
  | non | bl (b : Bool) | int (i : Int) | str (s : Str) | ty (n : String) | raw (a : Addr)
  | lst (o : Bool) (xs : List D) | tup (xs : List D) | rt (xs : List D) | sl (xs : List D) | nst (xs : List D)
  | ins (o : Bool) (C : Addr) (ns : List Str) (xs : List D)
  | dk (o : Bool) (ks : List Key) (xs : List D) | dt (o : Bool) (ks : List (List Key)) (xs : List D)
  | ow (i : Nat) (p : List Stp)
mutual
/-- nothing is owned any more -/
def fz : D → D
  | .lst true xs => .lst false xs
  | .nst xs => .lst false (fzL xs)
  | .ins true C ns xs => .ins false C ns (fzL xs)
  | .dk true ks xs => .dk false ks xs
  | .dt true ks xs => .dt false ks xs
  | d => d
def fzL : List D → List D
  | [] => []
  | x :: xs => fz x :: fzL xs
end
theorem fzL_map : ∀ {xs : List D}, fzL xs = xs.map fz
  | [] => rfl
  | x :: xs => by rw [fzL, fzL_map (xs := xs)]; rfl
abbrev Led' := Led
mutual
def Own (K : PySem.W.Frag) (F : Hp) : D → V → Led → Prop
  | .non, v, L => v = .non ∧ L = []
  | .bl b, v, L => v = .bl b ∧ L = []
  | .int i, v, L => v = .int i ∧ L = []
  | .str s, v, L => v = .str s ∧ L = []
  | .ty n, v, L => v = .ty n ∧ L = []
  | .raw a, v, L => v = .ref a ∧ L = []
  | .nst xs, v, L => ∃ a vs L', v = .ref a ∧ L = (a, .lst vs) :: L' ∧ OwnL K F xs vs L'
  | .lst true xs, v, L => ∃ a vs, v = .ref a ∧ L = [(a, .lst vs)] ∧ OwnL K F xs vs []
  | .lst false xs, v, L => ∃ a vs, v = .ref a ∧ L = [] ∧ F a = some (.lst vs) ∧ OwnL K F xs vs []
  | .tup xs, v, L => ∃ a vs, v = .ref a ∧ L = [] ∧ SqT K F a vs ∧ OwnL K F xs vs []
  | .sl xs, v, L => ∃ a vs, v = .ref a ∧ L = [] ∧ SqL K F a vs ∧ OwnL K F xs vs []
  | .rt xs, v, L => ∃ a vs, v = .ref a ∧ L = [] ∧ F a = some (.tup vs) ∧ OwnL K F xs vs []
  | .ins true C ns xs, v, L => ∃ a dx vs L', v = .ref a ∧ L = (a, .ins C dx (ns.zip vs)) :: (dx, .own a) :: L' ∧ ns.length = vs.length ∧ OwnL K F xs vs L'
  | .ins false C ns xs, v, L => ∃ a dx vs, v = .ref a ∧ L = [] ∧ F a = some (.ins C dx (ns.zip vs)) ∧ ns.length = vs.length ∧ OwnL K F xs vs []
  | .dk true ks xs, v, L => ∃ a vs, v = .ref a ∧ L = [(a, .dK (ks.zip vs))] ∧ ks.length = vs.length ∧ OwnL K F xs vs []
  | .dk false ks xs, v, L => ∃ a vs, v = .ref a ∧ L = [] ∧ F a = some (.dK (ks.zip vs)) ∧ ks.length = vs.length ∧ OwnL K F xs vs []
  | .dt true ks xs, v, L => ∃ a vs, v = .ref a ∧ L = [(a, .dT (ks.zip vs))] ∧ ks.length = vs.length ∧ OwnL K F xs vs []
  | .dt false ks xs, v, L => ∃ a vs, v = .ref a ∧ L = [] ∧ F a = some (.dT (ks.zip vs)) ∧ ks.length = vs.length ∧ OwnL K F xs vs []
  | .ow _ _, _, _ => False
def OwnL (K : PySem.W.Frag) (F : Hp) : List D → List V → Led → Prop
  | [], vs, L => vs = [] ∧ L = []
  | d :: ds, vs, L => ∃ v vs' L1 L2, vs = v :: vs' ∧ L = L1 ++ L2 ∧ Own K F d v L1 ∧ OwnL K F ds vs' L2
end
section
variable {K : PySem.W.Frag} {F F' H H' : Hp} {E : En} {L L0 L1 : Led} {v : V} {vs : List V} {d : D} {ds xs : List D}
mutual
theorem Own.mono (e : Same F F') : ∀ (d : D) (v : V) (L : Led), Own K F d v L → Own K F' d v L
  | .non, _, _, h => h
  | .bl _, _, _, h => h
  | .int _, _, _, h => h
  | .str _, _, _, h => h
  | .ty _, _, _, h => h
  | .raw _, _, _, h => h
  | .nst xs, v, L, h => by
    rw [Own] at h ⊢
    obtain ⟨a, vs, L', h1, h2, h3⟩ := h
    exact ⟨a, vs, L', h1, h2, OwnL.mono e xs vs L' h3⟩
  | .lst true xs, v, L, h => by
    rw [Own] at h ⊢
    obtain ⟨a, vs, h1, h2, h3⟩ := h
    exact ⟨a, vs, h1, h2, OwnL.mono e xs vs [] h3⟩
  | .lst false xs, v, L, h => by
    rw [Own] at h ⊢
    obtain ⟨a, vs, h1, h2, h3, h4⟩ := h
    exact ⟨a, vs, h1, h2, e _ _ h3, OwnL.mono e xs vs [] h4⟩
  | .tup xs, v, L, h => by
    rw [Own] at h ⊢
    obtain ⟨a, vs, h1, h2, h3, h4⟩ := h
    exact ⟨a, vs, h1, h2, tS e h3, OwnL.mono e xs vs [] h4⟩
  | .sl xs, v, L, h => by
    rw [Own] at h ⊢
    obtain ⟨a, vs, h1, h2, h3, h4⟩ := h
    exact ⟨a, vs, h1, h2, lS e h3, OwnL.mono e xs vs [] h4⟩
  | .rt xs, v, L, h => by
    rw [Own] at h ⊢
    obtain ⟨a, vs, h1, h2, h3, h4⟩ := h
    exact ⟨a, vs, h1, h2, e _ _ h3, OwnL.mono e xs vs [] h4⟩
  | .ins true C ns xs, v, L, h => by
    rw [Own] at h ⊢
    obtain ⟨a, dx, vs, L', h1, h2, h3, h4⟩ := h
    exact ⟨a, dx, vs, L', h1, h2, h3, OwnL.mono e xs vs L' h4⟩
  | .ins false C ns xs, v, L, h => by
    rw [Own] at h ⊢
    obtain ⟨a, dx, vs, h1, h2, h3, h4, h5⟩ := h
    exact ⟨a, dx, vs, h1, h2, e _ _ h3, h4, OwnL.mono e xs vs [] h5⟩
  | .dk true ks xs, v, L, h => by
    rw [Own] at h ⊢
    obtain ⟨a, vs, h1, h2, h3, h4⟩ := h
    exact ⟨a, vs, h1, h2, h3, OwnL.mono e xs vs [] h4⟩
  | .dk false ks xs, v, L, h => by
    rw [Own] at h ⊢
    obtain ⟨a, vs, h1, h2, h3, h4, h5⟩ := h
    exact ⟨a, vs, h1, h2, e _ _ h3, h4, OwnL.mono e xs vs [] h5⟩
  | .dt true ks xs, v, L, h => by
    rw [Own] at h ⊢
    obtain ⟨a, vs, h1, h2, h3, h4⟩ := h
    exact ⟨a, vs, h1, h2, h3, OwnL.mono e xs vs [] h4⟩
  | .dt false ks xs, v, L, h => by
    rw [Own] at h ⊢
    obtain ⟨a, vs, h1, h2, h3, h4, h5⟩ := h
    exact ⟨a, vs, h1, h2, e _ _ h3, h4, OwnL.mono e xs vs [] h5⟩
  | .ow _ _, _, _, h => h
theorem OwnL.mono (e : Same F F') : ∀ (ds : List D) (vs : List V) (L : Led), OwnL K F ds vs L → OwnL K F' ds vs L
  | [], _, _, h => h
  | d :: ds, vs, L, h => by
    rw [OwnL] at h ⊢
    obtain ⟨v, vs', L1, L2, h1, h2, h3, h4⟩ := h
    exact ⟨v, vs', L1, L2, h1, h2, Own.mono e d v L1 h3, OwnL.mono e ds vs' L2 h4⟩
end
mutual
/-- all owned parts stand in F' -/
theorem Own.frz (e : Same F F') : ∀ (d : D) (v : V) (L : Led), (∀ x ∈ L, F' x.1 = some x.2) → Own K F d v L → Own K F' (fz d) v []
  | .non, _, _, _, h => ⟨h.1, rfl⟩
  | .bl _, _, _, _, h => ⟨h.1, rfl⟩
  | .int _, _, _, _, h => ⟨h.1, rfl⟩
  | .str _, _, _, _, h => ⟨h.1, rfl⟩
  | .ty _, _, _, _, h => ⟨h.1, rfl⟩
  | .raw _, _, _, _, h => ⟨h.1, rfl⟩
  | .nst xs, v, L, hl, h => by
    rw [Own] at h
    rw [fz, Own]
    obtain ⟨a, vs, L', h1, rfl, h3⟩ := h
    exact ⟨a, vs, h1, rfl, hl _ List.mem_cons_self, OwnL.frz e xs vs L' (fun x hx => hl x (List.mem_cons_of_mem _ hx)) h3⟩
  | .lst true xs, v, L, hl, h => by
    rw [Own] at h
    rw [fz, Own]
    obtain ⟨a, vs, h1, rfl, h3⟩ := h
    exact ⟨a, vs, h1, rfl, hl _ List.mem_cons_self, OwnL.mono e xs vs [] h3⟩
  | .lst false xs, v, L, hl, h => by
    have q := Own.mono e _ _ _ h
    rw [Own] at q
    obtain ⟨a, vs, h1, h2, h3, h4⟩ := q
    exact ⟨a, vs, h1, rfl, h3, h4⟩
  | .tup xs, v, L, hl, h => by
    have q := Own.mono e _ _ _ h
    rw [Own] at q
    obtain ⟨a, vs, h1, h2, h3, h4⟩ := q
    exact ⟨a, vs, h1, rfl, h3, h4⟩
  | .sl xs, v, L, hl, h => by
    have q := Own.mono e _ _ _ h
    rw [Own] at q
    obtain ⟨a, vs, h1, h2, h3, h4⟩ := q
    exact ⟨a, vs, h1, rfl, h3, h4⟩
  | .rt xs, v, L, hl, h => by
    have q := Own.mono e _ _ _ h
    rw [Own] at q
    obtain ⟨a, vs, h1, h2, h3, h4⟩ := q
    exact ⟨a, vs, h1, rfl, h3, h4⟩
  | .ins true C ns xs, v, L, hl, h => by
    rw [Own] at h
    rw [fz, Own]
    obtain ⟨a, dx, vs, L', h1, rfl, h3, h4⟩ := h
    exact ⟨a, dx, vs, h1, rfl, hl _ List.mem_cons_self, h3, OwnL.frz e xs vs L' (fun x hx => hl x (List.mem_cons_of_mem _ (List.mem_cons_of_mem _ hx))) h4⟩
  | .ins false C ns xs, v, L, hl, h => by
    have q := Own.mono e _ _ _ h
    rw [Own] at q
    obtain ⟨a, dx, vs, h1, h2, h3, h4, h5⟩ := q
    exact ⟨a, dx, vs, h1, rfl, h3, h4, h5⟩
  | .dk true ks xs, v, L, hl, h => by
    rw [Own] at h
    rw [fz, Own]
    obtain ⟨a, vs, h1, rfl, h3, h4⟩ := h
    exact ⟨a, vs, h1, rfl, hl _ List.mem_cons_self, h3, OwnL.mono e xs vs [] h4⟩
  | .dk false ks xs, v, L, hl, h => by
    have q := Own.mono e _ _ _ h
    rw [Own] at q
    obtain ⟨a, vs, h1, h2, h3, h4, h5⟩ := q
    exact ⟨a, vs, h1, rfl, h3, h4, h5⟩
  | .dt true ks xs, v, L, hl, h => by
    rw [Own] at h
    rw [fz, Own]
    obtain ⟨a, vs, h1, rfl, h3, h4⟩ := h
    exact ⟨a, vs, h1, rfl, hl _ List.mem_cons_self, h3, OwnL.mono e xs vs [] h4⟩
  | .dt false ks xs, v, L, hl, h => by
    have q := Own.mono e _ _ _ h
    rw [Own] at q
    obtain ⟨a, vs, h1, h2, h3, h4, h5⟩ := q
    exact ⟨a, vs, h1, rfl, h3, h4, h5⟩
  | .ow _ _, _, _, _, h => False.elim (by rw [Own] at h; exact h)
theorem OwnL.frz (e : Same F F') : ∀ (ds : List D) (vs : List V) (L : Led), (∀ x ∈ L, F' x.1 = some x.2) → OwnL K F ds vs L → OwnL K F' (fzL ds) vs []
  | [], _, _, _, h => ⟨h.1, rfl⟩
  | d :: ds, vs, L, hl, h => by
    rw [OwnL] at h
    rw [fzL, OwnL]
    obtain ⟨v, vs', L1, L2, h1, rfl, h3, h4⟩ := h
    exact ⟨v, vs', [], [], h1, rfl, Own.frz e d v L1 (fun x hx => hl x (List.mem_append_left _ hx)) h3, OwnL.frz e ds vs' L2 (fun x hx => hl x (List.mem_append_right _ hx)) h4⟩
end
/-- the slots -/
def OwnE (K : PySem.W.Frag) (F : Hp) : List (Option D) → List (Option V) → Led → Prop
  | [], σ, L => σ = [] ∧ L = []
  | none :: sd, σ, L => ∃ x σ', σ = x :: σ' ∧ OwnE K F sd σ' L
  | some d :: sd, σ, L => ∃ v σ' L1 L2, σ = some v :: σ' ∧ L = L1 ++ L2 ∧ Own K F d v L1 ∧ OwnE K F sd σ' L2
theorem OwnE.mono (e : Same F F') : ∀ {sd : List (Option D)} {σ : List (Option V)} {L : Led}, OwnE K F sd σ L → OwnE K F' sd σ L
  | [], _, _, h => h
  | none :: sd, σ, L, h => by
    obtain ⟨x, σ', h1, h2⟩ := h
    exact ⟨x, σ', h1, h2.mono e⟩
  | some d :: sd, σ, L, h => by
    obtain ⟨v, σ', L1, L2, h1, h2, h3, h4⟩ := h
    exact ⟨v, σ', L1, L2, h1, h2, Own.mono e _ _ _ h3, h4.mono e⟩
theorem OwnE.len : ∀ {sd : List (Option D)} {σ : List (Option V)} {L : Led}, OwnE K F sd σ L → sd.length = σ.length
  | [], _, _, h => by simp [h.1]
  | none :: sd, σ, L, h => by
    obtain ⟨x, σ', rfl, h2⟩ := h
    simp [h2.len]
  | some d :: sd, σ, L, h => by
    obtain ⟨v, σ', L1, L2, rfl, h2, h3, h4⟩ := h
    simp [h4.len]
/-- one slot -/
theorem OwnE.at : ∀ {sd : List (Option D)} {σ : List (Option V)} {L : Led} {i : Nat} {d : D}, OwnE K F sd σ L → sd[i]? = some (some d) →
    ∃ v A L1 B, σ[i]? = some (some v) ∧ L = A ++ L1 ++ B ∧ Own K F d v L1 ∧
      ∀ {F' : Hp} {x : Option D} {y : Option V} {L2 : Led}, Same F F' → (match x with | none => L2 = [] | some d' => ∃ v', y = some v' ∧ Own K F' d' v' L2) → OwnE K F' (sd.set i x) (σ.set i y) (A ++ L2 ++ B)
  | [], _, _, i, _, _, hi => by simp at hi
  | none :: sd, σ, L, 0, d, h, hi => by simp at hi
  | none :: sd, σ, L, i + 1, d, h, hi => by
    obtain ⟨x, σ', rfl, h2⟩ := h
    obtain ⟨v, A, L1, B, e1, e2, e3, e4⟩ := h2.at (i := i) (d := d) (by simpa using hi)
    exact ⟨v, A, L1, B, by simpa using e1, e2, e3, fun s hx => ⟨x, _, rfl, e4 s hx⟩⟩
  | some d0 :: sd, σ, L, 0, d, h, hi => by
    obtain ⟨v, σ', L1, L2, rfl, rfl, h3, h4⟩ := h
    obtain rfl : d0 = d := by simpa using hi
    refine ⟨v, [], L1, L2, rfl, by simp, h3, fun {F' x y L3} s hx => ?_⟩
    cases x with
    | none =>
      obtain rfl : L3 = [] := hx
      exact ⟨y, σ', rfl, h4.mono s⟩
    | some d' =>
      obtain ⟨v', rfl, ho⟩ := hx
      exact ⟨v', σ', L3, L2, rfl, by simp, ho, h4.mono s⟩
  | some d0 :: sd, σ, L, i + 1, d, h, hi => by
    obtain ⟨v0, σ', L1, L2, rfl, rfl, h3, h4⟩ := h
    obtain ⟨v, A, M, B, e1, rfl, e3, e4⟩ := h4.at (i := i) (d := d) (by simpa using hi)
    refine ⟨v, L1 ++ A, M, B, by simpa using e1, by simp, e3, fun {F' x y L3} s hx => ⟨v0, _, L1, A ++ L3 ++ B, rfl, by simp, Own.mono s _ _ _ h3, e4 s hx⟩⟩
/-- a slot that is set, whatever it was -/
theorem OwnE.set : ∀ {sd : List (Option D)} {σ : List (Option V)} {L : Led} {i : Nat} {x : Option D} {y : Option V} {L2 : Led}, OwnE K F sd σ L → i < sd.length → (match x with | none => L2 = [] | some d' => ∃ v', y = some v' ∧ Own K F d' v' L2) →
    ∃ A L1 B, L = A ++ L1 ++ B ∧ OwnE K F (sd.set i x) (σ.set i y) (A ++ L2 ++ B)
  | [], _, _, i, _, _, _, _, hi, _ => by simp at hi
  | none :: sd, σ, L, 0, x, y, L2, h, hi, hx => by
    obtain ⟨x0, σ', rfl, h2⟩ := h
    refine ⟨[], [], L, by simp, ?_⟩
    cases x with
    | none =>
      obtain rfl : L2 = [] := hx
      exact ⟨y, σ', rfl, h2⟩
    | some d' =>
      obtain ⟨v', rfl, ho⟩ := hx
      exact ⟨v', σ', L2, L, rfl, by simp, ho, h2⟩
  | none :: sd, σ, L, i + 1, x, y, L2, h, hi, hx => by
    obtain ⟨x0, σ', rfl, h2⟩ := h
    obtain ⟨A, L1, B, e, q⟩ := h2.set (i := i) (by simpa using hi) hx
    exact ⟨A, L1, B, e, x0, _, rfl, q⟩
  | some d0 :: sd, σ, L, 0, x, y, L3, h, hi, hx => by
    obtain ⟨v, σ', L1, L2, rfl, rfl, h3, h4⟩ := h
    refine ⟨[], L1, L2, by simp, ?_⟩
    cases x with
    | none =>
      obtain rfl : L3 = [] := hx
      exact ⟨y, σ', rfl, h4⟩
    | some d' =>
      obtain ⟨v', rfl, ho⟩ := hx
      exact ⟨v', σ', L3, L2, rfl, by simp, ho, h4⟩
  | some d0 :: sd, σ, L, i + 1, x, y, L3, h, hi, hx => by
    obtain ⟨v0, σ', L1, L2, rfl, rfl, h3, h4⟩ := h
    obtain ⟨A, M, B, rfl, q⟩ := h4.set (i := i) (by simpa using hi) hx
    exact ⟨L1 ++ A, M, B, by simp, v0, _, L1, A ++ L3 ++ B, rfl, by simp, h3, q⟩
end
end UL

set_option Elab.async false
set_option linter.all false
set_option maxRecDepth 100000
set_option maxHeartbeats 4000000
namespace UL
open PySem SL
open L2 hiding rLen
abbrev US := List (Option D)
/-! ## paths -/
def stepD : D → Stp → Option D
  | .nst xs, .idx n => xs[n]?
  | .ins true _ ns xs, .fld f => (ns.idxOf? f).bind (xs[·]?)
  | _, _ => none
def sub : D → List Stp → Option D
  | d, [] => some d
  | d, s :: p => (stepD d s).bind (sub · p)
def putS (d : D) (s : Stp) (e : D) : D := match d, s with
  | .nst xs, .idx n => .nst (xs.set n e)
  | .ins true C ns xs, .fld f => match ns.idxOf? f with
    | some k => .ins true C ns (xs.set k e)
    | none => d
  | _, _ => d
def put : D → List Stp → D → D
  | _, [], e => e
  | d, s :: p, e => match stepD d s with
    | some x => putS d s (put x p e)
    | none => d
def AtS (H : Hp) (v : V) (s : Stp) (w : V) : Prop := match s with
  | .fld f => ∃ a C dx fs, v = .ref a ∧ H a = some (.ins C dx fs) ∧ fs.lookup f = some w
  | .idx n => ∃ a vs, v = .ref a ∧ H a = some (.lst vs) ∧ vs[n]? = some w
def AtH (H : Hp) : V → List Stp → V → Prop
  | v, [], w => v = w
  | v, s :: p, w => ∃ u, AtS H v s u ∧ AtH H u p w
section
variable {K : PySem.W.Frag} {F F' H H' : Hp} {E : En} {L L' L0 L1 : Led} {v w : V} {vs : List V} {d e : D} {ds xs : List D} {s : Stp} {p : List Stp}
theorem AtS.mono (q : Same H H') (h : AtS H v s w) : AtS H' v s w := by
  cases s with
  | fld f =>
    obtain ⟨a, C, dx, fs, h1, h2, h3⟩ := h
    exact ⟨a, C, dx, fs, h1, q _ _ h2, h3⟩
  | idx n =>
    obtain ⟨a, vs, h1, h2, h3⟩ := h
    exact ⟨a, vs, h1, q _ _ h2, h3⟩
theorem AtS.uniq {w' : V} (h : AtS H v s w) (h' : AtS H v s w') : w = w' := by
  cases s with
  | fld f =>
    obtain ⟨a, C, dx, fs, rfl, h2, h3⟩ := h
    obtain ⟨a', C', dx', fs', e, h2', h3'⟩ := h'
    cases e
    rw [h2] at h2'; cases h2'
    rw [h3] at h3'; exact Option.some.inj h3'
  | idx n =>
    obtain ⟨a, vs, rfl, h2, h3⟩ := h
    obtain ⟨a', vs', e, h2', h3'⟩ := h'
    cases e
    rw [h2] at h2'; cases h2'
    rw [h3] at h3'; exact Option.some.inj h3'
theorem AtH.mono (q : Same H H') : ∀ {p : List Stp} {v w : V}, AtH H v p w → AtH H' v p w
  | [], _, _, h => h
  | s :: p, v, w, ⟨u, h1, h2⟩ => ⟨u, h1.mono q, h2.mono q⟩
theorem AtH.uniq : ∀ {p : List Stp} {v w w' : V}, AtH H v p w → AtH H v p w' → w = w'
  | [], _, _, _, h, h' => h.symm.trans h'
  | s :: p, v, w, w', ⟨u, h1, h2⟩, ⟨u', h1', h2'⟩ => by
    obtain rfl := h1.uniq h1'
    exact h2.uniq h2'
theorem AtH.snoc : ∀ {p : List Stp} {v w u : V}, AtH H v p w → AtS H w s u → AtH H v (p ++ [s]) u
  | [], v, w, u, h, h' => by cases h; exact ⟨u, h', rfl⟩
  | t :: p, v, w, u, ⟨z, h1, h2⟩, h' => ⟨z, h1, h2.snoc h'⟩
theorem OwnL.len : ∀ {ds : List D} {vs : List V} {L : Led}, OwnL K F ds vs L → ds.length = vs.length
  | [], vs, L, h => by simp [h.1]
  | d :: ds, vs, L, h => by
    rw [OwnL] at h
    obtain ⟨v, vs', L1, L2, rfl, h2, h3, h4⟩ := h
    simp [h4.len]
theorem OwnL.at : ∀ {ds : List D} {vs : List V} {L : Led} {n : Nat} {x : D}, OwnL K F ds vs L → ds[n]? = some x →
    ∃ v A L1 B, vs[n]? = some v ∧ L = A ++ L1 ++ B ∧ Own K F x v L1 ∧ ∀ {F' : Hp} {y : D} {v' : V} {L2 : Led}, Same F F' → Own K F' y v' L2 → OwnL K F' (ds.set n y) (vs.set n v') (A ++ L2 ++ B)
  | [], _, _, _, _, _, h => by simp at h
  | d :: ds, vs, L, 0, x, h, hi => by
    rw [OwnL] at h
    obtain ⟨v, vs', L1, L2, rfl, rfl, h3, h4⟩ := h
    obtain rfl : d = x := by simpa using hi
    exact ⟨v, [], L1, L2, rfl, by simp, h3, fun {F' y v' L3} q o => by rw [List.set_cons_zero, OwnL]; exact ⟨v', vs', L3, L2, rfl, by simp, o, OwnL.mono q _ _ _ h4⟩⟩
  | d :: ds, vs, L, n + 1, x, h, hi => by
    rw [OwnL] at h
    obtain ⟨v, vs', L1, L2, rfl, rfl, h3, h4⟩ := h
    obtain ⟨w, A, M, B, e1, rfl, e3, e4⟩ := h4.at (n := n) (x := x) (by simpa using hi)
    refine ⟨w, L1 ++ A, M, B, by simpa using e1, by simp, e3, fun {F' y v' L3} q o => ?_⟩
    rw [List.set_cons_succ, OwnL]
    exact ⟨v, _, L1, A ++ L3 ++ B, rfl, by simp, Own.mono q _ _ _ h3, e4 q o⟩
theorem zip_lookup : ∀ {ns : List Str} {vs : List V} {f : Str} {k : Nat} {v : V}, ns.idxOf? f = some k → vs[k]? = some v → ns.length = vs.length → (ns.zip vs).lookup f = some v
  | [], _, _, _, _, h, _, _ => by simp at h
  | n :: ns, [], _, _, _, _, _, h => by simp at h
  | n :: ns, v0 :: vs, f, k, v, h, hv, hl => by
    rw [List.idxOf?_cons] at h
    rw [List.zip_cons_cons, List.lookup_cons]
    by_cases c : n = f
    · subst c
      simp at h
      subst h
      simp at hv
      simp [hv]
    · have c' : (n == f) = false := by simpa using c
      rw [c'] at h
      have c2 : (f == n) = false := by simpa using fun z => c z.symm
      rw [c2]
      cases hk : ns.idxOf? f with
      | none => rw [hk] at h; simp at h
      | some j =>
        rw [hk] at h
        obtain rfl : k = j + 1 := by simpa using h.symm
        exact zip_lookup hk (by simpa using hv) (by simpa using hl)
/-- one step into an owned node -/
theorem Own.step (hs : stepD d s = some e) (h : Own K F d v L) : ∃ w A L1 B, L = A ++ L1 ++ B ∧ Own K F e w L1 ∧ (∀ H, (∀ x ∈ L, H x.1 = some x.2) → AtS H v s w) ∧
    ∀ {F' : Hp} {e' : D} {L2 : Led}, Same F F' → Own K F' e' w L2 → Own K F' (putS d s e') v (A ++ L2 ++ B) := by
  cases d with
  | nst xs =>
    cases s with
    | fld f => simp [stepD] at hs
    | idx n =>
      rw [Own] at h
      obtain ⟨a, vs, L', rfl, rfl, h3⟩ := h
      obtain ⟨w, A, L1, B, e1, rfl, e3, e4⟩ := h3.at (n := n) (x := e) (by simpa [stepD] using hs)
      refine ⟨w, (a, .lst vs) :: A, L1, B, by simp, e3, fun H hH => ⟨a, vs, rfl, hH _ List.mem_cons_self, e1⟩, fun {F' e' L2} q o => ?_⟩
      rw [putS, Own]
      refine ⟨a, vs, A ++ L2 ++ B, rfl, by simp, ?_⟩
      have := e4 q o
      rwa [List.set_getElem?_self' e1] at this
  | ins o C ns xs =>
    cases o with
    | false => cases s <;> simp [stepD] at hs
    | true =>
      cases s with
      | idx n => simp [stepD] at hs
      | fld f =>
        rw [Own] at h
        obtain ⟨a, dx, vs, L', rfl, rfl, hl, h3⟩ := h
        simp only [stepD] at hs
        cases hk : ns.idxOf? f with
        | none => rw [hk] at hs; simp at hs
        | some k =>
          rw [hk] at hs
          obtain ⟨w, A, L1, B, e1, rfl, e3, e4⟩ := h3.at (n := k) (x := e) (by simpa using hs)
          refine ⟨w, (a, .ins C dx (ns.zip vs)) :: (dx, .own a) :: A, L1, B, by simp, e3, fun H hH => ⟨a, C, dx, _, rfl, hH _ List.mem_cons_self, zip_lookup hk e1 hl⟩, fun {F' e' L2} q o => ?_⟩
          have := e4 q o
          rw [List.set_getElem?_self' e1] at this
          simp only [putS, hk]
          rw [Own]
          exact ⟨a, dx, vs, A ++ L2 ++ B, rfl, by simp, hl, this⟩
  | _ => cases s <;> simp [stepD] at hs
where
  List.set_getElem?_self' {vs : List V} {n : Nat} {w : V} (h : vs[n]? = some w) : vs.set n w = vs := by
    apply List.ext_getElem?
    intro i
    rw [List.getElem?_set]
    split
    · next c => subst c; rw [if_pos (List.getElem?_eq_some_iff.mp h).1, h]
    · rfl

theorem Own.focus : ∀ {p : List Stp} {d e : D} {v : V} {L : Led}, sub d p = some e → Own K F d v L → ∃ w A L1 B, L = A ++ L1 ++ B ∧ Own K F e w L1 ∧ (∀ H, (∀ x ∈ L, H x.1 = some x.2) → AtH H v p w) ∧
    ∀ {F' : Hp} {e' : D} {L2 : Led}, Same F F' → Own K F' e' w L2 → Own K F' (put d p e') v (A ++ L2 ++ B)
  | [], d, e, v, L, hs, h => by
    obtain rfl : d = e := Option.some.inj hs
    exact ⟨v, [], L, [], by simp, h, fun _ _ => rfl, fun {F' e' L2} q o => by simpa [put] using o⟩
  | s :: p, d, e, v, L, hs, h => by
    rw [sub] at hs
    cases hx : stepD d s with
    | none => rw [hx] at hs; cases hs
    | some x =>
      rw [hx] at hs
      obtain ⟨u, A, L1, B, rfl, o1, t1, r1⟩ := h.step hx
      obtain ⟨w, A2, L2, B2, rfl, o2, t2, r2⟩ := Own.focus (p := p) (d := x) (e := e) hs o1
      refine ⟨w, A ++ A2, L2, B2 ++ B, by simp, o2, fun H hH => ⟨u, t1 H hH, t2 H fun x hx => hH x (by simp only [List.mem_append] at hx ⊢; grind)⟩, fun {F' e' L3} q o => ?_⟩
      have := r1 q (r2 q o)
      simp only [put, hx]
      simpa using this
/-- is owned at the root -/
def rootO : D → Bool
  | .lst true _ => true | .nst _ => true | .ins true _ _ _ => true | .dk true _ _ => true | .dt true _ _ => true | _ => false
theorem Own.pure (hr : rootO d = false) (h : Own K F d v L) : L = [] := by
  cases d with
  | lst o xs => cases o with
    | true => simp [rootO] at hr
    | false => rw [Own] at h; obtain ⟨_, _, _, h, _⟩ := h; exact h
  | ins o C ns xs => cases o with
    | true => simp [rootO] at hr
    | false => rw [Own] at h; obtain ⟨_, _, _, _, h, _⟩ := h; exact h
  | dk o ks xs => cases o with
    | true => simp [rootO] at hr
    | false => rw [Own] at h; obtain ⟨_, _, _, h, _⟩ := h; exact h
  | dt o ks xs => cases o with
    | true => simp [rootO] at hr
    | false => rw [Own] at h; obtain ⟨_, _, _, h, _⟩ := h; exact h
  | nst xs => simp [rootO] at hr
  | tup xs => rw [Own] at h; obtain ⟨_, _, _, h, _⟩ := h; exact h
  | rt xs => rw [Own] at h; obtain ⟨_, _, _, h, _⟩ := h; exact h
  | sl xs => rw [Own] at h; obtain ⟨_, _, _, h, _⟩ := h; exact h
  | ow i p => rw [Own] at h; exact h.elim
  | _ => exact h.2
/-- what a consumer sees: the root at H, the parts in F -/
def Rt (K : PySem.W.Frag) (F H : Hp) : D → V → Prop
  | .lst _ xs, v => ∃ a vs, v = .ref a ∧ H a = some (.lst vs) ∧ OwnL K F xs vs []
  | .tup xs, v => ∃ a vs, v = .ref a ∧ SqT K F a vs ∧ OwnL K F xs vs []
  | .sl xs, v => ∃ a vs, v = .ref a ∧ SqL K F a vs ∧ OwnL K F xs vs []
  | .rt xs, v => ∃ a vs, v = .ref a ∧ F a = some (.tup vs) ∧ OwnL K F xs vs []
  | .nst xs, v => ∃ a vs, v = .ref a ∧ H a = some (.lst vs) ∧ xs.length = vs.length
  | .ins _ C ns xs, v => ∃ a dx vs, v = .ref a ∧ H a = some (.ins C dx (ns.zip vs)) ∧ ns.length = vs.length
  | .dk _ ks xs, v => ∃ a vs, v = .ref a ∧ H a = some (.dK (ks.zip vs)) ∧ ks.length = vs.length ∧ OwnL K F xs vs []
  | .dt _ ks xs, v => ∃ a vs, v = .ref a ∧ H a = some (.dT (ks.zip vs)) ∧ ks.length = vs.length ∧ OwnL K F xs vs []
  | .ow _ _, _ => False
  | d, v => Own K F d v []
theorem Own.rt (fh : Same F H) (hL : ∀ x ∈ L, H x.1 = some x.2) (h : Own K F d v L) : Rt K F H d v := by
  cases d with
  | lst o xs => cases o with
    | true => rw [Own] at h; obtain ⟨a, vs, h1, rfl, h3⟩ := h; exact ⟨a, vs, h1, hL _ List.mem_cons_self, h3⟩
    | false => rw [Own] at h; obtain ⟨a, vs, h1, rfl, h2, h3⟩ := h; exact ⟨a, vs, h1, fh _ _ h2, h3⟩
  | ins o C ns xs => cases o with
    | true => rw [Own] at h; obtain ⟨a, dx, vs, L', h1, rfl, h3, h4⟩ := h; exact ⟨a, dx, vs, h1, hL _ List.mem_cons_self, h3⟩
    | false => rw [Own] at h; obtain ⟨a, dx, vs, h1, rfl, h2, h3, h4⟩ := h; exact ⟨a, dx, vs, h1, fh _ _ h2, h3⟩
  | dk o ks xs => cases o with
    | true => rw [Own] at h; obtain ⟨a, vs, h1, rfl, h3, h4⟩ := h; exact ⟨a, vs, h1, hL _ List.mem_cons_self, h3, h4⟩
    | false => rw [Own] at h; obtain ⟨a, vs, h1, rfl, h2, h3, h4⟩ := h; exact ⟨a, vs, h1, fh _ _ h2, h3, h4⟩
  | dt o ks xs => cases o with
    | true => rw [Own] at h; obtain ⟨a, vs, h1, rfl, h3, h4⟩ := h; exact ⟨a, vs, h1, hL _ List.mem_cons_self, h3, h4⟩
    | false => rw [Own] at h; obtain ⟨a, vs, h1, rfl, h2, h3, h4⟩ := h; exact ⟨a, vs, h1, fh _ _ h2, h3, h4⟩
  | nst xs => rw [Own] at h; obtain ⟨a, vs, L', h1, rfl, h3⟩ := h; exact ⟨a, vs, h1, hL _ List.mem_cons_self, h3.len⟩
  | tup xs => rw [Own] at h; obtain ⟨a, vs, h1, rfl, h2, h3⟩ := h; exact ⟨a, vs, h1, h2, h3⟩
  | rt xs => rw [Own] at h; obtain ⟨a, vs, h1, rfl, h2, h3⟩ := h; exact ⟨a, vs, h1, h2, h3⟩
  | sl xs => rw [Own] at h; obtain ⟨a, vs, h1, rfl, h2, h3⟩ := h; exact ⟨a, vs, h1, h2, h3⟩
  | ow i p => rw [Own] at h; exact h.elim
  | _ => rw [Own] at h; obtain ⟨h1, rfl⟩ := h; exact ⟨h1, rfl⟩
end
/-! ## the simulation -/
structure Sim (K : PySem.W.Frag) (E : En) (P : List (Nat × V)) (F H : Hp) (σ : L2.St) (sd : US) (L0 : Led) : Prop where
  ex : ∃ Le, OwnE K F sd σ Le ∧ SL.St E F H (Le ++ L0)
  pr : ∀ x ∈ P, σ[x.1]? = some (some x.2) ∧ x.1 = 0
def Res (K : PySem.W.Frag) (F H : Hp) (σ : L2.St) (v : V) (d : D) (Lt : Led) : Prop := match d with
  | .ow i p => Lt = [] ∧ ∃ r, σ[i]? = some (some r) ∧ AtH H r p v
  | d => Own K F d v Lt
def stab : D → Bool
  | .ow _ (_ :: _) => false
  | _ => true
def isRef : D → Bool
  | .ow _ _ => true
  | _ => false
def vw (sd : US) : D → Option D
  | .ow i p => match sd[i]? with
    | some (some r) => sub r p
    | _ => none
  | d => some d
abbrev UX := Addr → US → Prop
abbrev UE := UX → US → (D → US → Prop) → Prop
abbrev UT := UX → US → (Bool → US → Prop) → Prop
abbrev UA := UX → US → (List D → US → Prop) → Prop
abbrev UO := UX → US → (Option Int → US → Prop) → Prop
structure UEnds where
  nx : US → Prop
  rt : D → US → Prop
  bk : US → Prop
  ct : US → Prop
  er : UX
abbrev UTS := UEnds → US → Prop
abbrev UG := UX → D → US → (US → Prop) → Prop
def ErOk (K : PySem.W.Frag) (E : En) (P : List (Nat × V)) (F : Hp) (W : L2.St → XK) (σ : L2.St) (er : UX) : Prop :=
  ∀ C F' H' sd' L', Same F F' → Sim K E P F' H' σ sd' L' → er C sd' → W σ (.ref C) none H'
structure RE (K : PySem.W.Frag) (p : Bool) (W : L2.St → XK) (te : TE) (ue : UE) : Prop where
  run : ∀ {E : En} {P : List (Nat × V)} {F H : Hp} {σ : L2.St} {sd : US} {L0 : Led} {Q : VK} {er : UX} {U : D → US → Prop}, Sim K E P F H σ sd L0 → ErOk K E P F W σ er → ue er sd U →
    (∀ F' H' sd' v d Lt, Same F F' → (p = true → Same H H') → Sim K E P F' H' σ sd' (Lt ++ L0) → Res K F' H' σ v d Lt → U d sd' → Q v H') → te σ H Q
structure RT (K : PySem.W.Frag) (p : Bool) (W : L2.St → XK) (tt : TT) (ut : UT) : Prop where
  run : ∀ {E : En} {P : List (Nat × V)} {F H : Hp} {σ : L2.St} {sd : US} {L0 : Led} {Q : Bool → Hp → Prop} {er : UX} {U : Bool → US → Prop}, Sim K E P F H σ sd L0 → ErOk K E P F W σ er → ut er sd U →
    (∀ F' H' sd' b, Same F F' → (p = true → Same H H') → Sim K E P F' H' σ sd' L0 → U b sd' → Q b H') → tt σ H Q
inductive ResL (K : PySem.W.Frag) (F H : Hp) (σ : L2.St) : List V → List D → Led → Prop
  | nil : ResL K F H σ [] [] []
  | cons {v vs d ds L1 L2 L} : Res K F H σ v d L1 → ResL K F H σ vs ds L2 → L = L1 ++ L2 → ResL K F H σ (v :: vs) (d :: ds) L
structure RA (K : PySem.W.Frag) (p : Bool) (W : L2.St → XK) (ta : TA) (ua : UA) : Prop where
  run : ∀ {E : En} {P : List (Nat × V)} {F H : Hp} {σ : L2.St} {sd : US} {L0 : Led} {Q : List V → Hp → Prop} {er : UX} {U : List D → US → Prop}, Sim K E P F H σ sd L0 → ErOk K E P F W σ er → ua er sd U →
    (∀ F' H' sd' vs ds Lt, Same F F' → (p = true → Same H H') → Sim K E P F' H' σ sd' (Lt ++ L0) → ResL K F' H' σ vs ds Lt → U ds sd' → Q vs H') → ta σ H Q
structure RO (K : PySem.W.Frag) (p : Bool) (W : L2.St → XK) (to : TO) (uo : UO) : Prop where
  run : ∀ {E : En} {P : List (Nat × V)} {F H : Hp} {σ : L2.St} {sd : US} {L0 : Led} {Q : Option Int → Hp → Prop} {er : UX} {U : Option Int → US → Prop}, Sim K E P F H σ sd L0 → ErOk K E P F W σ er → uo er sd U →
    (∀ F' H' sd' i, Same F F' → (p = true → Same H H') → Sim K E P F' H' σ sd' L0 → U i sd' → Q i H') → to σ H Q
section
variable {K : PySem.W.Frag} {F F' H H' : Hp} {E : En} {P : List (Nat × V)} {L L' L0 L1 Lt M : Led} {v w : V} {vs : List V} {d e : D} {ds xs : List D} {p q : Bool} {W : L2.St → XK} {er : UX} {sd : US} {σ : L2.St}
theorem ErOk.mono (s : Same F F') (h : ErOk K E P F W σ er) : ErOk K E P F' W σ er := fun C F2 H2 sd2 L2 e => h C F2 H2 sd2 L2 (s.trans e)
theorem St.sublist (G : SL.St E F H L) (s : L'.Sublist L) : SL.St E F H L' := ⟨G.bh, G.fh, G.ff, G.pr, fun x hx => G.own x (s.subset hx), (s.map _).nodup G.nd⟩
theorem Sim.keep (S : Sim K E P F H σ sd L) (s : L'.Sublist L) : Sim K E P F H σ sd L' := by
  obtain ⟨Le, h1, h2⟩ := S.ex
  exact ⟨⟨Le, h1, St.sublist h2 (List.Sublist.append (List.Sublist.refl _) s)⟩, S.pr⟩
theorem Sim.perm (S : Sim K E P F H σ sd L) (s : L'.Perm L) : Sim K E P F H σ sd L' := by
  obtain ⟨Le, h1, h2⟩ := S.ex
  exact ⟨⟨Le, h1, h2.perm (List.Perm.append_left _ s)⟩, S.pr⟩
theorem Sim.fh (S : Sim K E P F H σ sd L) : Same F H := by obtain ⟨Le, h1, h2⟩ := S.ex; exact h2.fh
theorem Sim.get (S : Sim K E P F H σ sd L) : ∀ x ∈ L, H x.1 = some x.2 := fun x hx => by
  obtain ⟨Le, h1, h2⟩ := S.ex
  exact (h2.own x (List.mem_append_right _ hx)).1
/-- drop what is in the middle -/
theorem Sim.cut (S : Sim K E P F H σ sd (Lt ++ (M ++ L0))) : Sim K E P F H σ sd (Lt ++ L0) := S.keep (List.Sublist.append (List.Sublist.refl _) (List.sublist_append_right _ _))
theorem Res.mono (s : Same F F') (hs : Same H H' ∨ stab d = true) (h : Res K F H σ v d Lt) : Res K F' H' σ v d Lt := by
  cases d with
  | ow i p =>
    obtain ⟨h0, r, h1, h2⟩ := h
    refine ⟨h0, r, h1, ?_⟩
    rcases hs with hs | hs
    · exact h2.mono hs
    · cases p with
      | nil => exact h2
      | cons a b => simp [stab] at hs
  | _ => exact Own.mono s _ _ _ h
/-- what a consumer sees of a result -/
theorem Sim.rt (S : Sim K E P F H σ sd L) (hL : ∀ x ∈ Lt, x ∈ L) (h : Res K F H σ v d Lt) (hv : vw sd d = some e) : Rt K F H e v := by
  cases d with
  | ow i p =>
    obtain ⟨rfl, r, h1, h2⟩ := h
    obtain ⟨Le, h3, h4⟩ := S.ex
    simp only [vw] at hv
    split at hv
    · next r' he =>
      obtain ⟨v', A, L1, B, e1, rfl, e3, e4⟩ := h3.at he
      rw [h1] at e1
      cases e1
      obtain ⟨w, A2, L2, B2, rfl, o2, t2, r2⟩ := e3.focus hv
      have g : ∀ x ∈ A2 ++ L2 ++ B2, H x.1 = some x.2 := fun x hx => (h4.own x (by simp only [List.mem_append] at hx ⊢; grind)).1
      obtain rfl := h2.uniq (t2 H g)
      exact o2.rt h4.fh fun x hx => g x (by simp only [List.mem_append]; grind)
    · cases hv
  | _ =>
    cases hv
    exact Own.rt S.fh (fun x hx => S.get x (hL x hx)) h
end
end UL

set_option Elab.async false
set_option linter.all false
set_option maxRecDepth 100000
set_option maxHeartbeats 4000000
namespace UL
open PySem SL
open L2 hiding rLen
/-! ## closing: what flows into a container, a result, a call -/
def clo (sd : US) : D → Option (D × US)
  | .ow i p => match sd[i]? with
    | some (some r) => match sub r p with
      | some e => some (fz e, sd.set i (some (put r p (fz e))))
      | none => none
    | _ => none
  | d => some (fz d, sd)
def cloL : US → List D → Option (List D × US)
  | sd, [] => some ([], sd)
  | sd, d :: ds => match clo sd d with
    | some (d', s1) => match cloL s1 ds with
      | some (ds', s2) => some (d' :: ds', s2)
      | none => none
    | none => none
section
variable {K : PySem.W.Frag} {F F' H H' : Hp} {E : En} {P : List (Nat × V)} {L L' L0 L1 Lt M : Led} {v w : V} {vs : List V} {d d' e : D} {ds ds' xs : List D} {p q : Bool} {W : L2.St → XK} {er : UX} {sd sd' : US} {σ : L2.St}
theorem set_same {α : Type} : ∀ {l : List α} {i : Nat} {x : α}, l[i]? = some x → l.set i x = l
  | [], _, _, h => by simp at h
  | a :: l, 0, x, h => by simp at h; simp [h]
  | a :: l, i + 1, x, h => by simp at h; simp [set_same h]
theorem Sim.clo (S : Sim K E P F H σ sd (Lt ++ L0)) (h : Res K F H σ v d Lt) (hc : clo sd d = some (d', sd')) :
    ∃ F', Same F F' ∧ Sim K E P F' H σ sd' L0 ∧ Own K F' d' v [] := by
  cases d with
  | ow i p =>
    obtain ⟨rfl, r, h1, h2⟩ := h
    obtain ⟨Le, h3, h4⟩ := S.ex
    simp only [UL.clo] at hc
    split at hc
    · next r' he =>
      split at hc
      · next e hs =>
        obtain ⟨rfl, rfl⟩ := Prod.mk.inj (Option.some.inj hc)
        obtain ⟨v', A, L1, B, e1, rfl, e3, e4⟩ := h3.at he
        rw [h1] at e1
        cases e1
        obtain ⟨w, A2, L2, B2, rfl, o2, t2, r2⟩ := e3.focus hs
        have g : ∀ x ∈ A2 ++ L2 ++ B2, H x.1 = some x.2 := fun x hx => (h4.own x (by simp only [List.mem_append] at hx ⊢; grind)).1
        obtain rfl := h2.uniq (t2 H g)
        have G : SL.St E F H (L2 ++ (A ++ (A2 ++ B2) ++ B ++ L0)) := h4.perm (by
          simp only [List.append_assoc, List.nil_append]
          refine List.Perm.trans ?_ (List.Perm.append_left A (List.perm_append_comm_assoc _ _ _))
          exact (List.perm_append_comm_assoc _ _ _))
        obtain ⟨F', s1, f1, G2⟩ := G.frzs
        have o3 := Own.frz s1 _ _ _ f1 o2
        have q := e4 (x := some (put r' p (fz e))) (y := some r) s1 ⟨r, rfl, r2 s1 o3⟩
        rw [set_same h1] at q
        exact ⟨F', s1, ⟨⟨_, q, by simpa using G2⟩, S.pr⟩, o3⟩
      · cases hc
    · cases hc
  | _ =>
    obtain ⟨rfl, rfl⟩ : d' = fz _ ∧ sd' = sd := by
      have := Option.some.inj hc
      exact ⟨(Prod.mk.inj this).1.symm, (Prod.mk.inj this).2.symm⟩
    obtain ⟨Le, h3, h4⟩ := S.ex
    have G : SL.St E F H (Lt ++ (Le ++ L0)) := h4.perm (List.perm_append_comm_assoc _ _ _)
    obtain ⟨F', s1, f1, G2⟩ := G.frzs
    exact ⟨F', s1, ⟨⟨Le, h3.mono s1, G2⟩, S.pr⟩, Own.frz s1 _ _ _ f1 h⟩
theorem ResL.mono (s : Same F F') (hs : Same H H') : ∀ {vs : List V} {ds : List D} {L : Led}, ResL K F H σ vs ds L → ResL K F' H' σ vs ds L
  | _, _, _, .nil => .nil
  | _, _, _, .cons h1 h2 h3 => .cons (h1.mono s (.inl hs)) (h2.mono s hs) h3
theorem Sim.cloL : ∀ {ds ds' : List D} {vs : List V} {F : Hp} {sd sd' : US} {Lt : Led}, Sim K E P F H σ sd (Lt ++ L0) → ResL K F H σ vs ds Lt → cloL sd ds = some (ds', sd') →
    ∃ F', Same F F' ∧ Sim K E P F' H σ sd' L0 ∧ OwnL K F' ds' vs []
  | [], ds', vs, F, sd, sd', Lt, S, h, hc => by
    cases h
    cases hc
    exact ⟨F, Same.refl _, S, ⟨rfl, rfl⟩⟩
  | d :: ds, ds', vs, F, sd, sd', Lt, S, h, hc => by
    cases h with
    | @cons v vs _ _ L1 L2 _ h1 h2 h3 =>
      subst h3
      simp only [UL.cloL] at hc
      split at hc
      · next d1 s1 hd =>
        split at hc
        · next ds2 s2 hds =>
          cases hc
          obtain ⟨F1, e1, S1, o1⟩ := Sim.clo (L0 := L2 ++ L0) (by simpa using S) h1 hd
          obtain ⟨F2, e2, S2, o2⟩ := Sim.cloL S1 (h2.mono e1 (Same.refl _)) hds
          exact ⟨F2, e1.trans e2, S2, by rw [OwnL]; exact ⟨v, vs, [], [], rfl, rfl, Own.mono e2 _ _ _ o1, o2⟩⟩
        · cases hc
      · cases hc
/-- the ledger behind an operation -/
theorem Sim.run (S : Sim K E P F H σ sd L) {R : Prop} (k : ∀ Le, SL.St E F H (Le ++ L) → (∀ F' H' Lt, Same F F' → Same H H' → SL.St E F' H' (Lt ++ (Le ++ L)) → Sim K E P F' H' σ sd (Lt ++ L)) → R) : R := by
  obtain ⟨Le, h1, h2⟩ := S.ex
  exact k Le h2 fun F' H' Lt s1 s2 G => ⟨⟨Le, h1.mono s1, G.perm (List.perm_append_comm_assoc _ _ _)⟩, S.pr⟩
/-! ## operations by values -/
structure Op2 (K : PySem.W.Frag) (r : R2) (f : D → D → Option D) : Prop where
  run : ∀ {E : En} {F H : Hp} {L : Led} {v1 v2 : V} {d1 d2 d : D} {Q : VK}, SL.St E F H L → Rt K F H d1 v1 → Rt K F H d2 v2 → f d1 d2 = some d →
    (∀ F' H' v Lt, Same F F' → Same H H' → SL.St E F' H' (Lt ++ L) → Own K F' d v Lt → Q v H') → r v1 v2 H Q
structure Op1 (K : PySem.W.Frag) (r : V → Hp → VK → Prop) (f : D → Option D) : Prop where
  run : ∀ {E : En} {F H : Hp} {L : Led} {v1 : V} {d1 d : D} {Q : VK}, SL.St E F H L → Rt K F H d1 v1 → f d1 = some d →
    (∀ F' H' v Lt, Same F F' → Same H H' → SL.St E F' H' (Lt ++ L) → Own K F' d v Lt → Q v H') → r v1 H Q
inductive RtL (K : PySem.W.Frag) (F H : Hp) : List D → List V → Prop
  | nil : RtL K F H [] []
  | cons {d : D} {v : V} {ds : List D} {vs : List V} : Rt K F H d v → RtL K F H ds vs → RtL K F H (d :: ds) (v :: vs)
structure OpN (K : PySem.W.Frag) (r : List V → Hp → VK → Prop) (f : List D → Option D) : Prop where
  run : ∀ {E : En} {F H : Hp} {L : Led} {vs : List V} {ds : List D} {d : D} {Q : VK}, SL.St E F H L → RtL K F H ds vs → f ds = some d →
    (∀ F' H' v Lt, Same F F' → Same H H' → SL.St E F' H' (Lt ++ L) → Own K F' d v Lt → Q v H') → r vs H Q
def vwL (sd : US) : List D → Option (List D)
  | [] => some []
  | d :: ds => match vw sd d with
    | some e => match vwL sd ds with
      | some es => some (e :: es)
      | none => none
    | none => none
theorem Sim.rtL (S : Sim K E P F H σ sd L) : ∀ {vs : List V} {ds es : List D} {Lt : Led}, (∀ x ∈ Lt, x ∈ L) → ResL K F H σ vs ds Lt → vwL sd ds = some es → RtL K F H es vs
  | _, _, es, _, _, .nil, he => by cases he; exact .nil
  | _, _, es, _, hL, .cons (d := d) (ds := ds) h1 h2 h3, he => by
    subst h3
    simp only [vwL] at he
    split at he
    · next e h5 =>
      split at he
      · next es' h6 =>
        cases he
        exact .cons (S.rt (fun x hx => hL x (List.mem_append_left _ hx)) h1 h5) (S.rtL (fun x hx => hL x (List.mem_append_right _ hx)) h2 h6)
      · cases he
    · cases he
/-! ## expressions -/
def uVar (i : Nat) : UE := fun _ sd U => ∃ d, sd[i]? = some (some d) ∧ U (if rootO d then .ow i [] else d) sd
def uC (d : D) : UE := fun _ sd U => U d sd
def uOp (f : D → D → Option D) (ua ub : UE) : UE := fun er sd U => ua er sd fun d1 s1 => ub er s1 fun d2 s2 => ∃ e1 e2 d, vw s2 d1 = some e1 ∧ vw s2 d2 = some e2 ∧ f e1 e2 = some d ∧ U d s2
def uOpI (f : D → D → Option D) (ua ub : UE) : UE := fun er sd U => ua er sd fun d1 s1 => stab d1 = true ∧ ub er s1 fun d2 s2 => ∃ e1 e2 d, vw s2 d1 = some e1 ∧ vw s2 d2 = some e2 ∧ f e1 e2 = some d ∧ U d s2
def uUn (f : D → Option D) (ua : UE) : UE := fun er sd U => ua er sd fun d1 s1 => ∃ e1 d, vw s1 d1 = some e1 ∧ f e1 = some d ∧ U d s1
def uCB (f : List D → Option D) (ua : UA) : UE := fun er sd U => ua er sd fun ds s1 => ∃ es d, vwL s1 ds = some es ∧ f es = some d ∧ U d s1
def uNil : UA := fun _ sd U => U [] sd
def uCons (ua : UE) (ub : UA) : UA := fun er sd U => ua er sd fun d s1 => ub er s1 fun ds s2 => U (d :: ds) s2
def uConsI (ua : UE) (ub : UA) : UA := fun er sd U => ua er sd fun d s1 => stab d = true ∧ ub er s1 fun ds s2 => U (d :: ds) s2
def uTup (ua : UA) : UE := fun er sd U => ua er sd fun ds s1 => ds.length ≤ sizeLine ∧ ∃ ds' s2, cloL s1 ds = some (ds', s2) ∧ U (.tup ds') s2
/-- a tuple that is a key later on -/
def uTupR (ua : UA) : UE := fun er sd U => ua er sd fun ds s1 => ds.length ≤ sizeLine ∧ ∃ ds' s2, cloL s1 ds = some (ds', s2) ∧ U (.rt ds') s2
def uLst (ua : UA) : UE := fun er sd U => ua er sd fun ds s1 => ds.length ≤ sizeLine ∧ ∃ ds' s2, cloL s1 ds = some (ds', s2) ∧ U (.lst true ds') s2
def UIf (k : Bool) (A B : Prop) : Prop := if k = true then A else B
def uAndV (ua ub : UE) : UE := fun er sd U => ua er sd fun d s1 => ∃ c, d = .bl c ∧ UIf c (ub er s1 U) (U (.bl false) s1)
def uOrV (ua ub : UE) : UE := fun er sd U => ua er sd fun d s1 => ∃ c, d = .bl c ∧ UIf c (U (.bl true) s1) (ub er s1 U)
def uNotV (ua : UE) : UE := fun er sd U => ua er sd fun d s1 => ∃ c, d = .bl c ∧ U (.bl (!c)) s1
def uIf (uc : UT) (ua ub : UE) : UE := fun er sd U => uc er sd fun c s1 => UIf c (ua er s1 U) (ub er s1 U)
def uB (ua : UE) : UT := fun er sd U => ua er sd fun d s1 => ∃ c, d = .bl c ∧ U c s1
def uAnd (ua ub : UT) : UT := fun er sd U => ua er sd fun c s1 => UIf c (ub er s1 U) (U false s1)
def uOr (ua ub : UT) : UT := fun er sd U => ua er sd fun c s1 => UIf c (U true s1) (ub er s1 U)
def uNot (ua : UT) : UT := fun er sd U => ua er sd fun c s1 => U (!c) s1
def uYes : UT := fun _ sd U => U true sd
theorem re_var {i : Nat} : RE K true W (tVar i) (uVar i) := ⟨fun {E P F H σ sd L0 Q er U} S hE h k => by
  obtain ⟨d, hd, hU⟩ := h
  obtain ⟨Le, h1, h2⟩ := S.ex
  obtain ⟨v, A, L1, B, e1, rfl, e3, e4⟩ := h1.at hd
  refine ⟨v, e1, ?_⟩
  cases hr : rootO d with
  | true =>
    rw [hr, if_pos rfl] at hU
    exact k F H sd v _ [] (Same.refl _) (fun _ => Same.refl _) S (show Res K F H σ v (.ow i []) [] from ⟨rfl, v, e1, rfl⟩) hU
  | false =>
    rw [hr, if_neg (by decide)] at hU
    obtain rfl := Own.pure hr e3
    refine k F H sd v d [] (Same.refl _) (fun _ => Same.refl _) S ?_ hU
    cases d with
    | ow i p => rw [Own] at e3; exact e3.elim
    | _ => exact e3⟩
theorem re_c {v : V} {d : D} (hd : ∀ F, Own K F d v []) : RE K true W (tC v) (uC d) := ⟨fun {E P F H σ sd L0 Q er U} S hE h k => by
  refine k F H sd v d [] (Same.refl _) (fun _ => Same.refl _) S ?_ h
  cases d with
  | ow i p => have := hd F; rw [Own] at this; exact this.elim
  | _ => exact hd F⟩
theorem Res.own (h : Own K F d v L) : Res K F H σ v d L := by
  cases d with
  | ow i p => rw [Own] at h; exact h.elim
  | _ => exact h
theorem Sim.op2 {r : R2} {f : D → D → Option D} (o : Op2 K r f) {v1 v2 : V} {d1 d2 e1 e2 d : D} {Lt1 Lt2 : Led} {Q : VK} (S : Sim K E P F H σ sd (Lt2 ++ (Lt1 ++ L0))) (h1 : Res K F H σ v1 d1 Lt1) (h2 : Res K F H σ v2 d2 Lt2) (q1 : vw sd d1 = some e1) (q2 : vw sd d2 = some e2) (hf : f e1 e2 = some d)
    (k : ∀ F' H' v Lt, Same F F' → Same H H' → Sim K E P F' H' σ sd (Lt ++ L0) → Own K F' d v Lt → Q v H') : r v1 v2 H Q := by
  refine S.run fun Le G back => ?_
  refine o.run G (S.rt (fun x hx => by simp [hx]) h1 q1) (S.rt (fun x hx => by simp [hx]) h2 q2) hf fun F' H' v Lt s1 s2 G2 ho => ?_
  exact k F' H' v Lt s1 s2 ((back F' H' Lt s1 s2 G2).keep (List.Sublist.append (List.Sublist.refl _) ((List.sublist_append_right _ _).trans (List.sublist_append_right _ _)))) ho
theorem re_op {r : R2} {f : D → D → Option D} {ta tb : TE} {ua ub : UE} (o : Op2 K r f) (ha : RE K p W ta ua) (hb : RE K true W tb ub) : RE K p W (tOp r ta tb) (uOp f ua ub) := ⟨fun {E P F H σ sd L0 Q er U} S hE h k => by
  refine ha.run S hE h fun F1 H1 s1 v1 d1 Lt1 e1 p1 S1 r1 h => ?_
  refine hb.run S1 (hE.mono e1) h fun F2 H2 s2 v2 d2 Lt2 e2 p2 S2 r2 h => ?_
  obtain ⟨x1, x2, d, q1, q2, hf, hU⟩ := h
  exact S2.op2 o (r1.mono e2 (.inl (p2 rfl))) r2 q1 q2 hf fun F' H' v Lt s3 s4 S3 r3 => k F' H' s2 v d Lt (e1.trans (e2.trans s3)) (fun hp => (p1 hp).trans ((p2 rfl).trans s4)) S3 (.own r3) hU⟩
theorem re_opI {r : R2} {f : D → D → Option D} {ta tb : TE} {ua ub : UE} (o : Op2 K r f) (ha : RE K p W ta ua) (hb : RE K q W tb ub) : RE K (p && q) W (tOp r ta tb) (uOpI f ua ub) := ⟨fun {E P F H σ sd L0 Q er U} S hE h k => by
  refine ha.run S hE h fun F1 H1 s1 v1 d1 Lt1 e1 p1 S1 r1 h => ?_
  obtain ⟨hst, h⟩ := h
  refine hb.run S1 (hE.mono e1) h fun F2 H2 s2 v2 d2 Lt2 e2 p2 S2 r2 h => ?_
  obtain ⟨x1, x2, d, q1, q2, hf, hU⟩ := h
  exact S2.op2 o (r1.mono e2 (.inr hst)) r2 q1 q2 hf fun F' H' v Lt s3 s4 S3 r3 => k F' H' s2 v d Lt (e1.trans (e2.trans s3)) (fun hp => by
    simp only [Bool.and_eq_true] at hp
    exact (p1 hp.1).trans ((p2 hp.2).trans s4)) S3 (.own r3) hU⟩
theorem re_un {r : V → Hp → VK → Prop} {f : D → Option D} {ta : TE} {ua : UE} (o : Op1 K r f) (ha : RE K p W ta ua) : RE K p W (tUn r ta) (uUn f ua) := ⟨fun {E P F H σ sd L0 Q er U} S hE h k => by
  refine ha.run S hE h fun F1 H1 s1 v1 d1 Lt1 e1 p1 S1 r1 h => ?_
  obtain ⟨x1, d, q1, hf, hU⟩ := h
  refine S1.run fun Le G back => ?_
  refine o.run G (S1.rt (fun x hx => by simp [hx]) r1 q1) hf fun F' H' v Lt s2 s3 G2 ho => ?_
  exact k F' H' s1 v d Lt (e1.trans s2) (fun hp => (p1 hp).trans s3) ((back F' H' Lt s2 s3 G2).keep (List.Sublist.append (List.Sublist.refl _) (List.sublist_append_right _ _))) (.own ho) hU⟩
theorem ra_nil : RA K true W tNil uNil := ⟨fun {E P F H σ sd L0 Q er U} S hE h k => k F H sd [] [] [] (Same.refl _) (fun _ => Same.refl _) S .nil h⟩
theorem ra_cons {ta : TE} {tr : TA} {ua : UE} {ur : UA} (ha : RE K p W ta ua) (hb : RA K true W tr ur) : RA K p W (tCons ta tr) (uCons ua ur) := ⟨fun {E P F H σ sd L0 Q er U} S hE h k => by
  refine ha.run S hE h fun F1 H1 s1 v1 d1 Lt1 e1 p1 S1 r1 h => ?_
  refine hb.run S1 (hE.mono e1) h fun F2 H2 s2 vs2 ds2 Lt2 e2 p2 S2 r2 h => ?_
  refine k F2 H2 s2 _ _ (Lt1 ++ Lt2) (e1.trans e2) (fun hp => (p1 hp).trans (p2 rfl)) (S2.perm ?_) (.cons (r1.mono e2 (.inl (p2 rfl))) r2 rfl) h
  rw [List.append_assoc]
  exact List.perm_append_comm_assoc _ _ _⟩
theorem ra_consI {ta : TE} {tr : TA} {ua : UE} {ur : UA} (ha : RE K p W ta ua) (hb : RA K q W tr ur) : RA K (p && q) W (tCons ta tr) (uConsI ua ur) := ⟨fun {E P F H σ sd L0 Q er U} S hE h k => by
  refine ha.run S hE h fun F1 H1 s1 v1 d1 Lt1 e1 p1 S1 r1 h => ?_
  obtain ⟨hst, h⟩ := h
  refine hb.run S1 (hE.mono e1) h fun F2 H2 s2 vs2 ds2 Lt2 e2 p2 S2 r2 h => ?_
  refine k F2 H2 s2 _ _ (Lt1 ++ Lt2) (e1.trans e2) (fun hp => by simp only [Bool.and_eq_true] at hp; exact (p1 hp.1).trans (p2 hp.2)) (S2.perm ?_) (.cons (r1.mono e2 (.inr hst)) r2 rfl) h
  rw [List.append_assoc]
  exact List.perm_append_comm_assoc _ _ _⟩
theorem re_cb {r : List V → Hp → VK → Prop} {f : List D → Option D} {ta : TA} {ua : UA} (o : OpN K r f) (ha : RA K p W ta ua) : RE K p W (tCB r ta) (uCB f ua) := ⟨fun {E P F H σ sd L0 Q er U} S hE h k => by
  refine ha.run S hE h fun F1 H1 s1 vs1 ds1 Lt1 e1 p1 S1 r1 h => ?_
  obtain ⟨es, d, q1, hf, hU⟩ := h
  refine S1.run fun Le G back => ?_
  refine o.run G (S1.rtL (fun x hx => by simp [hx]) r1 q1) hf fun F' H' v Lt s2 s3 G2 ho => ?_
  exact k F' H' s1 v d Lt (e1.trans s2) (fun hp => (p1 hp).trans s3) ((back F' H' Lt s2 s3 G2).keep (List.Sublist.append (List.Sublist.refl _) (List.sublist_append_right _ _))) (.own ho) hU⟩
theorem ResL.len : ∀ {vs : List V} {ds : List D} {L : Led}, ResL K F H σ vs ds L → ds.length = vs.length
  | _, _, _, .nil => rfl
  | _, _, _, .cons _ h2 _ => by simp [h2.len]
theorem re_tup {ta : TA} {ua : UA} (ha : RA K p W ta ua) : RE K p W (tTup ta) (uTup ua) := ⟨fun {E P F H σ sd L0 Q er U} S hE h k => by
  refine ha.run S hE h fun F1 H1 s1 vs ds Lt e1 p1 S1 r1 h => ?_
  obtain ⟨hl, ds', s2, hc, hU⟩ := h
  refine ⟨r1.len ▸ hl, fun a ha' => ?_⟩
  obtain ⟨F2, e2, S2, o2⟩ := S1.cloL r1 hc
  obtain ⟨Le, g1, g2⟩ := S2.ex
  obtain ⟨F3, e3, f3, G3⟩ := (g2.new (o := .tup vs) ha').frz .head
  refine k F3 _ s2 (.ref a) (.tup ds') [] (e1.trans (e2.trans e3)) (fun hp => (p1 hp).trans (same_new ha')) ⟨⟨Le, g1.mono e3, G3⟩, S2.pr⟩ ?_ hU
  exact ⟨a, vs, rfl, rfl, SqT.of f3, OwnL.mono e3 _ _ _ o2⟩⟩
theorem re_tupR {ta : TA} {ua : UA} (ha : RA K p W ta ua) : RE K p W (tTup ta) (uTupR ua) := ⟨fun {E P F H σ sd L0 Q er U} S hE h k => by
  refine ha.run S hE h fun F1 H1 s1 vs ds Lt e1 p1 S1 r1 h => ?_
  obtain ⟨hl, ds', s2, hc, hU⟩ := h
  refine ⟨r1.len ▸ hl, fun a ha' => ?_⟩
  obtain ⟨F2, e2, S2, o2⟩ := S1.cloL r1 hc
  obtain ⟨Le, g1, g2⟩ := S2.ex
  obtain ⟨F3, e3, f3, G3⟩ := (g2.new (o := .tup vs) ha').frz .head
  refine k F3 _ s2 (.ref a) (.rt ds') [] (e1.trans (e2.trans e3)) (fun hp => (p1 hp).trans (same_new ha')) ⟨⟨Le, g1.mono e3, G3⟩, S2.pr⟩ ?_ hU
  exact ⟨a, vs, rfl, rfl, f3, OwnL.mono e3 _ _ _ o2⟩⟩
theorem re_lst {ta : TA} {ua : UA} (ha : RA K p W ta ua) : RE K p W (tLst ta) (uLst ua) := ⟨fun {E P F H σ sd L0 Q er U} S hE h k => by
  refine ha.run S hE h fun F1 H1 s1 vs ds Lt e1 p1 S1 r1 h => ?_
  obtain ⟨hl, ds', s2, hc, hU⟩ := h
  refine ⟨r1.len ▸ hl, fun a ha' => ?_⟩
  obtain ⟨F2, e2, S2, o2⟩ := S1.cloL r1 hc
  obtain ⟨Le, g1, g2⟩ := S2.ex
  refine k F2 _ s2 (.ref a) (.lst true ds') [(a, .lst vs)] (e1.trans e2) (fun hp => (p1 hp).trans (same_new ha')) ⟨⟨Le, g1, (g2.new (o := .lst vs) ha').perm ?_⟩, S2.pr⟩ ?_ hU
  · exact List.perm_middle
  · exact ⟨a, vs, rfl, rfl, o2⟩⟩
theorem Sim.toR (S : Sim K E P F H σ sd (Lt ++ L0)) : Sim K E P F H σ sd L0 := S.keep (List.sublist_append_right _ _)
theorem bl_val {c : Bool} (h : Res K F H σ v (.bl c) Lt) : v = .bl c ∧ Lt = [] := h
theorem re_andV {ta tb : TE} {ua ub : UE} (ha : RE K p W ta ua) (hb : RE K q W tb ub) : RE K (p && q) W (tAndV ta tb) (uAndV ua ub) := ⟨fun {E P F H σ sd L0 Q er U} S hE h k => by
  refine ha.run S hE h fun F1 H1 s1 v1 d1 Lt e1 p1 S1 r1 h => ?_
  obtain ⟨c, rfl, h⟩ := h
  obtain ⟨rfl, rfl⟩ := bl_val r1
  refine ⟨c, rfl, ?_⟩
  cases c with
  | true =>
    exact hb.run S1 (hE.mono e1) h fun F2 H2 s2 v2 d2 Lt e2 p2 S2 r2 h => k F2 H2 s2 v2 d2 Lt (e1.trans e2) (fun hp => by simp only [Bool.and_eq_true] at hp; exact (p1 hp.1).trans (p2 hp.2)) S2 r2 h
  | false => exact k F1 H1 s1 _ (.bl false) [] e1 (fun hp => by simp only [Bool.and_eq_true] at hp; exact p1 hp.1) S1 ⟨rfl, rfl⟩ h⟩
theorem re_orV {ta tb : TE} {ua ub : UE} (ha : RE K p W ta ua) (hb : RE K q W tb ub) : RE K (p && q) W (tOrV ta tb) (uOrV ua ub) := ⟨fun {E P F H σ sd L0 Q er U} S hE h k => by
  refine ha.run S hE h fun F1 H1 s1 v1 d1 Lt e1 p1 S1 r1 h => ?_
  obtain ⟨c, rfl, h⟩ := h
  obtain ⟨rfl, rfl⟩ := bl_val r1
  refine ⟨c, rfl, ?_⟩
  cases c with
  | false =>
    exact hb.run S1 (hE.mono e1) h fun F2 H2 s2 v2 d2 Lt e2 p2 S2 r2 h => k F2 H2 s2 v2 d2 Lt (e1.trans e2) (fun hp => by simp only [Bool.and_eq_true] at hp; exact (p1 hp.1).trans (p2 hp.2)) S2 r2 h
  | true => exact k F1 H1 s1 _ (.bl true) [] e1 (fun hp => by simp only [Bool.and_eq_true] at hp; exact p1 hp.1) S1 ⟨rfl, rfl⟩ h⟩
theorem re_notV {ta : TE} {ua : UE} (ha : RE K p W ta ua) : RE K p W (tNotV ta) (uNotV ua) := ⟨fun {E P F H σ sd L0 Q er U} S hE h k => by
  refine ha.run S hE h fun F1 H1 s1 v1 d1 Lt e1 p1 S1 r1 h => ?_
  obtain ⟨c, rfl, h⟩ := h
  obtain ⟨rfl, rfl⟩ := bl_val r1
  exact ⟨c, rfl, k F1 H1 s1 _ (.bl (!c)) [] e1 p1 S1 ⟨rfl, rfl⟩ h⟩⟩
theorem re_if {tc : TT} {uc : UT} {ta tb : TE} {ua ub : UE} (hc : RT K p W tc uc) (ha : RE K q W ta ua) {q' : Bool} (hb : RE K q' W tb ub) : RE K (p && (q && q')) W (tIf tc ta tb) (uIf uc ua ub) := ⟨fun {E P F H σ sd L0 Q er U} S hE h k => by
  refine hc.run S hE h fun F1 H1 s1 c e1 p1 S1 h => ?_
  cases c with
  | true => exact ha.run S1 (hE.mono e1) h fun F2 H2 s2 v2 d2 Lt e2 p2 S2 r2 h => k F2 H2 s2 v2 d2 Lt (e1.trans e2) (fun hp => by simp only [Bool.and_eq_true] at hp; exact (p1 hp.1).trans (p2 hp.2.1)) S2 r2 h
  | false => exact hb.run S1 (hE.mono e1) h fun F2 H2 s2 v2 d2 Lt e2 p2 S2 r2 h => k F2 H2 s2 v2 d2 Lt (e1.trans e2) (fun hp => by simp only [Bool.and_eq_true] at hp; exact (p1 hp.1).trans (p2 hp.2.2)) S2 r2 h⟩
theorem rt_b {ta : TE} {ua : UE} (ha : RE K p W ta ua) : RT K p W (tB ta) (uB ua) := ⟨fun {E P F H σ sd L0 Q er U} S hE h k => by
  refine ha.run S hE h fun F1 H1 s1 v1 d1 Lt e1 p1 S1 r1 h => ?_
  obtain ⟨c, rfl, h⟩ := h
  obtain ⟨rfl, rfl⟩ := bl_val r1
  exact ⟨c, rfl, k F1 H1 s1 c e1 p1 S1 h⟩⟩
theorem rt_test {ta : TE} {ua : UE} (ha : RE K p W ta ua) : RT K p W (tTest ta) (uB ua) := ⟨fun {E P F H σ sd L0 Q er U} S hE h k => by
  refine ha.run S hE h fun F1 H1 s1 v1 d1 Lt e1 p1 S1 r1 h => ?_
  obtain ⟨c, rfl, h⟩ := h
  obtain ⟨rfl, rfl⟩ := bl_val r1
  exact ⟨c, rfl, k F1 H1 s1 c e1 p1 S1 h⟩⟩
theorem rt_and {ta tb : TT} {ua ub : UT} (ha : RT K p W ta ua) (hb : RT K q W tb ub) : RT K (p && q) W (tAnd ta tb) (uAnd ua ub) := ⟨fun {E P F H σ sd L0 Q er U} S hE h k => by
  refine ha.run S hE h fun F1 H1 s1 c e1 p1 S1 h => ?_
  cases c with
  | true => exact hb.run S1 (hE.mono e1) h fun F2 H2 s2 c e2 p2 S2 h => k F2 H2 s2 c (e1.trans e2) (fun hp => by simp only [Bool.and_eq_true] at hp; exact (p1 hp.1).trans (p2 hp.2)) S2 h
  | false => exact k F1 H1 s1 false e1 (fun hp => by simp only [Bool.and_eq_true] at hp; exact p1 hp.1) S1 h⟩
theorem rt_or {ta tb : TT} {ua ub : UT} (ha : RT K p W ta ua) (hb : RT K q W tb ub) : RT K (p && q) W (tOr ta tb) (uOr ua ub) := ⟨fun {E P F H σ sd L0 Q er U} S hE h k => by
  refine ha.run S hE h fun F1 H1 s1 c e1 p1 S1 h => ?_
  cases c with
  | false => exact hb.run S1 (hE.mono e1) h fun F2 H2 s2 c e2 p2 S2 h => k F2 H2 s2 c (e1.trans e2) (fun hp => by simp only [Bool.and_eq_true] at hp; exact (p1 hp.1).trans (p2 hp.2)) S2 h
  | true => exact k F1 H1 s1 true e1 (fun hp => by simp only [Bool.and_eq_true] at hp; exact p1 hp.1) S1 h⟩
theorem rt_not {ta : TT} {ua : UT} (ha : RT K p W ta ua) : RT K p W (tNot ta) (uNot ua) := ⟨fun {E P F H σ sd L0 Q er U} S hE h k =>
  ha.run S hE h fun F1 H1 s1 c e1 p1 S1 h => k F1 H1 s1 (!c) e1 p1 S1 h⟩
theorem rt_yes : RT K true W tYes uYes := ⟨fun {E P F H σ sd L0 Q er U} S hE h k => k F H sd true (Same.refl _) (fun _ => Same.refl _) S h⟩
end
end UL

set_option Elab.async false
set_option linter.all false
set_option maxRecDepth 100000
set_option maxHeartbeats 4000000
namespace UL
open PySem SL
open L2 hiding rLen
def putAt (sd : US) (i : Nat) (p : List Stp) (e : D) : US := match sd[i]? with
  | some (some r) => sd.set i (some (put r p e))
  | _ => sd
def updF (f : Str) : List Str → List D → D → List Str × List D
  | n :: ns, x :: xs, d => if n = f then (n :: ns, d :: xs) else let r := updF f ns xs d; (n :: r.1, x :: r.2)
  | _, _, d => ([f], [d])
def getF (f : Str) (ns : List Str) (xs : List D) : Option D := (ns.idxOf? f).bind (xs[·]?)
structure EndsOk (K : PySem.W.Frag) (E : En) (P : List (Nat × V)) (F : Hp) (W : L2.St → XK) (Z : Ends) (U : UEnds) : Prop where
  nx : ∀ {F' H' σ' sd'}, Same F F' → Sim K E P F' H' σ' sd' [] → U.nx sd' → Z.nx σ' H'
  bk : ∀ {F' H' σ' sd'}, Same F F' → Sim K E P F' H' σ' sd' [] → U.bk sd' → Z.bk σ' H'
  ct : ∀ {F' H' σ' sd'}, Same F F' → Sim K E P F' H' σ' sd' [] → U.ct sd' → Z.ct σ' H'
  rt : ∀ {F' H' σ' sd' v d Lt}, Same F F' → Sim K E P F' H' σ' sd' Lt → Own K F' d v Lt → U.rt d sd' → Z.rt v H'
  er : ∀ {C F' H' σ' sd' L'}, Same F F' → Sim K E P F' H' σ' sd' L' → U.er C sd' → W σ' (.ref C) none H'
structure RS (K : PySem.W.Frag) (Pi : List Nat) (W : L2.St → XK) (ts : TS) (us : UTS) : Prop where
  run : ∀ {E : En} {P : List (Nat × V)} {F H : Hp} {σ : L2.St} {sd : US} {Z : Ends} {U : UEnds}, P.map (·.1) = Pi → Sim K E P F H σ sd [] → EndsOk K E P F W Z U → us U sd → ts Z σ H
/-- nothing is stored but at T -/
def Off (T : List Nat) (σ σ' : L2.St) : Prop := σ'.length = σ.length ∧ ∀ j, j ∉ T → σ'[j]? = σ[j]?
structure RG (K : PySem.W.Frag) (Pi : List Nat) (T : List Nat) (W : L2.St → XK) (tg : TG) (ug : UG) : Prop where
  run : ∀ {E : En} {P : List (Nat × V)} {F H : Hp} {σ : L2.St} {sd : US} {Lt L0 : Led} {v : V} {d : D} {Q : L2.St → Hp → Prop} {er : UX} {U : US → Prop}, P.map (·.1) = Pi → Sim K E P F H σ sd (Lt ++ L0) → Res K F H σ v d Lt → (∀ σ', ErOk K E P F W σ' er) → ug er d sd U →
    (∀ F' H' σ' sd', Same F F' → Sim K E P F' H' σ' sd' L0 → U sd' → Off T σ σ' → Q σ' H') → tg v σ H Q
abbrev UGs := UX → List D → US → (US → Prop) → Prop
structure RGs (K : PySem.W.Frag) (Pi : List Nat) (T : List Nat) (W : L2.St → XK) (tg : TGs) (ug : UGs) : Prop where
  run : ∀ {E : En} {P : List (Nat × V)} {F H : Hp} {σ : L2.St} {sd : US} {L0 : Led} {vs : List V} {ds : List D} {Q : L2.St → Hp → Prop} {er : UX} {U : US → Prop}, P.map (·.1) = Pi → Sim K E P F H σ sd L0 → OwnL K F ds vs [] → (∀ σ', ErOk K E P F W σ' er) → ug er ds sd U →
    (∀ F' H' σ' sd', Same F F' → Sim K E P F' H' σ' sd' L0 → U sd' → Off T σ σ' → Q σ' H') → tg vs σ H Q
section
variable {K : PySem.W.Frag} {F F' H H' : Hp} {E : En} {P : List (Nat × V)} {Pi : List Nat} {L L' L0 L1 Lt M : Led} {v w : V} {vs : List V} {d d' e : D} {ds ds' xs : List D} {p q : Bool} {W : L2.St → XK} {er : UX} {sd sd' : US} {σ : L2.St}
theorem EndsOk.mono {Z : Ends} {U : UEnds} (s : Same F F') (h : EndsOk K E P F W Z U) : EndsOk K E P F' W Z U :=
  ⟨fun a => h.nx (s.trans a), fun a => h.bk (s.trans a), fun a => h.ct (s.trans a), fun a => h.rt (s.trans a), fun a => h.er (s.trans a)⟩
theorem EndsOk.erOk {Z : Ends} {U : UEnds} (h : EndsOk K E P F W Z U) : ErOk K E P F W σ U.er := fun C F' H' sd' L' a b c => h.er a b c
/-- an owned node by its reference -/
theorem Sim.focus {i : Nat} {pa : List Stp} (S : Sim K E P F H σ sd L) (h : Res K F H σ v (.ow i pa) Lt) (hv : vw sd (.ow i pa) = some e) :
    ∃ L1 R, Own K F e v L1 ∧ SL.St E F H (L1 ++ R) ∧ ∀ {F' H' : Hp} {e' : D} {L2 : Led}, Same F F' → Own K F' e' v L2 → SL.St E F' H' (L2 ++ R) → Sim K E P F' H' σ (putAt sd i pa e') L := by
  obtain ⟨rfl, r, h1, h2⟩ := h
  obtain ⟨Le, h3, h4⟩ := S.ex
  simp only [vw] at hv
  split at hv
  · next r' he =>
    obtain ⟨v', A, L1, B, e1, rfl, e3, e4⟩ := h3.at he
    rw [h1] at e1
    cases e1
    obtain ⟨w, A2, L2, B2, rfl, o2, t2, r2⟩ := e3.focus hv
    have g : ∀ x ∈ A2 ++ L2 ++ B2, H x.1 = some x.2 := fun x hx => (h4.own x (by simp only [List.mem_append] at hx ⊢; grind)).1
    obtain rfl := h2.uniq (t2 H g)
    have pm : ∀ M : Led, (M ++ (A ++ (A2 ++ B2) ++ B ++ L)).Perm (A ++ (A2 ++ M ++ B2) ++ B ++ L) := fun M => by
      simp only [List.append_assoc]
      exact ((List.perm_append_comm_assoc _ _ _)).trans (List.Perm.append_left A (List.perm_append_comm_assoc _ _ _))
    refine ⟨L2, _, o2, h4.perm (pm L2), fun {F' H' e' L3} s o G => ?_⟩
    have q := e4 (x := some (put r' pa e')) (y := some r) s ⟨r, rfl, r2 s o⟩
    rw [set_same h1] at q
    exact ⟨⟨_, by simp only [putAt, he]; exact q, G.perm (pm L3).symm⟩, S.pr⟩
  · cases hv
theorem Sim.set {i : Nat} (S : Sim K E P F H σ sd (Lt ++ L0)) (h : Own K F d v Lt) (hi : ∀ x ∈ P, x.1 ≠ i) : Sim K E P F H (σ.set i (some v)) (sd.set i (some d)) L0 := by
  obtain ⟨Le, h1, h2⟩ := S.ex
  refine ⟨?_, fun x hx => ⟨by rw [List.getElem?_set_ne (fun c => hi x hx c.symm)]; exact (S.pr x hx).1, (S.pr x hx).2⟩⟩
  by_cases c : i < sd.length
  · obtain ⟨A, L1, B, rfl, q⟩ := h1.set (i := i) (x := some d) (y := some v) c ⟨v, rfl, h⟩
    refine ⟨_, q, St.sublist (h2.perm (L' := (A ++ Lt ++ B) ++ (L1 ++ L0)) ?_) (List.Sublist.append (List.Sublist.refl _) (List.sublist_append_right _ _))⟩
    simp only [List.append_assoc]
    refine List.Perm.append_left A ?_
    -- Lt ++ B ++ L1 ++ L0 ~ L1 ++ B ++ Lt ++ L0
    refine (List.perm_append_comm_assoc Lt B _).trans ?_
    refine List.Perm.trans ?_ (List.perm_append_comm_assoc B L1 _)
    exact List.Perm.append_left B (List.perm_append_comm_assoc _ _ _)
  · have c2 : ¬ i < σ.length := by rw [← h1.len]; exact c
    rw [List.set_eq_of_length_le (by omega), List.set_eq_of_length_le (by omega)]
    exact ⟨Le, h1, St.sublist h2 (List.Sublist.append (List.Sublist.refl _) (List.sublist_append_right _ _))⟩
theorem not_in {i : Nat} (hP : P.map (·.1) = Pi) (hi : Pi.contains i = false) : ∀ x ∈ P, x.1 ≠ i := fun x hx c => by
  have : i ∈ Pi := hP ▸ List.mem_map.mpr ⟨x, hx, c⟩
  rw [List.contains_iff_mem.mpr this] at hi
  cases hi
theorem off_set {i : Nat} {x : Option V} : Off [i] σ (σ.set i x) := ⟨List.length_set, fun j hj => List.getElem?_set_ne (fun c => hj (by rw [c]; exact List.mem_singleton.mpr rfl))⟩
theorem Off.refl : Off [] σ σ := ⟨rfl, fun _ _ => rfl⟩
theorem Off.trans {T1 T2 : List Nat} {σ1 σ2 : L2.St} (h1 : Off T1 σ σ1) (h2 : Off T2 σ1 σ2) : Off (T1 ++ T2) σ σ2 := ⟨h2.1.trans h1.1, fun j hj => (h2.2 j fun c => hj (List.mem_append_right _ c)).trans (h1.2 j fun c => hj (List.mem_append_left _ c))⟩
/-! ## targets -/
def uName (i : Nat) : UG := fun _ d sd U => match d with
  | .ow j pa => ∃ d' s1, clo sd (.ow j pa) = some (d', s1) ∧ U (s1.set i (some d'))
  | d => U (sd.set i (some d))
theorem rg_name {i : Nat} (hi : Pi.contains i = false) : RG K Pi [i] W (gName i) (uName i) := ⟨fun {E P F H σ sd Lt L0 v d Q er U} hP S r hE h k => by
  cases d with
  | ow j pa =>
    obtain ⟨d', s1, hc, hU⟩ := h
    obtain ⟨F1, e1, S1, o1⟩ := S.clo r hc
    exact k F1 H _ _ e1 (Sim.set (Lt := []) S1 o1 (not_in hP hi)) hU (off_set)
  | _ => exact k F H _ _ (Same.refl _) (S.set r (not_in hP hi)) h (off_set)⟩
def uGNil : UGs := fun _ ds sd U => ds = [] ∧ U sd
def uGCons (ug : UG) (ugs : UGs) : UGs := fun er ds sd U => ∃ d r, ds = d :: r ∧ ug er d sd fun s1 => ugs er r s1 U
def uGTup (n : Nat) (ugs : UGs) : UG := fun er d sd U => ∃ e ds, vw sd d = some e ∧ (e = .tup ds ∨ e = .rt ds) ∧ ds.length = n ∧ ugs er ds sd U
theorem rg_nil : RGs K Pi [] W gNil uGNil := ⟨fun {E P F H σ sd L0 vs ds Q er U} hP S o hE h k => by
  obtain ⟨rfl, hU⟩ := h
  rw [OwnL] at o
  exact ⟨o.1, k F H σ sd (Same.refl _) S hU .refl⟩⟩
theorem rg_cons {tg : TG} {tgs : TGs} {ug : UG} {ugs : UGs} {T1 T2 : List Nat} (hg : RG K Pi T1 W tg ug) (hgs : RGs K Pi T2 W tgs ugs) : RGs K Pi (T1 ++ T2) W (gCons tg tgs) (uGCons ug ugs) := ⟨fun {E P F H σ sd L0 vs ds Q er U} hP S o hE h k => by
  obtain ⟨d, r, rfl, h⟩ := h
  rw [OwnL] at o
  obtain ⟨v, vs', L1, L2, rfl, hL, o1, o2⟩ := o
  obtain ⟨rfl, rfl⟩ : L1 = [] ∧ L2 = [] := by
    have := List.append_eq_nil_iff.mp hL.symm; exact this
  refine ⟨v, vs', rfl, ?_⟩
  refine hg.run (Lt := []) hP S (.own o1) hE h fun F1 H1 σ1 s1 e1 S1 h of1 => ?_
  exact hgs.run hP S1 (OwnL.mono e1 _ _ _ o2) (fun σ' => (hE σ').mono e1) h fun F2 H2 σ2 s2 e2 S2 hU of2 => k F2 H2 σ2 s2 (e1.trans e2) S2 hU (of1.trans of2)⟩
theorem rg_tup {tgs : TGs} {ugs : UGs} {n : Nat} {T : List Nat} (hgs : RGs K Pi T W tgs ugs) : RG K Pi T W (gTup K n tgs) (uGTup n ugs) := ⟨fun {E P F H σ sd Lt L0 v d Q er U} hP S r hE h k => by
  obtain ⟨e, ds, hv, he, hn, h⟩ := h
  obtain ⟨a, vs, rfl, ht, o⟩ : ∃ a vs, v = .ref a ∧ SqT K F a vs ∧ OwnL K F ds vs [] := by
    have := S.rt (fun x hx => by simp [hx]) r hv
    rcases he with rfl | rfl
    · exact this
    · obtain ⟨a, vs, h1, h2, h3⟩ := this
      exact ⟨a, vs, h1, SqT.of h2, h3⟩
  refine ⟨a, vs, rfl, tS S.fh ht, o.len ▸ hn, ?_⟩
  exact hgs.run hP S.toR o hE h fun F1 H1 σ1 s1 e1 S1 hU of1 => k F1 H1 σ1 s1 e1 S1 hU of1⟩
def uGSub (ua ub : UE) : UG := fun er d sd U => ∃ d' s0, clo sd d = some (d', s0) ∧ ua er s0 fun o s1 => ub er s1 fun ix s2 => ∃ i pa k xs j, o = .ow i pa ∧ ix = .int k ∧ vw s2 (.ow i pa) = some (.lst true xs) ∧ ixN xs.length k = some j ∧ U (putAt s2 i pa (.lst true (xs.set j d')))
theorem rg_sub {ta tb : TE} {ua ub : UE} (ha : RE K true W ta ua) (hb : RE K true W tb ub) : RG K Pi [] W (gSub ta tb rSetL) (uGSub ua ub) := ⟨fun {E P F H σ sd Lt L0 v d Q er U} hP S r hE h k => by
  obtain ⟨d', s0, hc, h⟩ := h
  obtain ⟨F0, e0, S0, o0⟩ := S.clo r hc
  refine ha.run S0 ((hE σ).mono e0) h fun F1 H1 s1 v1 d1 Lt1 e1 p1 S1 r1 h => ?_
  refine hb.run S1 ((hE σ).mono (e0.trans e1)) h fun F2 H2 s2 v2 d2 Lt2 e2 p2 S2 r2 h => ?_
  obtain ⟨i, pa, kk, xs, j, rfl, rfl, hv, hj, hU⟩ := h
  obtain ⟨rfl, rfl⟩ : v2 = .int kk ∧ Lt2 = [] := r2
  obtain rfl : Lt1 = [] := r1.1
  obtain ⟨L1, R, o, G, back⟩ := Sim.focus (S2.keep (List.Sublist.refl _)) (r1.mono e2 (.inl (p2 rfl))) hv
  rw [Own] at o
  obtain ⟨a, vs, rfl, rfl, oxs⟩ := o
  refine ⟨a, vs, kk, j, rfl, rfl, G.get List.mem_cons_self, oxs.len ▸ hj, ?_⟩
  have G2 := G.put (o' := .lst (vs.set j v)) .head
  have hjl : j < xs.length := by
    unfold ixN at hj; split at hj
    · split at hj
      · cases hj; omega
      · cases hj
    · split at hj
      · cases hj; omega
      · cases hj
  obtain ⟨w, A, M, B, q1, q2, q3, q4⟩ := oxs.at (n := j) (x := xs[j]) (List.getElem?_eq_getElem hjl)
  have q5 := q4 (Same.refl _) (Own.mono (e1.trans e2) _ _ _ o0)
  obtain ⟨rfl, rfl⟩ : A = [] ∧ B = [] := by
    have := List.append_eq_nil_iff.mp q2.symm; exact ⟨(List.append_eq_nil_iff.mp this.1).1, this.2⟩
  refine k F2 _ σ _ (e0.trans (e1.trans e2)) (back (Same.refl _) (e' := .lst true (xs.set j d')) (L2 := [(a, .lst (vs.set j v))]) ?_ G2) hU .refl
  exact ⟨a, _, rfl, rfl, q5⟩⟩
/-! ## statements -/
def uSeq (u1 u2 : UTS) : UTS := fun U sd => u1 { U with nx := fun s => u2 U s } sd
def uAsg (ua : UE) (ug : UG) : UTS := fun U sd => ua U.er sd fun d s1 => ug U.er d s1 U.nx
def uNext : UTS := fun U sd => U.nx sd
def uBreak : UTS := fun U sd => U.bk sd
def uCont : UTS := fun U sd => U.ct sd
def uDrop (ua : UE) : UTS := fun U sd => ua U.er sd fun _ s1 => U.nx s1
def uRet (ua : UE) : UTS := fun U sd => ua U.er sd fun d s1 => ∃ d' s2, clo s1 d = some (d', s2) ∧ U.rt d' s2
/-- a fresh list or a slot's is handed out -/
def uRetO (ua : UE) : UTS := fun U sd => ua U.er sd fun d s1 => match d with
  | .ow i [] => ∃ r, s1[i]? = some (some r) ∧ U.rt r (s1.set i none)
  | .ow _ _ => False
  | d => U.rt d s1
def uRetN : UTS := fun U sd => U.rt .non sd
def uIfS (uc : UT) (u1 u2 : UTS) : UTS := fun U sd => uc U.er sd fun b s1 => UIf b (u1 U s1) (u2 U s1)
def uRs (C : Addr) : UTS := fun U sd => U.er C sd
theorem rs_seq {t1 t2 : TS} {u1 u2 : UTS} (h1 : RS K Pi W t1 u1) (h2 : RS K Pi W t2 u2) : RS K Pi W (tSeq t1 t2) (uSeq u1 u2) := ⟨fun {E P F H σ sd Z U} hP S hE h =>
  h1.run (U := { U with nx := fun s => u2 U s }) hP S ⟨fun a b c => h2.run hP b (hE.mono a) c, hE.bk, hE.ct, hE.rt, hE.er⟩ h⟩
theorem rs_asg {ta : TE} {ua : UE} {tg : TG} {ug : UG} {T : List Nat} (ha : RE K p W ta ua) (hg : RG K Pi T W tg ug) : RS K Pi W (tAsg ta tg) (uAsg ua ug) := ⟨fun {E P F H σ sd Z U} hP S hE h => by
  refine ha.run S hE.erOk h fun F1 H1 s1 v1 d1 Lt e1 p1 S1 r1 h => ?_
  exact hg.run hP S1 r1 (fun σ' => (hE.mono e1).erOk) h fun F2 H2 σ2 s2 e2 S2 hU _ => hE.nx (e1.trans e2) S2 hU⟩
theorem rs_next : RS K Pi W tNext uNext := ⟨fun hP S hE h => hE.nx (Same.refl _) S h⟩
theorem rs_break : RS K Pi W tBreak uBreak := ⟨fun hP S hE h => hE.bk (Same.refl _) S h⟩
theorem rs_cont : RS K Pi W tCont uCont := ⟨fun hP S hE h => hE.ct (Same.refl _) S h⟩
theorem rs_drop {ta : TE} {ua : UE} (ha : RE K p W ta ua) : RS K Pi W (tDrop ta) (uDrop ua) := ⟨fun {E P F H σ sd Z U} hP S hE h =>
  ha.run S hE.erOk h fun F1 H1 s1 v1 d1 Lt e1 p1 S1 r1 h => hE.nx e1 S1.toR h⟩
theorem rs_ret {ta : TE} {ua : UE} (ha : RE K p W ta ua) : RS K Pi W (tRet ta) (uRet ua) := ⟨fun {E P F H σ sd Z U} hP S hE h =>
  ha.run S hE.erOk h fun F1 H1 s1 v1 d1 Lt e1 p1 S1 r1 h => by
    obtain ⟨d', s2, hc, hU⟩ := h
    obtain ⟨F2, e2, S2, o2⟩ := S1.clo r1 hc
    exact hE.rt (e1.trans e2) S2 o2 hU⟩
theorem rs_retO {ta : TE} {ua : UE} (ha : RE K p W ta ua) : RS K Pi W (tRet ta) (uRetO ua) := ⟨fun {E P F H σ sd Z U} hP S hE h =>
  ha.run S hE.erOk h fun F1 H1 s1 v1 d1 Lt e1 p1 S1 r1 h => by
    cases d1 with
    | ow i pa =>
      cases pa with
      | cons _ _ => exact h.elim
      | nil =>
        obtain ⟨r, hr, hU⟩ := h
        obtain ⟨rfl, v', h1, h2⟩ := r1
        obtain rfl : v' = v1 := h2
        obtain ⟨Le, h3, h4⟩ := S1.ex
        obtain ⟨v', A, L1, B, q1, rfl, q3, q4⟩ := h3.at hr
        rw [h1] at q1
        cases q1
        have q := q4 (x := none) (y := some v') (L2 := []) (Same.refl _) rfl
        rw [set_same h1] at q
        refine hE.rt e1 (Lt := L1) ⟨⟨_, q, h4.perm ?_⟩, S1.pr⟩ q3 hU
        simp only [List.append_assoc, List.append_nil, List.nil_append]
        exact List.Perm.append_left A (List.perm_append_comm)
    | _ => exact hE.rt e1 (by simpa using S1) r1 h⟩
theorem rs_retN : RS K Pi W tRetN uRetN := ⟨fun hP S hE h => hE.rt (Same.refl _) S (d := .non) ⟨rfl, rfl⟩ h⟩
theorem rs_if {tc : TT} {uc : UT} {t1 t2 : TS} {u1 u2 : UTS} (hc : RT K p W tc uc) (h1 : RS K Pi W t1 u1) (h2 : RS K Pi W t2 u2) : RS K Pi W (tIfS tc t1 t2) (uIfS uc u1 u2) := ⟨fun {E P F H σ sd Z U} hP S hE h =>
  hc.run S hE.erOk h fun F1 H1 s1 c e1 p1 S1 h => by
    cases c with
    | true => exact h1.run hP S1 (hE.mono e1) h
    | false => exact h2.run hP S1 (hE.mono e1) h⟩
theorem rs_rs {C : Addr} {X : XK} (hW : ∀ σ, W σ = X) : RS K Pi W (tRs C X) (uRs C) := ⟨fun {E P F H σ sd Z U} hP S hE h => by
  have := hE.er (Same.refl _) S h
  rw [hW] at this
  exact this⟩
end
end UL

set_option Elab.async false
set_option linter.all false
set_option maxRecDepth 100000
set_option maxHeartbeats 4000000
namespace UL
open PySem SL
open L2 hiding rLen
/-! ## iterators -/
structure IterOk (K : PySem.W.Frag) (F : Hp) (J : It) (xs : List D) : Prop where
  stop : ∀ {F' H' : Hp}, Same F F' → Same F' H' → J.stop xs.length H'
  go : ∀ {i : Nat} {F' H' : Hp} {x : D}, Same F F' → Same F' H' → xs[i]? = some x → J.go i H'
  yld : ∀ {i : Nat} {F' H' H2 : Hp} {x : D} {v : V} {E : En} {L : Led}, Same F F' → xs[i]? = some x → SL.St E F' H' L → J.yld i H' v H2 → ∃ F2, Same F' F2 ∧ Same H' H2 ∧ SL.St E F2 H2 L ∧ Own K F2 x v []
abbrev UI := UX → US → (List D → US → Prop) → Prop
structure RI (K : PySem.W.Frag) (p : Bool) (W : L2.St → XK) (wi : TI) (ui : UI) : Prop where
  run : ∀ {E : En} {P : List (Nat × V)} {F H : Hp} {σ : L2.St} {sd : US} {L0 : Led} {R : It → Hp → Prop} {er : UX} {U : List D → US → Prop}, Sim K E P F H σ sd L0 → ErOk K E P F W σ er → ui er sd U →
    (∀ F' H' sd' J xs, Same F F' → (p = true → Same H H') → Sim K E P F' H' σ sd' L0 → IterOk K F' J xs → U xs sd' → R J H') → wi σ H R
def uIter (ua : UE) : UI := fun er sd U => ua er sd fun d s1 => ∃ d' s2, clo s1 d = some (d', s2) ∧ ∃ xs, (d' = .lst false xs ∨ d' = .tup xs) ∧ U xs s2
def uIterL (ua : UE) : UI := fun er sd U => ua er sd fun d s1 => ∃ xs s2, clo s1 d = some (.lst false xs, s2) ∧ U xs s2
def uIterT (ua : UE) : UI := fun er sd U => ua er sd fun d s1 => ∃ xs s2, clo s1 d = some (.tup xs, s2) ∧ U xs s2
section
variable {K : PySem.W.Frag} {F F' H H' : Hp} {E : En} {P : List (Nat × V)} {Pi : List Nat} {L L' L0 L1 Lt M : Led} {v w : V} {vs : List V} {d d' e : D} {ds ds' xs : List D} {p q : Bool} {W : L2.St → XK} {er : UX} {sd sd' : US} {σ : L2.St}
theorem OwnL.get {i : Nat} {x : D} {y : V} (o : OwnL K F xs vs []) (hx : xs[i]? = some x) (hy : vs[i]? = some y) : Own K F x y [] := by
  obtain ⟨w, A, M, B, q1, q2, q3, q4⟩ := o.at hx
  rw [hy] at q1
  cases q1
  have := List.append_eq_nil_iff.mp q2.symm
  rw [← (List.append_eq_nil_iff.mp this.1).2]; exact q3
theorem OwnL.ex {i : Nat} {x : D} (o : OwnL K F xs vs []) (hx : xs[i]? = some x) : ∃ y, vs[i]? = some y ∧ Own K F x y [] := by
  obtain ⟨w, A, M, B, q1, q2, q3, q4⟩ := o.at hx
  exact ⟨w, q1, o.get hx q1⟩

theorem okL {a : Addr} (ha : F a = some (.lst vs)) (o : OwnL K F xs vs []) : IterOk K F (Itl K a) xs where
  stop := fun s1 s2 => ⟨vs, SqL.of (s2 _ _ (s1 _ _ ha)), Nat.le_of_eq o.len.symm⟩
  go := fun s1 s2 hx => by
    obtain ⟨y, hy, _⟩ := o.ex hx
    exact ⟨vs, y, SqL.of (s2 _ _ (s1 _ _ ha)), hy⟩
  yld := fun {i F' H' H2 x v E L} s1 hx G h => by
    obtain ⟨rfl, h⟩ := h
    exact ⟨F', Same.refl _, Same.refl _, G, Own.mono s1 _ _ _ (o.get hx (h vs (SqL.of (G.fh _ _ (s1 _ _ ha)))))⟩
theorem okT {a : Addr} (ha : SqT K F a vs) (o : OwnL K F xs vs []) : IterOk K F (Itt K a) xs where
  stop := fun s1 s2 => ⟨vs, tS s2 (tS s1 ha), Nat.le_of_eq o.len.symm⟩
  go := fun s1 s2 hx => by
    obtain ⟨y, hy, _⟩ := o.ex hx
    exact ⟨vs, y, tS s2 (tS s1 ha), hy⟩
  yld := fun {i F' H' H2 x v E L} s1 hx G h => by
    obtain ⟨rfl, h⟩ := h
    exact ⟨F', Same.refl _, Same.refl _, G, Own.mono s1 _ _ _ (o.get hx (h vs (tS G.fh (tS s1 ha))))⟩
theorem clo_ref {i : Nat} {pa : List Stp} (hc : clo sd d = some (d', sd')) : ∃ e, d' = fz e := by
  cases d with
  | ow i pa =>
    simp only [clo] at hc
    split at hc
    · split at hc
      · exact ⟨_, (Prod.mk.inj (Option.some.inj hc)).1.symm⟩
      · cases hc
    · cases hc
  | _ => exact ⟨_, (Prod.mk.inj (Option.some.inj hc)).1.symm⟩
theorem ri_list {ta : TE} {ua : UE} (ha : RE K p W ta ua) : RI K p W (iList K ta) (uIterL ua) := ⟨fun {E P F H σ sd L0 R er U} S hE h k => by
  refine ha.run S hE h fun F1 H1 s1 v1 d1 Lt e1 p1 S1 r1 h => ?_
  obtain ⟨xs, s2, hc, hU⟩ := h
  obtain ⟨F2, e2, S2, o⟩ := S1.clo r1 hc
  rw [Own] at o
  obtain ⟨a, vs, rfl, _, hF, ox⟩ := o
  exact ⟨a, rfl, ⟨vs, SqL.of (S2.fh _ _ hF)⟩, k F2 H1 s2 _ xs (e1.trans e2) p1 S2 (okL hF ox) hU⟩⟩
theorem ri_tup {ta : TE} {ua : UE} (ha : RE K p W ta ua) : RI K p W (iTup K ta) (uIterT ua) := ⟨fun {E P F H σ sd L0 R er U} S hE h k => by
  refine ha.run S hE h fun F1 H1 s1 v1 d1 Lt e1 p1 S1 r1 h => ?_
  obtain ⟨xs, s2, hc, hU⟩ := h
  obtain ⟨F2, e2, S2, o⟩ := S1.clo r1 hc
  rw [Own] at o
  obtain ⟨a, vs, rfl, _, hF, ox⟩ := o
  exact ⟨a, rfl, ⟨vs, tS S2.fh hF⟩, k F2 H1 s2 _ xs (e1.trans e2) p1 S2 (okT hF ox) hU⟩⟩
theorem ri_seq {ta : TE} {ua : UE} (ha : RE K p W ta ua) : RI K p W (iSeq K ta) (uIter ua) := ⟨fun {E P F H σ sd L0 R er U} S hE h k => by
  refine ha.run S hE h fun F1 H1 s1 v1 d1 Lt e1 p1 S1 r1 h => ?_
  obtain ⟨d', s2, hc, xs, hd, hU⟩ := h
  obtain ⟨F2, e2, S2, o⟩ := S1.clo r1 hc
  rcases hd with rfl | rfl
  · rw [Own] at o
    obtain ⟨a, vs, rfl, _, hF, ox⟩ := o
    exact ⟨a, true, vs, rfl, SqL.of (S2.fh _ _ hF), k F2 H1 s2 _ xs (e1.trans e2) p1 S2 (okL hF ox) hU⟩
  · rw [Own] at o
    obtain ⟨a, vs, rfl, _, hF, ox⟩ := o
    exact ⟨a, false, vs, rfl, tS S2.fh hF, k F2 H1 s2 _ xs (e1.trans e2) p1 S2 (okT hF ox) hU⟩⟩
def rngD (lo : Int) (n : Nat) : List D := (List.range n).map fun (k : Nat) => .int (lo + (k : Int))
theorem rngD_get {lo : Int} {n i : Nat} {x : D} : (rngD lo n)[i]? = some x ↔ i < n ∧ x = .int (lo + (i : Int)) := by
  unfold rngD
  rw [List.getElem?_map]
  by_cases c : i < n
  · rw [List.getElem?_range c]
    constructor
    · intro h; exact ⟨c, (Option.some.inj h).symm⟩
    · rintro ⟨_, rfl⟩; rfl
  · rw [List.getElem?_eq_none (by simpa using c)]
    constructor
    · intro h; cases h
    · rintro ⟨h, _⟩; exact absurd h c
theorem rngD_len {lo : Int} {n : Nat} : (rngD lo n).length = n := by unfold rngD; simp
theorem okR {lo : Int} {n : Nat} : IterOk K F (Itr lo n) (rngD lo n) where
  stop := fun s1 s2 => by show n ≤ _; rw [rngD_len]; exact Nat.le_refl _
  go := fun s1 s2 hx => (rngD_get.mp hx).1
  yld := fun {i F' H' H2 x v E L} s1 hx G h => by
    obtain ⟨rfl, rfl⟩ := h
    obtain ⟨_, rfl⟩ := rngD_get.mp hx
    exact ⟨F', Same.refl _, Same.refl _, G, rfl, rfl⟩
def uRng1 (ua : UA) : UI := fun er sd U => ua er sd fun ds s1 => ∃ j : Int, ds = [.int j] ∧ -(2 ^ 62) ≤ j ∧ j < 2 ^ 62 ∧ U (rngD 0 j.toNat) s1
def uRng2 (ua : UA) : UI := fun er sd U => ua er sd fun ds s1 => ∃ i j : Int, ds = [.int i, .int j] ∧ (-(2 ^ 62) ≤ i ∧ i < 2 ^ 62 ∧ -(2 ^ 62) ≤ j ∧ j < 2 ^ 62) ∧ U (rngD i (j - i).toNat) s1
theorem ResL.int1 {j : Int} {Lt : Led} (h : ResL K F H σ vs [.int j] Lt) : vs = [.int j] ∧ Lt = [] := by
  cases h with
  | cons h1 h2 h3 =>
    cases h2
    obtain ⟨rfl, rfl⟩ : _ ∧ _ := h1
    exact ⟨rfl, h3⟩
theorem ResL.int2 {i j : Int} {Lt : Led} (h : ResL K F H σ vs [.int i, .int j] Lt) : vs = [.int i, .int j] ∧ Lt = [] := by
  cases h with
  | cons h1 h2 h3 =>
    obtain ⟨rfl, rfl⟩ : _ ∧ _ := h1
    obtain ⟨rfl, rfl⟩ := h2.int1
    exact ⟨rfl, h3⟩
theorem ri_rng1 {ta : TA} {ua : UA} (ha : RA K p W ta ua) : RI K p W (iRng1 ta) (uRng1 ua) := ⟨fun {E P F H σ sd L0 R er U} S hE h k => by
  refine ha.run S hE h fun F1 H1 s1 vs ds Lt e1 p1 S1 r1 h => ?_
  obtain ⟨j, rfl, h1, h2, hU⟩ := h
  obtain ⟨rfl, rfl⟩ := r1.int1
  exact ⟨j, rfl, h1, h2, k F1 H1 s1 _ _ e1 p1 S1 okR hU⟩⟩
theorem ri_rng2 {ta : TA} {ua : UA} (ha : RA K p W ta ua) : RI K p W (iRng2 ta) (uRng2 ua) := ⟨fun {E P F H σ sd L0 R er U} S hE h k => by
  refine ha.run S hE h fun F1 H1 s1 vs ds Lt e1 p1 S1 r1 h => ?_
  obtain ⟨i, j, rfl, h1, hU⟩ := h
  obtain ⟨rfl, rfl⟩ := r1.int2
  exact ⟨i, j, rfl, h1, k F1 H1 s1 _ _ e1 p1 S1 okR hU⟩⟩
def enD (xs : List D) : List D := xs.zipIdx.map fun x => .tup [.int (x.2 : Nat), x.1]
theorem enD_get {i : Nat} {x : D} : (enD xs)[i]? = some x ↔ ∃ y, xs[i]? = some y ∧ x = .tup [.int (i : Nat), y] := by
  unfold enD
  rw [List.getElem?_map, List.getElem?_zipIdx]
  cases h : xs[i]? with
  | none => simp
  | some y => simp [eq_comm]
theorem enD_len : (enD xs).length = xs.length := by unfold enD; simp
theorem okE {a : Addr} (ha : F a = some (.lst vs)) (o : OwnL K F xs vs []) : IterOk K F (Ite K a) (enD xs) where
  stop := fun s1 s2 => ⟨vs, SqL.of (s2 _ _ (s1 _ _ ha)), by rw [enD_len]; exact Nat.le_of_eq o.len.symm⟩
  go := fun s1 s2 hx => by
    obtain ⟨y, hy, _⟩ := enD_get.mp hx
    obtain ⟨z, hz, _⟩ := o.ex hy
    exact ⟨vs, z, SqL.of (s2 _ _ (s1 _ _ ha)), hz⟩
  yld := fun {i F' H' H2 x v E L} s1 hx G h => by
    obtain ⟨T, z, rfl, hn, rfl, h⟩ := h
    obtain ⟨y, hy, rfl⟩ := enD_get.mp hx
    have hz := h vs (SqL.of (G.fh _ _ (s1 _ _ ha)))
    obtain ⟨F2, e2, f2, G2⟩ := (G.new (o := .tup [.int (i : Nat), z]) hn).frz .head
    refine ⟨F2, e2, same_new hn, G2, T, _, rfl, rfl, SqT.of f2, ?_⟩
    refine ⟨_, _, [], [], rfl, rfl, ⟨rfl, rfl⟩, ⟨_, _, [], [], rfl, rfl, Own.mono (s1.trans e2) _ _ _ (o.get hy hz), rfl, rfl⟩⟩
def uEnum (ua : UA) : UI := fun er sd U => ua er sd fun ds s1 => ∃ d xs s2, ds = [d] ∧ clo s1 d = some (.lst false xs, s2) ∧ U (enD xs) s2
theorem ri_enum {ta : TA} {ua : UA} (ha : RA K p W ta ua) : RI K p W (iEnum K ta) (uEnum ua) := ⟨fun {E P F H σ sd L0 R er U} S hE h k => by
  refine ha.run S hE h fun F1 H1 s1 vs ds Lt e1 p1 S1 r1 h => ?_
  obtain ⟨d, xs, s2, rfl, hc, hU⟩ := h
  cases r1 with
  | cons h1 h2 h3 =>
    cases h2
    subst h3
    obtain ⟨F2, e2, S2, o⟩ := S1.clo (by simpa using h1) hc
    rw [Own] at o
    obtain ⟨a, vs, rfl, _, hF, ox⟩ := o
    exact ⟨a, vs, rfl, SqL.of (S2.fh _ _ hF), k F2 H1 s2 _ _ (e1.trans e2) p1 S2 (okE hF ox) hU⟩⟩
/-! ## for, while -/
def uFor (ui : UI) (ug : UG) (ub : UTS) : UTS := fun U sd => ui U.er sd fun xs s1 => ∃ I : Nat → US → Prop, I 0 s1 ∧ (∀ s, I xs.length s → U.nx s) ∧
  ∀ i x s, xs[i]? = some x → I i s → ug U.er x s fun s2 => ub { U with nx := I (i + 1), ct := I (i + 1), bk := U.nx } s2
theorem rs_for {wi : TI} {ui : UI} {tg : TG} {ug : UG} {tb : TS} {ub : UTS} {T : List Nat} (hi : RI K p W wi ui) (hg : RG K Pi T W tg ug) (hb : RS K Pi W tb ub) : RS K Pi W (tFor wi tg tb) (uFor ui ug ub) := ⟨fun {E P F H σ sd Z U} hP S hE h => by
  refine hi.run S hE.erOk h fun F1 H1 s1 J xs e1 p1 S1 ok h => ?_
  obtain ⟨I, h0, hx, hs⟩ := h
  refine ⟨fun i m σ' H' => i + m = xs.length ∧ ∃ F' sd', Same F1 F' ∧ Sim K E P F' H' σ' sd' [] ∧ I i sd', ⟨xs.length, by omega, F1, s1, Same.refl _, S1, h0⟩, ?_⟩
  rintro i m σ' H' ⟨hm, F', sd', e2, S2, hI⟩
  by_cases c : i = xs.length
  · subst c
    exact .inl ⟨ok.stop e2 S2.fh, hE.nx (e1.trans e2) S2 (hx _ hI)⟩
  · have hl : i < xs.length := by omega
    have hx' := List.getElem?_eq_getElem hl
    refine .inr ⟨ok.go e2 S2.fh hx', fun σ3 H3 => ∃ F3 sd3, Same F1 F3 ∧ Sim K E P F3 H3 σ3 sd3 [] ∧ I (i + 1) sd3, fun σ3 H3 h3 => ⟨m - 1, by omega, by omega, h3⟩, fun v H2 hy => ?_⟩
    obtain ⟨Le, g1, g2⟩ := S2.ex
    obtain ⟨F3, e3, hh, G3, o3⟩ := ok.yld e2 hx' g2 hy
    refine hg.run (Lt := []) hP ⟨⟨Le, g1.mono e3, G3⟩, S2.pr⟩ (.own o3) (fun σ' => (hE.mono (e1.trans (e2.trans e3))).erOk) (hs i _ sd' hx' hI) fun F4 H4 σ4 s4 e4 S4 h4 _ => ?_
    refine hb.run (U := { U with nx := I (i + 1), ct := I (i + 1), bk := U.nx }) hP S4 ⟨fun a b c => ⟨_, _, e2.trans (e3.trans (e4.trans a)), b, c⟩, fun a b c => hE.nx (e1.trans (e2.trans (e3.trans (e4.trans a)))) b c, fun a b c => ⟨_, _, e2.trans (e3.trans (e4.trans a)), b, c⟩, fun a => hE.rt (e1.trans (e2.trans (e3.trans (e4.trans a)))), fun a => hE.er (e1.trans (e2.trans (e3.trans (e4.trans a))))⟩ h4⟩
def uWhile (uc : UT) (ub : UTS) : UTS := fun U sd => ∃ I : Nat → US → Prop, (∃ m, I m sd) ∧ ∀ m s, I m s → uc U.er s fun b s1 => UIf b (ub { U with nx := fun s' => ∃ m', m' < m ∧ I m' s', ct := fun s' => ∃ m', m' < m ∧ I m' s', bk := U.nx } s1) (U.nx s1)
theorem rs_while {tc : TT} {uc : UT} {tb : TS} {ub : UTS} (hc : RT K p W tc uc) (hb : RS K Pi W tb ub) : RS K Pi W (tWhile tc tb) (uWhile uc ub) := ⟨fun {E P F H σ sd Z U} hP S hE h => by
  obtain ⟨I, ⟨m0, h0⟩, hs⟩ := h
  refine ⟨fun m σ' H' => ∃ F' sd', Same F F' ∧ Sim K E P F' H' σ' sd' [] ∧ I m sd', ⟨m0, F, sd, Same.refl _, S, h0⟩, ?_⟩
  rintro m σ' H' ⟨F', sd', e1, S1, hI⟩
  refine hc.run S1 (hE.mono e1).erOk (hs m sd' hI) fun F2 H2 s2 b e2 p2 S2 h => ?_
  cases b with
  | false => exact hE.nx (e1.trans e2) S2 h
  | true =>
    rw [if_pos rfl]
    refine ⟨fun σ3 H3 => ∃ m', m' < m ∧ ∃ F3 sd3, Same F F3 ∧ Sim K E P F3 H3 σ3 sd3 [] ∧ I m' sd3, fun σ3 H3 h3 => h3, ?_⟩
    refine hb.run (U := { U with nx := fun s' => ∃ m', m' < m ∧ I m' s', ct := fun s' => ∃ m', m' < m ∧ I m' s', bk := U.nx }) hP S2 ⟨fun a b c => ?_, fun a b c => hE.nx (e1.trans (e2.trans a)) b c, fun a b c => ?_, fun a => hE.rt (e1.trans (e2.trans a)), fun a => hE.er (e1.trans (e2.trans a))⟩ h
    · obtain ⟨m', h1, h2⟩ := c
      exact ⟨m', h1, _, _, e1.trans (e2.trans a), b, h2⟩
    · obtain ⟨m', h1, h2⟩ := c
      exact ⟨m', h1, _, _, e1.trans (e2.trans a), b, h2⟩⟩
end
end UL

set_option Elab.async false
set_option linter.all false
set_option maxRecDepth 100000
set_option maxHeartbeats 4000000
namespace UL
open PySem SL
open L2 hiding rLen
/-! ## comprehensions -/
def uwipe (sd : US) : List Nat → US
  | [] => sd
  | v :: vs => (uwipe sd vs).set v none
def pureO (s1 : US) (v : Nat) : Option D := match s1[v]? with
  | some (some d) => if rootO d then none else some d
  | _ => none
def rst (s s1 : US) : List Nat → US
  | [] => s
  | v :: vs => (rst s s1 vs).set v (pureO s1 v)
def noEr : UX := fun _ _ => False
def uLc (ui : UI) (ug : UG) (ut : UT) (ue : UE) (vs : List Nat) : UE := fun er sd U => ui er sd fun xs s1 => xs.length ≤ sizeLine ∧ ∃ I : Nat → List D → US → Prop, I 0 [] (uwipe s1 vs) ∧
  (∀ acc s, I xs.length acc s → U (.lst true acc) (rst (uwipe s vs) s1 vs)) ∧
  ∀ i x acc s, xs[i]? = some x → I i acc s → ug noEr x s fun s2 => ut noEr s2 fun b s3 => UIf b (ue noEr s3 fun d s4 => ∃ d' s5, clo s4 d = some (d', s5) ∧ I (i + 1) (acc ++ [d']) (uwipe s5 vs)) (I (i + 1) acc (uwipe s3 vs))
section
variable {K : PySem.W.Frag} {F F' H H' : Hp} {E : En} {P : List (Nat × V)} {Pi : List Nat} {L L' L0 L1 Lt M : Led} {v w : V} {vs : List V} {d d' e : D} {ds ds' xs : List D} {p q : Bool} {W : L2.St → XK} {er : UX} {sd sd' : US} {σ : L2.St}
theorem OwnE.agree : ∀ {sd : US} {σ σ' : List (Option V)} {L : Led}, OwnE K F sd σ L → σ'.length = σ.length → (∀ j : Nat, sd[j]? ≠ some none → σ'[j]? = σ[j]?) → OwnE K F sd σ' L
  | [], σ, σ', L, h, hl, hj => by
    obtain ⟨rfl, rfl⟩ := h
    exact ⟨List.eq_nil_of_length_eq_zero hl, rfl⟩
  | none :: sd, σ, σ', L, h, hl, hj => by
    obtain ⟨x, σ0, rfl, h2⟩ := h
    cases σ' with
    | nil => simp at hl
    | cons y σ' => exact ⟨y, σ', rfl, h2.agree (by simpa using hl) fun j hn => by simpa using hj (j + 1) (by simpa using hn)⟩
  | some d :: sd, σ, σ', L, h, hl, hj => by
    obtain ⟨v, σ0, L1, L2, rfl, rfl, h3, h4⟩ := h
    cases σ' with
    | nil => simp at hl
    | cons y σ' =>
      obtain rfl : y = some v := by simpa using hj 0 (by simp)
      exact ⟨v, σ', L1, L2, rfl, rfl, h3, h4.agree (by simpa using hl) fun j hn => by simpa using hj (j + 1) (by simpa using hn)⟩
theorem Sim.non {i : Nat} (S : Sim K E P F H σ sd L) (hi : ∀ x ∈ P, x.1 ≠ i) {y : Option V} : Sim K E P F H (σ.set i y) (sd.set i none) L := by
  obtain ⟨Le, h1, h2⟩ := S.ex
  refine ⟨?_, fun x hx => ⟨by rw [List.getElem?_set_ne (fun c => hi x hx c.symm)]; exact (S.pr x hx).1, (S.pr x hx).2⟩⟩
  by_cases c : i < sd.length
  · obtain ⟨A, L1, B, rfl, q⟩ := h1.set (i := i) (x := none) (y := y) (L2 := []) c rfl
    refine ⟨_, q, St.sublist h2 (List.Sublist.append ?_ (List.Sublist.refl _))⟩
    simp only [List.append_assoc, List.nil_append]
    exact List.Sublist.append (List.Sublist.refl _) (List.sublist_append_right _ _)
  · have c2 : ¬ i < σ.length := by rw [← h1.len]; exact c
    rw [List.set_eq_of_length_le (by omega), List.set_eq_of_length_le (by omega)]
    exact ⟨Le, h1, h2⟩
theorem Sim.wipe : ∀ {ws : List Nat}, Sim K E P F H σ sd L → (∀ i ∈ ws, ∀ x ∈ P, x.1 ≠ i) → Sim K E P F H (L2.wipe σ ws) (uwipe sd ws) L
  | [], S, _ => S
  | i :: ws, S, h => (Sim.wipe (ws := ws) S fun j hj => h j (List.mem_cons_of_mem _ hj)).non (h i List.mem_cons_self)
theorem uwipe_len : ∀ {ws : List Nat} {sd : US}, (uwipe sd ws).length = sd.length
  | [], _ => rfl
  | w :: ws, sd => by rw [uwipe, List.length_set, uwipe_len (ws := ws)]
theorem wipe_get : ∀ {ws : List Nat} {σ : L2.St} {j : Nat}, (L2.wipe σ ws)[j]? = if j ∈ ws ∧ j < σ.length then some none else σ[j]?
  | [], σ, j => by simp [L2.wipe]
  | w :: ws, σ, j => by
    rw [L2.wipe, List.getElem?_set, wipe_length, wipe_get (ws := ws)]
    by_cases c : w = j
    · subst c
      by_cases h : w < σ.length
      · simp [h]
      · have : σ[w]? = none := by simpa using h
        simp [h, this]
    · have c' : j ≠ w := fun h => c h.symm
      simp [c, c']
theorem uwipe_get : ∀ {ws : List Nat} {sd : US} {j : Nat}, (uwipe sd ws)[j]? = if j ∈ ws ∧ j < sd.length then some none else sd[j]?
  | [], σ, j => by simp [uwipe]
  | w :: ws, σ, j => by
    rw [uwipe, List.getElem?_set, uwipe_len, uwipe_get (ws := ws)]
    by_cases c : w = j
    · subst c
      by_cases h : w < σ.length
      · simp [h]
      · have : σ[w]? = none := by simpa using h
        simp [h, this]
    · have c' : j ≠ w := fun h => c h.symm
      simp [c, c']
/-- the slots of the comprehension's names are as they were -/
theorem Sim.unwipe {ws : List Nat} (S : Sim K E P F H (L2.wipe σ ws) (uwipe sd ws) L) (hP : ∀ x ∈ P, σ[x.1]? = some (some x.2) ∧ x.1 = 0) : Sim K E P F H σ (uwipe sd ws) L := by
  obtain ⟨Le, h1, h2⟩ := S.ex
  refine ⟨⟨Le, h1.agree (by rw [wipe_length]) fun j hj => ?_, h2⟩, hP⟩
  rw [wipe_get]
  have hlen := h1.len
  rw [uwipe_len, wipe_length] at hlen
  by_cases c : j ∈ ws ∧ j < σ.length
  · exfalso
    apply hj
    rw [uwipe_get, if_pos ⟨c.1, by omega⟩]
  · rw [if_neg c]
theorem Sim.rst {s1 : US} {F1 H1 : Hp} {L1' : Led} : ∀ {ws : List Nat}, Sim K E P F H σ sd L → Sim K E P F1 H1 σ s1 L1' → Same F1 F → Sim K E P F H σ (rst sd s1 ws) L
  | [], S, _, _ => S
  | i :: ws, S, S1, e => by
    have S2 := Sim.rst (ws := ws) S S1 e
    obtain ⟨Le, g1, g2⟩ := S1.ex
    have hx : pureO s1 i = none ∨ ∃ d v, pureO s1 i = some d ∧ σ[i]? = some (some v) ∧ Own K F d v [] := by
      unfold pureO
      split
      · next d hd =>
        obtain ⟨v, A, M, B, q1, rfl, q3, q4⟩ := g1.at hd
        cases hr : rootO d with
        | true => exact .inl rfl
        | false =>
          obtain rfl := Own.pure hr q3
          exact .inr ⟨d, v, rfl, q1, Own.mono e _ _ _ q3⟩
      · exact .inl rfl
    obtain ⟨Le2, h1, h2⟩ := S2.ex
    show Sim K E P F H σ ((UL.rst sd s1 ws).set i (pureO s1 i)) L
    by_cases c : i < (UL.rst sd s1 ws).length
    · rcases hx with hx | ⟨d, v, hx, hv, ho⟩
      · rw [hx]
        have c2 : i < σ.length := by rw [← h1.len]; exact c
        obtain ⟨A, L1, B, rfl, q⟩ := h1.set (i := i) (x := none) (y := σ[i]) (L2 := []) c rfl
        rw [set_same (List.getElem?_eq_getElem c2)] at q
        refine ⟨⟨_, q, St.sublist h2 (List.Sublist.append ?_ (List.Sublist.refl _))⟩, S2.pr⟩
        simp only [List.append_assoc, List.nil_append]
        exact List.Sublist.append (List.Sublist.refl _) (List.sublist_append_right _ _)
      · rw [hx]
        obtain ⟨A, L1, B, rfl, q⟩ := h1.set (i := i) (x := some d) (y := some v) (L2 := []) c ⟨v, rfl, ho⟩
        rw [set_same hv] at q
        refine ⟨⟨_, q, St.sublist h2 (List.Sublist.append ?_ (List.Sublist.refl _))⟩, S2.pr⟩
        simp only [List.append_assoc, List.nil_append]
        exact List.Sublist.append (List.Sublist.refl _) (List.sublist_append_right _ _)
    · rw [List.set_eq_of_length_le (by omega)]; exact S2
theorem wipe_off {T ws : List Nat} {σ σ2 : L2.St} (ho : Off T (L2.wipe σ ws) σ2) (hT : ∀ i ∈ T, i ∈ ws) : L2.wipe σ2 ws = L2.wipe σ ws := by
  apply List.ext_getElem?
  intro j
  have hl : σ2.length = σ.length := by rw [ho.1, wipe_length]
  rw [wipe_get, wipe_get, hl]
  by_cases c : j ∈ ws ∧ j < σ.length
  · rw [if_pos c, if_pos c]
  · rw [if_neg c, if_neg c]
    by_cases c2 : j ∈ T
    · have c3 : ¬ j < σ.length := fun h => c ⟨hT j c2, h⟩
      rw [List.getElem?_eq_none (by omega), List.getElem?_eq_none (by omega)]
    · rw [ho.2 j c2, wipe_get, if_neg c]
theorem noEr_ok {W : L2.St → XK} : ErOk K E P F W σ noEr := fun _ _ _ _ _ _ _ h => h.elim
theorem OwnL.snoc : ∀ {xs : List D} {vs : List V} {x : D} {v : V}, OwnL K F xs vs [] → Own K F x v [] → OwnL K F (xs ++ [x]) (vs ++ [v]) []
  | [], vs, x, v, h, o => by
    obtain ⟨rfl, _⟩ := h
    exact ⟨v, [], [], [], rfl, rfl, o, rfl, rfl⟩
  | y :: xs, vs, x, v, h, o => by
    rw [OwnL] at h
    obtain ⟨w, vs', L1, L2, rfl, hL, h3, h4⟩ := h
    obtain ⟨rfl, rfl⟩ := List.append_eq_nil_iff.mp hL.symm
    rw [List.cons_append, OwnL]
    exact ⟨w, _, [], [], rfl, rfl, h3, OwnL.snoc h4 o⟩
theorem re_lc {wi : TI} {ui : UI} {tg : TG} {ug : UG} {tt : TT} {ut : UT} {te : TE} {ue : UE} {ws T : List Nat} (hi : RI K p W wi ui) (hg : ∀ Pi, (∀ i ∈ T, Pi.contains i = false) → RG K Pi T W tg ug) {p2 p3 : Bool} (ht : RT K p2 W tt ut) (he : RE K p3 W te ue) (hT : ∀ i ∈ T, i ∈ ws) (hw : ∀ i ∈ ws, i ≠ 0) :
    RE K false W (tLc wi tg tt te ws) (uLc ui ug ut ue ws) := ⟨fun {E P F H σ sd L0 Q er U} S hE h k => by
  refine hi.run S hE h fun F1 H1 s1 J xs e1 p1 S1 ok h => ?_
  obtain ⟨hlen, I, h0, hx, hs⟩ := h
  have hc0 : ∀ i ∈ T, (P.map (·.1)).contains i = false := fun i hi => by
    cases hc : (P.map (·.1)).contains i with
    | false => rfl
    | true =>
      obtain ⟨x, hx, e⟩ := List.mem_map.mp (List.contains_iff_mem.mp hc)
      exact absurd (e.symm.trans (S.pr x hx).2) (hw _ (hT _ hi))
  intro D hD
  have hPi : ∀ i ∈ ws, ∀ x ∈ P, x.1 ≠ i := fun i hi x hx c => hw i hi (c.symm.trans (S.pr x hx).2)
  refine ⟨fun i m H' => i + m = xs.length ∧ ∃ F' s acc vacc, Same F1 F' ∧ Sim K E P F' H' (L2.wipe σ ws) s ((D, .lst vacc) :: L0) ∧ OwnL K F' acc vacc [] ∧ acc.length ≤ i ∧ I i acc s,
    ⟨xs.length, by omega, F1, uwipe s1 ws, [], [], Same.refl _, ?_, ⟨rfl, rfl⟩, Nat.le_refl _, h0⟩, ?_⟩
  · obtain ⟨Le, g1, g2⟩ := (S1.wipe hPi).ex
    exact ⟨⟨Le, g1, (g2.new (o := .lst []) hD).perm List.perm_middle⟩, (S1.wipe hPi).pr⟩
  rintro i m H' ⟨hm, F', s, acc, vacc, e2, S2, oA, hacc, hI⟩
  by_cases c : i = xs.length
  · subst c
    refine .inl ⟨ok.stop e2 S2.fh, ?_⟩
    have S3 := (S2.wipe hPi).unwipe (σ := L2.wipe σ ws) S2.pr
    have S4 : Sim K E P F' H' σ (uwipe s ws) ((D, .lst vacc) :: L0) := by
      have S5 := S2.wipe (ws := ws) hPi
      rw [show L2.wipe (L2.wipe σ ws) ws = L2.wipe σ ws from wipe_off (T := []) ⟨rfl, fun _ _ => rfl⟩ (fun _ h => nomatch h)] at S5
      exact S5.unwipe S1.pr
    exact k F' H' _ (.ref D) (.lst true acc) [(D, .lst vacc)] (e1.trans e2) (fun h => nomatch h) (S4.rst S1 e2) ⟨D, vacc, rfl, rfl, oA⟩ (hx acc s hI)
  · have hl : i < xs.length := by omega
    have hx' := List.getElem?_eq_getElem hl
    refine .inr ⟨ok.go e2 S2.fh hx', fun H3 => ∃ F3 s3 acc3 vacc3, Same F1 F3 ∧ Sim K E P F3 H3 (L2.wipe σ ws) s3 ((D, .lst vacc3) :: L0) ∧ OwnL K F3 acc3 vacc3 [] ∧ acc3.length ≤ i + 1 ∧ I (i + 1) acc3 s3, fun H3 h3 => ⟨m - 1, by omega, by omega, h3⟩, fun v H2 hy => ?_⟩
    obtain ⟨Le, g1, g2⟩ := S2.ex
    obtain ⟨F3, e3, hh, G3, o3⟩ := ok.yld e2 hx' g2 hy
    refine (hg (P.map (·.1)) hc0).run (Lt := []) rfl ⟨⟨Le, g1.mono e3, G3⟩, S2.pr⟩ (.own o3) (fun σ' => noEr_ok) (hs i _ acc s hx' hI) fun F4 H4 σ4 s4 e4 S4 h4 of4 => ?_
    have hwp := wipe_off of4 hT
    refine ⟨hwp, ?_⟩
    have back : ∀ {F5 H5 : Hp} {s5 : US} {L5 : Led}, Sim K E P F5 H5 σ4 s5 L5 → Sim K E P F5 H5 (L2.wipe σ ws) (uwipe s5 ws) L5 := fun S5 => by
      have := S5.wipe (ws := ws) hPi
      rw [hwp] at this; exact this
    refine ht.run S4 noEr_ok h4 fun F5 H5 s5 b e5 p5 S5 h5 => ?_
    cases b with
    | false =>
      exact ⟨F5, _, acc, vacc, e2.trans (e3.trans (e4.trans e5)), back S5, OwnL.mono (e3.trans (e4.trans e5)) _ _ _ oA, by omega, h5⟩
    | true =>
      rw [if_pos rfl]
      refine he.run S5 noEr_ok h5 fun F6 H6 s6 y dy Ly e6 p6 S6 r6 h6 => ?_
      obtain ⟨d', s7, hc, hI'⟩ := h6
      obtain ⟨F7, e7, S7, o7⟩ := S6.clo r6 hc
      refine ⟨vacc, S7.get _ List.mem_cons_self, by rw [← oA.len]; omega, ?_⟩
      have oA' := (OwnL.mono (e3.trans (e4.trans (e5.trans (e6.trans e7)))) _ _ _ oA).snoc o7
      refine ⟨F7, _, _, _, e2.trans (e3.trans (e4.trans (e5.trans (e6.trans e7)))), ?_, oA', by simp; omega, hI'⟩
      obtain ⟨Le7, q1, q2⟩ := (back S7).ex
      exact ⟨⟨Le7, q1, q2.put (Upd.app .head)⟩, (back S7).pr⟩⟩
end
end UL

set_option Elab.async false
set_option linter.all false
set_option maxRecDepth 100000
set_option maxHeartbeats 4000000
namespace UL
open PySem SL
open L2 hiding rLen
/-! ## promises over data -/
structure S0 where
  α : Type
  args : α → List D
  pre : α → Prop
  post : α → D → Prop
  err : α → Addr → Prop
structure S1 where
  α : Type
  self : α → D
  args : α → List D
  pre : α → Prop
  post : α → D → D → Prop
  err : α → Addr → Prop
def dels (H : Hp) (L : Led) : Hp := fun b => if (L.map (·.1)).contains b then none else H b
def conc0 (K : PySem.W.Frag) (s : S0) : Sp := fun vs H Q E => ∃ (F : Hp) (a : s.α), Same F H ∧ OwnL K F (s.args a) vs [] ∧ s.pre a ∧
  (∀ F' H' v Lr r, SL.St ⟨F, H⟩ F' H' Lr → s.post a r → Own K F' r v Lr → Q v H') ∧ ∀ C F' H', SL.St ⟨F, H⟩ F' H' [] → s.err a C → E (.ref C) none H'
def conc1 (K : PySem.W.Frag) (s : S1) : Sp := fun vs H Q E => ∃ (F : Hp) (a : s.α) (v0 : V) (vs' : List V) (L : Led), vs = v0 :: vs' ∧ SL.St ⟨F, dels H L⟩ F H L ∧ Own K F (s.self a) v0 L ∧ OwnL K F (s.args a) vs' [] ∧ s.pre a ∧
  (∀ F' H' v Lr Ls r f, SL.St ⟨F, dels H L⟩ F' H' (Lr ++ Ls) → s.post a r f → Own K F' r v Lr → Own K F' f v0 Ls → Q v H') ∧ ∀ C F' H', SL.St ⟨F, dels H L⟩ F' H' [] → s.err a C → E (.ref C) none H'
section
variable {K : PySem.W.Frag} {F F' H H' : Hp} {E : En} {P : List (Nat × V)} {Pi : List Nat} {L L' L0 L1 Lt M : Led} {v w : V} {vs : List V} {d d' e : D} {ds ds' xs : List D} {p q : Bool} {W : L2.St → XK} {er : UX} {sd sd' : US} {σ : L2.St}
theorem dels_out {b : Addr} (h : ∀ x ∈ L, x.1 ≠ b) : dels H L b = H b := by
  unfold dels
  rw [if_neg]
  intro c
  obtain ⟨x, hx, e⟩ := List.mem_map.mp (List.contains_iff_mem.mp c)
  exact h x hx e
theorem dels_in {x : Addr × HO} (h : x ∈ L) : dels H L x.1 = none := by
  unfold dels
  rw [if_pos (List.contains_iff_mem.mpr (List.mem_map.mpr ⟨x, h, rfl⟩))]
theorem dels_some {b : Addr} {o : HO} (h : dels H L b = some o) : H b = some o ∧ ∀ x ∈ L, x.1 ≠ b := by
  have hb : ∀ x ∈ L, x.1 ≠ b := fun x hx c => by rw [← c, dels_in hx] at h; cases h
  rw [dels_out hb] at h
  exact ⟨h, hb⟩
/-- into a call that may change L1 -/
theorem St.enter (G : SL.St E F H (L1 ++ L)) : SL.St ⟨F, dels H L1⟩ F H L1 := by
  refine ⟨fun b o h => (dels_some h).1, G.fh, Same.refl _, fun a h => .inl h, fun x hx => ?_, ?_⟩
  · obtain ⟨h1, h2, _⟩ := G.own x (List.mem_append_left _ hx)
    exact ⟨h1, h2, dels_in hx⟩
  · have := G.nd
    rw [List.map_append, List.nodup_append] at this
    exact this.1
/-- and back -/
theorem St.back {Lr : Led} (G : SL.St E F H (L1 ++ L)) (g : SL.St ⟨F, dels H L1⟩ F' H' Lr) : SL.St E F' H' (Lr ++ L) := by
  have nd := G.nd
  rw [List.map_append, List.nodup_append] at nd
  have eb : ∀ b, dels H L1 b = none → E.H b = none := fun b h => by
    cases c : E.H b with
    | none => rfl
    | some o =>
      have h1 := G.bh b o c
      have : ∃ x ∈ L1, x.1 = b := by
        apply Classical.byContradiction
        intro hn
        rw [dels_out (fun x hx e => hn ⟨x, hx, e⟩), h1] at h
        cases h
      obtain ⟨x, hx, rfl⟩ := this
      have := (G.own x (List.mem_append_left _ hx)).2.2
      rw [c] at this; cases this
  have keep : ∀ y ∈ L, dels H L1 y.1 = some y.2 := fun y hy => by
    rw [dels_out fun x hx c => nd.2.2 x.1 (List.mem_map.mpr ⟨x, hx, rfl⟩) y.1 (List.mem_map.mpr ⟨y, hy, rfl⟩) c]
    exact (G.own y (List.mem_append_right _ hy)).1
  refine ⟨fun b o h => ?_, g.fh, G.ff.trans g.ff, fun a h => ?_, fun x hx => ?_, ?_⟩
  · refine g.bh b o ?_
    show dels H L1 b = some o
    rw [dels_out fun x hx c => ?_]
    · exact G.bh b o h
    · have := (G.own x (List.mem_append_left _ hx)).2.2
      rw [c, h] at this; cases this
  · rcases g.pr a h with h1 | h1
    · exact G.pr a h1
    · exact .inr (eb a h1)
  · rcases List.mem_append.mp hx with h1 | h1
    · obtain ⟨q1, q2, q3⟩ := g.own x h1
      exact ⟨q1, q2, eb _ q3⟩
    · obtain ⟨q1, q2, q3⟩ := G.own x (List.mem_append_right _ h1)
      refine ⟨g.bh _ _ (keep x h1), ?_, q3⟩
      cases c : F' x.1 with
      | none => rfl
      | some o =>
        rcases g.pr x.1 (by rw [c]; exact fun z => nomatch z) with z | z
        · exact absurd q2 z
        · rw [show (En.mk F (dels H L1)).H x.1 = dels H L1 x.1 from rfl, keep x h1] at z; cases z
  · rw [List.map_append, List.nodup_append]
    refine ⟨g.nd, nd.2.1, fun a ha b hb c => ?_⟩
    obtain ⟨x, hx, rfl⟩ := List.mem_map.mp ha
    obtain ⟨y, hy, rfl⟩ := List.mem_map.mp hb
    have h1 := (g.own x hx).2.2
    rw [show (En.mk F (dels H L1)).H x.1 = dels H L1 x.1 from rfl, c, keep y hy] at h1
    cases h1
theorem dels_nil : dels H [] = H := by
  funext b
  exact dels_out fun _ h => nomatch h
/-! ## calls -/
def uCall (s : S0) (ua : UA) : UE := fun er sd U => ua er sd fun ds s1 => ∃ as s2, cloL s1 ds = some (as, s2) ∧ ∃ a, as = s.args a ∧ s.pre a ∧ (∀ r, s.post a r → U r s2) ∧ ∀ C, s.err a C → er C s2
theorem re_call {s : S0} {sp : Sp} {X : L2.St → XK} {ta : TA} {ua : UA} (hsp : ∀ vs H Q E, conc0 K s vs H Q E → sp vs H Q E) (ha : RA K p W ta ua) (hX : ∀ σ C H, W σ (.ref C) none H → X σ (.ref C) none H) :
    RE K false W (tCallS sp X ta) (uCall s ua) := ⟨fun {E P F H σ sd L0 Q er U} S hE h k => by
  refine ha.run S hE h fun F1 H1 s1 vs ds Lt e1 p1 S1 r1 h => ?_
  obtain ⟨as, s2, hc, a, rfl, hp, hpost, herr⟩ := h
  obtain ⟨F2, e2, S2, o2⟩ := S1.cloL r1 hc
  obtain ⟨Le, g1, g2⟩ := S2.ex
  have g0 : SL.St E F2 H1 ([] ++ (Le ++ L0)) := by simpa using g2
  refine hsp _ _ _ _ ⟨F2, a, S2.fh, o2, hp, fun F' H' v Lr r G hr ho => ?_, fun C F' H' G hC => ?_⟩
  · have G2 := St.back g0 (by rw [dels_nil]; exact G)
    exact k F' H' s2 v r Lr (e1.trans (e2.trans G.ff)) (fun h => nomatch h) ⟨⟨Le, g1.mono G.ff, G2.perm (List.perm_append_comm_assoc _ _ _)⟩, S2.pr⟩ (.own ho) (hpost r hr)
  · have G2 := St.back g0 (by rw [dels_nil]; exact G)
    exact hX _ _ _ (hE C F' H' s2 L0 (e1.trans (e2.trans G.ff)) ⟨⟨Le, g1.mono G.ff, by simpa using G2⟩, S2.pr⟩ (herr C hC))⟩
/-- .. that never raises -/
theorem re_callN {s : S0} {sp : Sp} {X : XK} {ta : TA} {ua : UA} (hsp : ∀ vs H Q E, conc0 K s vs H Q E → sp vs H Q E) (ha : RA K p W ta ua) (hn : ∀ a C, ¬ s.err a C) :
    RE K false W (tCall sp [] X ta) (uCall s ua) := ⟨fun {E P F H σ sd L0 Q er U} S hE h k => by
  refine ha.run S hE h fun F1 H1 s1 vs ds Lt e1 p1 S1 r1 h => ?_
  obtain ⟨as, s2, hc, a, rfl, hp, hpost, herr⟩ := h
  obtain ⟨F2, e2, S2, o2⟩ := S1.cloL r1 hc
  obtain ⟨Le, g1, g2⟩ := S2.ex
  have g0 : SL.St E F2 H1 ([] ++ (Le ++ L0)) := by simpa using g2
  rw [List.append_nil]
  refine hsp _ _ _ _ ⟨F2, a, S2.fh, o2, hp, fun F' H' v Lr r G hr ho => ?_, fun C F' H' G hC => absurd hC (hn a C)⟩
  have G2 := St.back g0 (by rw [dels_nil]; exact G)
  exact k F' H' s2 v r Lr (e1.trans (e2.trans G.ff)) (fun h => nomatch h) ⟨⟨Le, g1.mono G.ff, G2.perm (List.perm_append_comm_assoc _ _ _)⟩, S2.pr⟩ (.own ho) (hpost r hr)⟩
theorem re_callE {s : S0} {sp : Sp} {X : XK} {ta : TA} {ua : UA} (hsp : ∀ vs H Q E, conc0 K s vs H Q E → sp vs H Q E) (ha : RA K p W ta ua) (hX : ∀ σ C H, W σ (.ref C) none H → X (.ref C) none H) :
    RE K false W (tCall sp [] X ta) (uCall s ua) := ⟨fun {E P F H σ sd L0 Q er U} S hE h k => by
  have := (re_call (X := fun _ => X) hsp ha hX).run (Q := Q) S hE h k
  refine (show (tCall sp [] X ta) = (tCallS sp (fun _ => X) ta) from ?_) ▸ this
  funext σ H Q
  show (ta σ H fun vs H1 => sp (vs ++ []) H1 Q X) = _
  simp only [List.append_nil]
  rfl⟩
/-- the first argument is changed -/
def uCall1 (s : S1) (ua : UA) : UE := fun er sd U => ua er sd fun ds s1 => ∃ i pa rest as s2 e, ds = .ow i pa :: rest ∧ cloL s1 rest = some (as, s2) ∧ vw s2 (.ow i pa) = some e ∧ ∃ a, e = s.self a ∧ as = s.args a ∧ s.pre a ∧
  (∀ r f, s.post a r f → U r (putAt s2 i pa f)) ∧ ∀ C, s.err a C → er C (s2.set i none)
theorem Sim.drop_slot {i : Nat} (S : Sim K E P F H σ sd L) : Sim K E P F H σ (sd.set i none) L := by
  obtain ⟨Le, h1, h2⟩ := S.ex
  by_cases c : i < sd.length
  · have c2 : i < σ.length := by rw [← h1.len]; exact c
    obtain ⟨A, L1, B, rfl, q⟩ := h1.set (i := i) (x := none) (y := σ[i]) (L2 := []) c rfl
    rw [set_same (List.getElem?_eq_getElem c2)] at q
    refine ⟨⟨_, q, St.sublist h2 (List.Sublist.append ?_ (List.Sublist.refl _))⟩, S.pr⟩
    simp only [List.append_assoc, List.nil_append]
    exact List.Sublist.append (List.Sublist.refl _) (List.sublist_append_right _ _)
  · rw [List.set_eq_of_length_le (by omega)]
    exact S
/-- what a reference names, with what is left of the slots -/
theorem Sim.take {i : Nat} {pa : List Stp} (S : Sim K E P F H σ sd L) (h : Res K F H σ v (.ow i pa) Lt) (hv : vw sd (.ow i pa) = some e) :
    ∃ L1 R, Own K F e v L1 ∧ SL.St E F H (L1 ++ (R ++ L)) ∧ (∀ {F' H' : Hp} {e' : D} {L2 L' : Led}, Same F F' → Own K F' e' v L2 → SL.St E F' H' (L2 ++ (R ++ L')) → Sim K E P F' H' σ (putAt sd i pa e') L') ∧
      ∀ {F' H' : Hp} {L' : Led}, Same F F' → SL.St E F' H' (R ++ L') → Sim K E P F' H' σ (sd.set i none) L' := by
  obtain ⟨rfl, r, h1, h2⟩ := h
  obtain ⟨Le, h3, h4⟩ := S.ex
  simp only [vw] at hv
  split at hv
  · next r' he =>
    obtain ⟨v', A, L1, B, e1, rfl, e3, e4⟩ := h3.at he
    rw [h1] at e1
    cases e1
    obtain ⟨w, A2, L2, B2, rfl, o2, t2, r2⟩ := e3.focus hv
    have g : ∀ x ∈ A2 ++ L2 ++ B2, H x.1 = some x.2 := fun x hx => (h4.own x (by simp only [List.mem_append] at hx ⊢; grind)).1
    obtain rfl := h2.uniq (t2 H g)
    have pm : ∀ M L' : Led, (M ++ ((A ++ (A2 ++ B2) ++ B) ++ L')).Perm (A ++ (A2 ++ M ++ B2) ++ B ++ L') := fun M L' => by
      simp only [List.append_assoc]
      exact ((List.perm_append_comm_assoc _ _ _)).trans (List.Perm.append_left A (List.perm_append_comm_assoc _ _ _))
    refine ⟨L2, A ++ (A2 ++ B2) ++ B, o2, h4.perm (pm L2 L), fun {F' H' e' L3 L'} s o G => ?_, fun {F' H' L'} s G => ?_⟩
    · have q := e4 (x := some (put r' pa e')) (y := some r) s ⟨r, rfl, r2 s o⟩
      rw [set_same h1] at q
      exact ⟨⟨_, by simp only [putAt, he]; exact q, G.perm (pm L3 L').symm⟩, S.pr⟩
    · have q := e4 (x := none) (y := some r) (L2 := []) s rfl
      rw [set_same h1] at q
      refine ⟨⟨_, q, St.sublist G (List.Sublist.append ?_ (List.Sublist.refl _))⟩, S.pr⟩
      simp only [List.append_assoc, List.nil_append]
      refine List.Sublist.append (List.Sublist.refl _) ?_
      exact (List.sublist_append_right _ _).trans (List.sublist_append_right _ _)
  · cases hv
theorem putAt_none {i : Nat} {pa : List Stp} (h : ∀ r, sd[i]? ≠ some (some r)) : putAt sd i pa e = sd := by
  unfold putAt
  split
  · next r hr => exact absurd hr (h r)
  · rfl
theorem re_call1 {s : S1} {sp : Sp} {X : L2.St → XK} {ta : TA} {ua : UA} (hsp : ∀ vs H Q E, conc1 K s vs H Q E → sp vs H Q E) (ha : RA K p W ta ua) (hX : ∀ σ C H, W σ (.ref C) none H → X σ (.ref C) none H) :
    RE K false W (tCallS sp X ta) (uCall1 s ua) := ⟨fun {E P F H σ sd L0 Q er U} S hE h k => by
  refine ha.run S hE h fun F1 H1 s1 vs ds Lt e1 p1 S1 r1 h => ?_
  obtain ⟨i, pa, rest, as, s2, e, rfl, hc, hv, a, rfl, rfl, hp, hpost, herr⟩ := h
  cases r1 with
  | @cons v0 vs' _ _ La Lb _ h1 h2 h3 =>
    subst h3
    obtain rfl : La = [] := h1.1
    obtain ⟨F2, e2, S2, o2⟩ := S1.cloL h2 hc
    obtain ⟨L1, R, o, G, bk, bn⟩ := S2.take (h1.mono e2 (.inl (Same.refl _))) hv
    refine hsp _ _ _ _ ⟨F2, a, v0, vs', L1, rfl, St.enter G, o, o2, hp, fun F' H' v Lr Ls r f g hr ho hf => ?_, fun C F' H' g hC => ?_⟩
    · have G2 := St.back G g
      refine k F' H' _ v r Lr (e1.trans (e2.trans g.ff)) (fun h => nomatch h) (bk g.ff hf (G2.perm ?_)) (.own ho) (hpost r f hr)
      simp only [List.append_assoc]
      refine List.Perm.trans ?_ (List.perm_append_comm_assoc _ _ _)
      exact List.Perm.append_left Ls (List.perm_append_comm_assoc _ _ _)
    · have G2 := St.back G g
      exact hX _ _ _ (hE C F' H' _ L0 (e1.trans (e2.trans g.ff)) (bn g.ff (by simpa using G2)) (herr C hC))⟩
theorem re_call1N {s : S1} {sp : Sp} {X : XK} {ta : TA} {ua : UA} (hsp : ∀ vs H Q E, conc1 K s vs H Q E → sp vs H Q E) (ha : RA K p W ta ua) (hn : ∀ a C, ¬ s.err a C) :
    RE K false W (tCall sp [] X ta) (uCall1 s ua) := ⟨fun {E P F H σ sd L0 Q er U} S hE h k => by
  have hsp2 : ∀ vs H Q E', conc1 K s vs H Q E' → sp vs H Q X := fun vs H Q E' h => by
    obtain ⟨F, a, v0, vs', L, h1, h2, h3, h4, h5, h6, h7⟩ := h
    exact hsp _ _ _ _ ⟨F, a, v0, vs', L, h1, h2, h3, h4, h5, h6, fun C F' H' _ hC => absurd hC (hn a C)⟩
  have := (re_call1 (sp := fun vs H Q _ => sp vs H Q X) (X := W) hsp2 ha (fun _ _ _ h => h)).run (Q := Q) S hE h k
  refine (show (tCall sp [] X ta) = (tCallS (fun vs H Q _ => sp vs H Q X) W ta) from ?_) ▸ this
  funext σ H Q
  show (ta σ H fun vs H1 => sp (vs ++ []) H1 Q X) = _
  simp only [List.append_nil]
  rfl⟩
theorem re_call1E {s : S1} {sp : Sp} {X : XK} {ta : TA} {ua : UA} (hsp : ∀ vs H Q E, conc1 K s vs H Q E → sp vs H Q E) (ha : RA K p W ta ua) (hX : ∀ σ C H, W σ (.ref C) none H → X (.ref C) none H) :
    RE K false W (tCall sp [] X ta) (uCall1 s ua) := ⟨fun {E P F H σ sd L0 Q er U} S hE h k => by
  have := (re_call1 (X := fun _ => X) hsp ha hX).run (Q := Q) S hE h k
  refine (show (tCall sp [] X ta) = (tCallS sp (fun _ => X) ta) from ?_) ▸ this
  funext σ H Q
  show (ta σ H fun vs H1 => sp (vs ++ []) H1 Q X) = _
  simp only [List.append_nil]
  rfl⟩
/-! ## a def's body -/
def sd0 (N : List Str) (ds : List D) : US := ds.map some ++ List.replicate (N.length - ds.length) none
theorem OwnE.reps : ∀ {n : Nat}, OwnE K F (List.replicate n none) (List.replicate n none) []
  | 0 => ⟨rfl, rfl⟩
  | n + 1 => ⟨none, _, rfl, OwnE.reps⟩
theorem OwnE.args {n : Nat} : ∀ {ds : List D} {vs : List V} {L : Led}, OwnL K F ds vs L → OwnE K F (ds.map some ++ List.replicate n none) (vs.map some ++ List.replicate n none) L
  | [], vs, L, h => by
    obtain ⟨rfl, rfl⟩ := h
    exact OwnE.reps
  | d :: ds, vs, L, h => by
    rw [OwnL] at h
    obtain ⟨v, vs', L1, L2, rfl, rfl, h3, h4⟩ := h
    exact ⟨v, _, L1, L2, rfl, rfl, h3, OwnE.args h4⟩
def E0U (s : S0) (a : s.α) : UEnds := ⟨fun _ => s.post a .non, fun r _ => s.post a r, fun _ => False, fun _ => False, fun C _ => s.err a C⟩
def E1U (s : S1) (a : s.α) : UEnds := ⟨fun sd => ∃ f, sd[0]? = some (some f) ∧ s.post a .non f, fun r sd => ∃ f, sd[0]? = some (some f) ∧ s.post a r f, fun _ => False, fun _ => False, fun C _ => s.err a C⟩
theorem run0 {s : S0} {t : XK → TS} {u : UTS} {N : List Str} {Q : VK} {E : XK} (hr : RS K [] (fun _ => E) (t E) u)
    (hu : ∀ a, s.pre a → u (E0U s a) (sd0 N (s.args a))) (h : conc0 K s vs H Q E) : t E (D0 Q) (L2.start N vs) H := by
  obtain ⟨F, a, fh, oa, hp, k, kx⟩ := h
  refine hr.run (E := ⟨F, H⟩) (P := []) (F := F) (sd := sd0 N (s.args a)) rfl ⟨⟨[], ?_, SL.St.init fh⟩, fun _ h => nomatch h⟩ ?_ (hu a hp)
  · have := OwnE.args (n := N.length - vs.length) oa
    unfold sd0 L2.start
    rw [oa.len]
    exact this
  · refine ⟨fun s1 S hU => ?_, fun _ _ h => h.elim, fun _ _ h => h.elim, fun s1 S ho hU => ?_, fun s1 S hU => ?_⟩
    · obtain ⟨Le, g1, g2⟩ := S.ex
      exact k _ _ .non [] .non (St.sublist g2 (List.nil_sublist _)) hU ⟨rfl, rfl⟩
    · obtain ⟨Le, g1, g2⟩ := S.ex
      exact k _ _ _ _ _ (St.sublist g2 (List.sublist_append_right _ _)) hU ho
    · obtain ⟨Le, g1, g2⟩ := S.ex
      exact kx _ _ _ (St.sublist g2 (List.nil_sublist _)) hU
theorem run1 {s : S1} {t : XK → TS} {u : UTS} {N : List Str} {Q : VK} {E : XK} (hr : RS K [0] (fun _ => E) (t E) u)
    (hu : ∀ a, s.pre a → u (E1U s a) (sd0 N (s.self a :: s.args a))) (h : conc1 K s vs H Q E) : t E (D0 Q) (L2.start N vs) H := by
  obtain ⟨F, a, v0, vs', L, rfl, G, o0, oa, hp, k, kx⟩ := h
  have ol : OwnL K F (s.self a :: s.args a) (v0 :: vs') L := by
    rw [OwnL]
    exact ⟨v0, vs', L, [], rfl, by simp, o0, oa⟩
  refine hr.run (E := ⟨F, dels H L⟩) (P := [(0, v0)]) (F := F) (sd := sd0 N (s.self a :: s.args a)) rfl ⟨⟨L, ?_, by simpa using G⟩, fun x h => ?_⟩ ?_ (hu a hp)
  · have := OwnE.args (n := N.length - (v0 :: vs').length) ol
    unfold sd0 L2.start
    rw [ol.len]
    exact this
  · rw [List.mem_singleton.mp h]; exact ⟨rfl, rfl⟩
  · have fin : ∀ {F' H' : Hp} {σ' : L2.St} {sd' : US} {v : V} {d f : D} {Lt : Led}, Sim K ⟨F, dels H L⟩ [(0, v0)] F' H' σ' sd' Lt → Own K F' d v Lt → sd'[0]? = some (some f) → s.post a d f → Q v H' := fun {F' H' σ' sd' v d f Lt} S ho hf hU => by
      obtain ⟨Le, g1, g2⟩ := S.ex
      obtain ⟨v1, A, Lf, B, q1, rfl, q3, q4⟩ := g1.at hf
      have := (S.pr _ (List.mem_singleton.mpr rfl)).1
      rw [this] at q1
      cases q1
      refine k F' H' v Lt Lf d f (St.sublist (g2.perm (L' := Lt ++ Lf ++ (A ++ B)) ?_) (List.sublist_append_left _ _)) hU ho q3
      simp only [List.append_assoc]
      refine List.Perm.trans (List.perm_append_comm_assoc _ _ _) ?_
      refine List.Perm.trans (List.Perm.append_left Lf (List.perm_append_comm_assoc _ _ _)) ?_
      refine List.Perm.trans (List.perm_append_comm_assoc _ _ _) ?_
      refine List.Perm.append_left A ?_
      refine List.Perm.append_left Lf ?_
      exact List.perm_append_comm
    refine ⟨fun s1 S hU => ?_, fun _ _ h => h.elim, fun _ _ h => h.elim, fun s1 S ho hU => ?_, fun s1 S hU => ?_⟩
    · obtain ⟨f, hf, hU⟩ := hU
      exact fin (d := .non) (v := .non) S ⟨rfl, rfl⟩ hf hU
    · obtain ⟨f, hf, hU⟩ := hU
      exact fin S ho hf hU
    · obtain ⟨Le, g1, g2⟩ := S.ex
      exact kx _ _ _ (St.sublist g2 (List.nil_sublist _)) hU
theorem gen0 {s : S0} {a : s.α} {u : UTS} (h : ∀ (nx : US → Prop) (rt : D → US → Prop) (bk ct : US → Prop) (er : UX), (∀ sd, s.post a .non → nx sd) → (∀ r sd, s.post a r → rt r sd) → (∀ C sd, s.err a C → er C sd) → u ⟨nx, rt, bk, ct, er⟩ sd) : u (E0U s a) sd :=
  h _ _ _ _ _ (fun _ q => q) (fun _ _ q => q) (fun _ _ q => q)
theorem gen1 {s : S1} {a : s.α} {u : UTS} (h : ∀ (nx : US → Prop) (rt : D → US → Prop) (bk ct : US → Prop) (er : UX), (∀ sd f, sd[0]? = some (some f) → s.post a .non f → nx sd) → (∀ r sd f, sd[0]? = some (some f) → s.post a r f → rt r sd) → (∀ C sd, s.err a C → er C sd) → u ⟨nx, rt, bk, ct, er⟩ sd) : u (E1U s a) sd :=
  h _ _ _ _ _ (fun _ f h1 h2 => ⟨f, h1, h2⟩) (fun _ _ f h1 h2 => ⟨f, h1, h2⟩) (fun _ _ q => q)
theorem conc0_len {s : S0} {Q : VK} {E : XK} (h : conc0 K s vs H Q E) : ∃ a, vs.length = (s.args a).length := by
  obtain ⟨F, a, _, o, _⟩ := h
  exact ⟨a, o.len.symm⟩
theorem conc1_len {s : S1} {Q : VK} {E : XK} (h : conc1 K s vs H Q E) : ∃ a, vs.length = (s.args a).length + 1 := by
  obtain ⟨F, a, v0, vs', L, rfl, _, _, o, _⟩ := h
  exact ⟨a, by simp [o.len]⟩
/-- a callee that could raise, but doesn't -/
def S0.mute (s : S0) : S0 := ⟨s.α, s.args, fun a => s.pre a ∧ ∀ C, ¬ s.err a C, s.post, fun _ _ => False⟩
def S1.mute (s : S1) : S1 := ⟨s.α, s.self, s.args, fun a => s.pre a ∧ ∀ C, ¬ s.err a C, s.post, fun _ _ => False⟩
theorem mute0 {s : S0} {Q : VK} {E : XK} (h : conc0 K s.mute vs H Q E) : conc0 K s vs H Q E := by
  obtain ⟨F, a, h1, h2, h3, h4, h5⟩ := h
  exact ⟨F, a, h1, h2, h3.1, h4, fun C _ _ _ hC => absurd hC (h3.2 C)⟩
theorem mute1 {s : S1} {Q : VK} {E : XK} (h : conc1 K s.mute vs H Q E) : conc1 K s vs H Q E := by
  obtain ⟨F, a, v0, vs', L, h1, h2, h3, h4, h5, h6, h7⟩ := h
  exact ⟨F, a, v0, vs', L, h1, h2, h3, h4, h5.1, h6, fun C _ _ _ hC => absurd hC (h5.2 C)⟩
end
end UL

set_option Elab.async false
set_option linter.all false
set_option maxRecDepth 100000
set_option maxHeartbeats 4000000
namespace UL
open PySem SL
open L2 hiding rLen
abbrev FO (K : PySem.W.Frag) (C : Addr) (f : Str) : Prop := Cls K C ∧ NoAttr K C f
/-! ## fields -/
def uFld (K : PySem.W.Frag) (ua : UE) (f : Str) : UE := fun er sd U => ua er sd fun d s1 => match d with
  | .ow i pa => ∃ C ns xs x, vw s1 (.ow i pa) = some (.ins true C ns xs) ∧ FO K C f ∧ getF f ns xs = some x ∧ U (if rootO x then .ow i (pa ++ [.fld f]) else x) s1
  | .ins o C ns xs => ∃ x, FO K C f ∧ getF f ns xs = some x ∧ rootO x = false ∧ U x s1
  | _ => False
def uSFld (K : PySem.W.Frag) (ua uv : UE) (f : Str) : UTS := fun U sd => uv U.er sd fun d s1 => ua U.er s1 fun o s2 => ∃ i pa C ns xs d' s3, o = .ow i pa ∧ (if isRef d then clo s2 d = some (d', s3) else d' = d ∧ s3 = s2) ∧
  vw s3 (.ow i pa) = some (.ins true C ns xs) ∧ FO K C f ∧ ns.length < 1000 ∧ U.nx (putAt s3 i pa (.ins true C (updF f ns xs d').1 (updF f ns xs d').2))
def uFldAug (K : PySem.W.Frag) (ua uv : UE) (g : D → D → Option D) (f : Str) : UTS := fun U sd => ua U.er sd fun o s1 => uv U.er s1 fun d s2 => ∃ i pa C ns xs x e z, o = .ow i pa ∧ s2 = s1 ∧ vw s1 (.ow i pa) = some (.ins true C ns xs) ∧ FO K C f ∧ ns.length < 1000 ∧ getF f ns xs = some x ∧ rootO x = false ∧
  vw s2 d = some e ∧ g x e = some z ∧ rootO z = false ∧ U.nx (putAt s2 i pa (.ins true C (updF f ns xs z).1 (updF f ns xs z).2))
section
variable {K : PySem.W.Frag} {F F' H H' : Hp} {E : En} {P : List (Nat × V)} {Pi : List Nat} {L L' L0 L1 Lt M : Led} {v w : V} {vs : List V} {d d' e : D} {ds ds' xs : List D} {p q : Bool} {W : L2.St → XK} {er : UX} {sd sd' : US} {σ : L2.St}
theorem getF_at {f : Str} {ns : List Str} {x : D} (h : getF f ns xs = some x) : ∃ k, ns.idxOf? f = some k ∧ xs[k]? = some x := by
  unfold getF at h
  cases hk : ns.idxOf? f with
  | none => rw [hk] at h; cases h
  | some k => rw [hk] at h; exact ⟨k, rfl, h⟩
theorem re_fld {ta : TE} {ua : UE} {f : Str} (ha : RE K p W ta ua) : RE K p W (tFld K ta f) (uFld K ua f) := ⟨fun {E P F H σ sd L0 Q er U} S hE h k => by
  refine ha.run S hE h fun F1 H1 s1 v1 d1 Lt e1 p1 S1 r1 h => ?_
  cases d1 with
  | ow i pa =>
    obtain ⟨C, ns, xs, x, hv, hf, hx, hU⟩ := h
    obtain ⟨rfl, r, h1, h2⟩ := r1
    obtain ⟨L1, R, o, G, bk, bn⟩ := S1.take (v := v1) ⟨rfl, r, h1, h2⟩ hv
    rw [Own] at o
    obtain ⟨a, dx, vs, L', rfl, rfl, hl, ol⟩ := o
    obtain ⟨j, hj, hxj⟩ := getF_at hx
    obtain ⟨w, A, Lx, B, q1, q2, q3, q4⟩ := ol.at hxj
    have hH := G.get List.mem_cons_self
    have hlk := zip_lookup hj q1 hl
    refine ⟨a, C, dx, _, w, rfl, hH, hf.1, hf.2, hlk, ?_⟩
    cases hr : rootO x with
    | true =>
      rw [hr, if_pos rfl] at hU
      exact k F1 H1 s1 w _ [] e1 p1 (by simpa using S1) (show Res K F1 H1 σ w (.ow i (pa ++ [.fld f])) [] from ⟨rfl, r, h1, h2.snoc ⟨a, C, dx, _, rfl, hH, hlk⟩⟩) hU
    | false =>
      rw [hr, if_neg (by decide)] at hU
      obtain rfl := Own.pure hr q3
      exact k F1 H1 s1 w x [] e1 p1 (by simpa using S1) (.own q3) hU
  | ins o C ns xs =>
    obtain ⟨x, hf, hx, hr, hU⟩ := h
    obtain ⟨j, hj, hxj⟩ := getF_at hx
    have r1' : Own K F1 (.ins o C ns xs) v1 Lt := r1
    cases o with
    | true =>
      rw [Own] at r1'
      obtain ⟨a, dx, vs, L', rfl, rfl, hl, ol⟩ := r1'
      obtain ⟨w, A, Lx, B, q1, q2, q3, q4⟩ := ol.at hxj
      obtain rfl := Own.pure hr q3
      exact ⟨a, C, dx, _, w, rfl, S1.get _ List.mem_cons_self, hf.1, hf.2, zip_lookup hj q1 hl, k F1 H1 s1 w x [] e1 p1 S1.toR (.own q3) hU⟩
    | false =>
      rw [Own] at r1'
      obtain ⟨a, dx, vs, rfl, rfl, hF, hl, ol⟩ := r1'
      obtain ⟨w, hw, ho⟩ := ol.ex hxj
      exact ⟨a, C, dx, _, w, rfl, S1.fh _ _ hF, hf.1, hf.2, zip_lookup hj hw hl, k F1 H1 s1 w x [] e1 p1 S1 (.own ho) hU⟩
  | _ => exact h.elim⟩
theorem updF_own {f : Str} {v : V} {Ld : Led} (hd : Own K F d v Ld) : ∀ {ns : List Str} {xs : List D} {vs : List V} {L : Led}, OwnL K F xs vs L → ns.length = vs.length →
    ∃ vs' A M B, L = A ++ M ++ B ∧ putF f v (ns.zip vs) = (updF f ns xs d).1.zip vs' ∧ (updF f ns xs d).1.length = vs'.length ∧ OwnL K F (updF f ns xs d).2 vs' (A ++ Ld ++ B)
  | [], xs, vs, L, h, hl => by
    obtain rfl : vs = [] := List.eq_nil_of_length_eq_zero hl.symm
    have := h.len
    obtain rfl : xs = [] := List.eq_nil_of_length_eq_zero this
    rw [OwnL] at h
    obtain ⟨_, rfl⟩ := h
    refine ⟨[v], [], [], [], rfl, rfl, rfl, ?_⟩
    show OwnL K F [d] [v] ([] ++ Ld ++ [])
    rw [OwnL]
    exact ⟨v, [], Ld, [], rfl, by simp, hd, rfl, rfl⟩
  | n :: ns, xs, vs, L, h, hl => by
    cases vs with
    | nil => simp at hl
    | cons v0 vs =>
      cases xs with
      | nil => have := h.len; simp at this
      | cons x xs =>
        rw [OwnL] at h
        obtain ⟨v1, vs1, La, Lb, hvv, rfl, h3, h4⟩ := h
        obtain ⟨rfl, rfl⟩ := List.cons.inj hvv
        by_cases c : n = f
        · refine ⟨v :: vs, [], La, Lb, by simp, ?_, ?_, ?_⟩
          · simp only [updF, if_pos c, List.zip_cons_cons, putF]
          · simp only [updF, if_pos c]; simpa using hl
          · simp only [updF, if_pos c]
            rw [OwnL]
            exact ⟨v, vs, Ld, Lb, rfl, by simp, hd, h4⟩
        · obtain ⟨vs', A, M, B, rfl, q1, q2, q3⟩ := updF_own (f := f) hd h4 (ns := ns) (by simpa using hl)
          refine ⟨v0 :: vs', La ++ A, M, B, by simp, ?_, ?_, ?_⟩
          · simp only [updF, if_neg c, List.zip_cons_cons, putF, q1]
          · simp only [updF, if_neg c, List.length_cons, q2]
          · simp only [updF, if_neg c]
            rw [OwnL]
            exact ⟨v0, vs', La, A ++ Ld ++ B, rfl, by simp, h3, q3⟩
theorem isRef_own (hr : isRef d = false) (h : Res K F H σ v d L) : Own K F d v L := by
  cases d with
  | ow i p => simp [isRef] at hr
  | _ => exact h
theorem rs_sfld {ta tv : TE} {ua uv : UE} {f : Str} (hv : RE K p W tv uv) (ha : RE K true W ta ua) : RS K Pi W (sFld K ta tv f) (uSFld K ua uv f) := ⟨fun {E P F H σ sd Z U} hP S hE h => by
  refine hv.run S hE.erOk h fun F1 H1 s1 v1 d1 Lt1 e1 p1 S1 r1 h => ?_
  refine ha.run S1 (hE.mono e1).erOk h fun F2 H2 s2 v2 d2 Lt2 e2 p2 S2 r2 h => ?_
  obtain ⟨i, pa, C, ns, xs, d', s3, rfl, hd, hvw, hf, hl, hU⟩ := h
  obtain rfl : Lt2 = [] := r2.1
  have r1' := r1.mono e2 (.inl (p2 rfl))
  obtain ⟨F3, Ld, e3, S3, o3⟩ : ∃ F3 Ld, Same F2 F3 ∧ Sim K E P F3 H2 σ s3 (Ld ++ []) ∧ Own K F3 d' v1 Ld := by
    cases hr : isRef d1 with
    | true =>
      rw [hr, if_pos rfl] at hd
      obtain ⟨F3, e3, S3, o3⟩ := Sim.clo (L0 := []) (by simpa using S2) r1' hd
      exact ⟨F3, [], e3, S3, o3⟩
    | false =>
      rw [hr, if_neg (by decide)] at hd
      obtain ⟨rfl, rfl⟩ := hd
      exact ⟨F2, Lt1, Same.refl _, by simpa using S2, isRef_own hr r1'⟩
  obtain ⟨L1, R, o, G, bk, bn⟩ := S3.take (r2.mono e3 (.inl (Same.refl _))) hvw
  rw [Own] at o
  obtain ⟨a, dx, vs, L', rfl, rfl, hl2, ol⟩ := o
  obtain ⟨vs', A, M, B, rfl, q1, q2, q3⟩ := updF_own (f := f) o3 ol hl2
  refine ⟨a, C, dx, _, rfl, G.get List.mem_cons_self, hf.1, hf.2, by rw [List.length_zip]; omega, ?_⟩
  have G2 := G.put (o' := .ins C dx (putF f v1 (ns.zip vs))) .head
  rw [q1] at G2 ⊢
  refine hE.nx (e1.trans (e2.trans e3)) (bk (Same.refl _) (e' := .ins true C (updF f ns xs d').1 (updF f ns xs d').2) (L2 := (a, .ins C dx ((updF f ns xs d').1.zip vs')) :: (dx, .own a) :: (A ++ Ld ++ B)) (L' := []) ⟨a, dx, vs', _, rfl, rfl, q2, q3⟩ (St.sublist (G2.perm (L' := ((a, .ins C dx ((updF f ns xs d').1.zip vs')) :: (dx, .own a) :: (A ++ Ld ++ B)) ++ (R ++ []) ++ M) ?_) (List.sublist_append_left _ _))) hU
  simp only [List.append_eq, List.cons_append, List.append_assoc, List.append_nil, List.nil_append]
  refine List.Perm.cons _ (List.Perm.cons _ (List.Perm.append_left A ?_))
  -- Ld ++ (B ++ (R ++ M)) ~ M ++ (B ++ (R ++ Ld))
  refine List.Perm.trans (List.perm_append_comm (l₁ := Ld)) ?_
  simp only [List.append_assoc]
  refine List.Perm.trans ?_ (List.perm_append_comm_assoc B M _)
  refine List.Perm.append_left B ?_
  refine List.Perm.trans ?_ (List.perm_append_comm_assoc R M _)
  exact List.Perm.refl _⟩
/-! ## constructors, methods -/
def uMake (C : Addr) (s : S1) (ua : UA) : UE := fun er sd U => ua er sd fun ds s1 => ∃ as s2, cloL s1 ds = some (as, s2) ∧ ∃ a, s.self a = .ins true C [] [] ∧ as = s.args a ∧ s.pre a ∧ (∀ r f, s.post a r f → r = .non ∧ U f s2) ∧ ∀ C', s.err a C' → er C' s2
theorem re_make {s : S1} {sp : Sp} {X : XK} {C : Addr} {ta : TA} {ua : UA} (hsp : ∀ vs H Q E, conc1 K s vs H Q E → sp vs H Q E) (ha : RA K p W ta ua) (hX : (∀ σ C H, W σ (.ref C) none H → X (.ref C) none H) ∨ ∀ a C, ¬ s.err a C) :
    RE K false W (tMake C sp [] X ta) (uMake C s ua) := ⟨fun {E P F H σ sd L0 Q er U} S hE h k => by
  refine ha.run S hE h fun F1 H1 s1 vs ds Lt e1 p1 S1 r1 h => ?_
  obtain ⟨as, s2, hc, a, hself, rfl, hp, hpost, herr⟩ := h
  obtain ⟨F2, e2, S2, o2⟩ := S1.cloL r1 hc
  obtain ⟨Le, g1, g2⟩ := S2.ex
  intro x dx hx hdx hne
  have G1 := (g2.new (o := .own x) hdx).new (p := x) (o := .ins C dx []) (by rw [upd_ne hne.symm]; exact hx)
  have G : SL.St E F2 _ ([(x, .ins C dx []), (dx, .own x)] ++ (Le ++ L0)) := G1
  rw [List.append_nil]
  refine hsp _ _ _ _ ⟨F2, a, .ref x, vs, [(x, .ins C dx []), (dx, .own x)], rfl, St.enter G, by rw [hself]; exact ⟨x, dx, [], [], rfl, rfl, rfl, rfl, rfl⟩, o2, hp, fun F' H' v Lr Ls r f g hr ho hf => ?_, fun C' F' H' g hC => ?_⟩
  · obtain ⟨rfl, hU⟩ := hpost r f hr
    obtain ⟨rfl, rfl⟩ : v = .non ∧ Lr = [] := ho
    have G2 := St.back G g
    refine ⟨rfl, k F' H' s2 _ f Ls (e1.trans (e2.trans g.ff)) (fun h => nomatch h) ⟨⟨Le, g1.mono g.ff, G2.perm ?_⟩, S2.pr⟩ (.own hf) hU⟩
    simp only [List.nil_append]
    exact List.perm_append_comm_assoc _ _ _
  · rcases hX with hX | hX
    · have G2 := St.back G g
      exact hX σ _ _ (hE C' F' H' s2 L0 (e1.trans (e2.trans g.ff)) ⟨⟨Le, g1.mono g.ff, by simpa using G2⟩, S2.pr⟩ (herr C' hC))
    · exact absurd hC (hX a C')⟩
theorem zip_none : ∀ {ns : List Str} {vs : List V} {m : Str}, ns.contains m = false → (ns.zip vs).lookup m = none
  | [], _, _, _ => rfl
  | n :: ns, [], _, _ => rfl
  | n :: ns, v :: vs, m, h => by
    simp only [List.contains_cons, Bool.or_eq_false_iff] at h
    rw [List.zip_cons_cons, List.lookup_cons, h.1]
    exact zip_none h.2
def uMeth (C : Addr) (m : Str) (s : S1) (chk : Bool) (ua : UE) (ub : UA) : UE := fun er sd U => ua er sd fun o s1 => ∃ i pa ns xs, o = .ow i pa ∧ vw s1 (.ow i pa) = some (.ins true C ns xs) ∧ ns.contains m = false ∧ (chk = true → stab o = true) ∧ ub er s1 fun ds s2 => ∃ as s3 e, cloL s2 ds = some (as, s3) ∧ vw s3 (.ow i pa) = some e ∧ ∃ a, e = s.self a ∧ as = s.args a ∧ s.pre a ∧
  (∀ r f, s.post a r f → U r (putAt s3 i pa f)) ∧ ∀ C, s.err a C → er C (s3.set i none)
theorem re_meth {s : S1} {sp : Sp} {X : XK} {C : Addr} {m : Str} {ta : TE} {ua : UE} {tb : TA} {ub : UA} {chk : Bool} (hsp : ∀ vs H Q E, conc1 K s vs H Q E → sp vs H Q E) (ha : RE K p W ta ua) (hb : RA K q W tb ub) (hq : q = true ∨ chk = true) (hX : (∀ σ C H, W σ (.ref C) none H → X (.ref C) none H) ∨ ∀ a C, ¬ s.err a C) :
    RE K false W (tMeth C m sp [] X ta tb) (uMeth C m s chk ua ub) := ⟨fun {E P F H σ sd L0 Q er U} S hE h k => by
  refine ha.run S hE h fun F1 H1 s1 v1 d1 Lt1 e1 p1 S1 r1 h => ?_
  obtain ⟨i, pa, ns, xs, rfl, hv, hm, hck, h⟩ := h
  obtain rfl : Lt1 = [] := r1.1
  obtain ⟨L1, R, o, G, bk, bn⟩ := S1.take r1 hv
  rw [Own] at o
  obtain ⟨a0, dx, vs0, L', rfl, rfl, hl2, ol⟩ := o
  refine ⟨a0, dx, _, rfl, G.get List.mem_cons_self, zip_none hm, ?_⟩
  refine hb.run (L0 := L0) (by simpa using S1) (hE.mono e1) h fun F2 H2 s2 vs ds Lt e2 p2 S2 r2 h => ?_
  obtain ⟨as, s3, e, hc, hv3, a, rfl, rfl, hp, hpost, herr⟩ := h
  obtain ⟨F3, e3, S3, o3⟩ := S2.cloL r2 hc
  have hst : Same H1 H2 ∨ stab (.ow i pa) = true := by
    rcases hq with hq | hq
    · exact .inl (p2 hq)
    · exact .inr (hck hq)
  obtain ⟨L1, R, o, G, bk, bn⟩ := S3.take ((r1.mono e2 hst).mono e3 (.inl (Same.refl _))) hv3
  rw [List.append_nil]
  refine hsp _ _ _ _ ⟨F3, a, _, vs, L1, rfl, St.enter G, o, o3, hp, fun F' H' v Lr Ls r f g hr ho hf => ?_, fun C' F' H' g hC => ?_⟩
  · have G2 := St.back G g
    refine k F' H' _ v r Lr (e1.trans (e2.trans (e3.trans g.ff))) (fun h => nomatch h) (bk g.ff hf (G2.perm ?_)) (.own ho) (hpost r f hr)
    simp only [List.append_assoc]
    refine List.Perm.trans ?_ (List.perm_append_comm_assoc _ _ _)
    exact List.Perm.append_left Ls (List.perm_append_comm_assoc _ _ _)
  · rcases hX with hX | hX
    · have G2 := St.back G g
      exact hX σ _ _ (hE C' F' H' _ L0 (e1.trans (e2.trans (e3.trans g.ff))) (bn g.ff (by simpa using G2)) (herr C' hC))
    · exact absurd hC (hX a C')⟩
/-- a frozen receiver -/
def uMethF (C : Addr) (m : Str) (s : S0) (ua : UE) (ub : UA) : UE := fun er sd U => ua er sd fun o s1 => ∃ ns xs, o = .ins false C ns xs ∧ ns.contains m = false ∧ ub er s1 fun ds s2 => ∃ as s3, cloL s2 ds = some (as, s3) ∧ ∃ a, .ins false C ns xs :: as = s.args a ∧ s.pre a ∧
  (∀ r, s.post a r → U r s3) ∧ ∀ C, s.err a C → er C s3
theorem re_methF {s : S0} {sp : Sp} {X : XK} {C : Addr} {m : Str} {ta : TE} {ua : UE} {tb : TA} {ub : UA} (hsp : ∀ vs H Q E, conc0 K s vs H Q E → sp vs H Q E) (ha : RE K p W ta ua) (hb : RA K q W tb ub) (hX : (∀ σ C H, W σ (.ref C) none H → X (.ref C) none H) ∨ ∀ a C, ¬ s.err a C) :
    RE K false W (tMeth C m sp [] X ta tb) (uMethF C m s ua ub) := ⟨fun {E P F H σ sd L0 Q er U} S hE h k => by
  refine ha.run S hE h fun F1 H1 s1 v1 d1 Lt1 e1 p1 S1 r1 h => ?_
  obtain ⟨ns, xs, rfl, hm, h⟩ := h
  have ho : Own K F1 (.ins false C ns xs) v1 Lt1 := r1
  have hz := Own.frz (Same.refl F1) _ _ _ (by rw [Own] at ho; obtain ⟨_, _, _, _, rfl, _⟩ := ho; exact fun _ h => nomatch h) ho
  rw [Own] at ho
  obtain ⟨a0, dx, vs0, rfl, rfl, hF, hl, ol⟩ := ho
  refine ⟨a0, dx, _, rfl, S1.fh _ _ hF, zip_none hm, ?_⟩
  refine hb.run (L0 := L0) (by simpa using S1) (hE.mono e1) h fun F2 H2 s2 vs ds Lt e2 p2 S2 r2 h => ?_
  obtain ⟨as, s3, hc, a, hself, hp, hpost, herr⟩ := h
  obtain ⟨F3, e3, S3, o3⟩ := S2.cloL r2 hc
  obtain ⟨Le, g1, g2⟩ := S3.ex
  have g0 : SL.St E F3 H2 ([] ++ (Le ++ L0)) := by simpa using g2
  rw [List.append_nil]
  refine hsp _ _ _ _ ⟨F3, a, S3.fh, ?_, hp, fun F' H' v Lr r G hr ho => ?_, fun C F' H' G hC => ?_⟩
  · rw [← hself, OwnL]
    exact ⟨_, vs, [], [], rfl, rfl, Own.mono (e2.trans e3) _ _ _ hz, o3⟩
  · have G2 := St.back g0 (by rw [dels_nil]; exact G)
    exact k F' H' s3 v r Lr (e1.trans (e2.trans (e3.trans G.ff))) (fun h => nomatch h) ⟨⟨Le, g1.mono G.ff, G2.perm (List.perm_append_comm_assoc _ _ _)⟩, S3.pr⟩ (.own ho) (hpost r hr)
  · rcases hX with hX | hX
    · have G2 := St.back g0 (by rw [dels_nil]; exact G)
      exact hX σ _ _ (hE C F' H' s3 L0 (e1.trans (e2.trans (e3.trans G.ff))) ⟨⟨Le, g1.mono G.ff, by simpa using G2⟩, S3.pr⟩ (herr C hC))
    · exact absurd hC (hX a C)⟩
end
end UL

set_option Elab.async false
set_option linter.all false
set_option maxRecDepth 100000
set_option maxHeartbeats 4000000
namespace UL
open PySem SL
open L2 hiding rLen
/-! ## list methods -/
structure OpM1 (K : PySem.W.Frag) (rel : V → List V → Hp → VK → Prop) (f : D → D → Option (D × D)) : Prop where
  run : ∀ {E : En} {F H : Hp} {L1 R : Led} {v w : V} {e d e' r : D} {Q : VK}, SL.St E F H (L1 ++ R) → Own K F e v L1 → Own K F d w [] → f e d = some (e', r) →
    (∀ H' L2 vr, SL.St E F H' (L2 ++ R) → Own K F e' v L2 → Own K F r vr [] → Q vr H') → rel v [w] H Q
structure OpM0 (K : PySem.W.Frag) (rel : V → List V → Hp → VK → Prop) (f : D → Option (D × D)) : Prop where
  run : ∀ {E : En} {F H : Hp} {L1 R : Led} {v : V} {e e' r : D} {Q : VK}, SL.St E F H (L1 ++ R) → Own K F e v L1 → f e = some (e', r) →
    (∀ H' L2 vr, SL.St E F H' (L2 ++ R) → Own K F e' v L2 → Own K F r vr [] → Q vr H') → rel v [] H Q
def isLst : D → Bool
  | .lst true _ => true | .nst _ => true | _ => false
def uBM1 (f : D → D → Option (D × D)) (chk : Bool) (ua : UE) (ub : UE) : UE := fun er sd U => ua er sd fun o s1 => ∃ i pa e0, o = .ow i pa ∧ vw s1 (.ow i pa) = some e0 ∧ isLst e0 = true ∧ (chk = true → stab o = true) ∧ ub er s1 fun d s2 => ∃ d' s3 e e' r, clo s2 d = some (d', s3) ∧ vw s3 (.ow i pa) = some e ∧ f e d' = some (e', r) ∧ U r (putAt s3 i pa e')
def uBM0 (f : D → Option (D × D)) (ua : UE) : UE := fun er sd U => ua er sd fun o s1 => ∃ i pa e e' r, o = .ow i pa ∧ vw s1 (.ow i pa) = some e ∧ isLst e = true ∧ f e = some (e', r) ∧ U r (putAt s1 i pa e')
section
variable {K : PySem.W.Frag} {F F' H H' : Hp} {E : En} {P : List (Nat × V)} {Pi : List Nat} {L L' L0 L1 Lt M : Led} {v w : V} {vs : List V} {d d' e : D} {ds ds' xs : List D} {p q : Bool} {W : L2.St → XK} {er : UX} {sd sd' : US} {σ : L2.St}
theorem isLst_ty (hl : isLst e = true) (o : Own K F e v L1) (hH : ∀ x ∈ L1, H x.1 = some x.2) : tyV K "list" v H := by
  cases e with
  | lst b xs => cases b with
    | true =>
      rw [Own] at o
      obtain ⟨a, vs, rfl, rfl, _⟩ := o
      exact .inl ⟨rfl, vs, SqL.of (hH _ List.mem_cons_self)⟩
    | false => simp [isLst] at hl
  | nst xs =>
    rw [Own] at o
    obtain ⟨a, vs, L', rfl, rfl, _⟩ := o
    exact .inl ⟨rfl, vs, SqL.of (hH _ List.mem_cons_self)⟩
  | _ => simp [isLst] at hl
theorem re_bm1 {rel : V → List V → Hp → VK → Prop} {f : D → D → Option (D × D)} {ta tb : TE} {ua ub : UE} {chk : Bool} (om : OpM1 K rel f) (ha : RE K p W ta ua) (hb : RE K q W tb ub) (hq : q = true ∨ chk = true) : RE K false W (tBM K "list" rel ta (tCons tb tNil)) (uBM1 f chk ua ub) := ⟨fun {E P F H σ sd L0 Q er U} S hE h k => by
  refine ha.run S hE h fun F1 H1 s1 v1 d1 Lt1 e1 p1 S1 r1 h => ?_
  obtain ⟨i, pa, e0, rfl, hv, hl, hck, h⟩ := h
  obtain rfl : Lt1 = [] := r1.1
  obtain ⟨L1, R, o, G, bk, bn⟩ := S1.take r1 hv
  refine ⟨isLst_ty hl o fun x hx => G.get (List.mem_append_left _ hx), ?_⟩
  show tb σ H1 fun y H2 => rel v1 [y] H2 Q
  refine hb.run (L0 := L0) (by simpa using S1) (hE.mono e1) h fun F2 H2 s2 v2 d2 Lt e2 p2 S2 r2 h => ?_
  obtain ⟨d', s3, e, e', r, hc, hv3, hf, hU⟩ := h
  obtain ⟨F3, e3, S3, o3⟩ := S2.clo r2 hc
  have hst : Same H1 H2 ∨ stab (.ow i pa) = true := by
    rcases hq with hq | hq
    · exact .inl (p2 hq)
    · exact .inr (hck hq)
  obtain ⟨L1, R, o, G, bk, bn⟩ := S3.take ((r1.mono e2 hst).mono e3 (.inl (Same.refl _))) hv3
  exact om.run G o o3 hf fun H' L2 vr G2 o' hr => k F3 H' _ vr r [] (e1.trans (e2.trans e3)) (fun h => nomatch h) (bk (Same.refl _) o' G2) (.own hr) hU⟩
theorem re_bm0 {rel : V → List V → Hp → VK → Prop} {f : D → Option (D × D)} {ta : TE} {ua : UE} (om : OpM0 K rel f) (ha : RE K p W ta ua) : RE K false W (tBM0 K "list" rel ta) (uBM0 f ua) := ⟨fun {E P F H σ sd L0 Q er U} S hE h k => by
  refine ha.run S hE h fun F1 H1 s1 v1 d1 Lt1 e1 p1 S1 r1 h => ?_
  obtain ⟨i, pa, e, e', r, rfl, hv, hl, hf, hU⟩ := h
  obtain rfl : Lt1 = [] := r1.1
  obtain ⟨L1, R, o, G, bk, bn⟩ := S1.take r1 hv
  refine ⟨isLst_ty hl o fun x hx => G.get (List.mem_append_left _ hx), ?_⟩
  exact om.run G o hf fun H' L2 vr G2 o' hr => k F1 H' _ vr r [] e1 (fun h => nomatch h) (bk (Same.refl _) o' (by simpa using G2)) (.own hr) hU⟩
def fAppend : D → D → Option (D × D)
  | .lst true xs, d => if xs.length < sizeLine then some (.lst true (xs ++ [d]), .non) else none
  | _, _ => none
def fExtend : D → D → Option (D × D)
  | .lst true xs, .lst false ys => if xs.length + ys.length ≤ sizeLine then some (.lst true (xs ++ ys), .non) else none
  | _, _ => none
def fPop : D → Option (D × D)
  | .lst true xs => match xs.getLast? with
    | some x => some (.lst true xs.dropLast, x)
    | none => none
  | _ => none
def fReverse : D → Option (D × D)
  | .lst true xs => some (.lst true xs.reverse, .non)
  | _ => none
theorem OwnL.app : ∀ {xs ys : List D} {vs ws : List V}, OwnL K F xs vs [] → OwnL K F ys ws [] → OwnL K F (xs ++ ys) (vs ++ ws) []
  | [], ys, vs, ws, h, h' => by obtain ⟨rfl, _⟩ := h; exact h'
  | x :: xs, ys, vs, ws, h, h' => by
    rw [OwnL] at h
    obtain ⟨v, vs', L1, L2, rfl, hL, h3, h4⟩ := h
    obtain ⟨rfl, rfl⟩ := List.append_eq_nil_iff.mp hL.symm
    rw [List.cons_append, OwnL]
    exact ⟨v, _, [], [], rfl, rfl, h3, OwnL.app h4 h'⟩
theorem OwnL.head {x : D} (h : OwnL K F (x :: xs) vs []) : ∃ v vs', vs = v :: vs' ∧ Own K F x v [] ∧ OwnL K F xs vs' [] := by
  rw [OwnL] at h
  obtain ⟨v, vs', L1, L2, rfl, hL, h3, h4⟩ := h
  obtain ⟨rfl, rfl⟩ := List.append_eq_nil_iff.mp hL.symm
  exact ⟨v, vs', rfl, h3, h4⟩
theorem OwnL.cons {x : D} (h1 : Own K F x v []) (h2 : OwnL K F xs vs []) : OwnL K F (x :: xs) (v :: vs) [] := by
  rw [OwnL]; exact ⟨v, vs, [], [], rfl, rfl, h1, h2⟩
theorem OwnL.rev : ∀ {xs : List D} {vs : List V}, OwnL K F xs vs [] → OwnL K F xs.reverse vs.reverse []
  | [], vs, h => by obtain ⟨rfl, _⟩ := h; exact ⟨rfl, rfl⟩
  | x :: xs, vs, h => by
    obtain ⟨v, vs', rfl, h3, h4⟩ := h.head
    rw [List.reverse_cons, List.reverse_cons]
    exact (OwnL.rev h4).snoc h3
theorem OwnL.drop : ∀ {n : Nat} {xs : List D} {vs : List V}, OwnL K F xs vs [] → OwnL K F (xs.drop n) (vs.drop n) []
  | 0, _, _, h => h
  | n + 1, [], vs, h => by obtain ⟨rfl, _⟩ := h; exact ⟨rfl, rfl⟩
  | n + 1, x :: xs, vs, h => by
    obtain ⟨v, vs', rfl, h3, h4⟩ := h.head
    exact OwnL.drop (n := n) h4
theorem OwnL.take : ∀ {n : Nat} {xs : List D} {vs : List V}, OwnL K F xs vs [] → OwnL K F (xs.take n) (vs.take n) []
  | 0, _, _, h => ⟨rfl, rfl⟩
  | n + 1, [], vs, h => by obtain ⟨rfl, _⟩ := h; exact ⟨rfl, rfl⟩
  | n + 1, x :: xs, vs, h => by
    obtain ⟨v, vs', rfl, h3, h4⟩ := h.head
    exact OwnL.cons h3 (OwnL.take (n := n) h4)
theorem om_append : OpM1 K rAppend fAppend := ⟨fun {E F H L1 R v w e d e' r Q} G o od hf k => by
  unfold fAppend at hf
  split at hf
  · split at hf
    · next hl =>
      obtain ⟨rfl, rfl⟩ := Prod.mk.inj (Option.some.inj hf)
      rw [Own] at o
      obtain ⟨a, vs, rfl, rfl, ol⟩ := o
      refine ⟨a, vs, w, rfl, rfl, G.get List.mem_cons_self, ol.len ▸ hl, ?_⟩
      exact k _ [(a, .lst (vs ++ [w]))] .non (G.put .head) ⟨a, _, rfl, rfl, ol.snoc od⟩ ⟨rfl, rfl⟩
    · cases hf
  · cases hf⟩
theorem om_extend : OpM1 K rExtend fExtend := ⟨fun {E F H L1 R v w e d e' r Q} G o od hf k => by
  unfold fExtend at hf
  split at hf
  · split at hf
    · next hl =>
      obtain ⟨rfl, rfl⟩ := Prod.mk.inj (Option.some.inj hf)
      rw [Own] at o
      rw [Own] at od
      obtain ⟨a, vs, rfl, rfl, ol⟩ := o
      obtain ⟨b, ws, rfl, _, hF, ol2⟩ := od
      refine ⟨a, b, vs, ws, rfl, rfl, G.get List.mem_cons_self, G.fh _ _ hF, by rw [← ol.len, ← ol2.len]; exact hl, ?_⟩
      exact k _ [(a, .lst (vs ++ ws))] .non (G.put .head) ⟨a, _, rfl, rfl, ol.app ol2⟩ ⟨rfl, rfl⟩
    · cases hf
  · cases hf⟩
theorem getLast_snoc {α : Type} {xs : List α} {x : α} (h : xs.getLast? = some x) : xs = xs.dropLast ++ [x] := by
  obtain ⟨ys, rfl⟩ := List.getLast?_eq_some_iff.mp h
  rw [List.dropLast_concat]
theorem om_pop : OpM0 K rPop fPop := ⟨fun {E F H L1 R v e e' r Q} G o hf k => by
  unfold fPop at hf
  split at hf
  · next xs =>
    split at hf
    · next x hx =>
      obtain ⟨rfl, rfl⟩ := Prod.mk.inj (Option.some.inj hf)
      rw [Own] at o
      obtain ⟨a, vs, rfl, rfl, ol⟩ := o
      have hs := getLast_snoc hx
      have hxl : xs[xs.length - 1]? = some x := by
        rw [← List.getLast?_eq_getElem?]; exact hx
      obtain ⟨y, hy, oy⟩ := ol.ex hxl
      refine ⟨a, vs, y, rfl, rfl, G.get List.mem_cons_self, by rw [← ol.len]; exact hy, ?_⟩
      refine k _ [(a, .lst vs.dropLast)] y (G.put .head) ⟨a, _, rfl, rfl, ?_⟩ oy
      rw [List.dropLast_eq_take, List.dropLast_eq_take, ← ol.len]
      exact ol.take
    · cases hf
  · cases hf⟩
theorem om_reverse : OpM0 K rReverse fReverse := ⟨fun {E F H L1 R v e e' r Q} G o hf k => by
  unfold fReverse at hf
  split at hf
  · obtain ⟨rfl, rfl⟩ := Prod.mk.inj (Option.some.inj hf)
    rw [Own] at o
    obtain ⟨a, vs, rfl, rfl, ol⟩ := o
    refine ⟨a, vs, rfl, rfl, G.get List.mem_cons_self, ?_⟩
    exact k _ [(a, .lst vs.reverse)] .non (G.put .head) ⟨a, _, rfl, rfl, ol.rev⟩ ⟨rfl, rfl⟩
  · cases hf⟩
/-! ## truth, parts, slices, chains, keywords -/
def truD : D → Option Bool
  | .non => some false
  | .bl b => some b
  | .int i => some (i != 0)
  | .str s => if s.length ≤ sizeLine then some ((s.length : Int) != 0) else none
  | .lst _ xs => some (!xs.isEmpty)
  | .nst xs => some (!xs.isEmpty)
  | .tup xs => some (!xs.isEmpty)
  | .rt xs => some (!xs.isEmpty)
  | .dk _ ks _ => some (!ks.isEmpty)
  | _ => none
def uTru (ua : UE) : UT := fun er sd U => ua er sd fun d s1 => ∃ e b, vw s1 d = some e ∧ truD e = some b ∧ U b s1
theorem isEmpty_len {α β : Type} {xs : List α} {ys : List β} (h : xs.length = ys.length) : (!xs.isEmpty) = !ys.isEmpty := by
  cases xs <;> cases ys <;> simp_all
theorem rt_tru {ta : TE} {ua : UE} (ha : RE K p W ta ua) : RT K p W (tTru K ta) (uTru ua) := ⟨fun {E P F H σ sd L0 Q er U} S hE h k => by
  refine ha.run S hE h fun F1 H1 s1 v1 d1 Lt e1 p1 S1 r1 h => ?_
  obtain ⟨e, b, hv, ht, hU⟩ := h
  have hr := S1.rt (fun x hx => by simp [hx]) r1 hv
  refine ⟨b, ?_, k F1 H1 s1 b e1 p1 S1.toR hU⟩
  cases e with
  | non => obtain ⟨rfl, _⟩ := hr; cases ht; exact rfl
  | bl c => obtain ⟨rfl, _⟩ := hr; cases ht; exact rfl
  | int c => obtain ⟨rfl, _⟩ := hr; cases ht; exact rfl
  | str c =>
    obtain ⟨rfl, _⟩ := hr
    simp only [truD] at ht
    split at ht
    · next hl => cases ht; exact ⟨hl, rfl⟩
    · cases ht
  | lst o xs =>
    obtain ⟨a, vs, rfl, hH, ol⟩ := hr
    cases ht
    exact .inl ⟨vs, SqL.of hH, isEmpty_len ol.len⟩
  | nst xs =>
    obtain ⟨a, vs, rfl, hH, ol⟩ := hr
    cases ht
    exact .inl ⟨vs, SqL.of hH, isEmpty_len ol⟩
  | tup xs =>
    obtain ⟨a, vs, rfl, hH, ol⟩ := hr
    cases ht
    exact .inr (.inl ⟨vs, tS S1.fh hH, isEmpty_len ol.len⟩)
  | rt xs =>
    obtain ⟨a, vs, rfl, hH, ol⟩ := hr
    cases ht
    exact .inr (.inl ⟨vs, tS S1.fh (SqT.of hH), isEmpty_len ol.len⟩)
  | dk o ks xs =>
    obtain ⟨a, vs, rfl, hH, hl, ol⟩ := hr
    cases ht
    exact .inr (.inr ⟨_, hH, isEmpty_len (by rw [List.length_zip]; omega)⟩)
  | _ => cases ht⟩
def uPart (ua : UE) : UO := fun er sd U => ua er sd fun d s1 => ∃ i, d = .int i ∧ U (some i) s1
def uNoPart : UO := fun _ sd U => U none sd
theorem ro_part {ta : TE} {ua : UE} (ha : RE K p W ta ua) : RO K p W (tPart ta) (uPart ua) := ⟨fun {E P F H σ sd L0 Q er U} S hE h k => by
  refine ha.run S hE h fun F1 H1 s1 v1 d1 Lt e1 p1 S1 r1 h => ?_
  obtain ⟨i, rfl, hU⟩ := h
  obtain ⟨rfl, rfl⟩ : v1 = .int i ∧ Lt = [] := r1
  exact ⟨i, rfl, k F1 H1 s1 _ e1 p1 S1 hU⟩⟩
theorem ro_none : RO K true W tNoPart uNoPart := ⟨fun {E P F H σ sd L0 Q er U} S hE h k => k F H sd none (Same.refl _) (fun _ => Same.refl _) S h⟩
structure OpS (K : PySem.W.Frag) (r : V → Option Int → Option Int → Hp → VK → Prop) (f : D → Option Int → Option Int → Option D) : Prop where
  run : ∀ {E : En} {F H : Hp} {L : Led} {v1 : V} {d1 d : D} {lo hi : Option Int} {Q : VK}, SL.St E F H L → Rt K F H d1 v1 → f d1 lo hi = some d →
    (∀ F' H' v Lt, Same F F' → Same H H' → SL.St E F' H' (Lt ++ L) → Own K F' d v Lt → Q v H') → r v1 lo hi H Q
def uSl (f : D → Option Int → Option Int → Option D) (ua : UE) (ul uh : UO) : UE := fun er sd U => ua er sd fun d s1 => ul er s1 fun lo s2 => uh er s2 fun hi s3 => ∃ e r, vw s3 d = some e ∧ f e lo hi = some r ∧ U r s3
theorem re_sl {r : V → Option Int → Option Int → Hp → VK → Prop} {f : D → Option Int → Option Int → Option D} {ta : TE} {tl th : TO} {ua : UE} {ul uh : UO} (o : OpS K r f) (ha : RE K p W ta ua) (hl : RO K true W tl ul) (hh : RO K true W th uh) : RE K p W (tSl r ta tl th) (uSl f ua ul uh) := ⟨fun {E P F H σ sd L0 Q er U} S hE h k => by
  refine ha.run S hE h fun F1 H1 s1 v1 d1 Lt1 e1 p1 S1 r1 h => ?_
  refine hl.run S1 (hE.mono e1) h fun F2 H2 s2 lo e2 p2 S2 h => ?_
  refine hh.run S2 (hE.mono (e1.trans e2)) h fun F3 H3 s3 hi e3 p3 S3 h => ?_
  obtain ⟨e, r, hv, hf, hU⟩ := h
  have r3 := (r1.mono e2 (.inl (p2 rfl))).mono e3 (.inl (p3 rfl))
  refine S3.run fun Le G back => ?_
  refine o.run G (S3.rt (fun x hx => by simp [hx]) r3 hv) hf fun F' H' v Lt s2' s3' G2 ho => ?_
  exact k F' H' s3 v r Lt (e1.trans (e2.trans (e3.trans s2'))) (fun hp => (p1 hp).trans ((p2 rfl).trans ((p3 rfl).trans s3'))) ((back F' H' Lt s2' s3' G2).keep (List.Sublist.append (List.Sublist.refl _) (List.sublist_append_right _ _))) (.own ho) hU⟩
def cutD (xs : List D) (lo hi : Option Int) : List D := (xs.drop (HT.sIx xs.length 0 lo)).take (HT.sIx xs.length xs.length hi - HT.sIx xs.length 0 lo)
theorem OwnL.cut {lo hi : Option Int} (h : OwnL K F xs vs []) : OwnL K F (cutD xs lo hi) (L2.cutV vs lo hi) [] := by
  unfold cutD L2.cutV
  rw [h.len]
  exact h.drop.take
def fSl : D → Option Int → Option Int → Option D
  | .lst _ xs, lo, hi => some (.lst true (cutD xs lo hi))
  | .tup xs, lo, hi => some (.tup (cutD xs lo hi))
  | _, _, _ => none
def fSlL : D → Option Int → Option Int → Option D
  | .lst _ xs, lo, hi => some (.lst true (cutD xs lo hi))
  | _, _, _ => none
def fSlT : D → Option Int → Option Int → Option D
  | .tup xs, lo, hi => some (.tup (cutD xs lo hi))
  | _, _, _ => none
theorem cut_all {lo hi : Option Int} (h : HT.sIx vs.length 0 lo = 0 ∧ HT.sIx vs.length vs.length hi = vs.length) : L2.cutV vs lo hi = vs := by
  unfold L2.cutV
  rw [h.1, h.2]; simp
theorem os_l : OpS K (rSlL K) fSlL := ⟨fun {E F H L v1 d1 d lo hi Q} G hr hf k => by
  unfold fSlL at hf
  split at hf
  · cases hf
    obtain ⟨a, vs, rfl, hH, ol⟩ := hr
    refine ⟨a, vs, rfl, SqL.of hH, fun p hp => ?_⟩
    exact k F _ _ [(p, .lst _)] (Same.refl _) (same_new hp) (G.new hp) ⟨p, _, rfl, rfl, ol.cut⟩
  · cases hf⟩
theorem os_t : OpS K (rSlA K) fSlT := ⟨fun {E F H L v1 d1 d lo hi Q} G hr hf k => by
  unfold fSlT at hf
  split at hf
  · cases hf
    obtain ⟨a, vs, rfl, hT, ol⟩ := hr
    refine ⟨a, vs, rfl, tS G.fh hT, fun hw => ?_, fun hw p hp => ?_⟩
    · refine k F H _ [] (Same.refl _) (Same.refl _) G ⟨a, vs, rfl, rfl, hT, ?_⟩
      have := ol.cut (lo := lo) (hi := hi)
      rwa [cut_all hw] at this
    · obtain ⟨F3, e3, f3, G3⟩ := (G.new (o := .tup (L2.cutV vs lo hi)) hp).frz .head
      exact k F3 _ _ [] e3 (same_new hp) G3 ⟨p, _, rfl, rfl, SqT.of f3, OwnL.mono e3 _ _ _ ol.cut⟩
  · cases hf⟩
theorem os_q : OpS K (rSlQ K) fSl := ⟨fun {E F H L v1 d1 d lo hi Q} G hr hf k => by
  unfold fSl at hf
  split at hf
  · exact .inl (os_l.run G hr hf k)
  · exact .inr (os_t.run G hr hf k)
  · cases hf⟩
def uChain (f g : D → D → Option D) (ua ub uc : UE) : UE := fun er sd U => ua er sd fun d1 s1 => ub er s1 fun d2 s2 => ∃ e1 e2 c, vw s2 d1 = some e1 ∧ vw s2 d2 = some e2 ∧ f e1 e2 = some (.bl c) ∧ isRef d2 = false ∧ rootO d2 = false ∧
  UIf c (uc er s2 fun d3 s3 => ∃ x2 x3 d, vw s3 d2 = some x2 ∧ vw s3 d3 = some x3 ∧ g x2 x3 = some d ∧ U d s3) (U (.bl false) s2)
theorem re_chain {r r' : R2} {f g : D → D → Option D} {ta tb tc : TE} {ua ub uc : UE} (o : Op2 K r f) (o' : Op2 K r' g) (ha : RE K p W ta ua) (hb : RE K true W tb ub) (hc : RE K true W tc uc) : RE K p W (tChain r r' ta tb tc) (uChain f g ua ub uc) := ⟨fun {E P F H σ sd L0 Q er U} S hE h k => by
  refine ha.run S hE h fun F1 H1 s1 v1 d1 Lt1 e1 p1 S1 r1 h => ?_
  refine hb.run S1 (hE.mono e1) h fun F2 H2 s2 v2 d2 Lt2 e2 p2 S2 r2 h => ?_
  obtain ⟨x1, x2, c, q1, q2, hf, hir, hro, hU⟩ := h
  obtain rfl := Own.pure hro (isRef_own hir r2)
  refine S2.op2 o (r1.mono e2 (.inl (p2 rfl))) r2 q1 q2 hf fun F3 H3 v3 Lt3 s3 s4 S3 r3 => ?_
  obtain ⟨rfl, rfl⟩ : v3 = .bl c ∧ Lt3 = [] := r3
  refine ⟨c, rfl, ?_⟩
  cases c with
  | true =>
    rw [if_pos rfl]
    refine hc.run (L0 := L0) (by simpa using S3) (hE.mono (e1.trans (e2.trans s3))) hU fun F4 H4 s5 v4 d4 Lt4 e4 p4 S4 r4 h => ?_
    obtain ⟨x2', x3, d, q3, q4, hg, hU⟩ := h
    exact Sim.op2 (Lt1 := []) o' (by simpa using S4) ((r2.mono s3 (.inl s4)).mono e4 (.inl (p4 rfl))) r4 q3 q4 hg fun F' H' v Lt s6 s7 S5 r5 => k F' H' s5 v d Lt (e1.trans (e2.trans (s3.trans (e4.trans s6)))) (fun hp => (p1 hp).trans ((p2 rfl).trans (s4.trans ((p4 rfl).trans s7)))) S5 (.own r5) hU
  | false =>
    rw [if_neg (by decide)]
    exact k F3 H3 s2 _ (.bl false) [] (e1.trans (e2.trans s3)) (fun hp => (p1 hp).trans ((p2 rfl).trans s4)) S3 ⟨rfl, rfl⟩ hU⟩
/-! ## x op= e -/
def uAug (i : Nat) (ub : UE) (f : D → D → Option D) : UTS := fun U sd => ∃ d1, sd[i]? = some (some d1) ∧ rootO d1 = false ∧ ub U.er sd fun d2 s2 => ∃ e2 d, vw s2 d2 = some e2 ∧ f d1 e2 = some d ∧ U.nx (s2.set i (some d))
theorem rs_aug {i : Nat} {tb : TE} {ub : UE} {r : TIp} {f : D → D → Option D} (o : Op2 K r f) (hb : RE K p W tb ub) (hi : Pi.contains i = false) : RS K Pi W (tAug i tb r) (uAug i ub f) := ⟨fun {E P F H σ sd Z U} hP S hE h => by
  obtain ⟨d1, h1, hr, h⟩ := h
  obtain ⟨Le, g1, g2⟩ := S.ex
  obtain ⟨v1, A, L1, B, e1, rfl, e3, e4⟩ := g1.at h1
  obtain rfl := Own.pure hr e3
  refine ⟨v1, e1, ?_⟩
  refine hb.run S hE.erOk h fun F2 H2 s2 v2 d2 Lt2 e2 p2 S2 r2 h => ?_
  obtain ⟨x2, d, hv, hf, hU⟩ := h
  have hvd : vw s2 d1 = some d1 := by
    cases d1 with
    | ow i p => rw [Own] at e3; exact e3.elim
    | _ => rfl
  exact Sim.op2 (Lt1 := []) (L0 := []) o (by simpa using S2) (.own (Own.mono e2 _ _ _ e3)) r2 hvd hv hf fun F' H' v Lt s3 s4 S3 r3 => by
    exact hE.nx (e2.trans s3) (Sim.set (L0 := []) S3 r3 (not_in hP hi)) hU⟩
end
end UL

set_option Elab.async false
set_option linter.all false
set_option maxRecDepth 100000
set_option maxHeartbeats 4000000
namespace UL
open PySem SL
open L2 hiding rLen
/-! ## operators by values -/
def i0 (g : Int → Int → D) : D → D → Option D
  | .int i, .int j => some (g i j)
  | _, _ => none
def iC (C : Int → Int → Prop) [∀ i j, Decidable (C i j)] (g : Int → Int → D) : D → D → Option D
  | .int i, .int j => if C i j then some (g i j) else none
  | _, _ => none
def iU (g : Int → D) : D → Option D
  | .int i => some (g i)
  | _ => none
section
variable {K : PySem.W.Frag} {F F' H H' : Hp} {E : En} {L L' L0 L1 Lt M : Led} {v w : V} {vs : List V} {d d' e : D} {ds ds' xs : List D}
/-- a scalar comes out -/
theorem out {Q : VK} (G : SL.St E F H L) (k : ∀ F' H' v Lt, Same F F' → Same H H' → SL.St E F' H' (Lt ++ L) → Own K F' d v Lt → Q v H') (h : Own K F d v []) : Q v H := k F H v [] (Same.refl _) (Same.refl _) G h
theorem op_i0 {g : Int → Int → V} {gD : Int → Int → D} (h : ∀ F i j, Own K F (gD i j) (g i j) []) : Op2 K (rI0 g) (i0 gD) := ⟨fun {E F H L v1 v2 d1 d2 d Q} G h1 h2 hf k => by
  unfold i0 at hf
  split at hf
  · next i j =>
    cases hf
    obtain ⟨rfl, _⟩ := h1
    obtain ⟨rfl, _⟩ := h2
    exact ⟨i, j, rfl, rfl, out G k (h _ _ _)⟩
  · cases hf⟩
theorem op_iC {C C' : Int → Int → Prop} [∀ i j, Decidable (C i j)] {g : Int → Int → V} {gD : Int → Int → D} (hC : ∀ i j, C i j → C' i j) (h : ∀ F i j, Own K F (gD i j) (g i j) []) : Op2 K (rI C' g) (iC C gD) := ⟨fun {E F H L v1 v2 d1 d2 d Q} G h1 h2 hf k => by
  unfold iC at hf
  split at hf
  · next i j =>
    split at hf
    · next hc =>
      cases hf
      obtain ⟨rfl, _⟩ := h1
      obtain ⟨rfl, _⟩ := h2
      exact ⟨i, j, rfl, rfl, hC i j hc, out G k (h _ _ _)⟩
    · cases hf
  · cases hf⟩
abbrev fAddI := i0 fun i j => .int (i + j)
abbrev fSubI := i0 fun i j => .int (i - j)
abbrev fAndI := i0 fun i j => .int (Builtin.bitAnd i j)
abbrev fOrI := i0 fun i j => .int (Builtin.bitOr i j)
abbrev fXorI := i0 fun i j => .int (Builtin.bitXor i j)
abbrev fLtI := i0 fun i j => .bl (decide (i < j))
abbrev fLeI := i0 fun i j => .bl (decide (i ≤ j))
abbrev fGtI := i0 fun i j => .bl (decide (j < i))
abbrev fGeI := i0 fun i j => .bl (decide (j ≤ i))
instance {i j : Int} : Decidable (CMulW i j) := by unfold CMulW; infer_instance
instance {i j : Int} : Decidable (CDivW i j) := by unfold CDivW; infer_instance
instance {i j : Int} : Decidable (CPow i j) := by unfold CPow; infer_instance
instance {i j : Int} : Decidable (CShl i j) := by unfold CShl; infer_instance
abbrev fMulI := iC CMulW fun i j => .int (i * j)
abbrev fDivI := iC CDivW fun i j => .int (i / j)
abbrev fModI := iC (fun _ j => 0 < j) fun i j => .int (i % j)
abbrev fPowI := iC CPow fun i j => .int (i ^ j.toNat)
abbrev fShlI := iC CShl fun i j => .int (i * 2 ^ j.toNat)
abbrev fShrI := iC (fun _ j => 0 ≤ j) fun i j => .int (i / 2 ^ j.toNat)
theorem o_addI : Op2 K rAddI fAddI := op_i0 fun _ _ _ => ⟨rfl, rfl⟩
theorem o_subI : Op2 K rSubI fSubI := op_i0 fun _ _ _ => ⟨rfl, rfl⟩
theorem o_andI : Op2 K rAndI fAndI := op_i0 fun _ _ _ => ⟨rfl, rfl⟩
theorem o_orI : Op2 K rOrI fOrI := op_i0 fun _ _ _ => ⟨rfl, rfl⟩
theorem o_xorI : Op2 K rXorI fXorI := op_i0 fun _ _ _ => ⟨rfl, rfl⟩
theorem o_ltI : Op2 K rLtI fLtI := op_i0 fun _ _ _ => ⟨rfl, rfl⟩
theorem o_leI : Op2 K rLeI fLeI := op_i0 fun _ _ _ => ⟨rfl, rfl⟩
theorem o_gtI : Op2 K rGtI fGtI := op_i0 fun _ _ _ => ⟨rfl, rfl⟩
theorem o_geI : Op2 K rGeI fGeI := op_i0 fun _ _ _ => ⟨rfl, rfl⟩
theorem o_mulI : Op2 K rMulI fMulI := op_iC (fun _ _ h => h) fun _ _ _ => ⟨rfl, rfl⟩
theorem o_divI : Op2 K rDivI fDivI := op_iC (fun _ _ h => h) fun _ _ _ => ⟨rfl, rfl⟩
theorem o_modI : Op2 K rModI fModI := op_iC (fun _ _ h => h) fun _ _ _ => ⟨rfl, rfl⟩
theorem o_powI : Op2 K rPowI fPowI := op_iC (fun _ _ h => h) fun _ _ _ => ⟨rfl, rfl⟩
theorem o_shlI : Op2 K rShlI fShlI := op_iC (fun _ _ h => h) fun _ _ _ => ⟨rfl, rfl⟩
theorem o_shrI : Op2 K rShrI fShrI := op_iC (fun _ _ h => h) fun _ _ _ => ⟨rfl, rfl⟩
theorem ip_of {f : Int → Int → Int} : Op2 K (ipI f) (i0 fun i j => .int (f i j)) := ⟨fun {E F H L v1 v2 d1 d2 d Q} G h1 h2 hf k => by
  unfold i0 at hf
  split at hf
  · next i j =>
    cases hf
    obtain ⟨rfl, _⟩ := h1
    obtain ⟨rfl, _⟩ := h2
    exact ⟨i, j, rfl, rfl, out G k ⟨rfl, rfl⟩⟩
  · cases hf⟩
theorem p_addI : Op2 K iAddI fAddI := ip_of
theorem p_subI : Op2 K iSubI fSubI := ip_of
abbrev fNegI := iU fun i => .int (-i)
theorem o_negI : Op1 K rNegI fNegI := ⟨fun {E F H L v1 d1 d Q} G h1 hf k => by
  unfold fNegI iU at hf
  split at hf
  · next i =>
    cases hf
    obtain ⟨rfl, _⟩ := h1
    exact ⟨i, rfl, out G k ⟨rfl, rfl⟩⟩
  · cases hf⟩
/-- scalars that == knows -/
def fEq : D → D → Option D
  | .int i, .int j => some (.bl (decide (i = j)))
  | .str i, .str j => some (.bl (decide (i = j)))
  | .bl i, .bl j => some (.bl (decide (i = j)))
  | .non, .non => some (.bl true)
  | .non, .int _ => some (.bl false) | .int _, .non => some (.bl false)
  | .non, .bl _ => some (.bl false) | .bl _, .non => some (.bl false)
  | .non, .str _ => some (.bl false) | .str _, .non => some (.bl false)
  | .int _, .str _ => some (.bl false) | .str _, .int _ => some (.bl false)
  | _, _ => none
def fNe (d e : D) : Option D := match fEq d e with
  | some (.bl b) => some (.bl (!b))
  | _ => none
theorem fEq_ok {d1 d2 d : D} {v1 v2 : V} (h1 : Rt K F H d1 v1) (h2 : Rt K F H d2 v2) (hf : fEq d1 d2 = some d) : L2.scal v1 v2 = true ∧ d = .bl (decide (v1 = v2)) := by
  unfold fEq at hf
  split at hf <;> first
    | (cases hf; obtain ⟨rfl, _⟩ := h1; obtain ⟨rfl, _⟩ := h2; refine ⟨rfl, ?_⟩; first | rw [decV] | rw [decS] | rw [decB] | rfl)
    | cases hf
theorem o_eq : Op2 K rEq fEq := ⟨fun {E F H L v1 v2 d1 d2 d Q} G h1 h2 hf k => by
  obtain ⟨hs, rfl⟩ := fEq_ok h1 h2 hf
  exact ⟨hs, out G k ⟨rfl, rfl⟩⟩⟩
theorem o_ne : Op2 K rNe fNe := ⟨fun {E F H L v1 v2 d1 d2 d Q} G h1 h2 hf k => by
  unfold fNe at hf
  split at hf
  · next b hb =>
    cases hf
    obtain ⟨hs, he⟩ := fEq_ok h1 h2 hb
    cases he
    exact ⟨hs, out G k ⟨rfl, rfl⟩⟩
  · cases hf⟩
def isNon : D → Bool
  | .non => true
  | _ => false
def fIsN (d e : D) : Option D := match e with
  | .non => some (.bl (isNon d))
  | _ => none
def fNotN (d e : D) : Option D := match e with
  | .non => some (.bl (!isNon d))
  | _ => none
theorem rt_non (h : Rt K F H d v) : decide (v = V.non) = isNon d := by
  cases d with
  | non => obtain ⟨rfl, _⟩ := h; rfl
  | bl _ => obtain ⟨rfl, _⟩ := h; rfl
  | int _ => obtain ⟨rfl, _⟩ := h; rfl
  | str _ => obtain ⟨rfl, _⟩ := h; rfl
  | ty _ => obtain ⟨rfl, _⟩ := h; rfl
  | raw _ => obtain ⟨rfl, _⟩ := h; rfl
  | lst _ _ => obtain ⟨_, _, rfl, _⟩ := h; rfl
  | tup _ => obtain ⟨_, _, rfl, _⟩ := h; rfl
  | nst _ => obtain ⟨_, _, rfl, _⟩ := h; rfl
  | rt _ => obtain ⟨_, _, rfl, _⟩ := h; rfl
  | sl _ => obtain ⟨_, _, rfl, _⟩ := h; rfl
  | ins _ _ _ _ => obtain ⟨_, _, _, rfl, _⟩ := h; rfl
  | dk _ _ _ => obtain ⟨_, _, rfl, _⟩ := h; rfl
  | dt _ _ _ => obtain ⟨_, _, rfl, _⟩ := h; rfl
  | ow _ _ => exact h.elim
theorem o_isN : Op2 K rIsNone fIsN := ⟨fun {E F H L v1 v2 d1 d2 d Q} G h1 h2 hf k => by
  unfold fIsN at hf
  split at hf
  · obtain ⟨rfl, _⟩ := h2
    cases hf
    exact ⟨rfl, by rw [rt_non h1]; exact out G k ⟨rfl, rfl⟩⟩
  · cases hf⟩
theorem o_notN : Op2 K rNotNone fNotN := ⟨fun {E F H L v1 v2 d1 d2 d Q} G h1 h2 hf k => by
  unfold fNotN at hf
  split at hf
  · obtain ⟨rfl, _⟩ := h2
    cases hf
    exact ⟨rfl, by rw [rt_non h1]; exact out G k ⟨rfl, rfl⟩⟩
  · cases hf⟩
/-! ### indexes, membership -/
def atD (xs : List D) (i : Int) : Option D := (L2.ixN xs.length i).bind fun j => xs[j]?
theorem OwnL.atI {i : Int} {x : D} (o : OwnL K F xs vs []) (h : atD xs i = some x) : ∃ y, L2.atI vs i = some y ∧ Own K F x y [] := by
  unfold atD at h
  unfold L2.atI
  rw [← o.len]
  cases hj : L2.ixN xs.length i with
  | none => rw [hj] at h; cases h
  | some j => rw [hj] at h; exact o.ex h
def fIxL : D → D → Option D
  | .lst _ xs, .int i => atD xs i
  | _, _ => none
def fIxT : D → D → Option D
  | .tup xs, .int i => atD xs i
  | .rt xs, .int i => atD xs i
  | _, _ => none
def fIxS : D → D → Option D
  | .str z, .int i => if z.length ≤ sizeLine then (L2.atI z.cps.toList i).map fun c => .str ⟨#[c]⟩ else none
  | _, _ => none
def fIx : D → D → Option D
  | .lst b xs, i => fIxL (.lst b xs) i
  | .tup xs, i => fIxT (.tup xs) i
  | .rt xs, i => fIxT (.rt xs) i
  | .str z, i => fIxS (.str z) i
  | _, _ => none
theorem o_ixL : Op2 K (rIxL K) fIxL := ⟨fun {E F H L v1 v2 d1 d2 d Q} G h1 h2 hf k => by
  unfold fIxL at hf
  split at hf
  · obtain ⟨a, vs, rfl, hH, ol⟩ := h1
    obtain ⟨rfl, _⟩ := h2
    obtain ⟨y, hy, oy⟩ := ol.atI hf
    exact ⟨a, vs, _, y, rfl, rfl, SqL.of hH, hy, out G k oy⟩
  · cases hf⟩
theorem o_ixT : Op2 K (rIxT K) fIxT := ⟨fun {E F H L v1 v2 d1 d2 d Q} G h1 h2 hf k => by
  unfold fIxT at hf
  split at hf
  · obtain ⟨a, vs, rfl, hH, ol⟩ := h1
    obtain ⟨rfl, _⟩ := h2
    obtain ⟨y, hy, oy⟩ := ol.atI hf
    exact ⟨a, vs, _, y, rfl, rfl, tS G.fh hH, hy, out G k oy⟩
  · obtain ⟨a, vs, rfl, hH, ol⟩ := h1
    obtain ⟨rfl, _⟩ := h2
    obtain ⟨y, hy, oy⟩ := ol.atI hf
    exact ⟨a, vs, _, y, rfl, rfl, tS G.fh (SqT.of hH), hy, out G k oy⟩
  · cases hf⟩
theorem o_ixS : Op2 K rIxS fIxS := ⟨fun {E F H L v1 v2 d1 d2 d Q} G h1 h2 hf k => by
  unfold fIxS at hf
  split at hf
  · next z i =>
    split at hf
    · next hz =>
      obtain ⟨rfl, _⟩ := h1
      obtain ⟨rfl, _⟩ := h2
      cases hc : L2.atI z.cps.toList i with
      | none => rw [hc] at hf; cases hf
      | some c =>
        rw [hc] at hf
        cases hf
        exact ⟨z, i, c, rfl, rfl, hz, hc, out G k ⟨rfl, rfl⟩⟩
    · cases hf
  · cases hf⟩
theorem o_ix : Op2 K (rIx K) fIx := ⟨fun {E F H L v1 v2 d1 d2 d Q} G h1 h2 hf k => by
  unfold fIx at hf
  split at hf
  · exact .inl (o_ixL.run G h1 h2 hf k)
  · exact .inr (.inl (o_ixT.run G h1 h2 hf k))
  · exact .inr (.inl (o_ixT.run G h1 h2 hf k))
  · exact .inr (.inr (o_ixS.run G h1 h2 hf k))
  · cases hf⟩
def eqS : D → D → Bool
  | .non, .non => true
  | .bl a, .bl b => a == b
  | .bl a, .int b => (if a then 1 else 0) == b
  | .int a, .bl b => a == (if b then 1 else 0)
  | .int a, .int b => a == b
  | .str a, .str b => a == b
  | _, _ => false
def flatD : D → Bool
  | .non => true | .bl _ => true | .int _ => true | .str _ => true | _ => false
def inD (x : D) (xs : List D) : Bool := xs.any fun y => eqS y x
theorem flat_own {v : V} (hd : flatD d = true) (o : Own K F d v L) : L2.flatV v = true ∧ (∀ e w L', flatD e = true → Own K F' e w L' → L2.eqV w v = eqS e d) := by
  cases d <;> (try cases hd) <;> (obtain ⟨rfl, _⟩ := o; refine ⟨rfl, fun e w L' he oe => ?_⟩; cases e <;> (try cases he) <;> (obtain ⟨rfl, _⟩ := oe; rfl))
def fIn (neg : Bool) : D → D → Option D
  | x, .lst _ xs => if flatD x && xs.all flatD then some (.bl (if neg then !inD x xs else inD x xs)) else none
  | x, .tup xs => if flatD x && xs.all flatD then some (.bl (if neg then !inD x xs else inD x xs)) else none
  | _, _ => none
theorem flat_rt (hd : flatD d = true) (h : Rt K F H d v) : Own K F d v [] := by
  cases d <;> (try cases hd) <;> exact h
theorem inD_own {x : D} {vx : V} (hx : flatD x = true) (ox : Own K F x vx []) : ∀ {xs : List D} {vs : List V}, xs.all flatD = true → OwnL K F xs vs [] → vs.all L2.flatV = true ∧ L2.inV vx vs = inD x xs
  | [], vs, _, o => by obtain ⟨rfl, _⟩ := o; exact ⟨rfl, rfl⟩
  | y :: xs, vs, h, o => by
    obtain ⟨v, vs', rfl, h3, h4⟩ := o.head
    simp only [List.all_cons, Bool.and_eq_true] at h
    obtain ⟨q1, q2⟩ := inD_own hx ox h.2 h4
    refine ⟨by simp only [List.all_cons, q1, (flat_own (F' := F) h.1 h3).1, Bool.and_self], ?_⟩
    show (L2.eqV v vx || L2.inV vx vs') = (eqS y x || inD x xs)
    rw [q2, (flat_own (F' := F) hx ox).2 y v [] h.1 h3]
theorem o_in {neg : Bool} : Op2 K (rIn K neg) (fIn neg) := ⟨fun {E F H L v1 v2 d1 d2 d Q} G h1 h2 hf k => by
  unfold fIn at hf
  split at hf
  · split at hf
    · next hc =>
      simp only [Bool.and_eq_true] at hc
      cases hf
      obtain ⟨a, vs, rfl, hH, ol⟩ := h2
      obtain ⟨q1, q2⟩ := inD_own hc.1 (flat_rt hc.1 h1) hc.2 ol
      refine ⟨a, vs, rfl, .inl (SqL.of hH), (flat_own (F' := F) hc.1 (flat_rt hc.1 h1)).1, q1, ?_⟩
      rw [q2]
      exact out G k ⟨rfl, rfl⟩
    · cases hf
  · split at hf
    · next hc =>
      simp only [Bool.and_eq_true] at hc
      cases hf
      obtain ⟨a, vs, rfl, hH, ol⟩ := h2
      obtain ⟨q1, q2⟩ := inD_own hc.1 (flat_rt hc.1 h1) hc.2 ol
      refine ⟨a, vs, rfl, .inr (tS G.fh hH), (flat_own (F' := F) hc.1 (flat_rt hc.1 h1)).1, q1, ?_⟩
      rw [q2]
      exact out G k ⟨rfl, rfl⟩
    · cases hf
  · cases hf⟩
/-! ### == of data -/
mutual
def toPy : D → Option PyData
  | .non => some .none
  | .bl b => some (.bool b)
  | .int i => some (.int i)
  | .str s => some (.str s)
  | .lst _ xs => (toPyL xs).map .list
  | .tup xs => (toPyL xs).map .tuple
  | .rt xs => (toPyL xs).map .tuple
  | _ => none
def toPyL : List D → Option (List PyData)
  | [] => some []
  | x :: xs => match toPy x, toPyL xs with
    | some y, some ys => some (y :: ys)
    | _, _ => none
end
mutual
theorem own_dp : ∀ (d : D) (v : V) (x : PyData), Own K F d v [] → toPy d = some x → Dp K F v x
  | .non, v, x, h, hx => by obtain ⟨rfl, _⟩ := h; rw [toPy] at hx; cases hx; exact .non
  | .bl _, v, x, h, hx => by obtain ⟨rfl, _⟩ := h; rw [toPy] at hx; cases hx; exact .bl _
  | .int _, v, x, h, hx => by obtain ⟨rfl, _⟩ := h; rw [toPy] at hx; cases hx; exact .int _
  | .str _, v, x, h, hx => by obtain ⟨rfl, _⟩ := h; rw [toPy] at hx; cases hx; exact .str _
  | .lst true xs, v, x, h, hx => by rw [Own] at h; obtain ⟨_, _, _, hL, _⟩ := h; cases hL
  | .lst false xs, v, x, h, hx => by
    rw [Own] at h
    obtain ⟨a, vs, rfl, _, hF, ol⟩ := h
    rw [toPy] at hx
    cases hy : toPyL xs with
    | none => rw [hy] at hx; cases hx
    | some ys => rw [hy] at hx; cases hx; exact .lst (SqL.of hF) (own_dpL xs vs ys ol hy)
  | .tup xs, v, x, h, hx => by
    rw [Own] at h
    obtain ⟨a, vs, rfl, _, hF, ol⟩ := h
    rw [toPy] at hx
    cases hy : toPyL xs with
    | none => rw [hy] at hx; cases hx
    | some ys => rw [hy] at hx; cases hx; exact .tup hF (own_dpL xs vs ys ol hy)
  | .rt xs, v, x, h, hx => by
    rw [Own] at h
    obtain ⟨a, vs, rfl, _, hF, ol⟩ := h
    rw [toPy] at hx
    cases hy : toPyL xs with
    | none => rw [hy] at hx; cases hx
    | some ys => rw [hy] at hx; cases hx; exact .tup (SqT.of hF) (own_dpL xs vs ys ol hy)
  | .sl _, _, _, _, hx => by rw [toPy] at hx <;> first | cases hx | (intros; simp_all)
  | .ty _, _, _, _, hx => by rw [toPy] at hx <;> first | cases hx | (intros; simp_all)
  | .raw _, _, _, _, hx => by rw [toPy] at hx <;> first | cases hx | (intros; simp_all)
  | .nst _, _, _, _, hx => by rw [toPy] at hx <;> first | cases hx | (intros; simp_all)
  | .ins _ _ _ _, _, _, _, hx => by rw [toPy] at hx <;> first | cases hx | (intros; simp_all)
  | .dk _ _ _, _, _, _, hx => by rw [toPy] at hx <;> first | cases hx | (intros; simp_all)
  | .dt _ _ _, _, _, _, hx => by rw [toPy] at hx <;> first | cases hx | (intros; simp_all)
  | .ow _ _, _, _, h, _ => by rw [Own] at h; exact h.elim
theorem own_dpL : ∀ (ds : List D) (vs : List V) (xs : List PyData), OwnL K F ds vs [] → toPyL ds = some xs → DpAll K F vs xs
  | [], vs, xs, h, hx => by
    obtain ⟨rfl, _⟩ := h
    rw [toPyL] at hx
    cases hx
    exact .nil
  | d :: ds, vs, xs, h, hx => by
    rw [OwnL] at h
    obtain ⟨v, vs', L1, L2, rfl, hL, h3, h4⟩ := h
    obtain ⟨rfl, rfl⟩ := List.append_eq_nil_iff.mp hL.symm
    rw [toPyL] at hx
    cases hy : toPy d with
    | none => rw [hy] at hx; cases hx
    | some y =>
      cases hys : toPyL ds with
      | none => rw [hy, hys] at hx; cases hx
      | some ys =>
        rw [hy, hys] at hx
        cases hx
        exact .cons (own_dp d v y h3 hy) (own_dpL ds vs' ys h4 hys)
end
theorem rt_dp {x : PyData} (G : SL.St E F H L) (h : Rt K F H d v) (hx : toPy d = some x) : Dp K H v x := by
  cases d with
  | lst o xs =>
    obtain ⟨a, vs, rfl, hH, ol⟩ := h
    rw [toPy] at hx
    cases hy : toPyL xs with
    | none => rw [hy] at hx; cases hx
    | some ys =>
      rw [hy] at hx; cases hx
      exact .lst (SqL.of hH) (dpaS G.fh _ _ (own_dpL xs vs ys ol hy))
  | tup xs =>
    obtain ⟨a, vs, rfl, hF, ol⟩ := h
    exact dpS G.fh _ _ (own_dp (.tup xs) (.ref a) x ⟨a, vs, rfl, rfl, hF, ol⟩ hx)
  | rt xs =>
    obtain ⟨a, vs, rfl, hF, ol⟩ := h
    exact dpS G.fh _ _ (own_dp (.rt xs) (.ref a) x ⟨a, vs, rfl, rfl, hF, ol⟩ hx)
  | non => exact dpS G.fh _ _ (own_dp _ _ x h hx)
  | bl _ => exact dpS G.fh _ _ (own_dp _ _ x h hx)
  | int _ => exact dpS G.fh _ _ (own_dp _ _ x h hx)
  | str _ => exact dpS G.fh _ _ (own_dp _ _ x h hx)
  | _ => rw [toPy] at hx <;> first | cases hx | (intros; simp_all)
def fEqD (d e : D) : Option D := match toPy d, toPy e with
  | some x, some y => if SeqAt.shaped x && SeqAt.shaped y then some (.bl (PyData.eqv x y)) else none
  | _, _ => none
def fNeD (d e : D) : Option D := match toPy d, toPy e with
  | some x, some y => if SeqAt.shaped x && SeqAt.shaped y then some (.bl (!PyData.eqv x y)) else none
  | _, _ => none
theorem o_eqD : Op2 K (rEqD K) fEqD := ⟨fun {E F H L v1 v2 d1 d2 d Q} G h1 h2 hf k => by
  unfold fEqD at hf
  split at hf
  · next x y hx hy =>
    split at hf
    · next hc =>
      simp only [Bool.and_eq_true] at hc
      cases hf
      exact ⟨x, y, rt_dp G h1 hx, rt_dp G h2 hy, hc.1, hc.2, out G k ⟨rfl, rfl⟩⟩
    · cases hf
  · cases hf⟩
theorem o_neD : Op2 K (rNeD K) fNeD := ⟨fun {E F H L v1 v2 d1 d2 d Q} G h1 h2 hf k => by
  unfold fNeD at hf
  split at hf
  · next x y hx hy =>
    split at hf
    · next hc =>
      simp only [Bool.and_eq_true] at hc
      cases hf
      exact ⟨x, y, rt_dp G h1 hx, rt_dp G h2 hy, hc.1, hc.2, out G k ⟨rfl, rfl⟩⟩
    · cases hf
  · cases hf⟩
end
end UL

set_option Elab.async false
set_option linter.all false
set_option maxRecDepth 100000
set_option maxHeartbeats 4000000
namespace UL
open PySem SL
open L2 hiding rLen
def rLenD : List V → Hp → VK → Prop := fun xs H Q => ∃ a kvs, xs = [V.ref a] ∧ H a = some (.dK kvs) ∧ Q (.int kvs.length) H
section
variable {K : PySem.W.Frag} {F F' H H' : Hp} {E : En} {P : List (Nat × V)} {Pi : List Nat} {L L' L0 L1 Lt M : Led} {v w : V} {vs : List V} {d d' e : D} {ds ds' xs : List D} {p q : Bool} {W : L2.St → XK} {er : UX} {sd sd' : US} {σ : L2.St}
theorem RtL.one (h : RtL K F H [d] vs) : ∃ v, vs = [v] ∧ Rt K F H d v := by
  cases h with
  | cons h1 h2 => cases h2; exact ⟨_, rfl, h1⟩
theorem RtL.two {d2 : D} (h : RtL K F H [d, d2] vs) : ∃ v v2, vs = [v, v2] ∧ Rt K F H d v ∧ Rt K F H d2 v2 := by
  cases h with
  | cons h1 h2 => obtain ⟨v2, rfl, h3⟩ := h2.one; exact ⟨_, _, rfl, h1, h3⟩
def fLen : List D → Option D
  | [.lst _ xs] => some (.int xs.length)
  | [.nst xs] => some (.int xs.length)
  | [.tup xs] => some (.int xs.length)
  | [.rt xs] => some (.int xs.length)
  | _ => none
theorem o_len : OpN K (rLen K) fLen := ⟨fun {E F H L vs ds d Q} G h hf k => by
  unfold fLen at hf
  split at hf
  · cases hf
    obtain ⟨v, rfl, a, ys, rfl, hH, ol⟩ := h.one
    exact ⟨a, ys, rfl, .inl (SqL.of hH), out G k ⟨by rw [ol.len], rfl⟩⟩
  · cases hf
    obtain ⟨v, rfl, a, ys, rfl, hH, ol⟩ := h.one
    exact ⟨a, ys, rfl, .inl (SqL.of hH), out G k ⟨by rw [ol], rfl⟩⟩
  · cases hf
    obtain ⟨v, rfl, a, ys, rfl, hH, ol⟩ := h.one
    exact ⟨a, ys, rfl, .inr (tS G.fh hH), out G k ⟨by rw [ol.len], rfl⟩⟩
  · cases hf
    obtain ⟨v, rfl, a, ys, rfl, hH, ol⟩ := h.one
    exact ⟨a, ys, rfl, .inr (tS G.fh (SqT.of hH)), out G k ⟨by rw [ol.len], rfl⟩⟩
  · cases hf⟩
def fLenS : List D → Option D
  | [.str z] => if z.length ≤ sizeLine then some (.int z.length) else none
  | _ => none
theorem o_lenS : OpN K rLenStr fLenS := ⟨fun {E F H L vs ds d Q} G h hf k => by
  unfold fLenS at hf
  split at hf
  · split at hf
    · next hz =>
      cases hf
      obtain ⟨v, rfl, rfl, _⟩ := h.one
      exact ⟨_, rfl, hz, out G k ⟨rfl, rfl⟩⟩
    · cases hf
  · cases hf⟩
def fLenD : List D → Option D
  | [.dk _ ks _] => some (.int ks.length)
  | _ => none
theorem o_lenD : OpN K rLenD fLenD := ⟨fun {E F H L vs ds d Q} G h hf k => by
  unfold fLenD at hf
  split at hf
  · cases hf
    obtain ⟨v, rfl, a, ys, rfl, hH, hl, ol⟩ := h.one
    exact ⟨a, _, rfl, hH, out G k ⟨by rw [List.length_zip, hl, Nat.min_self], rfl⟩⟩
  · cases hf⟩
def fListOf : List D → Option D
  | [.lst _ xs] => some (.lst true xs)
  | [.tup xs] => some (.lst true xs)
  | _ => none
theorem o_listOf : OpN K (rListOf K) fListOf := ⟨fun {E F H L vs ds d Q} G h hf k => by
  unfold fListOf at hf
  split at hf
  · cases hf
    obtain ⟨v, rfl, a, ys, rfl, hH, ol⟩ := h.one
    exact ⟨a, ys, rfl, .inl (SqL.of hH), fun p hp => k F _ _ [(p, .lst ys)] (Same.refl _) (same_new hp) (G.new hp) ⟨p, ys, rfl, rfl, ol⟩⟩
  · cases hf
    obtain ⟨v, rfl, a, ys, rfl, hH, ol⟩ := h.one
    exact ⟨a, ys, rfl, .inr (tS G.fh hH), fun p hp => k F _ _ [(p, .lst ys)] (Same.refl _) (same_new hp) (G.new hp) ⟨p, ys, rfl, rfl, ol⟩⟩
  · cases hf⟩
def fTupOf : List D → Option D
  | [.lst _ xs] => some (.tup xs)
  | [.tup xs] => some (.tup xs)
  | _ => none
theorem new_tup {p : Addr} {Q : VK} (G : SL.St E F H L) (hp : H p = none) (o : OwnL K F xs vs []) (k : ∀ F' H' v Lt, Same F F' → Same H H' → SL.St E F' H' (Lt ++ L) → Own K F' (.tup xs) v Lt → Q v H') : Q (.ref p) (upd H p (.tup vs)) := by
  obtain ⟨F3, e3, f3, G3⟩ := (G.new (o := .tup vs) hp).frz .head
  exact k F3 _ _ [] e3 (same_new hp) G3 ⟨p, _, rfl, rfl, SqT.of f3, OwnL.mono e3 _ _ _ o⟩
theorem o_tupOf : OpN K (rTupOf K) fTupOf := ⟨fun {E F H L vs ds d Q} G h hf k => by
  unfold fTupOf at hf
  split at hf
  · cases hf
    obtain ⟨v, rfl, a, ys, rfl, hH, ol⟩ := h.one
    exact ⟨a, ys, rfl, .inl ⟨SqL.of hH, fun p hp => new_tup G hp ol k⟩⟩
  · cases hf
    obtain ⟨v, rfl, a, ys, rfl, hH, ol⟩ := h.one
    exact ⟨a, ys, rfl, .inr ⟨tS G.fh hH, out G k ⟨a, ys, rfl, rfl, hH, ol⟩⟩⟩
  · cases hf⟩
def kD : Key → D
  | .inl i => .int i
  | .inr s => .str s
theorem own_kD {k : Key} : Own K F (kD k) (L2.kV k) [] := by cases k <;> exact ⟨rfl, rfl⟩
def fListD : List D → Option D
  | [.dk _ ks _] => some (.lst true (ks.map kD))
  | _ => none
theorem OwnL.map {α : Type} {f : α → D} {g : α → V} (h : ∀ x, Own K F (f x) (g x) []) : ∀ {l : List α}, OwnL K F (l.map f) (l.map g) []
  | [] => ⟨rfl, rfl⟩
  | x :: l => OwnL.cons (h x) (OwnL.map h)
theorem o_listD : OpN K rListD fListD := ⟨fun {E F H L vs ds d Q} G h hf k => by
  unfold fListD at hf
  split at hf
  · next ks xs =>
    cases hf
    obtain ⟨v, rfl, a, ys, rfl, hH, hl, ol⟩ := h.one
    refine ⟨a, _, rfl, hH, fun p hp => ?_⟩
    have e : (ks.zip ys).map (fun kv => L2.kV kv.1) = ks.map L2.kV := by
      rw [show (fun kv : Key × V => L2.kV kv.1) = L2.kV ∘ Prod.fst from rfl, ← List.map_map, List.map_fst_zip (by omega)]
    rw [e]
    exact k F _ _ [(p, .lst _)] (Same.refl _) (same_new hp) (G.new hp) ⟨p, _, rfl, rfl, OwnL.map fun x => own_kD⟩
  · cases hf⟩
def fInt1 : List D → Option D
  | [.int i] => some (.int i)
  | [.bl k] => some (.int (if k then 1 else 0))
  | _ => none
theorem o_int1 : OpN K rInt1 fInt1 := ⟨fun {E F H L vs ds d Q} G h hf k => by
  unfold fInt1 at hf
  split at hf
  · cases hf
    obtain ⟨v, rfl, rfl, _⟩ := h.one
    exact r_int1 (out G k ⟨rfl, rfl⟩)
  · cases hf
    obtain ⟨v, rfl, rfl, _⟩ := h.one
    exact r_int1b (out G k ⟨rfl, rfl⟩)
  · cases hf⟩
def fMax2 : List D → Option D
  | [.int i, .int j] => some (.int (if j > i then j else i))
  | _ => none
def fMin2 : List D → Option D
  | [.int i, .int j] => some (.int (if j < i then j else i))
  | _ => none
theorem o_max2 : OpN K SL.rMax2 fMax2 := ⟨fun {E F H L vs ds d Q} G h hf k => by
  unfold fMax2 at hf
  split at hf
  · cases hf
    obtain ⟨v, v2, rfl, ⟨rfl, _⟩, ⟨rfl, _⟩⟩ := h.two
    exact ⟨_, _, rfl, out G k ⟨rfl, rfl⟩⟩
  · cases hf⟩
theorem o_min2 : OpN K SL.rMin2 fMin2 := ⟨fun {E F H L vs ds d Q} G h hf k => by
  unfold fMin2 at hf
  split at hf
  · cases hf
    obtain ⟨v, v2, rfl, ⟨rfl, _⟩, ⟨rfl, _⟩⟩ := h.two
    exact ⟨_, _, rfl, out G k ⟨rfl, rfl⟩⟩
  · cases hf⟩
/-! ### lists of ints, of bools -/
def intsD : List D → Option (List Int)
  | [] => some []
  | .int i :: xs => (intsD xs).map (i :: ·)
  | _ => none
def blsD : List D → Option (List Bool)
  | [] => some []
  | .bl i :: xs => (blsD xs).map (i :: ·)
  | _ => none
theorem intsD_own : ∀ {xs : List D} {vs : List V} {ns : List Int}, intsD xs = some ns → OwnL K F xs vs [] → vs = ns.map V.int
  | [], vs, ns, h, o => by cases h; exact o.1
  | .int i :: xs, vs, ns, h, o => by
    obtain ⟨v, vs', rfl, ⟨rfl, _⟩, h4⟩ := o.head
    rw [intsD] at h
    cases hn : intsD xs with
    | none => rw [hn] at h; cases h
    | some ms => rw [hn] at h; cases h; rw [intsD_own hn h4]; rfl
  | .non :: _, _, _, h, _ => by cases h
  | .bl _ :: _, _, _, h, _ => by cases h
  | .str _ :: _, _, _, h, _ => by cases h
  | .ty _ :: _, _, _, h, _ => by cases h
  | .raw _ :: _, _, _, h, _ => by cases h
  | .lst _ _ :: _, _, _, h, _ => by cases h
  | .tup _ :: _, _, _, h, _ => by cases h
  | .nst _ :: _, _, _, h, _ => by cases h
  | .rt _ :: _, _, _, h, _ => by cases h
  | .sl _ :: _, _, _, h, _ => by cases h
  | .ins _ _ _ _ :: _, _, _, h, _ => by cases h
  | .dk _ _ _ :: _, _, _, h, _ => by cases h
  | .dt _ _ _ :: _, _, _, h, _ => by cases h
  | .ow _ _ :: _, _, _, h, _ => by cases h
theorem blsD_own : ∀ {xs : List D} {vs : List V} {ns : List Bool}, blsD xs = some ns → OwnL K F xs vs [] → vs = ns.map V.bl
  | [], vs, ns, h, o => by cases h; exact o.1
  | .bl i :: xs, vs, ns, h, o => by
    obtain ⟨v, vs', rfl, ⟨rfl, _⟩, h4⟩ := o.head
    rw [blsD] at h
    cases hn : blsD xs with
    | none => rw [hn] at h; cases h
    | some ms => rw [hn] at h; cases h; rw [blsD_own hn h4]; rfl
  | .non :: _, _, _, h, _ => by cases h
  | .int _ :: _, _, _, h, _ => by cases h
  | .str _ :: _, _, _, h, _ => by cases h
  | .ty _ :: _, _, _, h, _ => by cases h
  | .raw _ :: _, _, _, h, _ => by cases h
  | .lst _ _ :: _, _, _, h, _ => by cases h
  | .tup _ :: _, _, _, h, _ => by cases h
  | .nst _ :: _, _, _, h, _ => by cases h
  | .rt _ :: _, _, _, h, _ => by cases h
  | .sl _ :: _, _, _, h, _ => by cases h
  | .ins _ _ _ _ :: _, _, _, h, _ => by cases h
  | .dk _ _ _ :: _, _, _, h, _ => by cases h
  | .dt _ _ _ :: _, _, _, h, _ => by cases h
  | .ow _ _ :: _, _, _, h, _ => by cases h
theorem intsD_map : ∀ {ns : List Int}, intsD (ns.map D.int) = some ns
  | [] => rfl
  | n :: ns => by rw [List.map_cons, intsD, intsD_map]; rfl
theorem blsD_map : ∀ {ns : List Bool}, blsD (ns.map D.bl) = some ns
  | [] => rfl
  | n :: ns => by rw [List.map_cons, blsD, blsD_map]; rfl
def fAll : List D → Option D
  | [.lst _ xs] => (blsD xs).map fun bs => .bl (bs.all id)
  | _ => none
def fAny : List D → Option D
  | [.lst _ xs] => (blsD xs).map fun bs => .bl (bs.any id)
  | _ => none
def fSum : List D → Option D
  | [.lst _ xs] => (intsD xs).map fun bs => .int bs.sum
  | _ => none
theorem o_all : OpN K (rAll K) fAll := ⟨fun {E F H L vs ds d Q} G h hf k => by
  unfold fAll at hf
  split at hf
  · next b xs =>
    cases hb : blsD xs with
    | none => rw [hb] at hf; cases hf
    | some bs =>
      rw [hb] at hf
      cases hf
      obtain ⟨v, rfl, a, ys, rfl, hH, ol⟩ := h.one
      exact ⟨a, bs, rfl, by rw [← blsD_own hb ol]; exact SqL.of hH, out G k ⟨rfl, rfl⟩⟩
  · cases hf⟩
theorem o_any : OpN K (rAny K) fAny := ⟨fun {E F H L vs ds d Q} G h hf k => by
  unfold fAny at hf
  split at hf
  · next b xs =>
    cases hb : blsD xs with
    | none => rw [hb] at hf; cases hf
    | some bs =>
      rw [hb] at hf
      cases hf
      obtain ⟨v, rfl, a, ys, rfl, hH, ol⟩ := h.one
      exact ⟨a, bs, rfl, by rw [← blsD_own hb ol]; exact SqL.of hH, out G k ⟨rfl, rfl⟩⟩
  · cases hf⟩
theorem o_sum : OpN K (rSum K) fSum := ⟨fun {E F H L vs ds d Q} G h hf k => by
  unfold fSum at hf
  split at hf
  · next b xs =>
    cases hb : intsD xs with
    | none => rw [hb] at hf; cases hf
    | some bs =>
      rw [hb] at hf
      cases hf
      obtain ⟨v, rfl, a, ys, rfl, hH, ol⟩ := h.one
      exact ⟨a, bs, rfl, by rw [← intsD_own hb ol]; exact SqL.of hH, out G k ⟨rfl, rfl⟩⟩
  · cases hf⟩
/-- the greatest, the least of some ints -/
def gmax : List Int → Int
  | [] => 0
  | [x] => x
  | x :: y :: r => let m := gmax (y :: r); if m > x then m else x
def gmin : List Int → Int
  | [] => 0
  | [x] => x
  | x :: y :: r => let m := gmin (y :: r); if m < x then m else x
theorem gmax_spec : ∀ {ns : List Int}, ns ≠ [] → gmax ns ∈ ns ∧ ∀ y ∈ ns, y ≤ gmax ns
  | [], h => absurd rfl h
  | [x], _ => ⟨List.mem_singleton.mpr rfl, fun y hy => by rw [List.mem_singleton.mp hy]; exact Int.le_refl _⟩
  | x :: y :: r, _ => by
    obtain ⟨h1, h2⟩ := gmax_spec (ns := y :: r) (by simp)
    show (if gmax (y :: r) > x then gmax (y :: r) else x) ∈ _ ∧ ∀ z ∈ _, z ≤ (if gmax (y :: r) > x then gmax (y :: r) else x)
    split
    · next c => exact ⟨List.mem_cons_of_mem _ h1, fun z hz => by rcases List.mem_cons.mp hz with rfl | hz; omega; exact h2 z hz⟩
    · next c => exact ⟨List.mem_cons_self, fun z hz => by rcases List.mem_cons.mp hz with rfl | hz; omega; have := h2 z hz; omega⟩
theorem gmin_spec : ∀ {ns : List Int}, ns ≠ [] → gmin ns ∈ ns ∧ ∀ y ∈ ns, gmin ns ≤ y
  | [], h => absurd rfl h
  | [x], _ => ⟨List.mem_singleton.mpr rfl, fun y hy => by rw [List.mem_singleton.mp hy]; exact Int.le_refl _⟩
  | x :: y :: r, _ => by
    obtain ⟨h1, h2⟩ := gmin_spec (ns := y :: r) (by simp)
    show (if gmin (y :: r) < x then gmin (y :: r) else x) ∈ _ ∧ ∀ z ∈ _, (if gmin (y :: r) < x then gmin (y :: r) else x) ≤ z
    split
    · next c => exact ⟨List.mem_cons_of_mem _ h1, fun z hz => by rcases List.mem_cons.mp hz with rfl | hz; omega; exact h2 z hz⟩
    · next c => exact ⟨List.mem_cons_self, fun z hz => by rcases List.mem_cons.mp hz with rfl | hz; omega; have := h2 z hz; omega⟩
theorem gmax_uniq {ns : List Int} {m : Int} (h1 : m ∈ ns) (h2 : ∀ y ∈ ns, y ≤ m) : m = gmax ns := by
  obtain ⟨q1, q2⟩ := gmax_spec (ns := ns) (fun c => by rw [c] at h1; cases h1)
  have := h2 _ q1; have := q2 _ h1; omega
theorem gmin_uniq {ns : List Int} {m : Int} (h1 : m ∈ ns) (h2 : ∀ y ∈ ns, m ≤ y) : m = gmin ns := by
  obtain ⟨q1, q2⟩ := gmin_spec (ns := ns) (fun c => by rw [c] at h1; cases h1)
  have := h2 _ q1; have := q2 _ h1; omega
def seqD : D → Option (List D)
  | .lst _ xs => some xs
  | .tup xs => some xs
  | _ => none
theorem seqD_rt (hd : seqD d = some xs) (G : SL.St E F H L) (h : Rt K F H d v) : ∃ a b vs, v = .ref a ∧ SqB K H a vs b ∧ OwnL K F xs vs [] := by
  unfold seqD at hd
  split at hd
  · cases hd; obtain ⟨a, vs, rfl, hH, ol⟩ := h; exact ⟨a, true, vs, rfl, SqL.of hH, ol⟩
  · cases hd; obtain ⟨a, vs, rfl, hH, ol⟩ := h; exact ⟨a, false, vs, rfl, tS G.fh hH, ol⟩
  · cases hd
def fMaxB : List D → Option D
  | [d] => match seqD d with
    | some xs => match intsD xs with
      | some ns => if ns = [] then none else some (.int (gmax ns))
      | none => none
    | none => none
  | _ => none
def fMinB : List D → Option D
  | [d] => match seqD d with
    | some xs => match intsD xs with
      | some ns => if ns = [] then none else some (.int (gmin ns))
      | none => none
    | none => none
  | _ => none
theorem o_maxB : OpN K (rB_max K) fMaxB := ⟨fun {E F H L vs ds d Q} G h hf k => by
  unfold fMaxB at hf
  split at hf
  · split at hf
    · next xs hs =>
      split at hf
      · next ns hn =>
        split at hf
        · cases hf
        · next hne =>
          cases hf
          obtain ⟨v, rfl, h1⟩ := h.one
          obtain ⟨a, b, ws, rfl, hb, ol⟩ := seqD_rt hs G h1
          refine ⟨a, b, ns, rfl, by rw [← intsD_own hn ol]; exact hb, List.length_pos_iff.mpr hne, fun m h1 h2 => out G k ⟨by rw [gmax_uniq h1 h2], rfl⟩⟩
      · cases hf
    · cases hf
  · cases hf⟩
theorem o_minB : OpN K (rB_min K) fMinB := ⟨fun {E F H L vs ds d Q} G h hf k => by
  unfold fMinB at hf
  split at hf
  · split at hf
    · next xs hs =>
      split at hf
      · next ns hn =>
        split at hf
        · cases hf
        · next hne =>
          cases hf
          obtain ⟨v, rfl, h1⟩ := h.one
          obtain ⟨a, b, ws, rfl, hb, ol⟩ := seqD_rt hs G h1
          refine ⟨a, b, ns, rfl, by rw [← intsD_own hn ol]; exact hb, List.length_pos_iff.mpr hne, fun m h1 h2 => out G k ⟨by rw [gmin_uniq h1 h2], rfl⟩⟩
      · cases hf
    · cases hf
  · cases hf⟩
structure OpK (K : PySem.W.Frag) (r : List V → List V → Hp → VK → Prop) (f : List D → List D → Option D) : Prop where
  run : ∀ {E : En} {F H : Hp} {L : Led} {vs zs : List V} {ds es : List D} {d : D} {Q : VK}, SL.St E F H L → RtL K F H ds vs → RtL K F H es zs → f ds es = some d →
    (∀ F' H' v Lt, Same F F' → Same H H' → SL.St E F' H' (Lt ++ L) → Own K F' d v Lt → Q v H') → r vs zs H Q
def uCKw (f : List D → List D → Option D) (ua uk : UA) : UE := fun er sd U => ua er sd fun ds s1 => uk er s1 fun ks s2 => ∃ es xs d, vwL s2 ds = some es ∧ vwL s2 ks = some xs ∧ f es xs = some d ∧ U d s2
theorem re_ckw {r : List V → List V → Hp → VK → Prop} {f : List D → List D → Option D} {ta tk : TA} {ua uk : UA} (o : OpK K r f) (ha : RA K p W ta ua) (hk : RA K true W tk uk) : RE K p W (tCKw r ta tk) (uCKw f ua uk) := ⟨fun {E P F H σ sd L0 Q er U} S hE h k => by
  refine ha.run S hE h fun F1 H1 s1 vs1 ds1 Lt1 e1 p1 S1 r1 h => ?_
  refine hk.run S1 (hE.mono e1) h fun F2 H2 s2 vs2 ds2 Lt2 e2 p2 S2 r2 h => ?_
  obtain ⟨es, xs, d, q1, q2, hf, hU⟩ := h
  refine S2.run fun Le G back => ?_
  refine o.run G (S2.rtL (Lt := Lt1) (fun x hx => by simp [hx]) (r1.mono e2 (p2 rfl)) q1) (S2.rtL (Lt := Lt2) (fun x hx => by simp [hx]) r2 q2) hf fun F' H' v Lt s3 s4 G2 ho => ?_
  exact k F' H' s2 v d Lt (e1.trans (e2.trans s3)) (fun hp => (p1 hp).trans ((p2 rfl).trans s4)) ((back F' H' Lt s3 s4 G2).keep (List.Sublist.append (List.Sublist.refl _) ((List.sublist_append_right _ _).trans (List.sublist_append_right _ _)))) (.own ho) hU⟩
def fMaxD : List D → List D → Option D
  | [d], [.int z] => match seqD d with
    | some xs => match intsD xs with
      | some ns => some (.int (if ns = [] then z else gmax ns))
      | none => none
    | none => none
  | _, _ => none
def fMinD : List D → List D → Option D
  | [d], [.int z] => match seqD d with
    | some xs => match intsD xs with
      | some ns => some (.int (if ns = [] then z else gmin ns))
      | none => none
    | none => none
  | _, _ => none
theorem o_maxD : OpK K (rD_max K) fMaxD := ⟨fun {E F H L vs zs ds es d Q} G h h' hf k => by
  unfold fMaxD at hf
  split at hf
  · split at hf
    · next xs hs =>
      split at hf
      · next ns hn =>
        cases hf
        obtain ⟨v, rfl, h1⟩ := h.one
        obtain ⟨z, rfl, rfl, _⟩ := h'.one
        obtain ⟨a, b, ws, rfl, hb, ol⟩ := seqD_rt hs G h1
        refine ⟨a, b, ns, _, rfl, rfl, by rw [← intsD_own hn ol]; exact hb, fun m h1 h2 => out G k ⟨?_, rfl⟩⟩
        by_cases c : ns = []
        · rw [if_pos c, h1 c]
        · rw [if_neg c, gmax_uniq (h2 c).1 (h2 c).2]
      · cases hf
    · cases hf
  · cases hf⟩
theorem o_minD : OpK K (rD_min K) fMinD := ⟨fun {E F H L vs zs ds es d Q} G h h' hf k => by
  unfold fMinD at hf
  split at hf
  · split at hf
    · next xs hs =>
      split at hf
      · next ns hn =>
        cases hf
        obtain ⟨v, rfl, h1⟩ := h.one
        obtain ⟨z, rfl, rfl, _⟩ := h'.one
        obtain ⟨a, b, ws, rfl, hb, ol⟩ := seqD_rt hs G h1
        refine ⟨a, b, ns, _, rfl, rfl, by rw [← intsD_own hn ol]; exact hb, fun m h1 h2 => out G k ⟨?_, rfl⟩⟩
        by_cases c : ns = []
        · rw [if_pos c, h1 c]
        · rw [if_neg c, gmin_uniq (h2 c).1 (h2 c).2]
      · cases hf
    · cases hf
  · cases hf⟩
def srt (ns : List Int) : List Int := ns.mergeSort (fun a b => decide (a ≤ b))
theorem srt_uniq : ∀ {xs ys : List Int}, xs.Perm ys → xs.Pairwise (· ≤ ·) → ys.Pairwise (· ≤ ·) → xs = ys
  | [], ys, hp, _, _ => (List.Perm.nil_eq hp)
  | x :: xs, [], hp, _, _ => absurd hp.symm (List.not_perm_nil_cons _ _)
  | x :: xs, y :: ys, hp, h1, h2 => by
    obtain ⟨a1, a2⟩ := List.pairwise_cons.mp h1
    obtain ⟨b1, b2⟩ := List.pairwise_cons.mp h2
    have e : x = y := by
      have hx : x ∈ y :: ys := hp.mem_iff.mp List.mem_cons_self
      have hy : y ∈ x :: xs := hp.mem_iff.mpr List.mem_cons_self
      rcases List.mem_cons.mp hx with c | c
      · exact c
      · rcases List.mem_cons.mp hy with c' | c'
        · exact c'.symm
        · have := a1 y c'; have := b1 x c; omega
    subst e
    rw [srt_uniq (List.Perm.cons_inv hp) a2 b2]
theorem srt_perm {ns : List Int} : (srt ns).Perm ns := List.mergeSort_perm _ _
theorem srt_sorted {ns : List Int} : (srt ns).Pairwise (· ≤ ·) := by
  have := List.pairwise_mergeSort (le := fun a b : Int => decide (a ≤ b)) (fun a b c h1 h2 => by simp at h1 h2 ⊢; omega) (fun a b => by simp; omega) ns
  exact this.imp fun h => by simpa using h
def fSorted : List D → Option D
  | [.lst _ xs] => match intsD xs with
    | some ns => if ns.length < 64 then some (.lst true ((srt ns).map D.int)) else none
    | none => none
  | _ => none
theorem o_sorted : OpN K (rSorted K) fSorted := ⟨fun {E F H L vs ds d Q} G h hf k => by
  unfold fSorted at hf
  split at hf
  · split at hf
    · next ns hn =>
      split at hf
      · next hl =>
        cases hf
        obtain ⟨v, rfl, a, ys, rfl, hH, ol⟩ := h.one
        refine ⟨a, ns, rfl, by rw [← intsD_own hn ol]; exact SqL.of hH, hl, fun ns' p h1 h2 hp => ?_⟩
        obtain rfl := srt_uniq (h1.trans srt_perm.symm) h2 srt_sorted
        exact k F _ _ [(p, .lst _)] (Same.refl _) (same_new hp) (G.new hp) ⟨p, _, rfl, rfl, OwnL.map (f := D.int) (g := V.int) fun x => ⟨rfl, rfl⟩⟩
      · cases hf
    · cases hf
  · cases hf⟩
end
end UL

set_option Elab.async false
set_option linter.all false
set_option maxRecDepth 100000
set_option maxHeartbeats 4000000
namespace UL
open PySem SL
open L2 hiding rLen
/-! ## dicts -/
section
variable {κ : Type} [DecidableEq κ]
def valD (k : κ) : List κ → List D → Option D
  | k' :: ks, x :: xs => if k' = k then some x else valD k ks xs
  | _, _ => none
def replD (k : κ) (d : D) : List κ → List D → List D
  | k' :: ks, x :: xs => (if k' = k then d else x) :: replD k d ks xs
  | _, xs => xs
def putKs (k : κ) (ks : List κ) : List κ := if k ∈ ks then ks else ks ++ [k]
def putXs (k : κ) (d : D) (ks : List κ) (xs : List D) : List D := if k ∈ ks then replD k d ks xs else xs ++ [d]
end
def keyD : D → Option Key
  | .int i => some (.inl i)
  | .str s => some (.inr s)
  | _ => none
def keysD : List D → Option (List Key)
  | [] => some []
  | d :: ds => match keyD d, keysD ds with
    | some k, some ks => some (k :: ks)
    | _, _ => none
section
variable {κ : Type} [DecidableEq κ] {K : PySem.W.Frag} {F F' H H' : Hp} {E : En} {P : List (Nat × V)} {Pi : List Nat} {L L' L0 L1 Lt M : Led} {v w : V} {vs : List V} {d d' e : D} {ds ds' xs : List D} {p q : Bool} {W : L2.St → XK} {er : UX} {sd sd' : US} {σ : L2.St}
theorem valD_own {k : κ} : ∀ {ks : List κ} {xs : List D} {vs : List V}, OwnL K F xs vs [] → ks.length = vs.length →
    (∀ d, valD k ks xs = some d → ∃ v, L2.valV (ks.zip vs) k = some v ∧ Own K F d v []) ∧ (valD k ks xs = none → L2.valV (ks.zip vs) k = none)
  | [], xs, vs, o, hl => ⟨fun d h => by simp [valD] at h, fun _ => rfl⟩
  | k' :: ks, xs, [], o, hl => by simp at hl
  | k' :: ks, [], v :: vs, o, hl => by have := o.len; simp at this
  | k' :: ks, x :: xs, v :: vs, o, hl => by
    obtain ⟨v0, vs', e, h3, h4⟩ := o.head
    obtain ⟨rfl, rfl⟩ := List.cons.inj e
    obtain ⟨q1, q2⟩ := valD_own (k := k) (ks := ks) h4 (by simpa using hl)
    rw [List.zip_cons_cons]
    by_cases c : k' = k
    · rw [valV_pos (p := (k', v)) c]
      simp only [valD, if_pos c]
      exact ⟨fun d h => ⟨v, rfl, by cases h; exact h3⟩, fun h => by cases h⟩
    · rw [valV_neg (p := (k', v)) c]
      simp only [valD, if_neg c]
      exact ⟨q1, q2⟩
theorem replD_own {k : κ} {v : V} (hd : Own K F d v []) : ∀ {ks : List κ} {xs : List D} {vs : List V}, OwnL K F xs vs [] → ks.length = vs.length →
    ∃ vs', (ks.zip vs).map (fun kv => if kv.1 = k then (kv.1, v) else kv) = ks.zip vs' ∧ ks.length = vs'.length ∧ OwnL K F (replD k d ks xs) vs' []
  | [], xs, vs, o, hl => ⟨vs, rfl, hl, by cases xs <;> simpa [replD] using o⟩
  | k' :: ks, xs, [], o, hl => by simp at hl
  | k' :: ks, [], v :: vs, o, hl => by have := o.len; simp at this
  | k' :: ks, x :: xs, v0 :: vs, o, hl => by
    obtain ⟨v1, vs1, e, h3, h4⟩ := o.head
    obtain ⟨rfl, rfl⟩ := List.cons.inj e
    obtain ⟨vs', q1, q2, q3⟩ := replD_own hd (k := k) (ks := ks) h4 (by simpa using hl)
    by_cases c : k' = k
    · exact ⟨v :: vs', by rw [List.zip_cons_cons, List.map_cons, q1, if_pos c]; rfl, by simpa using q2, by simp only [replD, if_pos c]; exact OwnL.cons hd q3⟩
    · exact ⟨v0 :: vs', by rw [List.zip_cons_cons, List.map_cons, q1, if_neg c]; rfl, by simpa using q2, by simp only [replD, if_neg c]; exact OwnL.cons h3 q3⟩
theorem zip_any {k : κ} : ∀ {ks : List κ} {vs : List V}, ks.length = vs.length → ((ks.zip vs).any fun kv => decide (kv.1 = k)) = decide (k ∈ ks)
  | [], _, _ => by simp
  | k' :: ks, [], h => by simp at h
  | k' :: ks, v :: vs, h => by
    rw [List.zip_cons_cons, List.any_cons, zip_any (by simpa using h)]
    by_cases c : k' = k
    · subst c; simp
    · have c' : ¬ k = k' := fun h => c h.symm
      simp [c, c']
theorem putK_own {k : κ} {v : V} {ks : List κ} (hd : Own K F d v []) (o : OwnL K F xs vs []) (hl : ks.length = vs.length) :
    ∃ vs', L2.putK (ks.zip vs) k v = (putKs k ks).zip vs' ∧ (putKs k ks).length = vs'.length ∧ OwnL K F (putXs k d ks xs) vs' [] := by
  unfold L2.putK putKs putXs
  rw [zip_any hl]
  by_cases c : k ∈ ks
  · rw [if_pos (decide_eq_true c), if_pos c, if_pos c]
    exact replD_own hd o hl
  · rw [if_neg (by simpa using c), if_neg c, if_neg c]
    exact ⟨vs ++ [v], by rw [List.zip_append hl]; rfl, by simp [hl], o.snoc hd⟩
theorem keyD_own {k : Key} (h : keyD d = some k) (o : Own K F d v L) : v = L2.kV k := by
  unfold keyD at h
  split at h
  · cases h; exact o.1
  · cases h; exact o.1
  · cases h
theorem keyD_rt {k : Key} (h : keyD d = some k) (o : Rt K F H d v) : v = L2.kV k := by
  unfold keyD at h
  split at h
  · cases h; exact o.1
  · cases h; exact o.1
  · cases h
theorem keysD_res {σ : L2.St} : ∀ {ds : List D} {vs : List V} {Lt : Led} {ks : List Key}, keysD ds = some ks → ResL K F H σ vs ds Lt → vs = ks.map L2.kV
  | [], vs, Lt, ks, h, r => by cases r; cases h; rfl
  | d :: ds, vs, Lt, ks, h, r => by
    cases r with
    | cons h1 h2 h3 =>
      rw [keysD] at h
      cases hk : keyD d with
      | none => rw [hk] at h; cases h
      | some k =>
        cases hks : keysD ds with
        | none => rw [hk, hks] at h; cases h
        | some ks' =>
          rw [hk, hks] at h
          cases h
          have o := isRef_own (by unfold keyD at hk; split at hk <;> first | rfl | cases hk) h1
          rw [keyD_own hk o, keysD_res hks h2]; rfl
theorem keysD_own : ∀ {ds : List D} {vs : List V} {ks : List Key}, keysD ds = some ks → OwnL K F ds vs [] → vs = ks.map L2.kV
  | [], vs, ks, h, r => by obtain ⟨rfl, _⟩ := r; cases h; rfl
  | d :: ds, vs, ks, h, r => by
    obtain ⟨v, vs', rfl, h1, h2⟩ := r.head
    rw [keysD] at h
    cases hk : keyD d with
    | none => rw [hk] at h; cases h
    | some k =>
      cases hks : keysD ds with
      | none => rw [hk, hks] at h; cases h
      | some ks' =>
        rw [hk, hks] at h
        cases h
        rw [keyD_own hk h1, keysD_own hks h2]; rfl
theorem valD_some {k : κ} {ks : List κ} (ol : OwnL K F xs vs []) (hl : ks.length = vs.length) : (L2.valV (ks.zip vs) k).isSome = (valD k ks xs).isSome := by
  obtain ⟨q1, q2⟩ := valD_own (k := k) ol hl
  cases hv : valD k ks xs with
  | none => rw [q2 hv]; rfl
  | some d => obtain ⟨w, hw, _⟩ := q1 d hv; rw [hw]; rfl
def rDGet : R2 := fun x y H Q => ∃ a v, x = .ref a ∧ DGet H a y (some v) ∧ Q v H
def rDIn (neg : Bool) : R2 := fun y x H Q => ∃ a o, x = .ref a ∧ DGet H a y o ∧ Q (.bl (if neg then !o.isSome else o.isSome)) H
def fDGet : D → D → Option D
  | .dk _ ks xs, k => match keyD k with
    | some key => valD key ks xs
    | none => none
  | .dt _ ks xs, .rt k => match keysD k with
    | some key => valD key ks xs
    | none => none
  | _, _ => none
def fDIn (neg : Bool) : D → D → Option D
  | k, .dk _ ks xs => match keyD k with
    | some key => some (.bl (if neg then !(valD key ks xs).isSome else (valD key ks xs).isSome))
    | none => none
  | .rt k, .dt _ ks xs => match keysD k with
    | some key => some (.bl (if neg then !(valD key ks xs).isSome else (valD key ks xs).isSome))
    | none => none
  | _, _ => none
theorem o_dget : Op2 K rDGet fDGet := ⟨fun {E F H L v1 v2 d1 d2 d Q} G h1 h2 hf k => by
  unfold fDGet at hf
  split at hf
  · split at hf
    · next key hk =>
      obtain ⟨a, vs, rfl, hH, hl, ol⟩ := h1
      obtain ⟨w, hw, ow⟩ := (valD_own (k := key) ol hl).1 d hf
      refine ⟨a, w, rfl, ?_, out G k ow⟩
      rw [← hw, keyD_rt hk h2]
      exact DGet.k hH
    · cases hf
  · split at hf
    · next key hk =>
      obtain ⟨a, vs, rfl, hH, hl, ol⟩ := h1
      obtain ⟨b, ws, rfl, hF, ow2⟩ := h2
      obtain ⟨w, hw, ow⟩ := (valD_own (k := key) ol hl).1 d hf
      refine ⟨a, w, rfl, ?_, out G k ow⟩
      rw [← hw]
      exact DGet.t hH (by rw [G.fh _ _ hF, keysD_own hk ow2])
    · cases hf
  · cases hf⟩
theorem o_din {neg : Bool} : Op2 K (rDIn neg) (fDIn neg) := ⟨fun {E F H L v1 v2 d1 d2 d Q} G h1 h2 hf k => by
  unfold fDIn at hf
  split at hf
  · next ks xs =>
    split at hf
    · next key hk =>
      cases hf
      obtain ⟨a, vs, rfl, hH, hl, ol⟩ := h2
      refine ⟨a, L2.valV (ks.zip vs) key, rfl, ?_, ?_⟩
      · rw [keyD_rt hk h1]
        exact DGet.k hH
      · have : (L2.valV (ks.zip vs) key).isSome = (valD key ks xs).isSome := by
          obtain ⟨q1, q2⟩ := valD_own (k := key) ol hl
          cases hv : valD key ks xs with
          | none => rw [q2 hv]; rfl
          | some d => obtain ⟨w, hw, _⟩ := q1 d hv; rw [hw]; rfl
        rw [this]
        exact out G k ⟨rfl, rfl⟩
    · cases hf
  · next ks xs =>
    split at hf
    · next key hk =>
      cases hf
      obtain ⟨a, vs, rfl, hH, hl, ol⟩ := h2
      obtain ⟨b, ws, rfl, hF, ow2⟩ := h1
      refine ⟨a, L2.valV (ks.zip vs) key, rfl, DGet.t hH (by rw [G.fh _ _ hF, keysD_own hk ow2]), ?_⟩
      rw [valD_some ol hl]
      exact out G k ⟨rfl, rfl⟩
    · cases hf
  · cases hf⟩
theorem re_dget {td ty : TE} {ud uy : UE} (ha : RE K p W td ud) (hb : RE K true W ty uy) : RE K p W (tDGet td ty) (uOp fDGet ud uy) := re_op (r := rDGet) o_dget ha hb
theorem re_dgetI {td ty : TE} {ud uy : UE} (ha : RE K p W td ud) (hb : RE K q W ty uy) : RE K (p && q) W (tDGet td ty) (uOpI fDGet ud uy) := re_opI (r := rDGet) o_dget ha hb
theorem re_din {td ty : TE} {ud uy : UE} (ha : RE K p W ty uy) (hb : RE K true W td ud) : RE K p W (tDIn ty td) (uOp (fDIn false) uy ud) := re_op (r := rDIn false) o_din ha hb
theorem re_dnotin {td ty : TE} {ud uy : UE} (ha : RE K p W ty uy) (hb : RE K true W td ud) : RE K p W (tDNotIn ty td) (uOp (fDIn true) uy ud) := re_op (r := rDIn true) o_din ha hb
def uDNewK : UE := fun _ sd U => U (.dk true [] []) sd
def uDNewT : UE := fun _ sd U => U (.dt true [] []) sd
theorem re_dnewK : RE K true W tDNewK uDNewK := ⟨fun {E P F H σ sd L0 Q er U} S hE h k => fun a ha => by
  obtain ⟨Le, g1, g2⟩ := S.ex
  exact k F _ sd (.ref a) (.dk true [] []) [(a, .dK [])] (Same.refl _) (fun _ => same_new ha) ⟨⟨Le, g1, (g2.new (o := .dK []) ha).perm List.perm_middle⟩, S.pr⟩ ⟨a, [], rfl, rfl, rfl, rfl, rfl⟩ h⟩
theorem re_dnewT : RE K true W tDNewT uDNewT := ⟨fun {E P F H σ sd L0 Q er U} S hE h k => fun a ha => by
  obtain ⟨Le, g1, g2⟩ := S.ex
  exact k F _ sd (.ref a) (.dt true [] []) [(a, .dT [])] (Same.refl _) (fun _ => same_new ha) ⟨⟨Le, g1, (g2.new (o := .dT []) ha).perm List.perm_middle⟩, S.pr⟩ ⟨a, [], rfl, rfl, rfl, rfl, rfl⟩ h⟩
def uDPut (ud uk uv : UE) : UTS := fun U sd => uv U.er sd fun v s1 => ud U.er s1 fun o s2 => uk U.er s2 fun k s3 => ∃ i pa v' s4 key ks xs, o = .ow i pa ∧ clo s3 v = some (v', s4) ∧ keyD k = some key ∧ vw s4 (.ow i pa) = some (.dk true ks xs) ∧ ks.length < sizeLine ∧ U.nx (putAt s4 i pa (.dk true (putKs key ks) (putXs key v' ks xs)))
theorem rs_dput {td tk tv : TE} {ud uk uv : UE} (hv : RE K p W tv uv) (hd : RE K true W td ud) (hk : RE K true W tk uk) : RS K Pi W (sDPut td tk tv) (uDPut ud uk uv) := ⟨fun {E P F H σ sd Z U} hP S hE h => by
  refine hv.run S hE.erOk h fun F1 H1 s1 v1 d1 Lt1 e1 p1 S1 r1 h => ?_
  refine hd.run S1 (hE.mono e1).erOk h fun F2 H2 s2 v2 d2 Lt2 e2 p2 S2 r2 h => ?_
  refine hk.run S2 (hE.mono (e1.trans e2)).erOk h fun F3 H3 s3 v3 d3 Lt3 e3 p3 S3 r3 h => ?_
  obtain ⟨i, pa, v', s4, key, ks, xs, rfl, hc, hkey, hvw, hl, hU⟩ := h
  obtain rfl : Lt2 = [] := r2.1
  have r1' := (r1.mono e2 (.inl (p2 rfl))).mono e3 (.inl (p3 rfl))
  have r2' := r2.mono e3 (.inl (p3 rfl))
  have o3 : Own K F3 d3 v3 Lt3 := isRef_own (by unfold keyD at hkey; split at hkey <;> first | rfl | cases hkey) r3
  obtain rfl : Lt3 = [] := by unfold keyD at hkey; split at hkey <;> first | exact o3.2 | cases hkey
  obtain ⟨F4, e4, S4, o4⟩ := Sim.clo (L0 := []) (by simpa using S3) r1' hc
  obtain ⟨L1, R, o, G, bk, bn⟩ := S4.take (r2'.mono e4 (.inl (Same.refl _))) hvw
  rw [Own] at o
  obtain ⟨a, vs, rfl, rfl, hl2, ol⟩ := o
  obtain ⟨vs', q1, q2, q3⟩ := putK_own (k := key) o4 ol hl2
  refine ⟨a, _, rfl, (keyD_own hkey o3) ▸ DPut.k (G.get List.mem_cons_self) (by rw [List.length_zip]; omega), ?_⟩
  have G2 := G.put (o' := .dK (L2.putK (ks.zip vs) key v1)) .head
  rw [q1] at G2 ⊢
  exact hE.nx (e1.trans (e2.trans (e3.trans e4))) (bk (Same.refl _) (e' := .dk true (putKs key ks) (putXs key v' ks xs)) (L2 := [(a, .dK ((putKs key ks).zip vs'))]) (L' := []) ⟨a, vs', rfl, rfl, q2, q3⟩ G2) hU⟩
def uDPutR (ud uk uv : UE) : UTS := fun U sd => uv U.er sd fun v s1 => ud U.er s1 fun o s2 => uk U.er s2 fun k s3 => ∃ i pa v' s4 kd key ks xs, o = .ow i pa ∧ k = .rt kd ∧ clo s3 v = some (v', s4) ∧ keysD kd = some key ∧ vw s4 (.ow i pa) = some (.dt true ks xs) ∧ ks.length < sizeLine ∧ U.nx (putAt s4 i pa (.dt true (putKs key ks) (putXs key v' ks xs)))
theorem rs_dputR {td tk tv : TE} {ud uk uv : UE} (hv : RE K p W tv uv) (hd : RE K true W td ud) (hk : RE K true W tk uk) : RS K Pi W (sDPut td tk tv) (uDPutR ud uk uv) := ⟨fun {E P F H σ sd Z U} hP S hE h => by
  refine hv.run S hE.erOk h fun F1 H1 s1 v1 d1 Lt1 e1 p1 S1 r1 h => ?_
  refine hd.run S1 (hE.mono e1).erOk h fun F2 H2 s2 v2 d2 Lt2 e2 p2 S2 r2 h => ?_
  refine hk.run S2 (hE.mono (e1.trans e2)).erOk h fun F3 H3 s3 v3 d3 Lt3 e3 p3 S3 r3 h => ?_
  obtain ⟨i, pa, v', s4, kd, key, ks, xs, rfl, rfl, hc, hkey, hvw, hl, hU⟩ := h
  obtain rfl : Lt2 = [] := r2.1
  have r1' := (r1.mono e2 (.inl (p2 rfl))).mono e3 (.inl (p3 rfl))
  have r2' := r2.mono e3 (.inl (p3 rfl))
  obtain ⟨b, ws, rfl, rfl, hF, ow2⟩ : ∃ b ws, v3 = .ref b ∧ Lt3 = [] ∧ F3 b = some (.tup ws) ∧ OwnL K F3 kd ws [] := r3
  obtain ⟨F4, e4, S4, o4⟩ := Sim.clo (L0 := []) (by simpa using S3) r1' hc
  obtain ⟨L1, R, o, G, bk, bn⟩ := S4.take (r2'.mono e4 (.inl (Same.refl _))) hvw
  rw [Own] at o
  obtain ⟨a, vs, rfl, rfl, hl2, ol⟩ := o
  obtain ⟨vs', q1, q2, q3⟩ := putK_own (k := key) o4 ol hl2
  refine ⟨a, _, rfl, DPut.t (G.get List.mem_cons_self) (by rw [S3.fh _ _ hF, keysD_own hkey ow2]) (by rw [List.length_zip]; omega), ?_⟩
  have G2 := G.put (o' := .dT (L2.putK (ks.zip vs) key v1)) .head
  rw [q1] at G2 ⊢
  exact hE.nx (e1.trans (e2.trans (e3.trans e4))) (bk (Same.refl _) (e' := .dt true (putKs key ks) (putXs key v' ks xs)) (L2 := [(a, .dT ((putKs key ks).zip vs'))]) (L' := []) ⟨a, vs', rfl, rfl, q2, q3⟩ G2) hU⟩
/-! ### keys that are tuples, written where they are used -/
def uDGetT (ud : UE) (ua : UA) : UE := fun er sd U => ud er sd fun o s1 => ua er s1 fun ds s2 => ds.length ≤ sizeLine ∧ ∃ b key ks xs r, vw s2 o = some (.dt b ks xs) ∧ keysD ds = some key ∧ valD key ks xs = some r ∧ U r s2
def uDInT (neg : Bool) (ua : UA) (ud : UE) : UE := fun er sd U => ua er sd fun ds s1 => ds.length ≤ sizeLine ∧ ud er s1 fun o s2 => ∃ b key ks xs, vw s2 o = some (.dt b ks xs) ∧ keysD ds = some key ∧ U (.bl (if neg then !(valD key ks xs).isSome else (valD key ks xs).isSome)) s2
theorem Sim.grow (S : Sim K E P F H σ sd L) (e : Same H H') : Sim K E P F H' σ sd L := by
  obtain ⟨Le, h1, h2⟩ := S.ex
  exact ⟨⟨Le, h1, h2.grow e⟩, S.pr⟩
theorem re_dgetT {td : TE} {ta : TA} {ud : UE} {ua : UA} (hd : RE K p W td ud) (ha : RA K true W ta ua) : RE K p W (tDGet td (tTup ta)) (uDGetT ud ua) := ⟨fun {E P F H σ sd L0 Q er U} S hE h k => by
  refine hd.run S hE h fun F1 H1 s1 v1 d1 Lt1 e1 p1 S1 r1 h => ?_
  refine ha.run S1 (hE.mono e1) h fun F2 H2 s2 vs ds Lt2 e2 p2 S2 r2 h => ?_
  obtain ⟨hl, b, key, ks, xs, r, hv, hk, hr, hU⟩ := h
  refine ⟨r2.len ▸ hl, fun pp hp => ?_⟩
  obtain ⟨a, vs', rfl, hH, hl2, ol⟩ := S2.rt (Lt := Lt1) (fun x hx => by simp [hx]) (r1.mono e2 (.inl (p2 rfl))) hv
  obtain ⟨w, hw, ow⟩ := (valD_own (k := key) ol hl2).1 r hr
  have hs := same_new (o := .tup vs) hp
  refine ⟨a, w, rfl, ?_, k F2 _ s2 w r [] (e1.trans e2) (fun h => (p1 h).trans ((p2 rfl).trans hs)) ((S2.grow hs).keep ((List.sublist_append_right _ _).trans (List.sublist_append_right _ _))) (.own ow) hU⟩
  rw [← hw]
  exact DGet.t (hs _ _ hH) (by rw [upd_same, keysD_res hk r2])⟩
theorem res_din {neg : Bool} {td : TE} {ta : TA} {ud : UE} {ua : UA} (ha : RA K p W ta ua) (hd : RE K true W td ud) : RE K p W (fun σ H Q => tTup ta σ H fun y H1 => td σ H1 fun x H2 => rDIn neg y x H2 Q) (uDInT neg ua ud) := ⟨fun {E P F H σ sd L0 Q er U} S hE h k => by
  refine ha.run S hE h fun F1 H1 s1 vs ds Lt1 e1 p1 S1 r1 h => ?_
  obtain ⟨hl, h⟩ := h
  refine ⟨r1.len ▸ hl, fun pp hp => ?_⟩
  have hs := same_new (o := .tup vs) hp
  refine hd.run (S1.grow hs) (hE.mono e1) h fun F2 H2 s2 v2 d2 Lt2 e2 p2 S2 r2 h => ?_
  obtain ⟨b, key, ks, xs, hv, hk, hU⟩ := h
  obtain ⟨a, vs', rfl, hH, hl2, ol⟩ := S2.rt (Lt := Lt2) (fun x hx => by simp [hx]) r2 hv
  refine ⟨a, L2.valV (ks.zip vs') key, rfl, DGet.t hH (p2 rfl _ _ (by rw [upd_same, keysD_res hk r1])), ?_⟩
  rw [valD_some ol hl2]
  exact k F2 H2 s2 _ (.bl _) [] (e1.trans e2) (fun h => (p1 h).trans (hs.trans (p2 rfl))) (S2.keep ((List.sublist_append_right _ _).trans (List.sublist_append_right _ _))) ⟨rfl, rfl⟩ hU⟩
theorem re_dinT {td : TE} {ta : TA} {ud : UE} {ua : UA} (ha : RA K p W ta ua) (hd : RE K true W td ud) : RE K p W (tDIn (tTup ta) td) (uDInT false ua ud) := res_din (neg := false) ha hd
theorem re_dnotinT {td : TE} {ta : TA} {ud : UE} {ua : UA} (ha : RA K p W ta ua) (hd : RE K true W td ud) : RE K p W (tDNotIn (tTup ta) td) (uDInT true ua ud) := res_din (neg := true) ha hd
def uDPutT (ud : UE) (ua : UA) (uv : UE) : UTS := fun U sd => uv U.er sd fun v s1 => ud U.er s1 fun o s2 => ua U.er s2 fun ds s3 => ds.length ≤ sizeLine ∧ ∃ i pa v' s4 key ks xs, o = .ow i pa ∧ clo s3 v = some (v', s4) ∧ keysD ds = some key ∧ vw s4 (.ow i pa) = some (.dt true ks xs) ∧ ks.length < sizeLine ∧ U.nx (putAt s4 i pa (.dt true (putKs key ks) (putXs key v' ks xs)))
theorem keysD_nil {σ : L2.St} : ∀ {ds : List D} {vs : List V} {Lt : Led} {ks : List Key}, keysD ds = some ks → ResL K F H σ vs ds Lt → Lt = []
  | [], vs, Lt, ks, h, r => by cases r; rfl
  | d :: ds, vs, Lt, ks, h, r => by
    cases r with
    | cons h1 h2 h3 =>
      rw [keysD] at h
      cases hk : keyD d with
      | none => rw [hk] at h; cases h
      | some k =>
        cases hks : keysD ds with
        | none => rw [hk, hks] at h; cases h
        | some ks' =>
          have o := isRef_own (by unfold keyD at hk; split at hk <;> first | rfl | cases hk) h1
          subst h3
          rw [keysD_nil hks h2, List.append_nil]
          unfold keyD at hk
          split at hk <;> first | exact o.2 | cases hk
theorem rs_dputT {td tv : TE} {ta : TA} {ud uv : UE} {ua : UA} (hv : RE K p W tv uv) (hd : RE K true W td ud) (ha : RA K true W ta ua) : RS K Pi W (sDPut td (tTup ta) tv) (uDPutT ud ua uv) := ⟨fun {E P F H σ sd Z U} hP S hE h => by
  refine hv.run S hE.erOk h fun F1 H1 s1 v1 d1 Lt1 e1 p1 S1 r1 h => ?_
  refine hd.run S1 (hE.mono e1).erOk h fun F2 H2 s2 v2 d2 Lt2 e2 p2 S2 r2 h => ?_
  refine ha.run S2 (hE.mono (e1.trans e2)).erOk h fun F3 H3 s3 vs3 ds Lt3 e3 p3 S3 r3 h => ?_
  obtain ⟨hl0, i, pa, v', s4, key, ks, xs, rfl, hc, hkey, hvw, hl, hU⟩ := h
  refine ⟨r3.len ▸ hl0, fun pp hp => ?_⟩
  have hs := same_new (o := .tup vs3) hp
  obtain rfl : Lt2 = [] := r2.1
  obtain rfl := keysD_nil hkey r3
  have r1' := ((r1.mono e2 (.inl (p2 rfl))).mono e3 (.inl (p3 rfl))).mono (Same.refl _) (.inl hs)
  have r2' := (r2.mono e3 (.inl (p3 rfl))).mono (Same.refl _) (.inl hs)
  obtain ⟨F4, e4, S4, o4⟩ := Sim.clo (L0 := []) (by simpa using S3.grow hs) r1' hc
  obtain ⟨L1, R, o, G, bk, bn⟩ := S4.take (r2'.mono e4 (.inl (Same.refl _))) hvw
  rw [Own] at o
  obtain ⟨a, vs, rfl, rfl, hl2, ol⟩ := o
  obtain ⟨vs', q1, q2, q3⟩ := putK_own (k := key) o4 ol hl2
  refine ⟨a, _, rfl, DPut.t (G.get List.mem_cons_self) (by rw [upd_same, keysD_res hkey r3]) (by rw [List.length_zip]; omega), ?_⟩
  have G2 := G.put (o' := .dT (L2.putK (ks.zip vs) key v1)) .head
  rw [q1] at G2 ⊢
  exact hE.nx (e1.trans (e2.trans (e3.trans e4))) (bk (Same.refl _) (e' := .dt true (putKs key ks) (putXs key v' ks xs)) (L2 := [(a, .dT ((putKs key ks).zip vs'))]) (L' := []) ⟨a, vs', rfl, rfl, q2, q3⟩ G2) hU⟩
/-! ## + and * of lists, tuples, texts -/
def fCat : D → D → Option D
  | .lst _ xs, .lst _ ys => if xs.length + ys.length ≤ sizeLine then some (.lst true (xs ++ ys)) else none
  | _, _ => none
theorem o_cat : Op2 K rCat fCat := ⟨fun {E F H L v1 v2 d1 d2 d Q} G h1 h2 hf k => by
  unfold fCat at hf
  split at hf
  · split at hf
    · next hl =>
      cases hf
      obtain ⟨a, vs, rfl, hH, ol⟩ := h1
      obtain ⟨b, ws, rfl, hH2, ol2⟩ := h2
      exact ⟨a, b, vs, ws, rfl, rfl, hH, hH2, by rw [← ol.len, ← ol2.len]; exact hl, fun p hp => k F _ _ [(p, .lst _)] (Same.refl _) (same_new hp) (G.new hp) ⟨p, _, rfl, rfl, ol.app ol2⟩⟩
    · cases hf
  · cases hf⟩
def fCatA : D → D → Option D
  | .tup xs, .tup ys => if xs.length + ys.length ≤ sizeLine then some (.tup (xs ++ ys)) else none
  | _, _ => none
theorem o_catA : Op2 K (rCatA K) fCatA := ⟨fun {E F H L v1 v2 d1 d2 d Q} G h1 h2 hf k => by
  unfold fCatA at hf
  split at hf
  · split at hf
    · next hl =>
      cases hf
      obtain ⟨a, vs, rfl, hH, ol⟩ := h1
      obtain ⟨b, ws, rfl, hH2, ol2⟩ := h2
      refine ⟨a, b, vs, ws, rfl, rfl, tS G.fh hH, tS G.fh hH2, by rw [← ol.len, ← ol2.len]; exact hl, fun e => ?_, fun _ e => ?_, fun _ _ p hp => new_tup G hp (ol.app ol2) k⟩
      · subst e
        obtain rfl := List.eq_nil_of_length_eq_zero ol.len
        exact out G k ⟨b, ws, rfl, rfl, hH2, ol2⟩
      · subst e
        obtain rfl := List.eq_nil_of_length_eq_zero ol2.len
        rw [List.append_nil] at k
        exact out G k ⟨a, vs, rfl, rfl, hH, ol⟩
    · cases hf
  · cases hf⟩
def fRep : D → D → Option D
  | .lst _ xs, .int j => if -(2 ^ 63) ≤ j ∧ j < 2 ^ 63 ∧ xs.length * j.toNat ≤ sizeLine then some (.lst true (List.replicate j.toNat xs).flatten) else none
  | _, _ => none
theorem OwnL.reps (o : OwnL K F xs vs []) : ∀ {n : Nat}, OwnL K F (List.replicate n xs).flatten (List.replicate n vs).flatten []
  | 0 => ⟨rfl, rfl⟩
  | n + 1 => by
    rw [List.replicate_succ, List.replicate_succ, List.flatten_cons, List.flatten_cons]
    exact o.app (OwnL.reps o)
theorem o_rep : Op2 K rRep fRep := ⟨fun {E F H L v1 v2 d1 d2 d Q} G h1 h2 hf k => by
  unfold fRep at hf
  split at hf
  · split at hf
    · next hl =>
      cases hf
      obtain ⟨a, vs, rfl, hH, ol⟩ := h1
      obtain ⟨rfl, _⟩ := h2
      exact ⟨a, _, vs, rfl, rfl, hH, hl.1, hl.2.1, by rw [← ol.len]; exact hl.2.2, fun p hp => k F _ _ [(p, .lst _)] (Same.refl _) (same_new hp) (G.new hp) ⟨p, _, rfl, rfl, ol.reps⟩⟩
    · cases hf
  · cases hf⟩
def fAddS : D → D → Option D
  | .str x, .str y => if x.length + y.length ≤ sizeLine then some (.str (x ++ y)) else none
  | _, _ => none
theorem o_addS : Op2 K SL.rAddS fAddS := ⟨fun {E F H L v1 v2 d1 d2 d Q} G h1 h2 hf k => by
  unfold fAddS at hf
  split at hf
  · split at hf
    · next hl =>
      cases hf
      obtain ⟨rfl, _⟩ := h1
      obtain ⟨rfl, _⟩ := h2
      exact ⟨_, _, rfl, rfl, hl, out G k ⟨rfl, rfl⟩⟩
    · cases hf
  · cases hf⟩
/-! ## isinstance -/
def tyD : D → Option String
  | .non => some "NoneType" | .bl _ => some "bool" | .int _ => some "int" | .str _ => some "str" | .lst _ _ => some "list" | .nst _ => some "list" | .tup _ => some "tuple" | .rt _ => some "tuple" | .dk _ _ _ => some "dict" | .dt _ _ _ => some "dict" | _ => none
def fIsi : List D → Option D
  | [d, .ty b] => match tyD d with
    | some a => (kitB a b).map .bl
    | none => none
  | _ => none
theorem tyD_ok {a : String} (G : SL.St E F H L) (hd : tyD d = some a) (h : Rt K F H d v) : TyX K H v (.type a) := by
  unfold tyD at hd
  split at hd
  · cases hd; obtain ⟨rfl, _⟩ := h; exact .base .non
  · cases hd; obtain ⟨rfl, _⟩ := h; exact .base (.bl _)
  · cases hd; obtain ⟨rfl, _⟩ := h; exact .base (.int _)
  · cases hd; obtain ⟨rfl, _⟩ := h; exact .base (.str _)
  · cases hd; obtain ⟨a, vs, rfl, hH, _⟩ := h; exact .base (.lst hH)
  · cases hd; obtain ⟨a, vs, rfl, hH, _⟩ := h; exact .base (.lst hH)
  · cases hd; obtain ⟨a, vs, rfl, hH, _⟩ := h; exact SL.tyB (k := false) (tS G.fh hH)
  · cases hd; obtain ⟨a, vs, rfl, hH, _⟩ := h; exact SL.tyB (k := false) (tS G.fh (SqT.of hH))
  · cases hd; obtain ⟨a, vs, rfl, hH, _⟩ := h; exact .base (.dK hH)
  · cases hd; obtain ⟨a, vs, rfl, hH, _⟩ := h; exact .base (.dT hH)
  · cases hd
theorem o_isi : OpN K (rIsi K) fIsi := ⟨fun {E F H L vs ds d Q} G h hf k => by
  unfold fIsi at hf
  split at hf
  · next dd b =>
    split at hf
    · next a ha =>
      cases hk : kitB a b with
      | none => rw [hk] at hf; cases hf
      | some r =>
        rw [hk] at hf
        cases hf
        obtain ⟨v, v2, rfl, h1, ⟨rfl, _⟩⟩ := h.two
        exact ⟨v, _, _, _, r, rfl, .ty b, tyD_ok G ha h1, kit_ty hk, out G k ⟨rfl, rfl⟩⟩
    · cases hf
  · cases hf⟩
end
end UL

set_option Elab.async false
set_option linter.all false
set_option maxRecDepth 100000
set_option maxHeartbeats 4000000
namespace UL
open PySem SL
open L2 hiding rLen
/-! ## try .. except -/
def uHds (K : PySem.W.Frag) (U : UEnds) (C : Addr) (s : US) : List (Addr × UTS) → Prop
  | [] => False
  | (c, u) :: r => ∃ b, PySem.W.exmOne K (.ref C) (.ref c) = some b ∧ (b = true → u U s) ∧ (b = false → uHds K U C s r)
def uTry (K : PySem.W.Frag) (hs : List (Addr × UTS)) (ub : UTS) : UTS := fun U sd => ub { U with er := fun C s => uHds K U C s hs } sd
inductive HdsR (K : PySem.W.Frag) (Pi : List Nat) (W : L2.St → XK) : List (Value × (Addr → Value → Option Addr → TS)) → List (Addr × UTS) → Prop
  | nil : HdsR K Pi W [] []
  | cons {c : Addr} {ts : Addr → Value → Option Addr → TS} {u : UTS} {l : List (Value × (Addr → Value → Option Addr → TS))} {hs : List (Addr × UTS)} : (∀ a cls d, RS K Pi W (ts a cls d) u) → HdsR K Pi W l hs → HdsR K Pi W ((.ref c, ts) :: l) ((c, u) :: hs)
section
variable {K : PySem.W.Frag} {F F' H H' : Hp} {E : En} {P : List (Nat × V)} {Pi : List Nat} {L L' L0 L1 Lt M : Led} {v w : V} {vs : List V} {d d' e : D} {ds ds' xs : List D} {p q : Bool} {W : L2.St → XK} {er : UX} {sd sd' : US} {σ : L2.St}
theorem hds_run {Z : Ends} {U : UEnds} {C : Addr} (hP : P.map (·.1) = Pi) (S : Sim K E P F H σ sd []) (hE : EndsOk K E P F W Z U) : ∀ {l : List (Value × (Addr → Value → Option Addr → TS))} {hs : List (Addr × UTS)}, HdsR K Pi W l hs → uHds K U C sd hs → wMany K (fun _ _ _ _ => False) Z l (.ref C) none σ H
  | _, _, .nil, h => h.elim
  | _, _, .cons h1 h2, h => by
    obtain ⟨b, hb, q1, q2⟩ := h
    exact ⟨b, hb, fun e a _ => (h1 a _ _).run hP S hE (q1 e), fun e => hds_run hP S hE h2 (q2 e)⟩
theorem rs_try {tb : WX → TS} {ub : UTS} {l : List (Value × (Addr → Value → Option Addr → TS))} {hs : List (Addr × UTS)} (hb : ∀ Wx : WX, RS K Pi (fun σ cls d H => Wx cls d σ H) (tb Wx) ub) (hh : HdsR K Pi W l hs) :
    RS K Pi W (fun Z σ H => (fun W : WX => tb W) (wMany K (fun _ _ _ _ => False) Z l) Z σ H) (uTry K hs ub) := ⟨fun {E P F H σ sd Z U} hP S hE h => by
  refine (hb _).run hP S (U := { U with er := fun C s => uHds K U C s hs }) ⟨hE.nx, hE.bk, hE.ct, hE.rt, fun {C F' H' σ' sd' L'} e S' hc => ?_⟩ h
  exact hds_run hP (S'.keep (List.nil_sublist _)) (hE.mono e) hh hc⟩
/-! ## the steps -/
variable {U : D → US → Prop} {UB : Bool → US → Prop} {UL : List D → US → Prop} {UO' : Option Int → US → Prop} {nx bk ct : US → Prop} {rt : D → US → Prop} {s s' : US} {x y r : D}
theorem x_seq {u1 u2 : UTS} (h : u1 ⟨fun s => u2 ⟨nx, rt, bk, ct, er⟩ s, rt, bk, ct, er⟩ s) : uSeq u1 u2 ⟨nx, rt, bk, ct, er⟩ s := h
theorem x_asg {ua : UE} {ug : UG} (h : ua er s fun d s1 => ug er d s1 nx) : uAsg ua ug ⟨nx, rt, bk, ct, er⟩ s := h
theorem x_drop {ua : UE} (h : ua er s fun _ s1 => nx s1) : uDrop ua ⟨nx, rt, bk, ct, er⟩ s := h
theorem x_next (h : nx s) : uNext ⟨nx, rt, bk, ct, er⟩ s := h
theorem x_break (h : bk s) : uBreak ⟨nx, rt, bk, ct, er⟩ s := h
theorem x_cont (h : ct s) : uCont ⟨nx, rt, bk, ct, er⟩ s := h
theorem x_retN (h : rt .non s) : uRetN ⟨nx, rt, bk, ct, er⟩ s := h
theorem x_rs {C : Addr} (h : er C s) : uRs C ⟨nx, rt, bk, ct, er⟩ s := h
theorem x_ifS {uc : UT} {u1 u2 : UTS} (h : uc er s fun b s1 => UIf b (u1 ⟨nx, rt, bk, ct, er⟩ s1) (u2 ⟨nx, rt, bk, ct, er⟩ s1)) : uIfS uc u1 u2 ⟨nx, rt, bk, ct, er⟩ s := h
theorem x_varP {i : Nat} (h : s[i]? = some (some d)) (hr : rootO d = false) (q : U d s) : uVar i er s U := ⟨d, h, by rw [hr, if_neg (by decide)]; exact q⟩
theorem x_varO {i : Nat} (h : s[i]? = some (some d)) (hr : rootO d = true) (q : U (.ow i []) s) : uVar i er s U := ⟨d, h, by rw [hr, if_pos rfl]; exact q⟩
theorem x_c (q : U d s) : uC d er s U := q
def UOp (f : D → D → Option D) (s : US) (d1 d2 : D) (U : D → US → Prop) : Prop := ∃ e1 e2 d, vw s d1 = some e1 ∧ vw s d2 = some e2 ∧ f e1 e2 = some d ∧ U d s
def UUn (f : D → Option D) (s : US) (d1 : D) (U : D → US → Prop) : Prop := ∃ e1 d, vw s d1 = some e1 ∧ f e1 = some d ∧ U d s
def UN (f : List D → Option D) (s : US) (ds : List D) (U : D → US → Prop) : Prop := ∃ es d, vwL s ds = some es ∧ f es = some d ∧ U d s
theorem x_op {f : D → D → Option D} {ua ub : UE} (h : ua er s fun d1 s1 => ub er s1 fun d2 s2 => UOp f s2 d1 d2 U) : uOp f ua ub er s U := h
theorem x_opI {f : D → D → Option D} {ua ub : UE} (h : ua er s fun d1 s1 => stab d1 = true ∧ ub er s1 fun d2 s2 => UOp f s2 d1 d2 U) : uOpI f ua ub er s U := h
theorem x_un {f : D → Option D} {ua : UE} (h : ua er s fun d1 s1 => UUn f s1 d1 U) : uUn f ua er s U := h
theorem x_cb {f : List D → Option D} {ua : UA} (h : ua er s fun ds s1 => UN f s1 ds U) : uCB f ua er s U := h
theorem x_nil (q : UL [] s) : uNil er s UL := q
theorem x_cons {ua : UE} {ub : UA} (h : ua er s fun d s1 => ub er s1 fun ds s2 => UL (d :: ds) s2) : uCons ua ub er s UL := h
theorem x_consI {ua : UE} {ub : UA} (h : ua er s fun d s1 => stab d = true ∧ ub er s1 fun ds s2 => UL (d :: ds) s2) : uConsI ua ub er s UL := h
theorem x_stab {A : Prop} (h1 : stab d = true) (h2 : A) : stab d = true ∧ A := ⟨h1, h2⟩
theorem x_uop {f : D → D → Option D} {d1 d2 e1 e2 : D} (h1 : vw s d1 = some e1) (h2 : vw s d2 = some e2) (h3 : f e1 e2 = some r) (q : U r s) : UOp f s d1 d2 U := ⟨e1, e2, r, h1, h2, h3, q⟩
theorem x_uun {f : D → Option D} {d1 e1 : D} (h1 : vw s d1 = some e1) (h3 : f e1 = some r) (q : U r s) : UUn f s d1 U := ⟨e1, r, h1, h3, q⟩
theorem x_un' {f : List D → Option D} {ds es : List D} (h1 : vwL s ds = some es) (h3 : f es = some r) (q : U r s) : UN f s ds U := ⟨es, r, h1, h3, q⟩
theorem x_andV {ua ub : UE} (h : ua er s fun d s1 => ∃ c, d = .bl c ∧ UIf c (ub er s1 U) (U (.bl false) s1)) : uAndV ua ub er s U := h
theorem x_orV {ua ub : UE} (h : ua er s fun d s1 => ∃ c, d = .bl c ∧ UIf c (U (.bl true) s1) (ub er s1 U)) : uOrV ua ub er s U := h
theorem x_notV {ua : UE} (h : ua er s fun d s1 => ∃ c, d = .bl c ∧ U (.bl (!c)) s1) : uNotV ua er s U := h
theorem x_bl {c : Bool} {A : Bool → Prop} (h : A c) : ∃ c', D.bl c = D.bl c' ∧ A c' := ⟨c, rfl, h⟩
theorem x_if {uc : UT} {ua ub : UE} (h : uc er s fun c s1 => UIf c (ua er s1 U) (ub er s1 U)) : uIf uc ua ub er s U := h
theorem x_b {ua : UE} (h : ua er s fun d s1 => ∃ c, d = .bl c ∧ UB c s1) : uB ua er s UB := h
theorem x_and {ua ub : UT} (h : ua er s fun c s1 => UIf c (ub er s1 UB) (UB false s1)) : uAnd ua ub er s UB := h
theorem x_or {ua ub : UT} (h : ua er s fun c s1 => UIf c (UB true s1) (ub er s1 UB)) : uOr ua ub er s UB := h
theorem x_not {ua : UT} (h : ua er s fun c s1 => UB (!c) s1) : uNot ua er s UB := h
theorem x_yes (h : UB true s) : uYes er s UB := h
theorem x_tru {ua : UE} (h : ua er s fun d s1 => ∃ e b, vw s1 d = some e ∧ truD e = some b ∧ UB b s1) : uTru ua er s UB := h
theorem x_ifT {A B : Prop} (h : A) : UIf true A B := by unfold UIf; rw [if_pos rfl]; exact h
theorem x_ifF {A B : Prop} (h : B) : UIf false A B := by unfold UIf; rw [if_neg Bool.false_ne_true]; exact h
theorem x_ifB {k : Bool} {A B : Prop} (h1 : k = true → A) (h2 : k = false → B) : UIf k A B := by
  cases k with
  | true => exact x_ifT (h1 rfl)
  | false => exact x_ifF (h2 rfl)
theorem x_ifD {p : Prop} [Decidable p] {A B : Prop} (h1 : p → A) (h2 : ¬ p → B) : UIf (decide p) A B := x_ifB (fun h => h1 (of_decide_eq_true h)) fun h => h2 (of_decide_eq_false h)
theorem x_ifN {p : Prop} [Decidable p] {A B : Prop} (h1 : ¬ p → A) (h2 : p → B) : UIf (!decide p) A B := by
  by_cases h : p
  · rw [decide_eq_true h]; exact x_ifF (h2 h)
  · rw [decide_eq_false h]; exact x_ifT (h1 h)
theorem x_ifDT {p : Prop} [Decidable p] {A B : Prop} (h : p) (q : A) : UIf (decide p) A B := by rw [decide_eq_true h]; exact x_ifT q
theorem x_ifDF {p : Prop} [Decidable p] {A B : Prop} (h : ¬ p) (q : B) : UIf (decide p) A B := by rw [decide_eq_false h]; exact x_ifF q
theorem x_ifNT {p : Prop} [Decidable p] {A B : Prop} (h : ¬ p) (q : A) : UIf (!decide p) A B := by rw [decide_eq_false h]; exact x_ifT q
theorem x_ifNF {p : Prop} [Decidable p] {A B : Prop} (h : p) (q : B) : UIf (!decide p) A B := by rw [decide_eq_true h]; exact x_ifF q
theorem x_tup {ua : UA} (h : ua er s fun ds s1 => ds.length ≤ sizeLine ∧ ∃ ds' s2, cloL s1 ds = some (ds', s2) ∧ U (.tup ds') s2) : uTup ua er s U := h
theorem x_lst {ua : UA} (h : ua er s fun ds s1 => ds.length ≤ sizeLine ∧ ∃ ds' s2, cloL s1 ds = some (ds', s2) ∧ U (.lst true ds') s2) : uLst ua er s U := h
theorem x_cloL {ds ds' : List D} {s2 : US} {A : List D → US → Prop} (hl : ds.length ≤ sizeLine) (hc : cloL s ds = some (ds', s2)) (q : A ds' s2) : ds.length ≤ sizeLine ∧ ∃ ds' s2, cloL s ds = some (ds', s2) ∧ A ds' s2 := ⟨hl, ds', s2, hc, q⟩
theorem x_name {i : Nat} {V : US → Prop} (hr : isRef d = false) (q : V (s.set i (some d))) : uName i er d s V := by
  cases d with
  | ow j p => simp [isRef] at hr
  | _ => exact q
theorem x_nameR {i j : Nat} {p : List Stp} {V : US → Prop} {s1 : US} (hc : clo s (.ow j p) = some (d', s1)) (q : V (s1.set i (some d'))) : uName i er (.ow j p) s V := ⟨d', s1, hc, q⟩
theorem x_ret {ua : UE} (h : ua er s fun d s1 => ∃ d' s2, clo s1 d = some (d', s2) ∧ rt d' s2) : uRet ua ⟨nx, rt, bk, ct, er⟩ s := h
theorem x_clo {s2 : US} {A : D → US → Prop} (hc : clo s d = some (d', s2)) (q : A d' s2) : ∃ d' s2, clo s d = some (d', s2) ∧ A d' s2 := ⟨d', s2, hc, q⟩
theorem x_aug {i : Nat} {ub : UE} {f : D → D → Option D} {d1 : D} (h1 : s[i]? = some (some d1)) (hr : rootO d1 = false) (q : ub er s fun d2 s2 => ∃ e2 d, vw s2 d2 = some e2 ∧ f d1 e2 = some d ∧ nx (s2.set i (some d))) : uAug i ub f ⟨nx, rt, bk, ct, er⟩ s := ⟨d1, h1, hr, q⟩
theorem x_call {sp : S0} {ua : UA} (h : ua er s fun ds s1 => ∃ as s2, cloL s1 ds = some (as, s2) ∧ ∃ a, as = sp.args a ∧ sp.pre a ∧ (∀ r, sp.post a r → U r s2) ∧ ∀ C, sp.err a C → er C s2) : uCall sp ua er s U := h
theorem x_for {ui : UI} {ug : UG} {ub : UTS} (h : ui er s fun xs s1 => ∃ I : Nat → US → Prop, I 0 s1 ∧ (∀ s, I xs.length s → nx s) ∧ ∀ i x s, xs[i]? = some x → I i s → ug er x s fun s2 => ub ⟨I (i + 1), rt, nx, I (i + 1), er⟩ s2) : uFor ui ug ub ⟨nx, rt, bk, ct, er⟩ s := h
theorem x_while {uc : UT} {ub : UTS} (I : Nat → US → Prop) (m : Nat) (h0 : I m s) (hs : ∀ m s, I m s → uc er s fun b s1 => UIf b (ub ⟨fun s' => ∃ m', m' < m ∧ I m' s', rt, nx, fun s' => ∃ m', m' < m ∧ I m' s', er⟩ s1) (nx s1)) : uWhile uc ub ⟨nx, rt, bk, ct, er⟩ s := ⟨I, ⟨m, h0⟩, hs⟩
theorem x_iter {ua : UE} {UI' : List D → US → Prop} (h : ua er s fun d s1 => ∃ d' s2, clo s1 d = some (d', s2) ∧ ∃ xs, (d' = .lst false xs ∨ d' = .tup xs) ∧ UI' xs s2) : uIter ua er s UI' := h
theorem x_iterL {ua : UE} {UI' : List D → US → Prop} (h : ua er s fun d s1 => ∃ xs s2, clo s1 d = some (.lst false xs, s2) ∧ UI' xs s2) : uIterL ua er s UI' := h
theorem x_iterT {ua : UE} {UI' : List D → US → Prop} (h : ua er s fun d s1 => ∃ xs s2, clo s1 d = some (.tup xs, s2) ∧ UI' xs s2) : uIterT ua er s UI' := h
theorem x_items {xs : List D} {s2 : US} {A : List D → US → Prop} (hc : clo s d = some (.lst false xs, s2)) (q : A xs s2) : ∃ xs s2, clo s d = some (.lst false xs, s2) ∧ A xs s2 := ⟨xs, s2, hc, q⟩
theorem x_itemsT {xs : List D} {s2 : US} {A : List D → US → Prop} (hc : clo s d = some (.tup xs, s2)) (q : A xs s2) : ∃ xs s2, clo s d = some (.tup xs, s2) ∧ A xs s2 := ⟨xs, s2, hc, q⟩
theorem x_rng1 {ua : UA} {UI' : List D → US → Prop} (h : ua er s fun ds s1 => ∃ j : Int, ds = [.int j] ∧ -(2 ^ 62) ≤ j ∧ j < 2 ^ 62 ∧ UI' (rngD 0 j.toNat) s1) : uRng1 ua er s UI' := h
theorem x_rng2 {ua : UA} {UI' : List D → US → Prop} (h : ua er s fun ds s1 => ∃ i j : Int, ds = [.int i, .int j] ∧ (-(2 ^ 62) ≤ i ∧ i < 2 ^ 62 ∧ -(2 ^ 62) ≤ j ∧ j < 2 ^ 62) ∧ UI' (rngD i (j - i).toNat) s1) : uRng2 ua er s UI' := h
theorem x_r1 {j : Int} {A : Int → Prop} (h : -(2 ^ 62) ≤ j ∧ j < 2 ^ 62) (q : A j) : ∃ i : Int, [D.int j] = [D.int i] ∧ -(2 ^ 62) ≤ i ∧ i < 2 ^ 62 ∧ A i := ⟨j, rfl, h.1, h.2, q⟩
theorem x_r2 {i j : Int} {A : Int → Int → Prop} (h : -(2 ^ 62) ≤ i ∧ i < 2 ^ 62 ∧ -(2 ^ 62) ≤ j ∧ j < 2 ^ 62) (q : A i j) : ∃ i' j' : Int, [D.int i, D.int j] = [D.int i', D.int j'] ∧ (-(2 ^ 62) ≤ i' ∧ i' < 2 ^ 62 ∧ -(2 ^ 62) ≤ j' ∧ j' < 2 ^ 62) ∧ A i' j' := ⟨i, j, rfl, h, q⟩
theorem x_enum {ua : UA} {UI' : List D → US → Prop} (h : ua er s fun ds s1 => ∃ d xs s2, ds = [d] ∧ clo s1 d = some (.lst false xs, s2) ∧ UI' (enD xs) s2) : uEnum ua er s UI' := h
theorem x_en {xs : List D} {s2 : US} {A : List D → US → Prop} (hc : clo s d = some (.lst false xs, s2)) (q : A xs s2) : ∃ d' xs s2, [d] = [d'] ∧ clo s d' = some (.lst false xs, s2) ∧ A xs s2 := ⟨d, xs, s2, rfl, hc, q⟩
theorem x_inv {xs : List D} {N : US → Prop} {B : Nat → D → US → (Nat → US → Prop) → Prop} (I : Nat → US → Prop) (h0 : I 0 s) (hx : ∀ s, I xs.length s → N s) (hs : ∀ i x s, xs[i]? = some x → I i s → B i x s I) :
    ∃ I : Nat → US → Prop, I 0 s ∧ (∀ s, I xs.length s → N s) ∧ ∀ i x s, xs[i]? = some x → I i s → B i x s I := ⟨I, h0, hx, hs⟩
theorem x_sfld {K : PySem.W.Frag} {ua uv : UE} {f : Str} (h : uv er s fun d s1 => ua er s1 fun o s2 => ∃ i pa C ns xs d' s3, o = .ow i pa ∧ (if isRef d then clo s2 d = some (d', s3) else d' = d ∧ s3 = s2) ∧ vw s3 (.ow i pa) = some (.ins true C ns xs) ∧ FO K C f ∧ ns.length < 1000 ∧ nx (putAt s3 i pa (.ins true C (updF f ns xs d').1 (updF f ns xs d').2))) : uSFld K ua uv f ⟨nx, rt, bk, ct, er⟩ s := h
theorem x_sf {K : PySem.W.Frag} {f : Str} {i : Nat} {pa : List Stp} {C : Addr} {ns : List Str} {xs : List D} {A : US → Prop} (hr : isRef d = false) (hv : vw s (.ow i pa) = some (.ins true C ns xs)) (hf : FO K C f) (hl : ns.length < 1000) (q : A (putAt s i pa (.ins true C (updF f ns xs d).1 (updF f ns xs d).2))) :
    ∃ i' pa' C ns xs d' s3, D.ow i pa = .ow i' pa' ∧ (if isRef d then clo s d = some (d', s3) else d' = d ∧ s3 = s) ∧ vw s3 (.ow i' pa') = some (.ins true C ns xs) ∧ FO K C f ∧ ns.length < 1000 ∧ A (putAt s3 i' pa' (.ins true C (updF f ns xs d').1 (updF f ns xs d').2)) :=
  ⟨i, pa, C, ns, xs, d, s, rfl, by rw [hr, if_neg (by decide)]; exact ⟨rfl, rfl⟩, hv, hf, hl, q⟩
def UFldM (K : PySem.W.Frag) (f : Str) (d : D) (s1 : US) (U : D → US → Prop) : Prop := match d with
  | .ow i pa => ∃ C ns xs x, vw s1 (.ow i pa) = some (.ins true C ns xs) ∧ FO K C f ∧ getF f ns xs = some x ∧ U (if rootO x then .ow i (pa ++ [.fld f]) else x) s1
  | .ins o C ns xs => ∃ x, FO K C f ∧ getF f ns xs = some x ∧ rootO x = false ∧ U x s1
  | _ => False
theorem x_fldO {K : PySem.W.Frag} {ua : UE} {f : Str} (h : ua er s fun d s1 => UFldM K f d s1 U) : uFld K ua f er s U := h
theorem x_fi {K : PySem.W.Frag} {f : Str} {o : Bool} {C : Addr} {ns : List Str} {xs : List D} (hf : FO K C f) (hg : getF f ns xs = some x) (hr : rootO x = false) (q : U x s) : UFldM K f (.ins o C ns xs) s U := ⟨x, hf, hg, hr, q⟩
theorem x_fo {K : PySem.W.Frag} {f : Str} {i : Nat} {pa : List Stp} {C : Addr} {ns : List Str} {xs : List D} (hv : vw s (.ow i pa) = some (.ins true C ns xs)) (hf : FO K C f) (hg : getF f ns xs = some x) (hr : rootO x = false) (q : U x s) :
    UFldM K f (.ow i pa) s U := ⟨C, ns, xs, x, hv, hf, hg, by rw [hr, if_neg (by decide)]; exact q⟩
theorem x_foO {K : PySem.W.Frag} {f : Str} {i : Nat} {pa : List Stp} {C : Addr} {ns : List Str} {xs : List D} (hv : vw s (.ow i pa) = some (.ins true C ns xs)) (hf : FO K C f) (hg : getF f ns xs = some x) (hr : rootO x = true) (q : U (.ow i (pa ++ [.fld f])) s) :
    UFldM K f (.ow i pa) s U := ⟨C, ns, xs, x, hv, hf, hg, by rw [hr, if_pos rfl]; exact q⟩
theorem x_dnewT (q : U (.dt true [] []) s) : uDNewT er s U := q
theorem x_dnewK (q : U (.dk true [] []) s) : uDNewK er s U := q
def UC1 (sp : S1) (er : UX) (s1 : US) (ds : List D) (U : D → US → Prop) : Prop := ∃ i pa rest as s2 e, ds = .ow i pa :: rest ∧ cloL s1 rest = some (as, s2) ∧ vw s2 (.ow i pa) = some e ∧ ∃ a, e = sp.self a ∧ as = sp.args a ∧ sp.pre a ∧ (∀ r f, sp.post a r f → U r (putAt s2 i pa f)) ∧ ∀ C, sp.err a C → er C (s2.set i none)
theorem x_call1 {sp : S1} {ua : UA} (h : ua er s fun ds s1 => UC1 sp er s1 ds U) : uCall1 sp ua er s U := h
theorem x_args1 {sp : S1} {i : Nat} {pa : List Stp} {rest as : List D} {s2 : US} {e : D} (a : sp.α) (hc : cloL s rest = some (as, s2)) (hv : vw s2 (.ow i pa) = some e) (he : e = sp.self a) (ha : as = sp.args a) (hp : sp.pre a) (hq : ∀ r f, sp.post a r f → U r (putAt s2 i pa f)) (hx : ∀ C, sp.err a C → er C (s2.set i none)) :
    UC1 sp er s (.ow i pa :: rest) U := ⟨i, pa, rest, as, s2, e, rfl, hc, hv, a, he, ha, hp, hq, hx⟩
theorem x_make {sp : S1} {C : Addr} {ua : UA} (h : ua er s fun ds s1 => ∃ as s2, cloL s1 ds = some (as, s2) ∧ ∃ a, sp.self a = .ins true C [] [] ∧ as = sp.args a ∧ sp.pre a ∧ (∀ r f, sp.post a r f → r = .non ∧ U f s2) ∧ ∀ C', sp.err a C' → er C' s2) : uMake C sp ua er s U := h
theorem x_margs {sp : S1} {C : Addr} {ds as : List D} {s2 : US} (a : sp.α) (hc : cloL s ds = some (as, s2)) (hs : sp.self a = .ins true C [] []) (ha : as = sp.args a) (hp : sp.pre a) (hq : ∀ r f, sp.post a r f → r = .non ∧ U f s2) (hx : ∀ C', sp.err a C' → er C' s2) :
    ∃ as s2, cloL s ds = some (as, s2) ∧ ∃ a, sp.self a = .ins true C [] [] ∧ as = sp.args a ∧ sp.pre a ∧ (∀ r f, sp.post a r f → r = .non ∧ U f s2) ∧ ∀ C', sp.err a C' → er C' s2 := ⟨as, s2, hc, a, hs, ha, hp, hq, hx⟩
def UM1 (sp : S1) (er : UX) (i : Nat) (pa : List Stp) (s2 : US) (ds : List D) (U : D → US → Prop) : Prop := ∃ as s3 e, cloL s2 ds = some (as, s3) ∧ vw s3 (.ow i pa) = some e ∧ ∃ a, e = sp.self a ∧ as = sp.args a ∧ sp.pre a ∧
  (∀ r f, sp.post a r f → U r (putAt s3 i pa f)) ∧ ∀ C, sp.err a C → er C (s3.set i none)
theorem x_meth {sp : S1} {C : Addr} {m : Str} {chk : Bool} {ua : UE} {ub : UA} (h : ua er s fun o s1 => ∃ i pa ns xs, o = .ow i pa ∧ vw s1 (.ow i pa) = some (.ins true C ns xs) ∧ ns.contains m = false ∧ (chk = true → stab o = true) ∧ ub er s1 fun ds s2 => UM1 sp er i pa s2 ds U) : uMeth C m sp chk ua ub er s U := h
theorem x_mrec {C : Addr} {m : Str} {chk : Bool} {i : Nat} {pa : List Stp} {ns : List Str} {xs : List D} {A : Nat → List Stp → Prop} (hv : vw s (.ow i pa) = some (.ins true C ns xs)) (hm : ns.contains m = false) (hc : chk = true → stab (.ow i pa) = true) (q : A i pa) :
    ∃ i' pa' ns xs, D.ow i pa = .ow i' pa' ∧ vw s (.ow i' pa') = some (.ins true C ns xs) ∧ ns.contains m = false ∧ (chk = true → stab (.ow i pa) = true) ∧ A i' pa' := ⟨i, pa, ns, xs, rfl, hv, hm, hc, q⟩
theorem x_m1 {sp : S1} {i : Nat} {pa : List Stp} {ds as : List D} {s3 : US} {e : D} (a : sp.α) (hc : cloL s ds = some (as, s3)) (hv : vw s3 (.ow i pa) = some e) (he : e = sp.self a) (ha : as = sp.args a) (hp : sp.pre a) (hq : ∀ r f, sp.post a r f → U r (putAt s3 i pa f)) (hx : ∀ C, sp.err a C → er C (s3.set i none)) :
    UM1 sp er i pa s ds U := ⟨as, s3, e, hc, hv, a, he, ha, hp, hq, hx⟩
def UDPR (s3 : US) (v o k : D) (nx : US → Prop) : Prop := ∃ i pa v' s4 kd key ks xs, o = .ow i pa ∧ k = .rt kd ∧ clo s3 v = some (v', s4) ∧ keysD kd = some key ∧ vw s4 (.ow i pa) = some (.dt true ks xs) ∧ ks.length < sizeLine ∧ nx (putAt s4 i pa (.dt true (putKs key ks) (putXs key v' ks xs)))
theorem x_dputR {ud uk uv : UE} (h : uv er s fun v s1 => ud er s1 fun o s2 => uk er s2 fun k s3 => UDPR s3 v o k nx) : uDPutR ud uk uv ⟨nx, rt, bk, ct, er⟩ s := h
def UDPK (s3 : US) (v o k : D) (nx : US → Prop) : Prop := ∃ i pa v' s4 key ks xs, o = .ow i pa ∧ clo s3 v = some (v', s4) ∧ keyD k = some key ∧ vw s4 (.ow i pa) = some (.dk true ks xs) ∧ ks.length < sizeLine ∧ nx (putAt s4 i pa (.dk true (putKs key ks) (putXs key v' ks xs)))
theorem x_dput {ud uk uv : UE} (h : uv er s fun v s1 => ud er s1 fun o s2 => uk er s2 fun k s3 => UDPK s3 v o k nx) : uDPut ud uk uv ⟨nx, rt, bk, ct, er⟩ s := h
theorem x_gtup {n : Nat} {ugs : UGs} {V : US → Prop} (h : ∃ e ds, vw s d = some e ∧ (e = .tup ds ∨ e = .rt ds) ∧ ds.length = n ∧ ugs er ds s V) : uGTup n ugs er d s V := h
theorem x_gt {n : Nat} {ds : List D} {A : List D → Prop} (hv : vw s d = some (.tup ds)) (hl : ds.length = n) (q : A ds) : ∃ e ds, vw s d = some e ∧ (e = .tup ds ∨ e = .rt ds) ∧ ds.length = n ∧ A ds := ⟨_, ds, hv, .inl rfl, hl, q⟩
theorem x_gr {n : Nat} {ds : List D} {A : List D → Prop} (hv : vw s d = some (.rt ds)) (hl : ds.length = n) (q : A ds) : ∃ e ds, vw s d = some e ∧ (e = .tup ds ∨ e = .rt ds) ∧ ds.length = n ∧ A ds := ⟨_, ds, hv, .inr rfl, hl, q⟩
theorem x_gnil {V : US → Prop} (h : V s) : uGNil er [] s V := ⟨rfl, h⟩
theorem x_gcons {ug : UG} {ugs : UGs} {ds : List D} {V : US → Prop} (h : ug er d s fun s1 => ugs er ds s1 V) : uGCons ug ugs er (d :: ds) s V := ⟨d, ds, rfl, h⟩
def UGS (s2 : US) (d' o ix : D) (V : US → Prop) : Prop := ∃ i pa k xs j, o = .ow i pa ∧ ix = .int k ∧ vw s2 (.ow i pa) = some (.lst true xs) ∧ ixN xs.length k = some j ∧ V (putAt s2 i pa (.lst true (xs.set j d')))
theorem x_gsub {ua ub : UE} {V : US → Prop} (h : ∃ d' s0, clo s d = some (d', s0) ∧ ua er s0 fun o s1 => ub er s1 fun ix s2 => UGS s2 d' o ix V) : uGSub ua ub er d s V := h
theorem x_gs {i : Nat} {pa : List Stp} {k : Int} {xs : List D} {A : US → Prop} (hv : vw s (.ow i pa) = some (.lst true xs)) (h0 : 0 ≤ k ∧ k < xs.length) (q : A (putAt s i pa (.lst true (xs.set k.toNat d')))) : UGS s d' (.ow i pa) (.int k) A := ⟨i, pa, k, xs, _, rfl, rfl, hv, ixN_of h0.1 h0.2, q⟩
theorem x_ckw {f : List D → List D → Option D} {ua uk : UA} (h : ua er s fun ds s1 => uk er s1 fun ks s2 => ∃ es xs d, vwL s2 ds = some es ∧ vwL s2 ks = some xs ∧ f es xs = some d ∧ U d s2) : uCKw f ua uk er s U := h
def UBM (f : D → D → Option (D × D)) (i : Nat) (pa : List Stp) (s2 : US) (d : D) (U : D → US → Prop) : Prop := ∃ d' s3 e e' r, clo s2 d = some (d', s3) ∧ vw s3 (.ow i pa) = some e ∧ f e d' = some (e', r) ∧ U r (putAt s3 i pa e')
theorem x_bm1 {f : D → D → Option (D × D)} {chk : Bool} {ua ub : UE} (h : ua er s fun o s1 => ∃ i pa e0, o = .ow i pa ∧ vw s1 (.ow i pa) = some e0 ∧ isLst e0 = true ∧ (chk = true → stab o = true) ∧ ub er s1 fun d s2 => UBM f i pa s2 d U) : uBM1 f chk ua ub er s U := h
theorem x_bmA {i : Nat} {pa : List Stp} {e0 : D} {chk : Bool} {A : Nat → List Stp → Prop} (hv : vw s (.ow i pa) = some e0) (hl : isLst e0 = true) (hc : chk = true → stab (.ow i pa) = true) (q : A i pa) : ∃ i' pa' e0, D.ow i pa = .ow i' pa' ∧ vw s (.ow i' pa') = some e0 ∧ isLst e0 = true ∧ (chk = true → stab (.ow i pa) = true) ∧ A i' pa' := ⟨i, pa, e0, rfl, hv, hl, hc, q⟩
theorem x_bmB {f : D → D → Option (D × D)} {i : Nat} {pa : List Stp} {e e' : D} {s3 : US} (hc : clo s d = some (d', s3)) (hv : vw s3 (.ow i pa) = some e) (hf : f e d' = some (e', r)) (q : U r (putAt s3 i pa e')) : UBM f i pa s d U := ⟨d', s3, e, e', r, hc, hv, hf, q⟩
def UBM0 (f : D → Option (D × D)) (s1 : US) (o : D) (U : D → US → Prop) : Prop := ∃ i pa e e' r, o = .ow i pa ∧ vw s1 (.ow i pa) = some e ∧ isLst e = true ∧ f e = some (e', r) ∧ U r (putAt s1 i pa e')
theorem x_bm0 {f : D → Option (D × D)} {ua : UE} (h : ua er s fun o s1 => UBM0 f s1 o U) : uBM0 f ua er s U := h
theorem x_bmC {f : D → Option (D × D)} {i : Nat} {pa : List Stp} {e e' : D} (hv : vw s (.ow i pa) = some e) (hl : isLst e = true) (hf : f e = some (e', r)) (q : U r (putAt s i pa e')) : UBM0 f s (.ow i pa) U := ⟨i, pa, e, e', r, rfl, hv, hl, hf, q⟩
theorem fApp_ok {xs : List D} (h : xs.length < sizeLine) : fAppend (.lst true xs) d = some (.lst true (xs ++ [d]), .non) := by rw [fAppend, if_pos h]
theorem putAt_z {p : List Stp} {e : D} {s : US} : _root_.UL.putAt (some x :: s) 0 p e = some (put x p e) :: s := rfl
theorem putAt_s {i : Nat} {p : List Stp} {o : Option D} {e : D} {s : US} : _root_.UL.putAt (o :: s) (i + 1) p e = o :: _root_.UL.putAt s i p e := by
  unfold _root_.UL.putAt
  rw [List.getElem?_cons_succ]
  cases s[i]? with
  | none => rfl
  | some y => cases y <;> rfl
theorem put_nil {d e : D} : put d [] e = e := rfl
theorem fz_pure (hr : rootO d = false) : fz d = d := by
  cases d with
  | lst o xs => cases o <;> first | rfl | simp [rootO] at hr
  | ins o C ns xs => cases o <;> first | rfl | simp [rootO] at hr
  | dk o ks xs => cases o <;> first | rfl | simp [rootO] at hr
  | dt o ks xs => cases o <;> first | rfl | simp [rootO] at hr
  | nst xs => simp [rootO] at hr
  | _ => rfl
theorem clo_pure (hr : rootO d = false) (hi : isRef d = false) : clo s d = some (d, s) := by
  cases d with
  | ow i p => simp [isRef] at hi
  | _ => simp only [clo, fz_pure hr]
theorem x_cloP {A : D → US → Prop} (hr : rootO d = false) (hi : isRef d = false) (q : A d s) : ∃ d' s2, clo s d = some (d', s2) ∧ A d' s2 := ⟨d, s, clo_pure hr hi, q⟩
theorem x_part {ua : UE} (h : ua er s fun d s1 => ∃ i, d = .int i ∧ UO' (some i) s1) : uPart ua er s UO' := h
theorem x_int {i : Int} {A : Int → Prop} (h : A i) : ∃ j, D.int i = D.int j ∧ A j := ⟨i, rfl, h⟩
theorem x_noPart (h : UO' none s) : uNoPart er s UO' := h
theorem x_sl {f : D → Option Int → Option Int → Option D} {ua : UE} {ul uh : UO} (h : ua er s fun d s1 => ul er s1 fun lo s2 => uh er s2 fun hi s3 => ∃ e r, vw s3 d = some e ∧ f e lo hi = some r ∧ U r s3) : uSl f ua ul uh er s U := h
end
end UL

set_option Elab.async false
set_option linter.all false
set_option maxRecDepth 100000
set_option maxHeartbeats 4000000
namespace UL
open PySem SL
open L2 hiding rLen
/-! ## data that is not owned -/
def pureD (d : D) : Bool := !rootO d && !isRef d
section
variable {d : D} {ds xs : List D} {s : US} {er : UX}
theorem pureD_root (h : pureD d = true) : rootO d = false := by simp only [pureD, Bool.and_eq_true, Bool.not_eq_true'] at h; exact h.1
theorem pureD_ref (h : pureD d = true) : isRef d = false := by simp only [pureD, Bool.and_eq_true, Bool.not_eq_true'] at h; exact h.2
theorem clo_p (h : pureD d = true) : clo s d = some (d, s) := clo_pure (pureD_root h) (pureD_ref h)
theorem cloL_p : ∀ {ds : List D}, (∀ d ∈ ds, pureD d = true) → cloL s ds = some (ds, s)
  | [], _ => rfl
  | d :: ds, h => by simp only [cloL, clo_p (h d List.mem_cons_self), cloL_p fun d hd => h d (List.mem_cons_of_mem _ hd)]
theorem vw_p (h : isRef d = false) : vw s d = some d := by
  cases d with
  | ow i p => simp [isRef] at h
  | _ => rfl
theorem vwL_p : ∀ {ds : List D}, (∀ d ∈ ds, isRef d = false) → vwL s ds = some ds
  | [], _ => rfl
  | d :: ds, h => by simp only [vwL, vw_p (h d List.mem_cons_self), vwL_p fun d hd => h d (List.mem_cons_of_mem _ hd)]
theorem all_one {P : D → Prop} {a : D} (h : P a) : ∀ d ∈ [a], P d := fun d hd => by rw [List.mem_singleton.mp hd]; exact h
theorem all_cons {P : D → Prop} {a : D} {l : List D} (h : P a) (h2 : ∀ d ∈ l, P d) : ∀ d ∈ a :: l, P d := fun d hd => by
  rcases List.mem_cons.mp hd with rfl | hd
  · exact h
  · exact h2 d hd
theorem all_nil {P : D → Prop} : ∀ d ∈ ([] : List D), P d := fun _ h => nomatch h
theorem x_varQ {i : Nat} {U : D → US → Prop} (h : s[i]? = some (some d)) (hr : pureD d = true) (q : U d s) : uVar i er s U := x_varP h (pureD_root hr) q
theorem x_nameQ {i : Nat} {V : US → Prop} (hr : pureD d = true) (q : V (s.set i (some d))) : uName i er d s V := x_name (pureD_ref hr) q
/-! a list or a tuple -/
def sqD (k : Bool) (xs : List D) : D := if k then .lst false xs else .tup xs
theorem sqD_root {k : Bool} {xs : List D} : rootO (sqD k xs) = false := by cases k <;> rfl
theorem sqD_ref {k : Bool} {xs : List D} : isRef (sqD k xs) = false := by cases k <;> rfl
theorem sqD_p {k : Bool} {xs : List D} : pureD (sqD k xs) = true := by cases k <;> rfl
theorem sqD_or {k : Bool} {xs : List D} : sqD k xs = .lst false xs ∨ sqD k xs = .tup xs := by cases k; exact .inr rfl; exact .inl rfl
theorem clo_sq {k : Bool} : clo s (sqD k xs) = some (sqD k xs, s) := clo_p sqD_p
theorem fLen_sq {k : Bool} : fLen [sqD k xs] = some (.int xs.length) := by cases k <;> rfl
theorem vw_sq {k : Bool} : vw s (sqD k xs) = some (sqD k xs) := by cases k <;> rfl
theorem vwL_sq {k : Bool} : vwL s [sqD k xs] = some [sqD k xs] := by cases k <;> rfl
theorem fTup_sq {k : Bool} : fTupOf [sqD k xs] = some (.tup xs) := by cases k <;> rfl
theorem fList_sq {k : Bool} : fListOf [sqD k xs] = some (.lst true xs) := by cases k <;> rfl
theorem x_itemsQ {k : Bool} {A : List D → US → Prop} (q : A xs s) : ∃ d' s2, clo s (sqD k xs) = some (d', s2) ∧ ∃ ys, (d' = .lst false ys ∨ d' = .tup ys) ∧ A ys s2 := ⟨_, s, clo_sq, xs, sqD_or, q⟩
theorem x_itemsL {b : Bool} {A : List D → US → Prop} (q : A xs s) : ∃ d' s2, clo s (.lst b xs) = some (d', s2) ∧ ∃ ys, (d' = .lst false ys ∨ d' = .tup ys) ∧ A ys s2 := ⟨.lst false xs, s, by cases b <;> rfl, xs, .inl rfl, q⟩
theorem x_itemsU {A : List D → US → Prop} (q : A xs s) : ∃ d' s2, clo s (.tup xs) = some (d', s2) ∧ ∃ ys, (d' = .lst false ys ∨ d' = .tup ys) ∧ A ys s2 := ⟨.tup xs, s, rfl, xs, .inr rfl, q⟩
/-! ints -/
abbrev eI (ns : List Int) : List D := ns.map D.int
abbrev eT (ns : List Int) : D := .tup (eI ns)
abbrev eL (ns : List Int) : D := .lst false (eI ns)
abbrev eTT (rs : List (List Int)) : D := .tup (rs.map eT)
abbrev eLL (rs : List (List Int)) : D := .lst false (rs.map eL)
abbrev eB (bs : List Bool) : List D := bs.map D.bl
theorem map_get {α : Type} {f : α → D} {l : List α} {i : Nat} {x : D} (h : (l.map f)[i]? = some x) : ∃ z, l[i]? = some z ∧ x = f z := by
  rw [List.getElem?_map] at h
  cases e : l[i]? with
  | none => rw [e] at h; cases h
  | some z => rw [e] at h; exact ⟨z, rfl, (Option.some.inj h).symm⟩
theorem eI_get {ns : List Int} {i : Nat} {x : D} (h : (eI ns)[i]? = some x) : ∃ z, ns[i]? = some z ∧ x = .int z := map_get h
theorem eI_len {ns : List Int} : (eI ns).length = ns.length := List.length_map ..
theorem atD_map {α : Type} {f : α → D} {l : List α} {i : Int} (d0 : α) (h0 : 0 ≤ i) (h1 : i < l.length) : atD (l.map f) i = some (f (l.getD i.toNat d0)) := by
  unfold atD
  rw [List.length_map, ixN_of h0 h1]
  show (l.map f)[i.toNat]? = _
  have hl : i.toNat < l.length := by omega
  rw [List.getElem?_map, List.getElem?_eq_getElem hl, List.getD_eq_getElem?_getD, List.getElem?_eq_getElem hl]; rfl
theorem atD_eI {ns : List Int} {i : Int} (h0 : 0 ≤ i) (h1 : i < ns.length) : atD (eI ns) i = some (.int (ns.getD i.toNat 0)) := atD_map 0 h0 h1
/-- a relation along a list -/
def all2 {α : Type} (R : D → α → Prop) (ds : List D) (rs : List α) : Prop := ds.length = rs.length ∧ ∀ (i : Nat) d, ds[i]? = some d → ∃ r, rs[i]? = some r ∧ R d r
def sqI (d : D) (ns : List Int) : Prop := ∃ k, d = sqD k (eI ns)
def sqR {α : Type} (R : D → α → Prop) (d : D) (rs : List α) : Prop := ∃ k ds, d = sqD k ds ∧ all2 R ds rs
theorem all2_map {α : Type} {R : D → α → Prop} {f : α → D} {l : List α} (h : ∀ x ∈ l, R (f x) x) : all2 R (l.map f) l := ⟨List.length_map .., fun i d hd => by
  obtain ⟨z, hz, rfl⟩ := map_get hd
  exact ⟨z, hz, h z (List.mem_of_getElem? hz)⟩⟩
theorem sqI_p {d : D} {ns : List Int} (h : sqI d ns) : pureD d = true := by obtain ⟨k, rfl⟩ := h; exact sqD_p
theorem sqR_p {α : Type} {R : D → α → Prop} {d : D} {rs : List α} (h : sqR R d rs) : pureD d = true := by obtain ⟨k, ds, rfl, _⟩ := h; exact sqD_p
/-- the args of a call -/
theorem x_args {sp : S0} {U : D → US → Prop} {as : List D} {s2 : US} (a : sp.α) (hc : cloL s ds = some (as, s2)) (ha : as = sp.args a) (hp : sp.pre a) (hq : ∀ r, sp.post a r → U r s2) (hx : ∀ C, sp.err a C → er C s2) :
    ∃ as s2, cloL s ds = some (as, s2) ∧ ∃ a, as = sp.args a ∧ sp.pre a ∧ (∀ r, sp.post a r → U r s2) ∧ ∀ C, sp.err a C → er C s2 := ⟨as, s2, hc, a, ha, hp, hq, hx⟩
/-- a comprehension: what it gives, item by item -/
theorem x_lc {ui : UI} {ug : UG} {ut : UT} {ue : UE} {ws : List Nat} {U : D → US → Prop} (h : ui er s fun xs s1 => xs.length ≤ sizeLine ∧ ∃ I : Nat → List D → US → Prop, I 0 [] (uwipe s1 ws) ∧
    (∀ acc s, I xs.length acc s → U (.lst true acc) (rst (uwipe s ws) s1 ws)) ∧
    ∀ i x acc s, xs[i]? = some x → I i acc s → ug noEr x s fun s2 => ut noEr s2 fun b s3 => UIf b (ue noEr s3 fun d s4 => ∃ d' s5, clo s4 d = some (d', s5) ∧ I (i + 1) (acc ++ [d']) (uwipe s5 ws)) (I (i + 1) acc (uwipe s3 ws))) : uLc ui ug ut ue ws er s U := h
theorem take_succ_map {α β : Type} {f : α → β} {l : List α} {i : Nat} {x : α} (h : l[i]? = some x) : (l.take i).map f ++ [f x] = (l.take (i + 1)).map f := by
  rw [take_snoc h, List.map_append]; rfl
/-- the element is a function of the item; nothing else changes -/
theorem x_lcR {α : Type} {R : D → α → Prop} {xs : List D} {l : List α} {fo : α → D} {B : Nat → D → List D → US → (Nat → List D → US → Prop) → Prop} {N : List D → US → Prop} {s0 : US} (hR : all2 R xs l) (hl : l.length ≤ 1000000)
    (hN : N (l.map fo) s0) (hB : ∀ i x z acc (I : Nat → List D → US → Prop), R x z → l[i]? = some z → I (i + 1) (acc ++ [fo z]) s0 → B i x acc s0 I) :
    xs.length ≤ sizeLine ∧ ∃ I : Nat → List D → US → Prop, I 0 [] s0 ∧ (∀ acc s, I xs.length acc s → N acc s) ∧ ∀ i x acc s, xs[i]? = some x → I i acc s → B i x acc s I := by
  refine ⟨sz (by rw [hR.1]; exact hl), fun i acc s => acc = (l.take i).map fo ∧ s = s0, ⟨rfl, rfl⟩, ?_, ?_⟩
  · rintro acc s ⟨rfl, rfl⟩
    rw [hR.1, List.take_length]
    exact hN
  · rintro i x acc s hi ⟨rfl, rfl⟩
    obtain ⟨z, hz, hx⟩ := hR.2 i x hi
    exact hB i x z _ _ hx hz ⟨take_succ_map hz, rfl⟩
theorem x_lcM {α : Type} {l : List α} {fi : α → D} {fo : α → D} {B : Nat → D → List D → US → (Nat → List D → US → Prop) → Prop} {N : List D → US → Prop} {s0 : US} (hl : l.length ≤ 1000000)
    (hN : N (l.map fo) s0) (hB : ∀ i z acc (I : Nat → List D → US → Prop), l[i]? = some z → I (i + 1) (acc ++ [fo z]) s0 → B i (fi z) acc s0 I) :
    (l.map fi).length ≤ sizeLine ∧ ∃ I : Nat → List D → US → Prop, I 0 [] s0 ∧ (∀ acc s, I (l.map fi).length acc s → N acc s) ∧ ∀ i x acc s, (l.map fi)[i]? = some x → I i acc s → B i x acc s I :=
  x_lcR (R := fun d z => d = fi z) (all2_map fun _ _ => rfl) hl hN fun i x z acc I hx hz q => by subst hx; exact hB i z acc I hz q
end
end UL

set_option Elab.async false
set_option linter.all false
set_option maxRecDepth 100000
set_option maxHeartbeats 4000000
namespace UL
open PySem SL
open L2 hiding rLen
/-! ## promises of the law's own helpers, over data -/
section
variable {K : PySem.W.Frag} {F F' H H' : Hp} {L : Led} {v : V} {vs : List V} {Q : VK} {E : XK}
theorem own_eI : ∀ {ns : List Int} {ws : List V} , OwnL K F (eI ns) ws [] → ws = iv ns
  | [], ws, h => h.1
  | n :: ns, ws, h => by
    obtain ⟨v, vs', rfl, ⟨rfl, _⟩, h4⟩ := h.head
    rw [own_eI h4]; rfl
theorem own_eI' {ns : List Int} : OwnL K F (eI ns) (iv ns) [] := OwnL.map (f := D.int) (g := V.int) fun x => ⟨rfl, rfl⟩
theorem own_eB {bs : List Bool} {ws : List V} (h : OwnL K F (eB bs) ws []) : ws = bv bs := blsD_own blsD_map h
theorem own_eB' {bs : List Bool} : OwnL K F (eB bs) (bv bs) [] := OwnL.map (f := D.bl) (g := V.bl) fun x => ⟨rfl, rfl⟩
theorem own_eL {ns : List Int} (h : Own K F (eL ns) v L) : ∃ a, v = .ref a ∧ L = [] ∧ F a = some (.lst (iv ns)) := by
  rw [Own] at h
  obtain ⟨a, ws, rfl, rfl, hF, o⟩ := h
  exact ⟨a, rfl, rfl, own_eI o ▸ hF⟩
theorem own_eT {ns : List Int} (h : Own K F (eT ns) v L) : ∃ a, v = .ref a ∧ L = [] ∧ SqT K F a (iv ns) := by
  rw [Own] at h
  obtain ⟨a, ws, rfl, rfl, hF, o⟩ := h
  exact ⟨a, rfl, rfl, own_eI o ▸ hF⟩
theorem own_rows : ∀ {M : List (List Int)} {ws : List V}, OwnL K F (M.map eL) ws [] → ∃ es, ws = rv es ∧ Rows K F true es M
  | [], ws, h => ⟨[], h.1, .nil⟩
  | r :: M, ws, h => by
    obtain ⟨v, vs', rfl, h3, h4⟩ := h.head
    obtain ⟨a, rfl, _, hF⟩ := own_eL h3
    obtain ⟨es, rfl, hR⟩ := own_rows h4
    exact ⟨a :: es, rfl, .cons (SqL.of hF) hR⟩
theorem own_rowsT : ∀ {M : List (List Int)} {ws : List V}, OwnL K F (M.map eT) ws [] → ∃ es, ws = rv es ∧ Rows K F false es M
  | [], ws, h => ⟨[], h.1, .nil⟩
  | r :: M, ws, h => by
    obtain ⟨v, vs', rfl, h3, h4⟩ := h.head
    obtain ⟨a, rfl, _, hF⟩ := own_eT h3
    obtain ⟨es, rfl, hR⟩ := own_rowsT h4
    exact ⟨a :: es, rfl, .cons hF hR⟩
def us_draws : S0 := ⟨List Int × Int, fun a => [.sl (eI a.1), .int a.2], fun a => a.1.length ≤ 63 ∧ 0 ≤ a.2 ∧ a.2 ≤ 1000, fun a r => ∃ ds, r = .lst true (eI ds) ∧ Dok ds, fun _ _ => False⟩
theorem ad0_draws (h : conc0 K us_draws vs H Q E) : cp_draws K vs H Q E := by
  obtain ⟨F, ⟨ns, c⟩, fh, o, ⟨h1, h2, h3⟩, k, _⟩ := h
  obtain ⟨v, vs', rfl, o1, o2⟩ := o.head
  obtain ⟨v2, vs2, rfl, ⟨rfl, _⟩, o3⟩ := o2.head
  obtain ⟨rfl, _⟩ : vs2 = [] ∧ _ := o3
  rw [Own] at o1
  obtain ⟨a, ws, rfl, _, hF, oI⟩ := o1
  obtain rfl := own_eI oI
  refine ⟨a, ns, c, rfl, lS fh hF, h1, h2, h3, fun p H' ds hp hs hH' hd => ?_⟩
  exact k F H' (.ref p) [(p, .lst (iv ds))] (.lst true (eI ds)) ((SL.St.init fh).add hs hp hH') ⟨ds, rfl, hd⟩ ⟨p, _, rfl, rfl, own_eI'⟩
def us_take : S1 := ⟨List Int × Int, fun a => .lst true (eI a.1), fun a => [.int a.2], fun a => Dok a.1 ∧ 0 < a.2, fun a r f => ∃ i ds', r = .int i ∧ 0 ≤ i ∧ i < a.2 ∧ Dok ds' ∧ f = .lst true (eI ds'), fun _ _ => False⟩
theorem ad0_take (h : conc1 K us_take vs H Q E) : cp_take K vs H Q E := by
  obtain ⟨F, ⟨ds, l⟩, v0, vs', L, rfl, G, o0, o, ⟨h1, h2⟩, k, _⟩ := h
  obtain ⟨v2, vs2, rfl, ⟨rfl, _⟩, o3⟩ := o.head
  obtain ⟨rfl, _⟩ : vs2 = [] ∧ _ := o3
  dsimp only [us_take] at o0
  rw [Own] at o0
  obtain ⟨p, ws, rfl, rfl, oI⟩ := o0
  obtain rfl := own_eI oI
  refine ⟨p, ds, l, rfl, G.get List.mem_cons_self, h1, h2, fun i H' ds' q1 q2 q3 hs hH' => ?_⟩
  exact k F H' (.int i) [] [(p, .lst (iv ds'))] (.int i) (.lst true (eI ds')) (G.putB .head hs hH') ⟨i, ds', rfl, q1, q2, q3, rfl⟩ ⟨rfl, rfl⟩ ⟨p, _, rfl, rfl, own_eI'⟩
def us_is_integer : S0 := ⟨Int, fun a => [.int a], fun _ => True, fun _ r => r = .bl true, fun _ _ => False⟩
theorem ad0_is_integer (h : conc0 K us_is_integer vs H Q E) : cp_is_integer K vs H Q E := by
  obtain ⟨F, i, fh, o, _, k, _⟩ := h
  obtain ⟨v, vs', rfl, ⟨rfl, _⟩, o2⟩ := o.head
  obtain ⟨rfl, _⟩ : vs' = [] ∧ _ := o2
  exact ⟨i, rfl, k F H (.bl true) [] (.bl true) (SL.St.init fh) rfl ⟨rfl, rfl⟩⟩
def us_integers : S0 := ⟨List Int × Int × Int, fun a => [eT a.1, .int a.2.1, .int a.2.2], fun _ => True, fun a r => r = .bl (decide (∀ z ∈ a.1, a.2.1 ≤ z ∧ z < a.2.2)), fun _ _ => False⟩
theorem ad0_integers (h : conc0 K us_integers vs H Q E) : cp_integers K vs H Q E := by
  obtain ⟨F, ⟨ns, lo, hi⟩, fh, o, _, k, _⟩ := h
  obtain ⟨v, vs', rfl, o1, o2⟩ := o.head
  obtain ⟨v2, vs2, rfl, ⟨rfl, _⟩, o3⟩ := o2.head
  obtain ⟨v3, vs3, rfl, ⟨rfl, _⟩, o4⟩ := o3.head
  obtain ⟨rfl, _⟩ : vs3 = [] ∧ _ := o4
  obtain ⟨a, rfl, _, hF⟩ := own_eT o1
  have kk := fun b => k F H (.bl b) [] (.bl b) (SL.St.init fh)
  refine ⟨a, ns, lo, hi, rfl, tS fh hF, fun h => kk true ?_ ⟨rfl, rfl⟩, fun h => kk false ?_ ⟨rfl, rfl⟩⟩
  · show D.bl true = .bl (decide _)
    rw [decide_eq_true h]
  · show D.bl false = .bl (decide _)
    rw [decide_eq_false h]
/-- the law's script -/
def us_law : S0 := ⟨List Int, fun a => [.sl (eI a)], fun a => a.length ≤ 63, fun _ r => r = .bl true, fun _ _ => False⟩
theorem law_in (h : spL K vs H Q E) : conc0 K us_law vs H Q E := by
  obtain ⟨a, ns, rfl, h1, h2, h3⟩ := h
  refine ⟨H, ns, Same.refl _, OwnL.cons ⟨a, iv ns, rfl, rfl, h1, own_eI'⟩ ⟨rfl, rfl⟩, h2, fun F' H' v Lr r _ hr ho => ?_, fun _ _ _ _ h => h.elim⟩
  dsimp only [us_law] at hr
  subst hr
  obtain ⟨rfl, _⟩ := ho
  exact h3 H'
end
end UL

set_option Elab.async false
set_option linter.all false
set_option maxRecDepth 100000
set_option maxHeartbeats 4000000
namespace UL
open PySem SL
open L2 hiding rLen
/-! ## places: a list and the dict of its indexes -/
def spWaits (K : PySem.W.Frag) (C : Addr) : Sp := fun vs H Q E => ∃ (x r o dx : Addr) (fs : List (Str × V)) (ws us : List V), vs = [.ref x, .ref r] ∧ (H x = some (.ins C dx fs) ∧ fs.lookup ("order" : Str) = some (.ref o) ∧ SqL K H o ws ∧ SqL K H r us ∧ Q (.bl (decide ((us.length : Int) < (ws.length : Int)))) H)
def spFirst (K : PySem.W.Frag) (C : Addr) : Sp := fun vs H Q E => ∃ (x r o dx : Addr) (fs : List (Str × V)) (ws us : List V) (y : V), vs = [.ref x, .ref r] ∧ (H x = some (.ins C dx fs) ∧ fs.lookup ("order" : Str) = some (.ref o) ∧ SqL K H o ws ∧ SqL K H r us ∧ ws[us.length]? = some y ∧ Q y H)
def uWaits (C : Addr) (ua ub : UE) : UE := fun er sd U => ua er sd fun o s1 => ∃ i pa ns xs os, o = .ow i pa ∧ vw s1 (.ow i pa) = some (.ins true C ns xs) ∧ ns.contains "waits" = false ∧ getF "order" ns xs = some (.lst true os) ∧ ub er s1 fun r s2 => ∃ b rs, vw s2 r = some (.lst b rs) ∧ U (.bl (decide ((rs.length : Int) < (os.length : Int)))) s2
def uFirst (C : Addr) (ua ub : UE) : UE := fun er sd U => ua er sd fun o s1 => ∃ i pa ns xs os, o = .ow i pa ∧ vw s1 (.ow i pa) = some (.ins true C ns xs) ∧ ns.contains "first_without" = false ∧ getF "order" ns xs = some (.lst true os) ∧ ub er s1 fun r s2 => ∃ b rs x, vw s2 r = some (.lst b rs) ∧ os[rs.length]? = some x ∧ U x s2
section
variable {K : PySem.W.Frag} {F F' H H' : Hp} {E : En} {P : List (Nat × V)} {L L0 Lt : Led} {v w : V} {vs : List V} {d e : D} {xs : List D} {p : Bool} {W : L2.St → XK} {er : UX} {sd : US} {σ : L2.St}
/-- the fields of an owned instance, as they lie -/
theorem Sim.order {i : Nat} {pa : List Stp} {C : Addr} {ns : List Str} {xs os : List D} {f : Str} (S : Sim K E P F H σ sd L) (h : Res K F H σ v (.ow i pa) Lt) (hv : vw sd (.ow i pa) = some (.ins true C ns xs)) (hg : getF f ns xs = some (.lst true os)) :
    ∃ x dx o vs ws, v = .ref x ∧ H x = some (.ins C dx (ns.zip vs)) ∧ (ns.zip vs).lookup f = some (.ref o) ∧ H o = some (.lst ws) ∧ OwnL K F os ws [] := by
  obtain ⟨L1, R, o, G, bk, bn⟩ := S.take h hv
  rw [Own] at o
  obtain ⟨a, dx, vs, L', rfl, rfl, hl, ol⟩ := o
  obtain ⟨j, hj, hxj⟩ := getF_at hg
  obtain ⟨w, A, Lx, B, q1, rfl, q3, q4⟩ := ol.at hxj
  rw [Own] at q3
  obtain ⟨o, ws, rfl, rfl, ow⟩ := q3
  exact ⟨a, dx, o, vs, ws, rfl, G.get List.mem_cons_self, zip_lookup hj q1 hl, G.get (by simp), ow⟩
theorem re_waits {C : Addr} {X : XK} {ta tb : TE} {ua ub : UE} (ha : RE K p W ta ua) (hb : RE K true W tb ub) :
    RE K p W (tMeth C "waits" (spWaits K C) [] X ta (tCons tb tNil)) (uWaits C ua ub) := ⟨fun {E P F H σ sd L0 Q er U} S hE h k => by
  refine ha.run S hE h fun F1 H1 s1 v1 d1 Lt1 e1 p1 S1 r1 h => ?_
  obtain ⟨i, pa, ns, xs, os, rfl, hv, hm, hg, h⟩ := h
  obtain ⟨x, dx, o, vs, ws, rfl, hH, hlk, hO, ow⟩ := S1.order r1 hv hg
  refine ⟨x, dx, _, rfl, hH, zip_none hm, ?_⟩
  refine hb.run S1 (hE.mono e1) h fun F2 H2 s2 v2 d2 Lt2 e2 p2 S2 r2 h => ?_
  obtain ⟨b, rs, hvr, hU⟩ := h
  obtain ⟨a, us, rfl, hR, ol⟩ := S2.rt (Lt := Lt2) (fun x hx => by simp [hx]) r2 hvr
  refine ⟨x, a, o, dx, _, ws, us, rfl, p2 rfl _ _ hH, hlk, SqL.of (p2 rfl _ _ hO), SqL.of hR, ?_⟩
  rw [← ow.len, ← ol.len]
  exact k F2 H2 s2 _ (.bl _) [] (e1.trans e2) (fun h => (p1 h).trans (p2 rfl)) (S2.keep ((List.sublist_append_right _ _).trans (List.sublist_append_right _ _))) ⟨rfl, rfl⟩ hU⟩
theorem re_first {C : Addr} {X : XK} {ta tb : TE} {ua ub : UE} (ha : RE K p W ta ua) (hb : RE K true W tb ub) :
    RE K p W (tMeth C "first_without" (spFirst K C) [] X ta (tCons tb tNil)) (uFirst C ua ub) := ⟨fun {E P F H σ sd L0 Q er U} S hE h k => by
  refine ha.run S hE h fun F1 H1 s1 v1 d1 Lt1 e1 p1 S1 r1 h => ?_
  obtain ⟨i, pa, ns, xs, os, rfl, hv, hm, hg, h⟩ := h
  obtain ⟨x, dx, o, vs, ws, rfl, hH, hlk, hO, ow⟩ := S1.order r1 hv hg
  refine ⟨x, dx, _, rfl, hH, zip_none hm, ?_⟩
  refine hb.run S1 (hE.mono e1) h fun F2 H2 s2 v2 d2 Lt2 e2 p2 S2 r2 h => ?_
  obtain ⟨b, rs, y, hvr, hy, hU⟩ := h
  obtain ⟨a, us, rfl, hR, ol⟩ := S2.rt (Lt := Lt2) (fun x hx => by simp [hx]) r2 hvr
  obtain ⟨w, hw, oy⟩ := ow.ex hy
  refine ⟨x, a, o, dx, _, ws, us, w, rfl, p2 rfl _ _ hH, hlk, SqL.of (p2 rfl _ _ hO), SqL.of hR, by rw [← ol.len]; exact hw, ?_⟩
  exact k F2 H2 s2 w y [] (e1.trans e2) (fun h => (p1 h).trans (p2 rfl)) (S2.keep ((List.sublist_append_right _ _).trans (List.sublist_append_right _ _))) (.own (Own.mono e2 _ _ _ oy)) hU⟩
end
end UL

set_option Elab.async false
set_option linter.all false
set_option maxRecDepth 100000
set_option maxHeartbeats 4000000
namespace UL
open PySem SL
open L2 hiding rLen
section
variable {nx : US → Prop} {s s4 : US} {v v' : D} {i : Nat} {pa : List Stp}
theorem x_dpR {kd : List D} {key : List Key} {ks : List (List Key)} {xs : List D} (hc : clo s v = some (v', s4)) (hk : keysD kd = some key) (hv : vw s4 (.ow i pa) = some (.dt true ks xs)) (hl : ks.length < sizeLine) (q : nx (_root_.UL.putAt s4 i pa (.dt true (putKs key ks) (putXs key v' ks xs)))) :
    UDPR s v (.ow i pa) (.rt kd) nx := ⟨i, pa, v', s4, kd, key, ks, xs, rfl, rfl, hc, hk, hv, hl, q⟩
theorem x_dpK {d : D} {key : Key} {ks : List Key} {xs : List D} (hc : clo s v = some (v', s4)) (hk : keyD d = some key) (hv : vw s4 (.ow i pa) = some (.dk true ks xs)) (hl : ks.length < sizeLine) (q : nx (_root_.UL.putAt s4 i pa (.dk true (putKs key ks) (putXs key v' ks xs)))) :
    UDPK s v (.ow i pa) d nx := ⟨i, pa, v', s4, key, ks, xs, rfl, hc, hk, hv, hl, q⟩
end
section
variable {K : PySem.W.Frag} {p : Bool} {W : L2.St → XK}
theorem rc_i {i : Int} : RE K true W (tC (.int i)) (uC (.int i)) := by refine re_c (fun _ => ?_); rw [Own]; exact ⟨rfl, rfl⟩
theorem rc_b {b : Bool} : RE K true W (tC (.bl b)) (uC (.bl b)) := by refine re_c (fun _ => ?_); rw [Own]; exact ⟨rfl, rfl⟩
theorem rc_n : RE K true W (tC .non) (uC .non) := by refine re_c (fun _ => ?_); rw [Own]; exact ⟨rfl, rfl⟩
theorem rc_s {s : Str} : RE K true W (tC (.str s)) (uC (.str s)) := by refine re_c (fun _ => ?_); rw [Own]; exact ⟨rfl, rfl⟩
theorem rc_r {a : Addr} : RE K true W (tC (.ref a)) (uC (.raw a)) := by refine re_c (fun _ => ?_); rw [Own]; exact ⟨rfl, rfl⟩
theorem rc_t {n : String} : RE K true W (tC (.ty n)) (uC (.ty n)) := by refine re_c (fun _ => ?_); rw [Own]; exact ⟨rfl, rfl⟩
end
section
variable {K : PySem.W.Frag} {nx : US → Prop} {rt : D → US → Prop} {bk ct : US → Prop} {er : UX} {s : US} {U : UEnds} {C c : Addr} {u : UTS} {r : List (Addr × UTS)}
theorem x_try {hs : List (Addr × UTS)} {ub : UTS} (h : ub ⟨nx, rt, bk, ct, fun C s => uHds K ⟨nx, rt, bk, ct, er⟩ C s hs⟩ s) : uTry K hs ub ⟨nx, rt, bk, ct, er⟩ s := h
theorem x_hdT (h : PySem.W.exmOne K (.ref C) (.ref c) = some true) (q : u U s) : uHds K U C s ((c, u) :: r) := ⟨true, h, fun _ => q, fun h => by cases h⟩
theorem x_hdF (h : PySem.W.exmOne K (.ref C) (.ref c) = some false) (q : uHds K U C s r) : uHds K U C s ((c, u) :: r) := ⟨false, h, (fun h => by cases h), fun _ => q⟩
end
section
variable {s : US} {er : UX} {U : D → US → Prop} {C : Addr} {i j : Nat} {os us ds : List D} {dd x : D} {b : Bool}
theorem x_tupR {ua : UA} (h : ua er s fun ds s1 => ds.length ≤ sizeLine ∧ ∃ ds' s2, cloL s1 ds = some (ds', s2) ∧ U (.rt ds') s2) : uTupR ua er s U := h
theorem x_waits (h5 : s[i]? = some (some (.ins true C ["order", "numbers"] [.lst true os, dd]))) (h7 : s[j]? = some (some (.lst true us))) (q : U (.bl (decide ((us.length : Int) < (os.length : Int)))) s) : uWaits C (uVar i) (uVar j) er s U := by
  unfold uWaits
  refine x_varO h5 rfl ⟨i, [], ["order", "numbers"], [.lst true os, dd], os, rfl, ?_, by decide, rfl, x_varO h7 rfl ⟨true, us, ?_, q⟩⟩
  · rw [vw, h5]; rfl
  · rw [vw, h7]; rfl
theorem x_first (h5 : s[i]? = some (some (.ins true C ["order", "numbers"] [.lst true os, dd]))) (h7 : s[j]? = some (some (.lst true us))) (hx : os[us.length]? = some x) (q : U x s) : uFirst C (uVar i) (uVar j) er s U := by
  unfold uFirst
  refine x_varO h5 rfl ⟨i, [], ["order", "numbers"], [.lst true os, dd], os, rfl, ?_, by decide, rfl, x_varO h7 rfl ⟨true, us, x, ?_, hx, q⟩⟩
  · rw [vw, h5]; rfl
  · rw [vw, h7]; rfl
end
/-! ## a dict that has the index of each key -/
theorem rngD_cons {lo : Int} {n : Nat} : rngD lo (n + 1) = .int lo :: rngD (lo + 1) n := by
  unfold rngD
  rw [List.range_succ_eq_map, List.map_cons, List.map_map]
  refine congr (congrArg _ (by simp)) (List.map_congr_left fun k _ => ?_)
  show D.int (lo + ((k + 1 : Nat) : Int)) = .int (lo + 1 + (k : Int))
  congr 1; omega
theorem rngD_snoc {n : Nat} : rngD 0 n ++ [.int (n : Int)] = rngD 0 (n + 1) := by
  unfold rngD
  rw [List.range_succ, List.map_append, List.map_cons, List.map_nil, Int.zero_add]
section
variable {κ : Type} [DecidableEq κ]
theorem idx_ne {α : Type} [BEq α] [LawfulBEq α] {a b : α} {l : List α} (h : b ≠ a) : (b :: l).idxOf a = l.idxOf a + 1 := by
  rw [List.idxOf_cons, beq_false_of_ne h, cond_false]
theorem valD_rng {k : κ} : ∀ {ks : List κ} {lo : Int}, valD k ks (rngD lo ks.length) = if k ∈ ks then some (.int (lo + (ks.idxOf k : Nat))) else none
  | [], _ => rfl
  | k' :: ks, lo => by
    rw [List.length_cons, rngD_cons, valD]
    by_cases c : k' = k
    · subst c
      rw [if_pos rfl, if_pos List.mem_cons_self, List.idxOf_cons_self]
      show some (D.int lo) = some (D.int (lo + 0)); rw [Int.add_zero]
    · rw [if_neg c, valD_rng]
      by_cases m : k ∈ ks
      · rw [if_pos m, if_pos (List.mem_cons_of_mem _ m), idx_ne c]
        congr 2; omega
      · rw [if_neg m, if_neg (by simp [m, Ne.symm c])]
theorem idxOf_map {α β : Type} [BEq α] [LawfulBEq α] [DecidableEq β] {f : α → β} (hf : ∀ a b, f a = f b → a = b) {a : α} : ∀ {l : List α}, (l.map f).idxOf (f a) = l.idxOf a
  | [] => rfl
  | b :: l => by
    rw [List.map_cons]
    by_cases c : b = a
    · subst c; rw [List.idxOf_cons_self, List.idxOf_cons_self]
    · rw [idx_ne c, idx_ne (fun h => c (hf _ _ h)), idxOf_map hf]
theorem mem_mapi {α β : Type} {f : α → β} (hf : ∀ a b, f a = f b → a = b) {a : α} {l : List α} : f a ∈ l.map f ↔ a ∈ l := by
  rw [List.mem_map]
  exact ⟨fun ⟨b, h, e⟩ => hf _ _ e ▸ h, fun h => ⟨a, h, rfl⟩⟩
end
end UL

set_option Elab.async false
set_option linter.all false
set_option maxRecDepth 100000
set_option maxHeartbeats 4000000
namespace LW
open PySem SL UL
open L2 hiding rLen
def mvs (rs : List (List (List Int))) (size hl : Nat) (ws : List Int) (q : Nat) : List Int := ((rs.getD (q / size) []).getD (ws.getD (q % size) 0).toNat []).map fun t => t * (size : Int) + ((if q % size + 1 = size then hl else q % size + 1 : Nat) : Int)
def movesOf (rs : List (List (List Int))) (hs ls : List Int) : List (List Int) := (List.range (rs.length * (hs.length + ls.length))).map (mvs rs (hs.length + ls.length) hs.length (hs ++ ls))
def goodsOf (n size : Nat) (cs : List Int) : List Bool := (List.range (n * size)).map fun q => decide (((q / size : Nat) : Int) ∈ cs)
def ACC (rs : List (List (List Int))) (is cs hs ls : List Int) : Bool := LV (movesOf rs hs ls) (goodsOf rs.length (hs.length + ls.length) cs) (is.map fun s => s * ((hs.length + ls.length : Nat) : Int))
/-- the letter after place t of the lasso -/
def lat (hs ls : List Int) (t : Int) : Int := if t + 1 < ((hs ++ ls).length : Int) then t + 1 else (hs.length : Int)
def suc (rs : List (List (List Int))) (hs ls : List Int) (p : Int × Int) : List (Int × Int) := ((rs.getD p.2.toNat []).getD ((hs ++ ls).getD p.1.toNat 0).toNat []).map fun t => (lat hs ls p.1, t)
inductive Rch (rs : List (List (List Int))) (hs ls is : List Int) : Int × Int → Prop
  | base {s} : s ∈ is → Rch rs hs ls is (0, s)
  | step {p q} : Rch rs hs ls is p → q ∈ suc rs hs ls p → Rch rs hs ls is q
structure RunI (rs : List (List (List Int))) (hs ls is : List Int) (ps : List (Int × Int)) (M : List (List Int)) : Prop where
  nd : ps.Nodup
  rg : ∀ p ∈ ps, 0 ≤ p.1 ∧ p.1 < (hs ++ ls).length ∧ 0 ≤ p.2 ∧ p.2 < rs.length
  rc : ∀ p ∈ ps, Rch rs hs ls is p
  i0 : ∀ s ∈ is, (0, s) ∈ ps
  le : M.length ≤ ps.length
  ed : ∀ i p, i < M.length → ps[i]? = some p → (∀ q ∈ suc rs hs ls p, q ∈ ps) ∧ M[i]? = some ((suc rs hs ls p).map fun q => (ps.idxOf q : Int))
theorem nd_get {α : Type} {ps : List α} (h : ps.Nodup) {i j : Nat} {p : α} (h1 : ps[i]? = some p) (h2 : ps[j]? = some p) : i = j := by
  obtain ⟨a1, b1⟩ := List.getElem?_eq_some_iff.mp h1
  obtain ⟨a2, b2⟩ := List.getElem?_eq_some_iff.mp h2
  exact (List.getElem?_inj a1 h).mp (h1.trans h2.symm)
theorem idx_get {ps : List (Int × Int)} {p : Int × Int} (h : p ∈ ps) : ps[ps.idxOf p]? = some p := by
  have := List.idxOf_lt_length_iff.mpr h
  rw [List.getElem?_eq_getElem this, List.getElem_idxOf]
theorem get_idx {ps : List (Int × Int)} (hn : ps.Nodup) {i : Nat} {p : Int × Int} (h : ps[i]? = some p) : ps.idxOf p = i := nd_get hn (idx_get (List.mem_of_getElem? h)) h
section
variable {rs : List (List (List Int))} {hs ls is : List Int} {ps : List (Int × Int)} {M : List (List Int)}
def enc (hs ls : List Int) (p : Int × Int) : Nat := p.2.toNat * (hs ++ ls).length + p.1.toNat
abbrev Rg (rs : List (List (List Int))) (hs ls : List Int) (p : Int × Int) : Prop := 0 ≤ p.1 ∧ p.1 < (hs ++ ls).length ∧ 0 ≤ p.2 ∧ p.2 < rs.length
theorem enc_div {p : Int × Int} (h : Rg rs hs ls p) : enc hs ls p / (hs ++ ls).length = p.2.toNat := by
  unfold enc
  rw [Nat.mul_comm, Nat.mul_add_div (by omega), Nat.div_eq_of_lt (by omega), Nat.add_zero]
theorem enc_mod {p : Int × Int} (h : Rg rs hs ls p) : enc hs ls p % (hs ++ ls).length = p.1.toNat := by
  unfold enc
  rw [Nat.mul_comm, Nat.mul_add_mod, Nat.mod_eq_of_lt (by omega)]
theorem enc_lt {p : Int × Int} (h : Rg rs hs ls p) : enc hs ls p < rs.length * (hs ++ ls).length := by
  have : (p.2.toNat + 1) * (hs ++ ls).length ≤ rs.length * (hs ++ ls).length := Nat.mul_le_mul_right _ (by omega)
  rw [Nat.succ_mul] at this
  unfold enc; omega
theorem enc_inj {p q : Int × Int} (hp : Rg rs hs ls p) (hq : Rg rs hs ls q) (h : enc hs ls p = enc hs ls q) : p = q := by
  have h1 := enc_div hp; have h2 := enc_mod hp
  rw [h, enc_div hq] at h1; rw [h, enc_mod hq] at h2
  exact Prod.ext (by omega) (by omega)
theorem enc_mv {p : Int × Int} (hp : Rg rs hs ls p) : (movesOf rs hs ls).getD (enc hs ls p) [] = (suc rs hs ls p).map fun q => q.2 * ((hs ++ ls).length : Int) + q.1 := by
  have lt := enc_lt hp
  have ll : hs.length + ls.length = (hs ++ ls).length := by rw [List.length_append]
  unfold movesOf
  rw [ll, List.getD_eq_getElem?_getD, List.getElem?_map, List.getElem?_range lt, Option.map_some, Option.getD_some, mvs, enc_div hp, enc_mod hp, suc, List.map_map]
  refine List.map_congr_left fun t _ => ?_
  show _ = t * _ + lat hs ls p.1
  unfold lat
  congr 1
  by_cases c : p.1 + 1 < ((hs ++ ls).length : Int)
  · rw [if_pos c, if_neg (by omega)]; omega
  · rw [if_neg c, if_pos (by omega)]
theorem enc_ed {p : Int × Int} {k : Nat} (hp : Rg rs hs ls p) (hq : ∀ q ∈ suc rs hs ls p, Rg rs hs ls q) : Ed (movesOf rs hs ls) (enc hs ls p) k ↔ ∃ q ∈ suc rs hs ls p, enc hs ls q = k := by
  unfold Ed
  rw [enc_mv hp, List.mem_map]
  have e : ∀ q ∈ suc rs hs ls p, q.2 * ((hs ++ ls).length : Int) + q.1 = (enc hs ls q : Int) := fun q h => by
    have := hq q h
    unfold enc
    rw [Int.natCast_add, Int.natCast_mul, Int.toNat_of_nonneg this.2.2.1, Int.toNat_of_nonneg this.1]
  constructor
  · rintro ⟨q, h1, h2⟩; exact ⟨q, h1, by rw [e q h1] at h2; omega⟩
  · rintro ⟨q, h1, h2⟩; exact ⟨q, h1, by rw [e q h1, h2]⟩
theorem suc_rg (hl : 0 < ls.length) (hr : ∀ r ∈ rs, ∀ e ∈ r, ∀ x ∈ e, 0 ≤ x ∧ x < rs.length) {p q : Int × Int} (hp : Rg rs hs ls p) (h : q ∈ suc rs hs ls p) : Rg rs hs ls q := by
  obtain ⟨t, ht, rfl⟩ := List.mem_map.mp h
  have lq : 0 ≤ lat hs ls p.1 ∧ lat hs ls p.1 < (hs ++ ls).length := by
    unfold lat
    have := List.length_append (as := hs) (bs := ls)
    split <;> omega
  refine ⟨lq.1, lq.2, ?_⟩
  show 0 ≤ t ∧ t < (rs.length : Int)
  rw [List.getD_eq_getElem?_getD, List.getD_eq_getElem?_getD] at ht
  cases e1 : rs[p.2.toNat]? with
  | none => rw [e1] at ht; simp at ht
  | some r =>
    rw [e1, Option.getD_some] at ht
    cases e2 : r[((hs ++ ls).getD p.1.toNat 0).toNat]? with
    | none => rw [e2] at ht; simp at ht
    | some e =>
      rw [e2] at ht
      exact hr r (List.mem_of_getElem? e1) e (List.mem_of_getElem? e2) t ht
variable (R : RunI rs hs ls is ps M) (hM : M.length = ps.length)
include R hM
theorem run_ed {i j : Nat} {p : Int × Int} (hp : ps[i]? = some p) : Ed M i j ↔ ∃ q ∈ suc rs hs ls p, ps[j]? = some q := by
  have il : i < M.length := by rw [hM]; exact (List.getElem?_eq_some_iff.mp hp).1
  obtain ⟨h1, h2⟩ := R.ed i p il hp
  unfold Ed
  rw [List.getD_eq_getElem?_getD, h2, Option.getD_some, List.mem_map]
  constructor
  · rintro ⟨q, a, b⟩
    exact ⟨q, a, by have := idx_get (h1 q a); rw [show ps.idxOf q = j by omega] at this; exact this⟩
  · rintro ⟨q, a, b⟩
    exact ⟨q, a, by rw [get_idx R.nd b]⟩
theorem run_wk1 (hr : ∀ {p q}, Rg rs hs ls p → q ∈ suc rs hs ls p → Rg rs hs ls q) {i j : Nat} (h : Wk M i j) : ∀ {p}, ps[i]? = some p → ∃ q, ps[j]? = some q ∧ Wk (movesOf rs hs ls) (enc hs ls p) (enc hs ls q) := by
  induction h with
  | nil => exact fun {p} hp => ⟨p, hp, .nil⟩
  | step e _ ih =>
    intro p hp
    obtain ⟨q, h1, h2⟩ := (run_ed R hM hp).mp e
    obtain ⟨q', h3, h4⟩ := ih h2
    have rp := R.rg p (List.mem_of_getElem? hp)
    exact ⟨q', h3, .step ((enc_ed rp fun q h => hr rp h).mpr ⟨q, h1, rfl⟩) h4⟩
theorem run_wk2 (hr : ∀ {p q}, Rg rs hs ls p → q ∈ suc rs hs ls p → Rg rs hs ls q) {a k : Nat} (h : Wk (movesOf rs hs ls) a k) : ∀ {i p}, ps[i]? = some p → enc hs ls p = a → ∃ j q, ps[j]? = some q ∧ enc hs ls q = k ∧ Wk M i j := by
  induction h with
  | nil => exact fun {i p} hp e => ⟨i, p, hp, e, .nil⟩
  | step e _ ih =>
    rintro i p hp rfl
    have rp := R.rg p (List.mem_of_getElem? hp)
    obtain ⟨q, h1, h2⟩ := (enc_ed rp fun q h => hr rp h).mp e
    have il : i < M.length := by rw [hM]; exact (List.getElem?_eq_some_iff.mp hp).1
    have qm := (R.ed i p il hp).1 q h1
    have qi := idx_get qm
    obtain ⟨j, q', h3, h4, h5⟩ := ih qi h2
    exact ⟨j, q', h3, h4, .step ((run_ed R hM hp).mpr ⟨q, h1, qi⟩) h5⟩
theorem run_rch {p : Int × Int} (h : Rch rs hs ls is p) (hr : ∀ {p q}, Rg rs hs ls p → q ∈ suc rs hs ls p → Rg rs hs ls q) : ∃ s ∈ is, Wk (movesOf rs hs ls) (enc hs ls (0, s)) (enc hs ls p) ∧ p ∈ ps := by
  induction h with
  | base h => exact ⟨_, h, .nil, R.i0 _ h⟩
  | step _ h ih =>
    rename_i p q _
    obtain ⟨s, h1, h2, h3⟩ := ih
    have rp := R.rg _ h3
    have pi := idx_get h3
    have il : ps.idxOf p < M.length := by rw [hM]; exact (List.getElem?_eq_some_iff.mp pi).1
    exact ⟨s, h1, h2.trans (.step ((enc_ed rp fun q h => hr rp h).mpr ⟨_, h, rfl⟩) .nil), (R.ed _ _ il pi).1 _ h⟩
/-- what the program looks for is what the law looks for -/
theorem run_acc {cs : List Int} (hl : 0 < ls.length) (hr : ∀ r ∈ rs, ∀ e ∈ r, ∀ x ∈ e, 0 ≤ x ∧ x < rs.length) (his : ∀ s ∈ is, 0 ≤ s ∧ s < rs.length) :
    ACC rs is cs hs ls = true ↔ ∃ (i : Nat) (p : Int × Int), ps[i]? = some p ∧ p.2 ∈ cs ∧ Cyc M i := by
  have hr' : ∀ {p q}, Rg rs hs ls p → q ∈ suc rs hs ls p → Rg rs hs ls q := fun h1 h2 => suc_rg hl hr h1 h2
  have ll : hs.length + ls.length = (hs ++ ls).length := by rw [List.length_append]
  have lM : (movesOf rs hs ls).length = rs.length * (hs ++ ls).length := by unfold movesOf; rw [List.length_map, List.length_range, ll]
  have sp : 0 < (hs ++ ls).length := by omega
  have e0 : ∀ s ∈ is, (s * (((hs ++ ls).length : Nat) : Int)).toNat = enc hs ls (0, s) ∧ Rg rs hs ls (0, s) := fun s h => by
    have := his s h
    refine ⟨?_, ⟨by omega, by show (0 : Int) < _; omega, this.1, this.2⟩⟩
    obtain ⟨n, rfl⟩ : ∃ n : Nat, s = (n : Int) := ⟨s.toNat, by omega⟩
    rw [← Int.natCast_mul, Int.toNat_natCast]; rfl
  have good : ∀ p, Rg rs hs ls p → (tru (goodsOf rs.length (hs ++ ls).length cs) (enc hs ls p) ↔ p.2 ∈ cs) := fun p hp => by
    have lt := enc_lt hp
    unfold tru goodsOf
    rw [List.getD_eq_getElem?_getD, List.getElem?_map, List.getElem?_range lt, Option.map_some, Option.getD_some, enc_div hp, decide_eq_true_iff, Int.toNat_of_nonneg hp.2.2.1]
  unfold ACC
  rw [ll, LV_iff]
  · constructor
    · rintro ⟨_, hs', v, h1, h2, t, h3, h4⟩
      obtain ⟨s, hs, rfl⟩ := List.mem_map.mp hs'
      rw [(e0 s hs).1] at h1
      obtain ⟨j, q, g1, rfl, g3⟩ := run_wk2 R hM hr' h1 (idx_get (R.i0 s hs)) rfl
      have rq := R.rg q (List.mem_of_getElem? g1)
      obtain ⟨q2, k1, rfl⟩ := (enc_ed rq fun q h => hr' rq h).mp h3
      have il : j < M.length := by rw [hM]; exact (List.getElem?_eq_some_iff.mp g1).1
      have q2i := idx_get ((R.ed j q il g1).1 q2 k1)
      obtain ⟨j', q', g4, g5, g6⟩ := run_wk2 R hM hr' h4 q2i rfl
      obtain rfl := enc_inj (R.rg q' (List.mem_of_getElem? g4)) rq g5
      obtain rfl := nd_get R.nd g1 g4
      exact ⟨j, _, g1, (good _ rq).mp h2, _, (run_ed R hM g1).mpr ⟨q2, k1, q2i⟩, g6⟩
    · rintro ⟨i, p, h1, h2, t, h3, h4⟩
      have rp := R.rg p (List.mem_of_getElem? h1)
      obtain ⟨s, g1, g2, _⟩ := run_rch R hM (R.rc p (List.mem_of_getElem? h1)) hr'
      refine ⟨_, List.mem_map.mpr ⟨s, g1, rfl⟩, enc hs ls p, ?_, (good p rp).mpr h2, ?_⟩
      · rw [(e0 s g1).1]; exact g2
      · obtain ⟨q, k1, k2⟩ := (run_ed R hM h1).mp h3
        obtain ⟨p', k3, k4⟩ := run_wk1 R hM hr' h4 k2
        rw [h1] at k3
        obtain rfl := Option.some.inj k3
        exact ⟨enc hs ls q, (enc_ed rp fun q h => hr' rp h).mpr ⟨q, k1, rfl⟩, k4⟩
  · intro ts hts t ht
    unfold movesOf at hts
    obtain ⟨q, hq, rfl⟩ := List.mem_map.mp hts
    have hq := List.mem_range.mp hq
    rw [ll] at hq
    let p : Int × Int := (((q % (hs ++ ls).length : Nat) : Int), ((q / (hs ++ ls).length : Nat) : Int))
    have dl : q / (hs ++ ls).length < rs.length := Nat.div_lt_of_lt_mul (by rw [Nat.mul_comm]; exact hq)
    have ml := Nat.mod_lt q sp
    have rp : Rg rs hs ls p := ⟨Int.natCast_nonneg _, by show ((q % _ : Nat) : Int) < _; omega, Int.natCast_nonneg _, by show ((q / _ : Nat) : Int) < _; omega⟩
    have eq : enc hs ls p = q := by
      show ((q / (hs ++ ls).length : Nat) : Int).toNat * _ + ((q % (hs ++ ls).length : Nat) : Int).toNat = q
      rw [Int.toNat_natCast, Int.toNat_natCast, Nat.mul_comm]; exact Nat.div_add_mod ..
    have e1 : (movesOf rs hs ls).getD q [] = mvs rs (hs.length + ls.length) hs.length (hs ++ ls) q := by
      unfold movesOf
      rw [ll, List.getD_eq_getElem?_getD, List.getElem?_map, List.getElem?_range hq]; rfl
    rw [← e1, ← eq, enc_mv rp] at ht
    obtain ⟨q2, k1, rfl⟩ := List.mem_map.mp ht
    have r2 := hr' rp k1
    have := enc_lt r2
    rw [lM]
    have e : q2.2 * ((hs ++ ls).length : Int) + q2.1 = (enc hs ls q2 : Int) := by
      unfold enc
      rw [Int.natCast_add, Int.natCast_mul, Int.toNat_of_nonneg r2.2.2.1, Int.toNat_of_nonneg r2.1]
    rw [e]; omega
  · intro z hz
    obtain ⟨s, h1, rfl⟩ := List.mem_map.mp hz
    have := (e0 s h1).2
    have lt := enc_lt this
    have e2 := (e0 s h1).1
    rw [lM]
    have : 0 ≤ s * (((hs ++ ls).length : Nat) : Int) := Int.mul_nonneg (his s h1).1 (Int.natCast_nonneg _)
    omega
end
structure SS where
  ent : List Int
  low : List Int
  cmp : List Int
  total : Int
  clock : Int
  path : List (Addr × Nat × Nat)
  opn : List Nat
def seF (ed a1 a2 a3 a4 a5 : Addr) (tt ck : Int) : List (Str × V) := [("edges", .ref ed), ("entered", .ref a1), ("low", .ref a2), ("component", .ref a3), ("total", .int tt), ("clock", .int ck), ("path", .ref a4), ("open_nodes", .ref a5)]
def pLed (path : List (Addr × Nat × Nat)) : Led := path.map fun q => (q.1, .lst [.int q.2.1, .int q.2.2])
def nv (ns : List Nat) : List V := ns.map fun (n : Nat) => V.int (n : Int)
def av (path : List (Addr × Nat × Nat)) : List V := path.map fun q => V.ref q.1
def sLed (C x dx ed a1 a2 a3 a4 a5 : Addr) (s : SS) (L : Led) : Led := (x, .ins C dx (seF ed a1 a2 a3 a4 a5 s.total s.clock)) :: (a1, .lst (iv s.ent)) :: (a2, .lst (iv s.low)) :: (a3, .lst (iv s.cmp)) :: (a4, .lst (av s.path)) :: (a5, .lst (nv s.opn)) :: (pLed s.path ++ L)
theorem iv_set {xs : List Int} {j : Nat} {z : Int} : (iv xs).set j (.int z) = iv (xs.set j z) := by simp [List.map_set]
theorem nv_len {ns : List Nat} : (nv ns).length = ns.length := List.length_map ..
theorem av_len {ps : List (Addr × Nat × Nat)} : (av ps).length = ps.length := List.length_map ..
theorem nv_snoc {ns : List Nat} {n : Nat} : nv (ns ++ [n]) = nv ns ++ [V.int (n : Int)] := by unfold nv; rw [List.map_append]; rfl
theorem av_snoc {ps : List (Addr × Nat × Nat)} {q : Addr × Nat × Nat} : av (ps ++ [q]) = av ps ++ [V.ref q.1] := by unfold av; rw [List.map_append]; rfl
theorem pLed_snoc {ps : List (Addr × Nat × Nat)} {q : Addr × Nat × Nat} : pLed (ps ++ [q]) = pLed ps ++ [(q.1, .lst [.int q.2.1, .int q.2.2])] := by unfold pLed; rw [List.map_append]; rfl
def mn (i j : Int) : Int := if j < i then j else i
def lvL (P : List (Addr × Nat × Nat)) (low : List Int) (u : Nat) : List Int := match P.getLast? with
  | none => low
  | some y => low.set y.2.1 (mn (low.getD y.2.1 0) (low.getD u 0))
def clo (cmp : List Int) (tt : Int) (ws : List Nat) : List Int := ws.foldl (fun c v => c.set v tt) cmp
theorem clo_snoc {cmp : List Int} {tt : Int} {ws : List Nat} {v : Nat} : clo cmp tt (ws ++ [v]) = (clo cmp tt ws).set v tt := by unfold clo; rw [List.foldl_append]; rfl
theorem clo_len {tt : Int} : ∀ {ws : List Nat} {cmp : List Int}, (clo cmp tt ws).length = cmp.length
  | [], _ => rfl
  | w :: ws, cmp => by
    show (clo (cmp.set w tt) tt ws).length = _
    rw [clo_len, List.length_set]
def Sok (M : List (List Int)) (s : SS) : Prop := s.ent.length = M.length ∧ s.low.length = M.length ∧ s.cmp.length = M.length
def pth (s : SS) : List (Nat × Nat) := (s.path.map (·.2)).reverse
def STI (M : List (List Int)) (s : SS) (Pr : Nat → Nat → Prop) : Prop := SL.TInv M (SL.fn (-1) s.ent) (SL.fn 0 s.low) (SL.fn (-1) s.cmp) s.total s.clock ((pth s).map (·.1)) s.opn.reverse Pr ∧ ∀ y ∈ pth s, y.2 ≤ SL.deg M y.1 ∧ ∀ t : Nat, (t : Int) ∈ (M.getD y.1 []).take y.2 → Pr y.1 t
theorem pth_snoc {s : SS} {P : List (Addr × Nat × Nat)} {q : Addr × Nat × Nat} (h : s.path = P ++ [q]) : pth s = q.2 :: (P.map (·.2)).reverse := by
  unfold pth
  rw [h, List.map_append, List.reverse_append]; rfl
theorem mn_eq (i j : Int) : mn i j = min i j := by
  unfold mn
  split <;> omega
theorem fn_clo {M : List (List Int)} {tt : Int} : ∀ {ws : List Nat} {cmp : List Int}, (∀ v ∈ ws, v < cmp.length) → fn (-1) (clo cmp tt ws) = fun v => if v ∈ ws then tt else fn (-1) cmp v
  | [], cmp, _ => by funext v; rw [if_neg (by simp)]; rfl
  | w :: ws, cmp, h => by
    show fn (-1) (clo (cmp.set w tt) tt ws) = _
    rw [fn_clo (M := M) (ws := ws) (fun v hv => by rw [List.length_set]; exact h v (List.mem_cons_of_mem _ hv)), fn_set (h w List.mem_cons_self)]
    funext v
    by_cases q : v ∈ ws
    · rw [if_pos q, if_pos (List.mem_cons_of_mem _ q)]
    · rw [if_neg q]
      by_cases e : v = w
      · subst e; rw [up_eq, if_pos List.mem_cons_self]
      · rw [up_ne e, if_neg (fun z => by rcases List.mem_cons.mp z with z | z; exact e z; exact q z)]
theorem fn_id {d : Int} {l : List Int} {p : Nat} : fn d (l.set p (l.getD p d)) = fn d l := by
  rcases Nat.lt_or_ge p l.length with h | h
  · rw [fn_set h]
    funext v
    by_cases e : v = p
    · subst e; rw [up_eq]; rfl
    · rw [up_ne e]
  · rw [List.set_eq_of_length_le h]
/-- a new node -/
theorem sti_enter {M : List (List Int)} {s : SS} {Pr : Nat → Nat → Prop} {n : Nat} {a : Addr} (ok : Sok M s) (I : SL.TInv M (SL.fn (-1) s.ent) (SL.fn 0 s.low) (SL.fn (-1) s.cmp) s.total s.clock ((pth s).map (·.1)) s.opn.reverse Pr)
    (hB : ∀ y ∈ pth s, y.2 ≤ SL.deg M y.1 ∧ ∀ t : Nat, (t : Int) ∈ (M.getD y.1 []).take y.2 → Pr y.1 t ∨ (((pth s).map (·.1)).head? = some y.1 ∧ t = n)) (hn : s.ent.getD n (-1) < 0) (hM : n < M.length) (hp : ∀ p, ((pth s).map (·.1)).head? = some p → Ed M p n) :
    Sok M ⟨s.ent.set n s.clock, s.low.set n s.clock, s.cmp, s.total, s.clock + 1, s.path ++ [(a, n, 0)], s.opn ++ [n]⟩ ∧ (∃ Pr', STI M ⟨s.ent.set n s.clock, s.low.set n s.clock, s.cmp, s.total, s.clock + 1, s.path ++ [(a, n, 0)], s.opn ++ [n]⟩ Pr') ∧
    mu M (fn (-1) (s.ent.set n s.clock)) (pth ⟨s.ent.set n s.clock, s.low.set n s.clock, s.cmp, s.total, s.clock + 1, s.path ++ [(a, n, 0)], s.opn ++ [n]⟩) < mu M (fn (-1) s.ent) (pth s) ∧ 0 ≤ (s.ent.set n s.clock).getD n (-1) ∧ ∀ v, 0 ≤ s.ent.getD v (-1) → 0 ≤ (s.ent.set n s.clock).getD v (-1) := by
  obtain ⟨o1, o2, o3⟩ := ok
  have I1 := I.enter (n := n) hn hM hp
  have np := (I.fresh hn).2.2
  have c0 := I.c0
  have e1 : fn (-1) (s.ent.set n s.clock) = up (fn (-1) s.ent) n s.clock := fn_set (by omega)
  have e2 : fn 0 (s.low.set n s.clock) = up (fn 0 s.low) n s.clock := fn_set (by omega)
  have ep : pth ⟨s.ent.set n s.clock, s.low.set n s.clock, s.cmp, s.total, s.clock + 1, s.path ++ [(a, n, 0)], s.opn ++ [n]⟩ = (n, 0) :: pth s := by
    show (List.map (fun q : Addr × Nat × Nat => q.2) (s.path ++ [(a, n, 0)])).reverse = _
    rw [List.map_append, List.reverse_append]; rfl
  refine ⟨⟨by simp [o1], by simp [o2], o3⟩, ⟨fun v t => Pr v t ∧ v ≠ n ∨ (((pth s).map (·.1)).head? = some v ∧ t = n), ?_, fun y hy => ?_⟩, ?_, ?_, fun v hv => ?_⟩
  · show SL.TInv M (SL.fn (-1) (s.ent.set n s.clock)) (SL.fn 0 (s.low.set n s.clock)) (SL.fn (-1) s.cmp) s.total (s.clock + 1) _ (s.opn ++ [n]).reverse _
    rw [ep, e1, e2, List.reverse_append]
    exact I1
  · rw [ep] at hy
    rcases List.mem_cons.mp hy with rfl | hy'
    · exact ⟨Nat.zero_le _, fun t ht => by simp at ht⟩
    · obtain ⟨h1, h2⟩ := hB y hy'
      refine ⟨h1, fun t ht => ?_⟩
      rcases h2 t ht with z | z
      · exact .inl ⟨z, fun e => np (by rw [← e]; exact List.mem_map.mpr ⟨y, hy', rfl⟩)⟩
      · exact .inr z
  · rw [ep, e1]
    have := mu_enter (M := M) (ent := fn (-1) s.ent) (n := n) (c := s.clock) hn c0 hM
    unfold mu
    rw [List.map_cons, List.sum_cons]
    show _ + ((SL.deg M n - 0 + 1) + _) < _
    omega
  · show 0 ≤ fn (-1) (s.ent.set n s.clock) n
    rw [e1, up_eq]; exact c0
  · show 0 ≤ fn (-1) (s.ent.set n s.clock) v
    rw [e1]
    by_cases e : v = n
    · subst e; rw [up_eq]; exact c0
    · rw [up_ne e]; exact hv
theorem w_meth {C : Addr} {m : Str} {sp : Sp} {dvs : List V} {X : XK} {ta : TE} {t : TA} {σ : L2.St} {H : Hp} {Q : VK} (h : ta σ H fun x H1 => ∃ a dx fs, x = .ref a ∧ H1 a = some (.ins C dx fs) ∧ fs.lookup m = none ∧ t σ H1 fun vs H2 => sp (x :: (vs ++ dvs)) H2 Q X) : tMeth C m sp dvs X ta t σ H Q := h
structure LasQ (K : PySem.W.Frag) (H : Hp) (w : Addr) (hs ls : List Int) : Prop where
  ex : ∃ h l, SqT K H w [.ref h, .ref l] ∧ (SqL K H h (iv hs) ∨ SqT K H h (iv hs)) ∧ (SqL K H l (iv ls) ∨ SqT K H l (iv ls))
theorem LasQ.of {K : PySem.W.Frag} {H : Hp} {w : Addr} {hs ls : List Int} (h : LasAt K H w hs ls) : LasQ K H w hs ls := by
  obtain ⟨a, b, h1, h2, h3⟩ := h.ex
  exact ⟨⟨a, b, h1, .inr h2, .inr h3⟩⟩
def InvT (K : PySem.W.Frag) (F H : Hp) (a b c : Addr) (M : List (List Int)) (g : List Bool) (i : Nat) : L2.St → Hp → Prop := fun σ H' => ∃ F' ka kept v4 v5 v6 v7 v8 v9 v10, σ = [some (.ref a), some (.ref b), some (.ref c), some (.ref ka), v4, v5, v6, v7, v8, v9, v10, none] ∧ Same F F' ∧ SqL K F' ka (bv kept) ∧ kept.length = M.length ∧ turnL M g (M.length + 1) (List.replicate M.length true) = turnL M g (M.length + 1 - i) kept ∧ SL.St ⟨F, H⟩ F' H' []

structure Ads where
  a_Search_init : Addr
  fd_Search_init : FuncData
  a_Search_enter : Addr
  fd_Search_enter : FuncData
  a_Search_run : Addr
  fd_Search_run : FuncData
  a_Search_leave : Addr
  fd_Search_leave : FuncData
  a_components : Addr
  fd_components : FuncData
  a_on_cycles : Addr
  fd_on_cycles : FuncData
  a_Places_init : Addr
  fd_Places_init : FuncData
  a_Places_number_of : Addr
  fd_Places_number_of : FuncData
  a_Places_waits : Addr
  fd_Places_waits : FuncData
  a_Places_first_without : Addr
  fd_Places_first_without : FuncData
  a_ascends : Addr
  fd_ascends : FuncData
  a_check_letters : Addr
  fd_check_letters : FuncData
  a_Automaton_init : Addr
  fd_Automaton_init : FuncData
  a_flags : Addr
  fd_flags : FuncData
  a_accepts : Addr
  fd_accepts : FuncData
  a_runs : Addr
  fd_runs : FuncData
  a__law_draws : Addr
  fd__law_draws : FuncData
  a__law_take : Addr
  fd__law_take : FuncData
  a__law_lasso : Addr
  fd__law_lasso : FuncData
  a__law_lives : Addr
  fd__law_lives : FuncData
  a__law_ascending : Addr
  fd__law_ascending : FuncData
  a__law_automaton : Addr
  fd__law_automaton : FuncData
  a__law_copy : Addr
  fd__law_copy : FuncData
  a__law_accepts : Addr
  fd__law_accepts : FuncData
  a__law_outcome : Addr
  fd__law_outcome : FuncData
  a_law : Addr
  fd_law : FuncData
  C_SynthError : Addr
  C_InvalidLetter : Addr
  C_InvalidAutomaton : Addr
  C_Search : Addr
  C_Places : Addr
  C_Automaton : Addr
structure Cl (K : PySem.W.Frag) (A : Ads) : Prop where
  cl_Search : Cls K A.C_Search
  na_Search_edges : NoAttr K A.C_Search "edges"
  na_Search_entered : NoAttr K A.C_Search "entered"
  na_Search_low : NoAttr K A.C_Search "low"
  na_Search_component : NoAttr K A.C_Search "component"
  na_Search_total : NoAttr K A.C_Search "total"
  na_Search_clock : NoAttr K A.C_Search "clock"
  na_Search_path : NoAttr K A.C_Search "path"
  na_Search_open_nodes : NoAttr K A.C_Search "open_nodes"
  ty_Search : ∀ {H : Hp} {a dx : Addr} {fs : List (Str × V)}, H a = some (.ins A.C_Search dx fs) → TyX K H (.ref a) (.ref A.C_Search)
  cl_Places : Cls K A.C_Places
  na_Places_order : NoAttr K A.C_Places "order"
  na_Places_numbers : NoAttr K A.C_Places "numbers"
  ty_Places : ∀ {H : Hp} {a dx : Addr} {fs : List (Str × V)}, H a = some (.ins A.C_Places dx fs) → TyX K H (.ref a) (.ref A.C_Places)
  cl_Automaton : Cls K A.C_Automaton
  na_Automaton_letters : NoAttr K A.C_Automaton "letters"
  na_Automaton_initial : NoAttr K A.C_Automaton "initial"
  na_Automaton_accepting : NoAttr K A.C_Automaton "accepting"
  na_Automaton_rows : NoAttr K A.C_Automaton "rows"
  ty_Automaton : ∀ {H : Hp} {a dx : Addr} {fs : List (Str × V)}, H a = some (.ins A.C_Automaton dx fs) → TyX K H (.ref a) (.ref A.C_Automaton)
  em_InvalidAutomaton_InvalidLetter : PySem.W.exmOne K (.ref A.C_InvalidAutomaton) (.ref A.C_InvalidLetter) = some false
  em_InvalidLetter_InvalidLetter : PySem.W.exmOne K (.ref A.C_InvalidLetter) (.ref A.C_InvalidLetter) = some true
abbrev auD (A : Ads) (o : Bool) (m : Int) (is cs : List Int) (rs : List (List (List Int))) : D := .ins o A.C_Automaton ["letters", "initial", "accepting", "rows"] [.int m, eT is, eT cs, .tup (rs.map eTT)]
structure AI where
  d1 : D
  d2 : D
  d3 : D
  m : Int
  is : List Int
  cs : List Int
  rs : List (List (List Int))
def us_Automaton_init (A : Ads) : S1 := ⟨AI, fun _ => .ins true A.C_Automaton [] [], fun a => [.int a.m, a.d1, a.d2, a.d3],
  fun a => sqI a.d1 a.is ∧ sqI a.d2 a.cs ∧ sqR (sqR sqI) a.d3 a.rs ∧ a.rs.length ≤ 1000 ∧ ∀ r ∈ a.rs, r.length ≤ 1000,
  fun a r f => r = .non ∧ f = auD A true a.m a.is a.cs a.rs ∧ Aok a.m a.is a.cs a.rs, fun a C => C = A.C_InvalidAutomaton ∧ ¬ Aok a.m a.is a.cs a.rs⟩
def us_ascends : S0 := ⟨D × List Int × Int, fun a => [a.1, .int a.2.2], fun a => sqI a.1 a.2.1, fun a r => r = .bl (asc a.2.2 (-1) a.2.1), fun _ _ => False⟩
abbrev eP (p : Int × Int) : D := .rt [.int p.1, .int p.2]
def pK (p : Int × Int) : List Key := [.inl p.1, .inl p.2]
abbrev plD (A : Ads) (b : Bool) (ps : List (Int × Int)) : D := .ins b A.C_Places ["order", "numbers"] [.lst b (ps.map eP), .dt b (ps.map pK) (rngD 0 ps.length)]
def addP (ps : List (Int × Int)) (p : Int × Int) : List (Int × Int) := if p ∈ ps then ps else ps ++ [p]
def us_Places_init (A : Ads) : S1 := ⟨Unit, fun _ => .ins true A.C_Places [] [], fun _ => [], fun _ => True, fun _ r f => r = .non ∧ f = plD A true [], fun _ _ => False⟩
def us_number_of (A : Ads) : S1 := ⟨List (Int × Int) × (Int × Int), fun a => plD A true a.1, fun a => [eP a.2], fun a => a.1.Nodup ∧ a.1.length ≤ 100000,
  fun a r f => r = .int ((addP a.1 a.2).idxOf a.2 : Nat) ∧ f = plD A true (addP a.1 a.2), fun _ _ => False⟩
def us_on_cycles : S0 := ⟨List (List Int), fun M => [eLL M], fun M => M.length ≤ 500 ∧ ∀ ts ∈ M, ts.length ≤ 1000 ∧ ∀ t ∈ ts, 0 ≤ t ∧ t < M.length, fun M r => ∃ cy : List Bool, r = .lst false (eB cy) ∧ cy.length = M.length ∧ ∀ v, v < M.length → (cy.getD v false = true ↔ SL.Cyc M v), fun _ _ => False⟩
abbrev lasD (hs ls : List Int) : D := .tup [eT hs, eT ls]
def us_check_letters (A : Ads) : S0 := ⟨(List Int × List Int) × Int, fun a => [lasD a.1.1 a.1.2, .int a.2], fun a => a.1.2 ≠ [] ∧ (∀ z ∈ a.1.1 ++ a.1.2, 0 ≤ z) ∧ 0 < a.2, fun a r => r = .non ∧ ∀ z ∈ a.1.1 ++ a.1.2, z < a.2, fun a C => C = A.C_InvalidLetter ∧ ¬ ∀ z ∈ a.1.1 ++ a.1.2, z < a.2⟩
def us_flags : S0 := ⟨List Int × Nat, fun a => [eT a.1, .int (a.2 : Nat)], fun a => a.2 ≤ 1000 ∧ ∀ s ∈ a.1, 0 ≤ s ∧ s < (a.2 : Nat), fun a r => r = .lst false (eB ((List.range a.2).map fun (k : Nat) => decide ((k : Int) ∈ a.1))), fun _ _ => False⟩
structure AcA where
  m : Int
  is : List Int
  cs : List Int
  rs : List (List (List Int))
  hs : List Int
  ls : List Int
structure AcOk (a : AcA) : Prop where
  ok : Aok a.m a.is a.cs a.rs
  rl : a.rs.length ≤ 10
  h0 : ∀ z ∈ a.hs, 0 ≤ z
  l0 : ∀ z ∈ a.ls, 0 ≤ z
  ne : 0 < a.ls.length
  ll : a.ls.length ≤ 10
  hl : a.hs.length ≤ 10
abbrev AcB (a : AcA) : Prop := ∀ z ∈ a.hs ++ a.ls, z < a.m
def us_runs (A : Ads) : S0 := ⟨AcA, fun a => [auD A false a.m a.is a.cs a.rs, lasD a.hs a.ls], fun a => AcOk a ∧ AcB a, fun a r => ∃ ps M, r = .tup [.lst false (ps.map eP), eLL M] ∧ RunI a.rs a.hs a.ls a.is ps M ∧ M.length = ps.length ∧ ps.length ≤ 200, fun _ _ => False⟩
def us_accepts (A : Ads) : S0 := ⟨AcA, fun a => [auD A false a.m a.is a.cs a.rs, lasD a.hs a.ls], AcOk, fun a r => r = .bl (ACC a.rs a.is a.cs a.hs a.ls) ∧ AcB a, fun a C => C = A.C_InvalidLetter ∧ ¬ AcB a⟩
def us_law_outcome (A : Ads) : S0 := ⟨AcA, fun a => [auD A false a.m a.is a.cs a.rs, lasD a.hs a.ls], AcOk, fun a r => (AcB a ∧ r = .bl (ACC a.rs a.is a.cs a.hs a.ls)) ∨ (¬ AcB a ∧ r = .non), fun _ _ => False⟩
abbrev eR (rs : List (List (List Int))) : D := .lst false (rs.map eLL)
def us_law_accepts : S0 := ⟨AcA, fun a => [eR a.rs, eL a.is, eL a.cs, lasD a.hs a.ls], fun a => AcOk a ∧ AcB a, fun a r => r = .bl (ACC a.rs a.is a.cs a.hs a.ls), fun _ _ => False⟩
def us_law_lasso : S1 := ⟨List Int × Int × Int, fun a => .lst true (eI a.1), fun a => [.int a.2.1, .int a.2.2], fun a => Dok a.1 ∧ 1 ≤ a.2.1 ∧ 1 ≤ a.2.2 ∧ a.2.2 ≤ 10,
  fun a r f => ∃ ds' hs ls, r = lasD hs ls ∧ Dok ds' ∧ f = .lst true (eI ds') ∧ 0 < ls.length ∧ (ls.length : Int) ≤ a.2.2 ∧ (hs.length : Int) ≤ a.2.2 ∧ (∀ z ∈ hs ++ ls, 0 ≤ z ∧ z < a.2.1), fun _ _ => False⟩
def us_law_ascending : S1 := ⟨List Int × Nat × Int, fun a => .lst true (eI a.1), fun a => [.int (a.2.1 : Nat), .int a.2.2], fun a => Dok a.1 ∧ a.2.1 ≤ 100,
  fun a r f => ∃ ds' ns, r = eL ns ∧ Dok ds' ∧ f = .lst true (eI ds') ∧ asc a.2.1 (-1) ns = true, fun _ _ => False⟩
def us_law_automaton : S1 := ⟨List Int × Nat × Nat, fun a => .lst true (eI a.1), fun a => [.int (a.2.1 : Nat), .int (a.2.2 : Nat)], fun a => Dok a.1 ∧ 1 ≤ a.2.1 ∧ a.2.1 ≤ 10 ∧ 1 ≤ a.2.2 ∧ a.2.2 ≤ 10,
  fun a r f => ∃ ds' is cs rs, r = .tup [eL is, eL cs, eR rs] ∧ Dok ds' ∧ f = .lst true (eI ds') ∧ Aok a.2.1 is cs rs ∧ rs.length ≤ a.2.2, fun _ _ => False⟩
def us_law_copy : S0 := ⟨List (List (List Int)), fun a => [eR a], fun a => a.length ≤ 100 ∧ ∀ r ∈ a, r.length ≤ 100 ∧ ∀ e ∈ r, e.length ≤ 100, fun a r => r = eR a, fun _ _ => False⟩

def sp_Search_init (K : PySem.W.Frag) (A : Ads) : Sp := fun vs H Q E => ∃ (En : SL.En) (F : Hp) (L : Led) (x dx ed : Addr) (es : List Addr), vs = [.ref x, .ref ed] ∧ (SL.St En F H ((x, .ins A.C_Search dx []) :: (dx, .own x) :: L) ∧ SqL K F ed (rv es) ∧ es.length ≤ 1000 ∧ ∀ H' a1 a2 a3 a4 a5, SL.St En F H' (sLed A.C_Search x dx ed a1 a2 a3 a4 a5 ⟨List.replicate es.length (-1), List.replicate es.length 0, List.replicate es.length (-1), 0, 0, [], []⟩ ((dx, .own x) :: L)) → Q .non H')
def sp_Search_enter (K : PySem.W.Frag) (A : Ads) : Sp := fun vs H Q E => ∃ (En : SL.En) (F : Hp) (L : Led) (x dx ed a1 a2 a3 a4 a5 : Addr) (s : SS) (n : Nat), vs = [.ref x, .int n] ∧ (SL.St En F H (sLed A.C_Search x dx ed a1 a2 a3 a4 a5 s L) ∧ n < s.ent.length ∧ s.low.length = s.ent.length ∧ s.ent.length ≤ 1000 ∧ s.path.length ≤ 1000 ∧ s.opn.length ≤ 1000 ∧ ∀ H' p, SL.St En F H' (sLed A.C_Search x dx ed a1 a2 a3 a4 a5 ⟨s.ent.set n s.clock, s.low.set n s.clock, s.cmp, s.total, s.clock + 1, s.path ++ [(p, n, 0)], s.opn ++ [n]⟩ L) → Q .non H')
def sp_Search_run (K : PySem.W.Frag) (A : Ads) : Sp := fun vs H Q E => ∃ (En : SL.En) (F : Hp) (L : Led) (x dx ed a1 a2 a3 a4 a5 : Addr) (s : SS) (u : Nat) (es : List Addr) (M : List (List Int)) (Pr : Nat → Nat → Prop), vs = [.ref x, .int u] ∧ (SL.St En F H (sLed A.C_Search x dx ed a1 a2 a3 a4 a5 s L) ∧ SqL K F ed (rv es) ∧ Rows K F true es M ∧ M.length ≤ 500 ∧ (∀ ts ∈ M, ts.length ≤ 1000 ∧ ∀ t ∈ ts, 0 ≤ t ∧ t < M.length) ∧ Sok M s ∧ s.path = [] ∧ STI M s Pr ∧ u < M.length ∧ s.ent.getD u (-1) < 0 ∧ ∀ H' s' Pr', SL.St En F H' (sLed A.C_Search x dx ed a1 a2 a3 a4 a5 s' L) → Sok M s' → s'.path = [] → STI M s' Pr' → 0 ≤ s'.ent.getD u (-1) → (∀ v, 0 ≤ s.ent.getD v (-1) → 0 ≤ s'.ent.getD v (-1)) → Q .non H')
def sp_Search_leave (K : PySem.W.Frag) (A : Ads) : Sp := fun vs H Q E => ∃ (En : SL.En) (F : Hp) (L : Led) (x dx ed a1 a2 a3 a4 a5 : Addr) (s : SS) (u : Nat) (q : Addr) (i : Nat) (P : List (Addr × Nat × Nat)) (O2 O1 : List Nat), vs = [.ref x, .int u] ∧ (SL.St En F H (sLed A.C_Search x dx ed a1 a2 a3 a4 a5 s L) ∧ s.path = P ++ [(q, u, i)] ∧ s.opn = O2 ++ u :: O1 ∧ s.low.length = s.ent.length ∧ s.cmp.length = s.ent.length ∧ u < s.ent.length ∧ (∀ y ∈ P, y.2.1 < s.ent.length ∧ y.2.1 ≠ u) ∧ u ∉ O1 ∧ (∀ v ∈ O1, v < s.ent.length) ∧ s.path.length ≤ 1000 ∧ s.opn.length ≤ 1000 ∧ (s.low.getD u 0 ≠ s.ent.getD u 0 → ∀ H', SL.St En F H' (sLed A.C_Search x dx ed a1 a2 a3 a4 a5 ⟨s.ent, lvL P s.low u, s.cmp, s.total, s.clock, P, s.opn⟩ L) → Q .non H') ∧ (s.low.getD u 0 = s.ent.getD u 0 → ∀ H', SL.St En F H' (sLed A.C_Search x dx ed a1 a2 a3 a4 a5 ⟨s.ent, lvL P s.low u, clo s.cmp s.total (O1.reverse ++ [u]), s.total + 1, s.clock, P, O2⟩ L) → Q .non H'))
def sp_components (K : PySem.W.Frag) (A : Ads) : Sp := fun vs H Q E => ∃ (F : Hp) (ed : Addr) (es : List Addr) (M : List (List Int)), vs = [.ref ed] ∧ (Same F H ∧ SqL K F ed (rv es) ∧ Rows K F true es M ∧ M.length ≤ 500 ∧ (∀ ts ∈ M, ts.length ≤ 1000 ∧ ∀ t ∈ ts, 0 ≤ t ∧ t < M.length) ∧ ∀ F' H' b cm, cm.length = M.length → (∀ v w, v < M.length → w < M.length → (cm.getD v (-1) = cm.getD w (-1) ↔ SL.Wk M v w ∧ SL.Wk M w v)) → SqL K F' b (iv cm) → SL.St ⟨F, H⟩ F' H' [] → Q (.ref b) H')
def sp_on_cycles (K : PySem.W.Frag) (A : Ads) : Sp := fun vs H Q E => ∃ (F : Hp) (ed : Addr) (es : List Addr) (M : List (List Int)), vs = [.ref ed] ∧ (Same F H ∧ SqL K F ed (rv es) ∧ Rows K F true es M ∧ M.length ≤ 500 ∧ (∀ ts ∈ M, ts.length ≤ 1000 ∧ ∀ t ∈ ts, 0 ≤ t ∧ t < M.length) ∧ ∀ F' H' b cy, cy.length = M.length → (∀ v, v < M.length → (cy.getD v false = true ↔ SL.Cyc M v)) → F' b = some (.lst (bv cy)) → SL.St ⟨F, H⟩ F' H' [] → Q (.ref b) H')
def sp_Places_init (K : PySem.W.Frag) (A : Ads) : Sp := conc1 K (us_Places_init A)
def sp_Places_number_of (K : PySem.W.Frag) (A : Ads) : Sp := conc1 K (us_number_of A)
abbrev sp_Places_waits (K : PySem.W.Frag) (A : Ads) : Sp := (fun K => spWaits K A.C_Places) K
abbrev sp_Places_first_without (K : PySem.W.Frag) (A : Ads) : Sp := (fun K => spFirst K A.C_Places) K
def sp_ascends (K : PySem.W.Frag) (A : Ads) : Sp := conc0 K us_ascends
def sp_check_letters (K : PySem.W.Frag) (A : Ads) : Sp := conc0 K (us_check_letters A)
def sp_Automaton_init (K : PySem.W.Frag) (A : Ads) : Sp := conc1 K (us_Automaton_init A)
def sp_flags (K : PySem.W.Frag) (A : Ads) : Sp := conc0 K us_flags
def sp_accepts (K : PySem.W.Frag) (A : Ads) : Sp := conc0 K (us_accepts A)
def sp_runs (K : PySem.W.Frag) (A : Ads) : Sp := conc0 K (us_runs A)
abbrev sp__law_draws (K : PySem.W.Frag) (A : Ads) : Sp := cp_draws K
abbrev sp__law_take (K : PySem.W.Frag) (A : Ads) : Sp := cp_take K
def sp__law_lasso (K : PySem.W.Frag) (A : Ads) : Sp := conc1 K us_law_lasso
def sp__law_lives (K : PySem.W.Frag) (A : Ads) : Sp := fun vs H Q E => ∃ (F : Hp) (a b c : Addr) (as : List Addr) (M : List (List Int)) (g : List Bool) (st : List Int), vs = [.ref a, .ref b, .ref c] ∧ (Same F H ∧ SqL K F a (rv as) ∧ Rows K F true as M ∧ SqL K F b (bv g) ∧ SqL K F c (iv st) ∧ M.length ≤ 1000 ∧ g.length = M.length ∧ (∀ ts ∈ M, ∀ t ∈ ts, 0 ≤ t ∧ t < M.length) ∧ (∀ t ∈ st, 0 ≤ t ∧ t < M.length) ∧ ∀ H', Same H H' → Q (.bl (LV M g st)) H')
def sp__law_ascending (K : PySem.W.Frag) (A : Ads) : Sp := conc1 K us_law_ascending
def sp__law_automaton (K : PySem.W.Frag) (A : Ads) : Sp := conc1 K us_law_automaton
def sp__law_copy (K : PySem.W.Frag) (A : Ads) : Sp := conc0 K us_law_copy
def sp__law_accepts (K : PySem.W.Frag) (A : Ads) : Sp := fun vs H Q E => ∃ (F : Hp) (kb : Bool) (a b c w : Addr) (as : List Addr) (m : Int) (is cs hs ls : List Int) (rs : List (List (List Int))), vs = [.ref a, .ref b, .ref c, .ref w] ∧ (Same F H ∧ SqB K F a (rv as) kb ∧ Rows2 K F kb as rs ∧ SqB K F b (iv is) kb ∧ SqB K F c (iv cs) kb ∧ LasAt K F w hs ls ∧ (∀ z ∈ hs, 0 ≤ z ∧ z < m) ∧ (∀ z ∈ ls, 0 ≤ z ∧ z < m) ∧ 0 < ls.length ∧ ls.length ≤ 10 ∧ hs.length ≤ 10 ∧ rs.length ≤ 10 ∧ is.length ≤ 100 ∧ cs.length ≤ 100 ∧ (∀ r ∈ rs, (r.length : Int) = m ∧ ∀ e ∈ r, e.length ≤ 1000 ∧ ∀ x ∈ e, 0 ≤ x ∧ x < rs.length) ∧ (∀ x ∈ is, 0 ≤ x ∧ x < rs.length) ∧ ∀ H', Same H H' → Q (.bl (ACC rs is cs hs ls)) H')
def sp__law_outcome (K : PySem.W.Frag) (A : Ads) : Sp := conc0 K (us_law_outcome A)
abbrev sp_law (K : PySem.W.Frag) (A : Ads) : Sp := spL K
def t_Search_init (K : PySem.W.Frag) (A : Ads) (E : XK) : TS := (tSeq (sFld K (tVar 0) (tVar 1) "edges")
 (tSeq (sFld K (tVar 0) (tOp rRep (tLst (tCons (tUn rNegI (tC (.int (1)))) tNil)) (tCB (rLen K) (tCons (tVar 1) tNil))) "entered")
 (tSeq (sFld K (tVar 0) (tOp rRep (tLst (tCons (tC (.int (0))) tNil)) (tCB (rLen K) (tCons (tVar 1) tNil))) "low")
 (tSeq (sFld K (tVar 0) (tOp rRep (tLst (tCons (tUn rNegI (tC (.int (1)))) tNil)) (tCB (rLen K) (tCons (tVar 1) tNil))) "component")
 (tSeq (sFld K (tVar 0) (tC (.int (0))) "total")
 (tSeq (sFld K (tVar 0) (tC (.int (0))) "clock")
 (tSeq (sFld K (tVar 0) (tLst tNil) "path")
 (sFld K (tVar 0) (tLst tNil) "open_nodes"))))))))
def t_Search_enter (K : PySem.W.Frag) (A : Ads) (E : XK) : TS := (tSeq (tAsg (tFld K (tVar 0) "clock") (gSub (tFld K (tVar 0) "entered") (tVar 1) rSetL))
 (tSeq (tAsg (tFld K (tVar 0) "clock") (gSub (tFld K (tVar 0) "low") (tVar 1) rSetL))
 (tSeq (sFldAug K (tVar 0) (tC (.int (1))) L2.rAdd "clock")
 (tSeq (tDrop (tBM K "list" rAppend (tFld K (tVar 0) "open_nodes") (tCons (tVar 1) tNil)))
 (tDrop (tBM K "list" rAppend (tFld K (tVar 0) "path") (tCons (tLst (tCons (tVar 1) (tCons (tC (.int (0))) tNil))) tNil)))))))
def t_Search_run (K : PySem.W.Frag) (A : Ads) (E : XK) : TS := (tSeq (tDrop (tMeth A.C_Search "enter" (sp_Search_enter K A) [] E0 (tVar 0) (tCons (tVar 1) tNil)))
 (tWhile (tTru K (tFld K (tVar 0) "path")) (tSeq (tAsg (tOp (rIxL K) (tFld K (tVar 0) "path") (tUn rNegI (tC (.int (1))))) (gName 2))
 (tSeq (tAsg (tOp (rIxL K) (tVar 2) (tC (.int (0)))) (gName 3))
 (tIfS (tTest (tOp rLtI (tOp (rIxL K) (tVar 2) (tC (.int (1)))) (tCB (rLen K) (tCons (tOp (rIxL K) (tFld K (tVar 0) "edges") (tVar 3)) tNil)))) (tSeq (tAsg (tOp (rIxL K) (tOp (rIxL K) (tFld K (tVar 0) "edges") (tVar 3)) (tOp (rIxL K) (tVar 2) (tC (.int (1))))) (gName 4))
 (tSeq (tAugS (tVar 2) (tC (.int (1))) (tC (.int (1))) (rGetP K) iAddI rSetL)
 (tIfS (tTest (tOp rLtI (tOp (rIxL K) (tFld K (tVar 0) "entered") (tVar 4)) (tC (.int (0))))) (tDrop (tMeth A.C_Search "enter" (sp_Search_enter K A) [] E0 (tVar 0) (tCons (tVar 4) tNil))) (tIfS (tTest (tOp rLtI (tOp (rIxL K) (tFld K (tVar 0) "component") (tVar 4)) (tC (.int (0))))) (tAsg (tCB rMin2 (tCons (tOp (rIxL K) (tFld K (tVar 0) "low") (tVar 3)) (tCons (tOp (rIxL K) (tFld K (tVar 0) "entered") (tVar 4)) tNil))) (gSub (tFld K (tVar 0) "low") (tVar 3) rSetL)) tNext)))) (tDrop (tMeth A.C_Search "leave" (sp_Search_leave K A) [] E0 (tVar 0) (tCons (tVar 3) tNil))))))))
def t_Search_leave_2 (K : PySem.W.Frag) (A : Ads) (E : XK) : TS := (tIfS (tTest (tOp rEq (tOp (rIxL K) (tFld K (tVar 0) "low") (tVar 1)) (tOp (rIxL K) (tFld K (tVar 0) "entered") (tVar 1)))) (tSeq (tAsg (tBM0 K "list" rPop (tFld K (tVar 0) "open_nodes")) (gName 3))
 (tSeq (tAsg (tFld K (tVar 0) "total") (gSub (tFld K (tVar 0) "component") (tVar 3) rSetL))
 (tSeq (tWhile (tTest (tOp rNe (tVar 3) (tVar 1))) (tSeq (tAsg (tBM0 K "list" rPop (tFld K (tVar 0) "open_nodes")) (gName 3))
 (tAsg (tFld K (tVar 0) "total") (gSub (tFld K (tVar 0) "component") (tVar 3) rSetL))))
 (sFldAug K (tVar 0) (tC (.int (1))) L2.rAdd "total")))) tNext)
def t_Search_leave (K : PySem.W.Frag) (A : Ads) (E : XK) : TS := (tSeq (tDrop (tBM0 K "list" rPop (tFld K (tVar 0) "path")))
 (tSeq (tIfS (tTru K (tFld K (tVar 0) "path")) (tSeq (tAsg (tOp (rIxL K) (tOp (rIxL K) (tFld K (tVar 0) "path") (tUn rNegI (tC (.int (1))))) (tC (.int (0)))) (gName 2))
 (tAsg (tCB rMin2 (tCons (tOp (rIxL K) (tFld K (tVar 0) "low") (tVar 2)) (tCons (tOp (rIxL K) (tFld K (tVar 0) "low") (tVar 1)) tNil))) (gSub (tFld K (tVar 0) "low") (tVar 2) rSetL))) tNext)
 (t_Search_leave_2 K A E)))
def t_components (K : PySem.W.Frag) (A : Ads) (E : XK) : TS := (tSeq (tAsg (tMake A.C_Search (sp_Search_init K A) [] E0 (tCons (tVar 0) tNil)) (gName 1))
 (tSeq (tFor (iRng1 (tCons (tCB (rLen K) (tCons (tVar 0) tNil)) tNil)) (gName 2) (tIfS (tTest (tOp rLtI (tOp (rIxL K) (tFld K (tVar 1) "entered") (tVar 2)) (tC (.int (0))))) (tDrop (tMeth A.C_Search "run" (sp_Search_run K A) [] E0 (tVar 1) (tCons (tVar 2) tNil))) tNext))
 (tRet (tFld K (tVar 1) "component"))))
def t_on_cycles (K : PySem.W.Frag) (A : Ads) (E : XK) : TS := (tSeq (tAsg (tCall (sp_components K A) [] E0 (tCons (tVar 0) tNil)) (gName 1))
 (tSeq (tAsg tDNewK (gName 2))
 (tSeq (tFor (iEnum K (tCons (tVar 0) tNil)) (gTup K 2 (gCons (gName 3) (gCons (gName 4) gNil))) (tFor (iList K (tVar 4)) (gName 5) (tIfS (tTest (tOp rEq (tOp (rIxL K) (tVar 1) (tVar 5)) (tOp (rIxL K) (tVar 1) (tVar 3)))) (sDPut (tVar 2) (tOp (rIxL K) (tVar 1) (tVar 3)) (tC (.bl true))) tNext)))
 (tRet (tLc (iList K (tVar 1)) (gName 6) tYes (tDIn (tVar 6) (tVar 2)) [6])))))
def t_Places_init (K : PySem.W.Frag) (A : Ads) (E : XK) : TS := (tSeq (sFld K (tVar 0) (tLst tNil) "order")
 (sFld K (tVar 0) tDNewT "numbers"))
def t_Places_number_of (K : PySem.W.Frag) (A : Ads) (E : XK) : TS := (tSeq (tIfS (tB (tDNotIn (tVar 1) (tFld K (tVar 0) "numbers"))) (tSeq (sDPut (tFld K (tVar 0) "numbers") (tVar 1) (tCB (rLen K) (tCons (tFld K (tVar 0) "order") tNil)))
 (tDrop (tBM K "list" rAppend (tFld K (tVar 0) "order") (tCons (tVar 1) tNil)))) tNext)
 (tRet (tDGet (tFld K (tVar 0) "numbers") (tVar 1))))
def t_Places_waits (K : PySem.W.Frag) (A : Ads) (E : XK) : TS := (tRet (tOp rLtI (tCB (rLen K) (tCons (tVar 1) tNil)) (tCB (rLen K) (tCons (tFld K (tVar 0) "order") tNil))))
def t_Places_first_without (K : PySem.W.Frag) (A : Ads) (E : XK) : TS := (tRet (tOp (rIxL K) (tFld K (tVar 0) "order") (tCB (rLen K) (tCons (tVar 1) tNil))))
def t_ascends (K : PySem.W.Frag) (A : Ads) (E : XK) : TS := (tSeq (tAsg (tUn rNegI (tC (.int (1)))) (gName 2))
 (tSeq (tFor (iSeq K (tVar 0)) (gName 3) (tSeq (tIfS (tOr (tTest (tOp rLeI (tVar 3) (tVar 2))) (tTest (tOp rGeI (tVar 3) (tVar 1)))) (tRet (tC (.bl false))) tNext)
 (tAsg (tVar 3) (gName 2))))
 (tRet (tC (.bl true)))))
def t_check_letters (K : PySem.W.Frag) (A : Ads) (E : XK) : TS := (tSeq (tAsg (tVar 0) (gTup K 2 (gCons (gName 2) (gCons (gName 3) gNil))))
 (tIfS (tOr (tTest (tOp rGeI (tCB (rB_max K) (tCons (tVar 3) tNil)) (tVar 1))) (tTest (tOp rGeI (tCKw (rD_max K) (tCons (tVar 2) tNil) (tCons (tC (.int (0))) tNil)) (tVar 1)))) (tRs A.C_InvalidLetter E) tNext))
def t_Automaton_init (K : PySem.W.Frag) (A : Ads) (E : XK) : TS := (tSeq (tIfS (tOr (tTest (tOp rLtI (tVar 1) (tC (.int (1))))) (tTest (tOp rEq (tCB (rLen K) (tCons (tVar 4) tNil)) (tC (.int (0)))))) (tRs A.C_InvalidAutomaton E) tNext)
 (tSeq (tIfS (tOr (tNot (tB (tCall (sp_ascends K A) [] E0 (tCons (tVar 2) (tCons (tCB (rLen K) (tCons (tVar 4) tNil)) tNil))))) (tNot (tB (tCall (sp_ascends K A) [] E0 (tCons (tVar 3) (tCons (tCB (rLen K) (tCons (tVar 4) tNil)) tNil)))))) (tRs A.C_InvalidAutomaton E) tNext)
 (tSeq (tFor (iSeq K (tVar 4)) (gName 5) (tSeq (tIfS (tTest (tOp rNe (tCB (rLen K) (tCons (tVar 5) tNil)) (tVar 1))) (tRs A.C_InvalidAutomaton E) tNext)
 (tIfS (tNot (tB (tCB (rAll K) (tCons (tLc (iSeq K (tVar 5)) (gName 6) tYes (tCall (sp_ascends K A) [] E0 (tCons (tVar 6) (tCons (tCB (rLen K) (tCons (tVar 4) tNil)) tNil))) [6]) tNil)))) (tRs A.C_InvalidAutomaton E) tNext)))
 (tSeq (sFld K (tVar 0) (tVar 1) "letters")
 (tSeq (sFld K (tVar 0) (tCB (rTupOf K) (tCons (tVar 2) tNil)) "initial")
 (tSeq (sFld K (tVar 0) (tCB (rTupOf K) (tCons (tVar 3) tNil)) "accepting")
 (sFld K (tVar 0) (tCB (rTupOf K) (tCons (tLc (iSeq K (tVar 4)) (gName 5) tYes (tCB (rTupOf K) (tCons (tLc (iSeq K (tVar 5)) (gName 6) tYes (tCB (rTupOf K) (tCons (tVar 6) tNil)) [6]) tNil)) [5]) tNil)) "rows")))))))
def t_flags (K : PySem.W.Frag) (A : Ads) (E : XK) : TS := (tSeq (tAsg (tOp rRep (tLst (tCons (tC (.bl false)) tNil)) (tVar 1)) (gName 2))
 (tSeq (tFor (iTup K (tVar 0)) (gName 3) (tAsg (tC (.bl true)) (gSub (tVar 2) (tVar 3) rSetL)))
 (tRet (tVar 2))))
def t_accepts (K : PySem.W.Frag) (A : Ads) (E : XK) : TS := (tSeq (tDrop (tCall (sp_check_letters K A) [] E (tCons (tVar 1) (tCons (tFld K (tVar 0) "letters") tNil))))
 (tSeq (tAsg (tCall (sp_runs K A) [] E0 (tCons (tVar 0) (tCons (tVar 1) tNil))) (gTup K 2 (gCons (gName 2) (gCons (gName 3) gNil))))
 (tSeq (tAsg (tCall (sp_flags K A) [] E0 (tCons (tFld K (tVar 0) "accepting") (tCons (tCB (rLen K) (tCons (tFld K (tVar 0) "rows") tNil)) tNil))) (gName 4))
 (tSeq (tAsg (tCall (sp_on_cycles K A) [] E0 (tCons (tVar 3) tNil)) (gName 5))
 (tSeq (tFor (iEnum K (tCons (tVar 2) tNil)) (gTup K 2 (gCons (gName 6) (gCons (gTup K 2 (gCons (gName 7) (gCons (gName 8) gNil))) gNil))) (tIfS (tAnd (tB (tOp (rIxL K) (tVar 4) (tVar 8))) (tB (tOp (rIxL K) (tVar 5) (tVar 6)))) (tRet (tC (.bl true))) tNext))
 (tRet (tC (.bl false))))))))
def t_runs (K : PySem.W.Frag) (A : Ads) (E : XK) : TS := (tSeq (tAsg (tVar 1) (gTup K 2 (gCons (gName 2) (gCons (gName 3) gNil))))
 (tSeq (tAsg (tOp (rCatA K) (tCB (rTupOf K) (tCons (tVar 2) tNil)) (tCB (rTupOf K) (tCons (tVar 3) tNil))) (gName 4))
 (tSeq (tAsg (tMake A.C_Places (sp_Places_init K A) [] E0 tNil) (gName 5))
 (tSeq (tFor (iTup K (tFld K (tVar 0) "initial")) (gName 6) (tDrop (tMeth A.C_Places "number_of" (sp_Places_number_of K A) [] E0 (tVar 5) (tCons (tTup (tCons (tC (.int (0))) (tCons (tVar 6) tNil))) tNil))))
 (tSeq (tAsg (tLst tNil) (gName 7))
 (tSeq (tWhile (tB (tMeth A.C_Places "waits" (sp_Places_waits K A) [] E0 (tVar 5) (tCons (tVar 7) tNil))) (tSeq (tAsg (tMeth A.C_Places "first_without" (sp_Places_first_without K A) [] E0 (tVar 5) (tCons (tVar 7) tNil)) (gTup K 2 (gCons (gName 8) (gCons (gName 6) gNil))))
 (tSeq (tAsg (tIf (tTest (tOp rLtI (tOp rAddI (tVar 8) (tC (.int (1)))) (tCB (rLen K) (tCons (tVar 4) tNil)))) (tOp rAddI (tVar 8) (tC (.int (1)))) (tCB (rLen K) (tCons (tVar 2) tNil))) (gName 9))
 (tDrop (tBM K "list" rAppend (tVar 7) (tCons (tLc (iTup K (tOp (rIxT K) (tOp (rIxT K) (tFld K (tVar 0) "rows") (tVar 6)) (tOp (rIxT K) (tVar 4) (tVar 8)))) (gName 10) tYes (tMeth A.C_Places "number_of" (sp_Places_number_of K A) [] E0 (tVar 5) (tCons (tTup (tCons (tVar 9) (tCons (tVar 10) tNil))) tNil)) [10]) tNil))))))
 (tRet (tTup (tCons (tFld K (tVar 5) "order") (tCons (tVar 7) tNil))))))))))
def t__law_draws (K : PySem.W.Frag) (A : Ads) (E : XK) : TS := (tSeq (tAsg (tCB (rListOf K) (tCons (tVar 0) tNil)) (gName 2))
 (tSeq (tIfS (tTest (tOp rEq (tCB (rLen K) (tCons (tVar 2) tNil)) (tC (.int (0))))) (tAsg (tLst (tCons (tC (.int (7))) tNil)) (gName 2)) tNext)
 (tSeq (tAsg (tLst tNil) (gName 3))
 (tSeq (tAsg (tC (.int (12345))) (gName 4))
 (tSeq (tFor (iRng1 (tCons (tVar 1) tNil)) (gName 5) (tSeq (tAsg (tOp rModI (tVar 5) (tCB (rLen K) (tCons (tVar 2) tNil))) (gName 6))
 (tSeq (tAsg (tOp (rIxL K) (tVar 2) (tVar 6)) (gName 7))
 (tSeq (tAsg (tOp rModI (tCB rInt1 (tCons (tOp rAddI (tOp rAddI (tOp rAddI (tOp rMulI (tVar 4) (tC (.int (48271)))) (tOp rMulI (tOp rModI (tCB rInt1 (tCons (tVar 7) tNil)) (tC (.int (1000003)))) (tC (.int (69621))))) (tOp rMulI (tVar 5) (tC (.int (7919))))) (tC (.int (11)))) tNil)) (tC (.int (2147483647)))) (gName 4))
 (tSeq (tAsg (tOp rModI (tCB rInt1 (tCons (tOp rAddI (tOp rAddI (tOp rMulI (tVar 4) (tVar 4)) (tOp rMulI (tC (.int (31))) (tVar 4))) (tVar 5)) tNil)) (tC (.int (1000003)))) (gName 8))
 (tIfS (tTest (tOp rGeI (tVar 7) (tOp rPowI (tC (.int (10))) (tC (.int (18)))))) (tSeq (tDrop (tBM K "list" rAppend (tVar 3) (tCons (tOp rModI (tCB rInt1 (tCons (tVar 7) tNil)) (tC (.int (1000)))) tNil)))
 (tAsg (tOp rDivI (tVar 7) (tC (.int (1000)))) (gSub (tVar 2) (tVar 6) rSetL))) (tDrop (tBM K "list" rAppend (tVar 3) (tCons (tOp rModI (tCB rInt1 (tCons (tVar 8) tNil)) (tC (.int (1000)))) tNil)))))))))
 (tSeq (tDrop (tBM0 K "list" rReverse (tVar 3)))
 (tRet (tVar 3))))))))
def t__law_take (K : PySem.W.Frag) (A : Ads) (E : XK) : TS := (tSeq (tIfS (tTest (tOp rEq (tCB (rLen K) (tCons (tVar 0) tNil)) (tC (.int (0))))) (tRet (tC (.int (0)))) tNext)
 (tRet (tOp rModI (tCB rInt1 (tCons (tBM0 K "list" rPop (tVar 0)) tNil)) (tVar 1))))
def t__law_lasso (K : PySem.W.Frag) (A : Ads) (E : XK) : TS := (tSeq (tAsg (tLc (iRng1 (tCons (tCall (sp__law_take K A) [] E0 (tCons (tVar 0) (tCons (tOp rAddI (tVar 2) (tC (.int (1)))) tNil))) tNil)) (gName 3) tYes (tCall (sp__law_take K A) [] E0 (tCons (tVar 0) (tCons (tVar 1) tNil))) [3]) (gName 4))
 (tSeq (tAsg (tLc (iRng1 (tCons (tOp rAddI (tC (.int (1))) (tCall (sp__law_take K A) [] E0 (tCons (tVar 0) (tCons (tVar 2) tNil)))) tNil)) (gName 3) tYes (tCall (sp__law_take K A) [] E0 (tCons (tVar 0) (tCons (tVar 1) tNil))) [3]) (gName 5))
 (tRet (tTup (tCons (tCB (rTupOf K) (tCons (tVar 4) tNil)) (tCons (tCB (rTupOf K) (tCons (tVar 5) tNil)) tNil))))))
def t__law_lives_2 (K : PySem.W.Frag) (A : Ads) (E : XK) : TS := (tSeq (tFor (iList K (tVar 2)) (gName 11) (tIfS (tB (tOp (rIxL K) (tVar 3) (tVar 11))) (tRet (tC (.bl true))) tNext))
 (tRet (tC (.bl false))))
def t__law_lives (K : PySem.W.Frag) (A : Ads) (E : XK) : TS := (tSeq (tAsg (tOp rRep (tLst (tCons (tC (.bl true)) tNil)) (tCB (rLen K) (tCons (tVar 0) tNil))) (gName 3))
 (tSeq (tFor (iRng1 (tCons (tOp rAddI (tCB (rLen K) (tCons (tVar 0) tNil)) (tC (.int (1)))) tNil)) (gName 4) (tSeq (tAsg (tOp rRep (tLst (tCons (tC (.bl false)) tNil)) (tCB (rLen K) (tCons (tVar 0) tNil))) (gName 5))
 (tSeq (tFor (iRng1 (tCons (tOp rAddI (tCB (rLen K) (tCons (tVar 0) tNil)) (tC (.int (1)))) tNil)) (gName 6) (tSeq (tAsg (tC (.bl false)) (gName 7))
 (tSeq (tFor (iRng1 (tCons (tCB (rLen K) (tCons (tVar 0) tNil)) tNil)) (gName 8) (tSeq (tAsg (tOp rSubI (tOp rSubI (tCB (rLen K) (tCons (tVar 0) tNil)) (tC (.int (1)))) (tVar 8)) (gName 9))
 (tIfS (tAnd (tB (tOp (rIxL K) (tVar 3) (tVar 9))) (tNot (tB (tOp (rIxL K) (tVar 5) (tVar 9))))) (tFor (iList K (tOp (rIxL K) (tVar 0) (tVar 9))) (gName 10) (tIfS (tAnd (tB (tOp (rIxL K) (tVar 3) (tVar 10))) (tOr (tB (tOp (rIxL K) (tVar 1) (tVar 10))) (tB (tOp (rIxL K) (tVar 5) (tVar 10))))) (tSeq (tAsg (tC (.bl true)) (gSub (tVar 5) (tVar 9) rSetL))
 (tAsg (tC (.bl true)) (gName 7))) tNext)) tNext)))
 (tIfS (tNot (tB (tVar 7))) tBreak tNext))))
 (tSeq (tIfS (tTest (tOp (rEqD K) (tVar 5) (tVar 3))) tBreak tNext)
 (tAsg (tVar 5) (gName 3))))))
 (t__law_lives_2 K A E)))
def t__law_ascending (K : PySem.W.Frag) (A : Ads) (E : XK) : TS := (tRet (tLc (iRng1 (tCons (tVar 1) tNil)) (gName 3) (tTest (tOp rLtI (tCall (sp__law_take K A) [] E0 (tCons (tVar 0) (tCons (tC (.int (10))) tNil))) (tVar 2))) (tVar 3) [3]))
def t__law_automaton_5 (K : PySem.W.Frag) (A : Ads) (E : XK) : TS := (tSeq (tAsg (tLst tNil) (gName 7))
 (tSeq (tFor (iRng1 (tCons (tVar 3) tNil)) (gName 8) (tDrop (tBM K "list" rAppend (tVar 7) (tCons (tLc (iRng1 (tCons (tVar 1) tNil)) (gName 9) tYes (tCall (sp__law_ascending K A) [] E0 (tCons (tVar 0) (tCons (tVar 3) (tCons (tVar 4) tNil)))) [9]) tNil))))
 (tRet (tTup (tCons (tVar 5) (tCons (tVar 6) (tCons (tVar 7) tNil)))))))
def t__law_automaton (K : PySem.W.Frag) (A : Ads) (E : XK) : TS := (tSeq (tAsg (tOp rAddI (tC (.int (1))) (tCall (sp__law_take K A) [] E0 (tCons (tVar 0) (tCons (tVar 2) tNil)))) (gName 3))
 (tSeq (tAsg (tOp rAddI (tC (.int (2))) (tCall (sp__law_take K A) [] E0 (tCons (tVar 0) (tCons (tC (.int (4))) tNil)))) (gName 4))
 (tSeq (tAsg (tCall (sp__law_ascending K A) [] E0 (tCons (tVar 0) (tCons (tVar 3) (tCons (tC (.int (5))) tNil)))) (gName 5))
 (tSeq (tAsg (tCall (sp__law_ascending K A) [] E0 (tCons (tVar 0) (tCons (tVar 3) (tCons (tC (.int (5))) tNil)))) (gName 6))
 (tSeq (tIfS (tAnd (tTest (tOp rEq (tCB (rLen K) (tCons (tVar 5) tNil)) (tC (.int (0))))) (tTest (tOp rGtI (tCall (sp__law_take K A) [] E0 (tCons (tVar 0) (tCons (tC (.int (4))) tNil))) (tC (.int (0)))))) (tAsg (tLst (tCons (tC (.int (0))) tNil)) (gName 5)) tNext)
 (t__law_automaton_5 K A E))))))
def t__law_copy (K : PySem.W.Frag) (A : Ads) (E : XK) : TS := (tRet (tLc (iList K (tVar 0)) (gName 1) tYes (tLc (iList K (tVar 1)) (gName 2) tYes (tCB (rListOf K) (tCons (tVar 2) tNil)) [2]) [1]))
def t__law_accepts_5 (K : PySem.W.Frag) (A : Ads) (E : XK) : TS := (tRet (tCall (sp__law_lives K A) [] E0 (tCons (tVar 6) (tCons (tVar 7) (tCons (tLc (iSeq K (tVar 1)) (gName 8) tYes (tOp rMulI (tVar 8) (tVar 5)) [8]) tNil)))))
def t__law_accepts (K : PySem.W.Frag) (A : Ads) (E : XK) : TS := (tSeq (tAsg (tOp rCat (tCB (rListOf K) (tCons (tOp (rIxT K) (tVar 3) (tC (.int (0)))) tNil)) (tCB (rListOf K) (tCons (tOp (rIxT K) (tVar 3) (tC (.int (1)))) tNil))) (gName 4))
 (tSeq (tAsg (tCB (rLen K) (tCons (tVar 4) tNil)) (gName 5))
 (tSeq (tAsg (tLst tNil) (gName 6))
 (tSeq (tAsg (tLst tNil) (gName 7))
 (tSeq (tFor (iRng1 (tCons (tCB (rLen K) (tCons (tVar 0) tNil)) tNil)) (gName 8) (tFor (iRng1 (tCons (tVar 5) tNil)) (gName 9) (tSeq (tAsg (tOp rAddI (tVar 9) (tC (.int (1)))) (gName 10))
 (tSeq (tIfS (tTest (tOp rEq (tVar 10) (tVar 5))) (tAsg (tCB (rLen K) (tCons (tOp (rIxT K) (tVar 3) (tC (.int (0)))) tNil)) (gName 10)) tNext)
 (tSeq (tDrop (tBM K "list" rAppend (tVar 6) (tCons (tLc (iSeq K (tOp (rIx K) (tOp (rIx K) (tVar 0) (tVar 8)) (tOp (rIxL K) (tVar 4) (tVar 9)))) (gName 11) tYes (tOp rAddI (tOp rMulI (tVar 11) (tVar 5)) (tVar 10)) [11]) tNil)))
 (tDrop (tBM K "list" rAppend (tVar 7) (tCons (tOp (rIn K false) (tVar 8) (tVar 2)) tNil))))))))
 (t__law_accepts_5 K A E))))))
def t__law_outcome (K : PySem.W.Frag) (A : Ads) (E : XK) : TS := (tSeq (fun D σ H => (fun W : WX => (tAsg (tCallS (sp_accepts K A) (WE W) (tCons (tVar 0) (tCons (tVar 1) tNil))) (gName 2))) (wMany K (fun _ _ _ _ => False) D [(.ref A.C_InvalidLetter, fun a cls d => (tRet (tC .non)))]) D σ H)
 (tRet (tIf (tTest (tOp rIsNone (tVar 2) (tC .non))) (tC (.str "nothing")) (tVar 2))))
def t_law_10 (K : PySem.W.Frag) (A : Ads) (E : XK) : TS := (tSeq (tIfS (tOr (tNot (tB (tCB (rIsi K) (tCons (tVar 11) (tCons (tC (.ty "bool")) tNil))))) (tTest (tOp rNe (tVar 11) (tVar 10)))) (tRet (tC (.bl false))) tNext)
 (tRet (tAndV (tOp rEq (tVar 12) (tCall (sp__law_accepts K A) [] E0 (tCons (tVar 5) (tCons (tVar 3) (tCons (tVar 4) (tCons (tVar 8) tNil)))))) (tOp rEq (tCall (sp__law_outcome K A) [] E0 (tCons (tVar 6) (tCons (tVar 7) tNil))) (tVar 10)))))
def t_law_7 (K : PySem.W.Frag) (A : Ads) (E : XK) : TS := (tSeq (tAsg (tCall (sp__law_accepts K A) [] E0 (tCons (tVar 5) (tCons (tVar 3) (tCons (tVar 4) (tCons (tVar 7) tNil))))) (gName 10))
 (tSeq (tAsg (tCall (sp__law_outcome K A) [] E0 (tCons (tVar 6) (tCons (tVar 7) tNil))) (gName 11))
 (tSeq (tAsg (tCall (sp__law_outcome K A) [] E0 (tCons (tVar 6) (tCons (tVar 8) tNil))) (gName 12))
 (t_law_10 K A E))))
def t_law_6 (K : PySem.W.Frag) (A : Ads) (E : XK) : TS := (tSeq (tIfS (tTest (tOp rEq (tCall (sp__law_take K A) [] E0 (tCons (tVar 1) (tCons (tC (.int (8))) tNil))) (tC (.int (0))))) (tSeq (tAsg (tOp rCat (tCB (rListOf K) (tCons (tOp (rIxT K) (tVar 7) (tC (.int (0)))) tNil)) (tLst (tCons (tOp rAddI (tVar 2) (tCall (sp__law_take K A) [] E0 (tCons (tVar 1) (tCons (tC (.int (2))) tNil)))) tNil))) (gName 9))
 (tRet (tOp rIsNone (tCall (sp__law_outcome K A) [] E0 (tCons (tVar 6) (tCons (tTup (tCons (tCB (rTupOf K) (tCons (tVar 9) tNil)) (tCons (tOp (rIxT K) (tVar 7) (tC (.int (1)))) tNil))) tNil))) (tC .non)))) tNext)
 (t_law_7 K A E))
def t_law (K : PySem.W.Frag) (A : Ads) (E : XK) : TS := (tSeq (tAsg (tCall (sp__law_draws K A) [] E0 (tCons (tVar 0) (tCons (tC (.int (200))) tNil))) (gName 1))
 (tSeq (tAsg (tOp rAddI (tC (.int (1))) (tCall (sp__law_take K A) [] E0 (tCons (tVar 1) (tCons (tC (.int (3))) tNil)))) (gName 2))
 (tSeq (tAsg (tCall (sp__law_automaton K A) [] E0 (tCons (tVar 1) (tCons (tVar 2) (tCons (tC (.int (5))) tNil)))) (gTup K 3 (gCons (gName 3) (gCons (gName 4) (gCons (gName 5) gNil)))))
 (tSeq (tAsg (tMake A.C_Automaton (sp_Automaton_init K A) [] E0 (tCons (tVar 2) (tCons (tCB (rListOf K) (tCons (tVar 3) tNil)) (tCons (tCB (rListOf K) (tCons (tVar 4) tNil)) (tCons (tCall (sp__law_copy K A) [] E0 (tCons (tVar 5) tNil)) tNil))))) (gName 6))
 (tSeq (tAsg (tCall (sp__law_lasso K A) [] E0 (tCons (tVar 1) (tCons (tVar 2) (tCons (tC (.int (4))) tNil)))) (gName 7))
 (tSeq (tAsg (tCall (sp__law_lasso K A) [] E0 (tCons (tVar 1) (tCons (tVar 2) (tCons (tC (.int (4))) tNil)))) (gName 8))
 (t_law_6 K A E)))))))

section

set_option hygiene false
local macro_rules | `(tactic| walk_at "m") => `(tactic| first | exact List.Mem.head _ | (refine List.Mem.tail _ ?_; walk_at "m"))
local macro_rules | `(tactic| walk_at "u") => `(tactic| first | exact Upd.head | (apply Upd.tail; walk_at "u"))
local macro_rules | `(tactic| walk_at "tk") => `(tactic| first | exact Tak.head | (apply Tak.tail; walk_at "tk"))
local macro_rules | `(tactic| walk_at "l") => `(tactic| first | assumption | exact lS (St.fh (by assumption)) (by assumption) | exact SqL.of (St.get (by assumption) (by walk_at "m")))
local macro_rules | `(tactic| walk_at "t") => `(tactic| first | assumption | exact tS (St.fh (by assumption)) (by assumption) | exact SqT.of (St.get (by assumption) (by walk_at "m")))
local macro_rules | `(tactic| walk_at "lt") => `(tactic| first | exact .inl (by walk_at "l") | exact .inr (by walk_at "t"))
local macro_rules | `(tactic| walk_at "sz") => `(tactic| first | (show _ ≤ sizeLine; decide) | exact sz (by simp) | exact szl (by simp) | exact sz (by omega) | exact szl (by omega) | exact sz (by simp; omega) | exact szl (by simp; omega))
local macro_rules | `(tactic| walk_at "c") => `(tactic| first | assumption | decide | omega)
local macro_rules | `(tactic| walk_at "g1") => `(tactic| with_reducible first
  | refine w_seq ?_ | refine w_asg ?_ | refine w_c ?_ | refine w_op ?_
  | refine r_I0 ?_ | refine w_test ?_ | refine r_b ?_ | refine w_if ?_ | refine w_cons ?_ | refine w_nil ?_
  | refine w_ret ?_ | refine w_drop ?_ | refine w_cb ?_ | refine w_call ?_ | refine w_next ?_ | refine w_tup ?_ | refine w_lst ?_ | refine w_bm ?_ | refine w_bm0 ?_
  | refine w_and ?_ | refine w_or ?_ | refine w_not ?_ | refine w_andV ?_ | refine w_orV ?_ | refine w_notV ?_ | refine w_tB ?_ | refine w_un ?_ | refine r_U ?_
  | refine w_for ?_ | refine w_iL ?_ | refine w_iT ?_ | refine w_i1 ?_ | refine w_i2 ?_ | refine w_sl ?_ | refine w_part ?_ | refine w_nopart ?_ | refine r_part ?_
  | refine r_eqI ?_ | refine r_neI ?_ | refine r_eqS ?_ | refine r_neS ?_ | refine r_eqB ?_ | refine r_neB ?_ | refine r_ifT ?_ | refine r_ifF ?_ | refine r_ifNt ?_ | refine r_ifNf ?_ | refine r_ifRN ?_ | refine r_ifNRN ?_ | refine r_ifNN ?_ | refine r_ifNNN ?_
  | refine w_ifE ?_ | refine r_int1 ?_ | refine r_int1b ?_ | refine r_isnone ?_ | refine r_notnone ?_ | refine r_max2 ?_ | refine r_min2 ?_ | refine r_ipI ?_ | refine w_tru ?_ | refine w_rs ?_
  | refine w_retN ?_ | refine w_break ?_ | refine w_cont ?_ | refine w_callS ?_ | refine w_asgG ?_ | refine w_gsub ?_ | refine w_fld ?_ | refine w_sfld ?_ | refine w_mk ?_ | refine w_lc ?_ | refine w_iSq ?_ | refine u_isint ?_ | refine w_dnew ?_ | refine w_dnotin ?_ | refine w_din ?_ | refine w_dget ?_ | refine w_dput ?_ | refine w_ckw ?_)
local macro_rules | `(tactic| walk_at "g2") => `(tactic| first
  | ((with_reducible refine' w_var ?hv ?_); (case hv => rfl)) | ((with_reducible refine' w_aug ?hv ?_); (case hv => rfl))
  | ((with_reducible show rLen _ _ _ _); refine r_len (by walk_at "lt") ?_)
  | (with_reducible refine r_I ?cnd ?_; (case cnd => first | decide | omega | assumption | (unfold CPow; decide)))
  | ((with_reducible show RTy _ _ _ _ _); refine r_tyL (by walk_at "l") ?_)
  | (with_reducible refine r_ifDT (by walk_at "c") ?_) | (with_reducible refine r_ifDF (by walk_at "c") ?_)
  | (with_reducible refine r_ifNT (by walk_at "c") ?_) | (with_reducible refine r_ifNF (by walk_at "c") ?_))
local macro_rules | `(tactic| walk_at "go") => `(tactic| repeat (first | walk_at "g1" | walk_at "g2"))

set_option hygiene false
local macro_rules | `(tactic| walk_at "fo") => `(tactic| first | assumption | (constructor <;> first | exact T.cl_Automaton | assumption))
local macro_rules | `(tactic| walk_at "pu") => `(tactic| first | rfl | assumption | exact sqD_p | exact sqI_p (by assumption) | exact sqR_p (by assumption))
local macro_rules | `(tactic| walk_at "pa") => `(tactic| first | exact all_nil | (refine all_cons ?_ ?_; (first | walk_at "pu" | exact pureD_ref (by walk_at "pu")); walk_at "pa"))
local macro_rules | `(tactic| walk_at "cl") => `(tactic| first | rfl | exact cloL_p (by walk_at "pa") | exact clo_p (by walk_at "pu"))
local macro_rules | `(tactic| walk_at "vw") => `(tactic| first | rfl | exact vw_p (pureD_ref (by walk_at "pu")) | exact vwL_p (by walk_at "pa"))
local macro_rules | `(tactic| walk_at "fl") => `(tactic| first | rfl | exact fLen_sq | exact fTup_sq | exact fList_sq)
local macro_rules | `(tactic| walk_at "ap") => `(tactic| first | rfl | exact fApp_ok (by walk_at "sz2"))
local macro_rules | `(tactic| walk_at "sz2") => `(tactic| first | exact szl (by omega) | exact sz (by omega) | exact szl (by simp; omega) | exact sz (by simp; omega) | exact szl (by simp) | exact sz (by simp))
local macro_rules | `(tactic| walk_at "st") => `(tactic| simp only [putAt_z, putAt_s, put_nil, sd0, uwipe, rst, pureO, List.getElem?_cons_zero, List.getElem?_cons_succ, List.set_cons_zero, List.set_cons_succ, List.map_cons, List.map_nil, List.cons_append, List.nil_append, List.length_cons, List.length_nil, Nat.reduceAdd, Nat.reduceSub, List.replicate_succ, List.replicate_zero])
local macro_rules | `(tactic| walk_at "k1") => `(tactic| with_reducible first
  | refine x_seq ?_ | refine x_asg ?_ | refine x_c ?_ | refine x_op ?_ | refine x_cons ?_ | refine x_nil ?_ | refine x_cb ?_ | refine x_un ?_ | refine x_opI ?_ | refine x_consI ?_
  | refine x_ifS ?_ | refine x_b ?_ | refine x_bl ?_ | refine x_ret ?_ | refine x_drop ?_ | refine x_next ?_ | refine x_retN ?_ | refine x_and ?_ | refine x_or ?_ | refine x_not ?_ | refine x_andV ?_ | refine x_orV ?_ | refine x_notV ?_
  | refine x_if ?_ | refine x_yes ?_ | refine x_tru ?_ | refine x_ifT ?_ | refine x_ifF ?_ | refine x_tup ?_ | refine x_tupR ?_ | refine x_lst ?_ | refine x_call ?_ | refine x_part ?_ | refine x_noPart ?_ | refine x_int ?_ | refine x_sl ?_ | refine x_rs ?_ | refine x_break ?_ | refine x_cont ?_ | refine x_for ?_ | refine x_iter ?_ | refine x_iterL ?_ | refine x_iterT ?_ | refine x_rng1 ?_ | refine x_rng2 ?_ | refine x_enum ?_ | refine x_sfld ?_ | refine x_fldO ?_ | refine x_bm1 ?_ | refine x_bm0 ?_ | refine x_lc ?_ | refine x_dnewT ?_ | refine x_dnewK ?_ | refine x_call1 ?_ | refine x_make ?_ | refine x_meth ?_ | refine x_dputR ?_ | refine x_dput ?_ | refine x_gtup ?_ | refine x_gnil ?_ | refine x_gcons ?_ | refine x_gsub ?_ | refine x_ckw ?_)
local macro_rules | `(tactic| walk_at "k2") => `(tactic| first
  | ((with_reducible refine' x_varP ?h1 ?h2 ?_); (case h1 => rfl); (case h2 => first | rfl | assumption | exact pureD_root (by walk_at "pu")))
  | ((with_reducible refine' x_varO ?h1 ?h2 ?_); (case h1 => rfl); (case h2 => rfl))
  | ((with_reducible refine' x_name ?h1 ?_); (case h1 => first | rfl | assumption | exact pureD_ref (by walk_at "pu")))
  | ((with_reducible refine' x_nameR ?h1 ?_); (case h1 => rfl))
  | ((with_reducible refine' x_stab ?h1 ?_); (case h1 => first | rfl | assumption))
  | ((with_reducible refine' x_uop ?h1 ?h2 ?h3 ?_); (case h1 => walk_at "vw"); (case h2 => walk_at "vw"); (case h3 => walk_at "fl"))
  | ((with_reducible refine' x_uun ?h1 ?h3 ?_); (case h1 => walk_at "vw"); (case h3 => walk_at "fl"))
  | ((with_reducible refine' x_un' ?h1 ?h3 ?_); (case h1 => walk_at "vw"); (case h3 => walk_at "fl"))
  | (with_reducible refine x_itemsQ ?_) | (with_reducible refine x_itemsL ?_) | (with_reducible refine x_itemsU ?_)
  | ((with_reducible refine' x_clo ?h1 ?_); (case h1 => walk_at "cl"))
  | ((with_reducible refine' x_items ?h1 ?_); (case h1 => rfl)) | ((with_reducible refine' x_itemsT ?h1 ?_); (case h1 => rfl)) | ((with_reducible refine' x_en ?h1 ?_); (case h1 => rfl))
  | ((with_reducible refine' x_cloL ?h1 ?h2 ?_); (case h1 => (show _ ≤ sizeLine; first | decide | exact sz (by simp))); (case h2 => walk_at "cl"))
  | ((with_reducible refine' x_sf ?h1 ?h2 ?h3 ?h4 ?_); (case h1 => first | rfl | exact pureD_ref (by walk_at "pu")); (case h2 => rfl); (case h3 => walk_at "fo"); (case h4 => (show _ < 1000; decide)); (try simp (decide := true) only [updF, if_neg]); (try walk_at "st"))
  | ((with_reducible refine' x_fi ?h1 ?h2 ?h3 ?_); (case h1 => walk_at "fo"); (case h2 => rfl); (case h3 => rfl))
  | ((with_reducible refine' x_fo ?h1 ?h2 ?h3 ?h4 ?_); (case h1 => rfl); (case h2 => walk_at "fo"); (case h3 => rfl); (case h4 => rfl))
  | ((with_reducible refine' x_foO ?h1 ?h2 ?h3 ?h4 ?_); (case h1 => rfl); (case h2 => walk_at "fo"); (case h3 => rfl); (case h4 => rfl))
  | ((with_reducible refine' x_mrec ?h1 ?h2 ?h3 ?_); (case h1 => rfl); (case h2 => decide); (case h3 => (intro _; rfl)))
  | ((with_reducible refine' x_gt ?h1 ?h2 ?_); (case h1 => rfl); (case h2 => rfl)) | ((with_reducible refine' x_gr ?h1 ?h2 ?_); (case h1 => rfl); (case h2 => rfl))
  | ((with_reducible refine' x_bmA ?h1 ?h2 ?h3 ?_); (case h1 => rfl); (case h2 => rfl); (case h3 => first | (intro _; rfl) | (intro h; cases h)))
  | ((with_reducible refine' x_bmB ?h1 ?h2 ?h3 ?_); (case h1 => walk_at "cl"); (case h2 => rfl); (case h3 => walk_at "ap"); (try walk_at "st"))
  | ((with_reducible refine' x_bmC ?h1 ?h2 ?h3 ?_); (case h1 => rfl); (case h2 => rfl); (case h3 => walk_at "fl"); (try walk_at "st"))
  | ((with_reducible refine' x_aug ?h1 ?h2 ?_); (case h1 => rfl); (case h2 => rfl)))
local macro_rules | `(tactic| walk_at "k") => `(tactic| repeat (first | walk_at "k1" | walk_at "k2"))

local macro_rules | `(tactic| walk_at "fo") => `(tactic| first
  | exact ⟨T.cl_Automaton, by first | exact T.na_Automaton_letters | exact T.na_Automaton_initial | exact T.na_Automaton_accepting | exact T.na_Automaton_rows⟩
  | exact ⟨T.cl_Places, by first | exact T.na_Places_order | exact T.na_Places_numbers⟩)
variable {vs : List V} {H : Hp} {Q : VK} {E : XK} {K : PySem.W.Frag} {A : Ads}
theorem ad__law_take (vs : List V) (H : Hp) (Q : VK) (E : XK) (h : conc1 K us_take vs H Q E) : sp__law_take K A vs H Q E := ad0_take h
theorem ad__law_draws (vs : List V) (H : Hp) (Q : VK) (E : XK) (h : conc0 K us_draws vs H Q E) : sp__law_draws K A vs H Q E := ad0_draws h
theorem ad_on_cycles (vs : List V) (H : Hp) (Q : VK) (E : XK) (h : conc0 K us_on_cycles vs H Q E) : sp_on_cycles K A vs H Q E := by
  obtain ⟨F, M, fh, o, ⟨h1, h2⟩, k, _⟩ := h
  obtain ⟨v, vs', rfl, o1, o2⟩ := o.head
  obtain ⟨rfl, _⟩ : vs' = [] ∧ _ := o2
  rw [UL.Own] at o1
  obtain ⟨a, ws, rfl, _, hF, oI⟩ := o1
  obtain ⟨es, rfl, hR⟩ := own_rows oI
  refine ⟨F, a, es, M, rfl, fh, SqL.of hF, hR, h1, h2, fun F' H' b cy q1 q2 q3 G => ?_⟩
  exact k F' H' (.ref b) [] (.lst false (eB cy)) G ⟨cy, rfl, q1, q2⟩ (by rw [UL.Own]; exact ⟨b, _, rfl, rfl, q3, own_eB'⟩)
theorem own_rows2 : ∀ {rs : List (List (List Int))} {ws : List V} {F : Hp}, OwnL K F (rs.map eLL) ws [] → ∃ as, ws = rv as ∧ Rows2 K F true as rs
  | [], ws, F, h => ⟨[], h.1, .nil⟩
  | r :: rs, ws, F, h => by
    obtain ⟨v, vs', rfl, h3, h4⟩ := h.head
    rw [UL.Own] at h3
    obtain ⟨a, us, rfl, _, hF, oI⟩ := h3
    obtain ⟨es, rfl, hR⟩ := own_rows oI
    obtain ⟨as, rfl, hR2⟩ := own_rows2 h4
    exact ⟨a :: as, rfl, .cons (SqL.of hF) hR hR2⟩
theorem ad__law_accepts (vs : List V) (H : Hp) (Q : VK) (E : XK) (h : conc0 K us_law_accepts vs H Q E) : sp__law_accepts K A vs H Q E := by
  obtain ⟨F, a, fh, o, ⟨h1, h2⟩, k, _⟩ := h
  obtain ⟨v, vs', rfl, o1, o⟩ := o.head
  obtain ⟨v2, vs', rfl, o2, o⟩ := o.head
  obtain ⟨v3, vs', rfl, o3, o⟩ := o.head
  obtain ⟨v4, vs', rfl, o4, o⟩ := o.head
  obtain ⟨rfl, _⟩ : vs' = [] ∧ _ := o
  rw [UL.Own] at o1
  obtain ⟨x, ws, rfl, _, hF, oI⟩ := o1
  obtain ⟨as, rfl, hR⟩ := own_rows2 oI
  obtain ⟨x2, rfl, _, hF2⟩ := own_eL o2
  obtain ⟨x3, rfl, _, hF3⟩ := own_eL o3
  rw [UL.Own] at o4
  obtain ⟨x4, us, rfl, _, hF4, o5⟩ := o4
  obtain ⟨w1, us', rfl, p1, p2⟩ := o5.head
  obtain ⟨w2, us', rfl, p3, p4⟩ := p2.head
  obtain ⟨rfl, _⟩ : us' = [] ∧ _ := p4
  obtain ⟨y1, rfl, _, hG1⟩ := own_eT p1
  obtain ⟨y2, rfl, _, hG2⟩ := own_eT p3
  have bd : ∀ {e : List Int}, asc a.rs.length (-1) e = true → e.length ≤ 100 ∧ ∀ x ∈ e, 0 ≤ x ∧ x < a.rs.length := fun {e} q => ⟨by have := asc_len q (by omega); have := h1.rl; omega, fun x hx => by have := (asc_iff.mp q).1 x hx; omega⟩
  have bi := bd h1.ok.ai
  have bc := bd h1.ok.ac
  refine ⟨F, true, x, x2, x3, x4, as, a.m, a.is, a.cs, a.hs, a.ls, a.rs, rfl, fh, SqL.of hF, hR, SqL.of hF2, SqL.of hF3, ⟨⟨y1, y2, hF4, hG1, hG2⟩⟩, fun z hz => ⟨h1.h0 z hz, h2 z (List.mem_append_left _ hz)⟩, fun z hz => ⟨h1.l0 z hz, h2 z (List.mem_append_right _ hz)⟩, h1.ne, h1.ll, h1.hl, h1.rl, bi.1, bc.1, fun r hr => ⟨(h1.ok.rr r hr).1, fun e he => ⟨by have := (bd ((h1.ok.rr r hr).2 e he)).1; omega, (bd ((h1.ok.rr r hr).2 e he)).2⟩⟩, bi.2, fun H' hs => ?_⟩
  exact k F H' (.bl _) [] (.bl _) ((SL.St.init fh).grow hs) rfl ⟨rfl, rfl⟩
theorem ad_Places_init (vs : List V) (H : Hp) (Q : VK) (E : XK) (h : conc1 K (us_Places_init A) vs H Q E) : sp_Places_init K A vs H Q E := h
theorem ad_Places_number_of (vs : List V) (H : Hp) (Q : VK) (E : XK) (h : conc1 K (us_number_of A) vs H Q E) : sp_Places_number_of K A vs H Q E := h
theorem ad_ascends (vs : List V) (H : Hp) (Q : VK) (E : XK) (h : conc0 K us_ascends vs H Q E) : sp_ascends K A vs H Q E := h
theorem ad_check_letters (vs : List V) (H : Hp) (Q : VK) (E : XK) (h : conc0 K (us_check_letters A) vs H Q E) : sp_check_letters K A vs H Q E := h
theorem ad_Automaton_init (vs : List V) (H : Hp) (Q : VK) (E : XK) (h : conc1 K (us_Automaton_init A) vs H Q E) : sp_Automaton_init K A vs H Q E := h
theorem ad_flags (vs : List V) (H : Hp) (Q : VK) (E : XK) (h : conc0 K us_flags vs H Q E) : sp_flags K A vs H Q E := h
theorem ad_accepts (vs : List V) (H : Hp) (Q : VK) (E : XK) (h : conc0 K (us_accepts A) vs H Q E) : sp_accepts K A vs H Q E := h
theorem ad_runs (vs : List V) (H : Hp) (Q : VK) (E : XK) (h : conc0 K (us_runs A) vs H Q E) : sp_runs K A vs H Q E := h
theorem ad__law_lasso (vs : List V) (H : Hp) (Q : VK) (E : XK) (h : conc1 K us_law_lasso vs H Q E) : sp__law_lasso K A vs H Q E := h
theorem ad__law_ascending (vs : List V) (H : Hp) (Q : VK) (E : XK) (h : conc1 K us_law_ascending vs H Q E) : sp__law_ascending K A vs H Q E := h
theorem ad__law_automaton (vs : List V) (H : Hp) (Q : VK) (E : XK) (h : conc1 K us_law_automaton vs H Q E) : sp__law_automaton K A vs H Q E := h
theorem ad__law_copy (vs : List V) (H : Hp) (Q : VK) (E : XK) (h : conc0 K us_law_copy vs H Q E) : sp__law_copy K A vs H Q E := h
theorem ad__law_outcome (vs : List V) (H : Hp) (Q : VK) (E : XK) (h : conc0 K (us_law_outcome A) vs H Q E) : sp__law_outcome K A vs H Q E := h
def u_Places_init (K : PySem.W.Frag) (A : Ads) : UTS := (uSeq (uSFld K (uVar 0) (uLst uNil) "order")
 (uSFld K (uVar 0) uDNewT "numbers"))
theorem ru_Places_init (T : Cl K A) (E : XK) : RS K [0] (fun _ => E) (t_Places_init K A E) (u_Places_init K A) := by
  unfold t_Places_init u_Places_init
  exact (rs_seq (rs_sfld (re_lst ra_nil) re_var)
 (rs_sfld re_dnewT re_var))
def u_Places_number_of (K : PySem.W.Frag) (A : Ads) : UTS := (uSeq (uIfS (uB (uOp (fDIn true) (uVar 1) (uFld K (uVar 0) "numbers"))) (uSeq (uDPutR (uFld K (uVar 0) "numbers") (uVar 1) (uCB fLen (uCons (uFld K (uVar 0) "order") uNil)))
 (uDrop (uBM1 fAppend false (uFld K (uVar 0) "order") (uVar 1)))) uNext)
 (uRet (uOp fDGet (uFld K (uVar 0) "numbers") (uVar 1))))
theorem ru_Places_number_of (T : Cl K A) (E : XK) : RS K [0] (fun _ => E) (t_Places_number_of K A E) (u_Places_number_of K A) := by
  unfold t_Places_number_of u_Places_number_of
  exact (rs_seq (rs_if (rt_b (re_dnotin re_var (re_fld re_var))) (rs_seq (rs_dputR (re_cb o_len (ra_cons (re_fld re_var) ra_nil)) (re_fld re_var) re_var)
 (rs_drop (re_bm1 (chk := false) om_append (re_fld re_var) re_var (.inl rfl)))) rs_next)
 (rs_ret (re_dget (re_fld re_var) re_var)))
def u_ascends (K : PySem.W.Frag) (A : Ads) : UTS := (uSeq (uAsg (uUn fNegI (uC (.int (1)))) (uName 2))
 (uSeq (uFor (uIter (uVar 0)) (uName 3) (uSeq (uIfS (uOr (uB (uOp fLeI (uVar 3) (uVar 2))) (uB (uOp fGeI (uVar 3) (uVar 1)))) (uRet (uC (.bl false))) uNext)
 (uAsg (uVar 3) (uName 2))))
 (uRet (uC (.bl true)))))
theorem ru_ascends (T : Cl K A) (E : XK) : RS K [] (fun _ => E) (t_ascends K A E) (u_ascends K A) := by
  unfold t_ascends u_ascends
  exact (rs_seq (rs_asg (re_un o_negI rc_i) (rg_name rfl))
 (rs_seq (rs_for (ri_seq re_var) (rg_name rfl) (rs_seq (rs_if (rt_or (rt_test (re_op o_leI re_var re_var)) (rt_test (re_op o_geI re_var re_var))) (rs_ret rc_b) rs_next)
 (rs_asg re_var (rg_name rfl))))
 (rs_ret rc_b)))
def u_check_letters (K : PySem.W.Frag) (A : Ads) : UTS := (uSeq (uAsg (uVar 0) (uGTup 2 (uGCons (uName 2) (uGCons (uName 3) uGNil))))
 (uIfS (uOr (uB (uOp fGeI (uCB fMaxB (uCons (uVar 3) uNil)) (uVar 1))) (uB (uOp fGeI (uCKw fMaxD (uCons (uVar 2) uNil) (uCons (uC (.int (0))) uNil)) (uVar 1)))) (uRs A.C_InvalidLetter) uNext))
theorem ru_check_letters (T : Cl K A) (E : XK) : RS K [] (fun _ => E) (t_check_letters K A E) (u_check_letters K A) := by
  unfold t_check_letters u_check_letters
  exact (rs_seq (rs_asg re_var (rg_tup (rg_cons (rg_name rfl) (rg_cons (rg_name rfl) rg_nil))))
 (rs_if (rt_or (rt_test (re_op o_geI (re_cb o_maxB (ra_cons re_var ra_nil)) re_var)) (rt_test (re_op o_geI (re_ckw o_maxD (ra_cons re_var ra_nil) (ra_cons rc_i ra_nil)) re_var))) (rs_rs fun _ => rfl) rs_next))
def u_Automaton_init (K : PySem.W.Frag) (A : Ads) : UTS := (uSeq (uIfS (uOr (uB (uOp fLtI (uVar 1) (uC (.int (1))))) (uB (uOp fEq (uCB fLen (uCons (uVar 4) uNil)) (uC (.int (0)))))) (uRs A.C_InvalidAutomaton) uNext)
 (uSeq (uIfS (uOr (uNot (uB (uCall us_ascends (uCons (uVar 2) (uCons (uCB fLen (uCons (uVar 4) uNil)) uNil))))) (uNot (uB (uCall us_ascends (uCons (uVar 3) (uCons (uCB fLen (uCons (uVar 4) uNil)) uNil)))))) (uRs A.C_InvalidAutomaton) uNext)
 (uSeq (uFor (uIter (uVar 4)) (uName 5) (uSeq (uIfS (uB (uOp fNe (uCB fLen (uCons (uVar 5) uNil)) (uVar 1))) (uRs A.C_InvalidAutomaton) uNext)
 (uIfS (uNot (uB (uCB fAll (uCons (uLc (uIter (uVar 5)) (uName 6) uYes (uCall us_ascends (uCons (uVar 6) (uCons (uCB fLen (uCons (uVar 4) uNil)) uNil))) [6]) uNil)))) (uRs A.C_InvalidAutomaton) uNext)))
 (uSeq (uSFld K (uVar 0) (uVar 1) "letters")
 (uSeq (uSFld K (uVar 0) (uCB fTupOf (uCons (uVar 2) uNil)) "initial")
 (uSeq (uSFld K (uVar 0) (uCB fTupOf (uCons (uVar 3) uNil)) "accepting")
 (uSFld K (uVar 0) (uCB fTupOf (uCons (uLc (uIter (uVar 4)) (uName 5) uYes (uCB fTupOf (uCons (uLc (uIter (uVar 5)) (uName 6) uYes (uCB fTupOf (uCons (uVar 6) uNil)) [6]) uNil)) [5]) uNil)) "rows")))))))
theorem ru_Automaton_init (T : Cl K A) (E : XK) : RS K [0] (fun _ => E) (t_Automaton_init K A E) (u_Automaton_init K A) := by
  unfold t_Automaton_init u_Automaton_init
  exact (rs_seq (rs_if (rt_or (rt_test (re_op o_ltI re_var rc_i)) (rt_test (re_op o_eq (re_cb o_len (ra_cons re_var ra_nil)) rc_i))) (rs_rs fun _ => rfl) rs_next)
 (rs_seq (rs_if (rt_or (rt_not (rt_b (re_callN (ad_ascends) (ra_cons re_var (ra_cons (re_cb o_len (ra_cons re_var ra_nil)) ra_nil)) (fun _ _ h => h)))) (rt_not (rt_b (re_callN (ad_ascends) (ra_cons re_var (ra_cons (re_cb o_len (ra_cons re_var ra_nil)) ra_nil)) (fun _ _ h => h))))) (rs_rs fun _ => rfl) rs_next)
 (rs_seq (rs_for (ri_seq re_var) (rg_name rfl) (rs_seq (rs_if (rt_test (re_op o_ne (re_cb o_len (ra_cons re_var ra_nil)) re_var)) (rs_rs fun _ => rfl) rs_next)
 (rs_if (rt_not (rt_b (re_cb o_all (ra_cons (re_lc (ri_seq re_var) (fun Pi h => (rg_name (h 6 (by decide)))) rt_yes (re_callN (ad_ascends) (ra_cons re_var (ra_cons (re_cb o_len (ra_cons re_var ra_nil)) ra_nil)) (fun _ _ h => h)) (by decide) (by decide)) ra_nil)))) (rs_rs fun _ => rfl) rs_next)))
 (rs_seq (rs_sfld re_var re_var)
 (rs_seq (rs_sfld (re_cb o_tupOf (ra_cons re_var ra_nil)) re_var)
 (rs_seq (rs_sfld (re_cb o_tupOf (ra_cons re_var ra_nil)) re_var)
 (rs_sfld (re_cb o_tupOf (ra_cons (re_lc (ri_seq re_var) (fun Pi h => (rg_name (h 5 (by decide)))) rt_yes (re_cb o_tupOf (ra_cons (re_lc (ri_seq re_var) (fun Pi h => (rg_name (h 6 (by decide)))) rt_yes (re_cb o_tupOf (ra_cons re_var ra_nil)) (by decide) (by decide)) ra_nil)) (by decide) (by decide)) ra_nil)) re_var)))))))
def u_flags (K : PySem.W.Frag) (A : Ads) : UTS := (uSeq (uAsg (uOp fRep (uLst (uCons (uC (.bl false)) uNil)) (uVar 1)) (uName 2))
 (uSeq (uFor (uIterT (uVar 0)) (uName 3) (uAsg (uC (.bl true)) (uGSub (uVar 2) (uVar 3))))
 (uRet (uVar 2))))
theorem ru_flags (T : Cl K A) (E : XK) : RS K [] (fun _ => E) (t_flags K A E) (u_flags K A) := by
  unfold t_flags u_flags
  exact (rs_seq (rs_asg (re_op o_rep (re_lst (ra_cons rc_b ra_nil)) re_var) (rg_name rfl))
 (rs_seq (rs_for (ri_tup re_var) (rg_name rfl) (rs_asg rc_b (rg_sub re_var re_var)))
 (rs_ret re_var)))
def u_accepts (K : PySem.W.Frag) (A : Ads) : UTS := (uSeq (uDrop (uCall (us_check_letters A) (uCons (uVar 1) (uCons (uFld K (uVar 0) "letters") uNil))))
 (uSeq (uAsg (uCall (us_runs A) (uCons (uVar 0) (uCons (uVar 1) uNil))) (uGTup 2 (uGCons (uName 2) (uGCons (uName 3) uGNil))))
 (uSeq (uAsg (uCall us_flags (uCons (uFld K (uVar 0) "accepting") (uCons (uCB fLen (uCons (uFld K (uVar 0) "rows") uNil)) uNil))) (uName 4))
 (uSeq (uAsg (uCall us_on_cycles (uCons (uVar 3) uNil)) (uName 5))
 (uSeq (uFor (uEnum (uCons (uVar 2) uNil)) (uGTup 2 (uGCons (uName 6) (uGCons (uGTup 2 (uGCons (uName 7) (uGCons (uName 8) uGNil))) uGNil))) (uIfS (uAnd (uB (uOp fIxL (uVar 4) (uVar 8))) (uB (uOp fIxL (uVar 5) (uVar 6)))) (uRet (uC (.bl true))) uNext))
 (uRet (uC (.bl false))))))))
theorem ru_accepts (T : Cl K A) (E : XK) : RS K [] (fun _ => E) (t_accepts K A E) (u_accepts K A) := by
  unfold t_accepts u_accepts
  exact (rs_seq (rs_drop (re_callE (ad_check_letters) (ra_cons re_var (ra_cons (re_fld re_var) ra_nil)) (fun _ _ _ h => h)))
 (rs_seq (rs_asg (re_callN (ad_runs) (ra_cons re_var (ra_cons re_var ra_nil)) (fun _ _ h => h)) (rg_tup (rg_cons (rg_name rfl) (rg_cons (rg_name rfl) rg_nil))))
 (rs_seq (rs_asg (re_callN (ad_flags) (ra_cons (re_fld re_var) (ra_cons (re_cb o_len (ra_cons (re_fld re_var) ra_nil)) ra_nil)) (fun _ _ h => h)) (rg_name rfl))
 (rs_seq (rs_asg (re_callN (ad_on_cycles) (ra_cons re_var ra_nil) (fun _ _ h => h)) (rg_name rfl))
 (rs_seq (rs_for (ri_enum (ra_cons re_var ra_nil)) (rg_tup (rg_cons (rg_name rfl) (rg_cons (rg_tup (rg_cons (rg_name rfl) (rg_cons (rg_name rfl) rg_nil))) rg_nil))) (rs_if (rt_and (rt_b (re_op o_ixL re_var re_var)) (rt_b (re_op o_ixL re_var re_var))) (rs_ret rc_b) rs_next))
 (rs_ret rc_b))))))
def u_runs (K : PySem.W.Frag) (A : Ads) : UTS := (uSeq (uAsg (uVar 1) (uGTup 2 (uGCons (uName 2) (uGCons (uName 3) uGNil))))
 (uSeq (uAsg (uOp fCatA (uCB fTupOf (uCons (uVar 2) uNil)) (uCB fTupOf (uCons (uVar 3) uNil))) (uName 4))
 (uSeq (uAsg (uMake A.C_Places (us_Places_init A) uNil) (uName 5))
 (uSeq (uFor (uIterT (uFld K (uVar 0) "initial")) (uName 6) (uDrop (uMeth A.C_Places "number_of" (us_number_of A) false (uVar 5) (uCons (uTupR (uCons (uC (.int (0))) (uCons (uVar 6) uNil))) uNil))))
 (uSeq (uAsg (uLst uNil) (uName 7))
 (uSeq (uWhile (uB (uWaits A.C_Places (uVar 5) (uVar 7))) (uSeq (uAsg (uFirst A.C_Places (uVar 5) (uVar 7)) (uGTup 2 (uGCons (uName 8) (uGCons (uName 6) uGNil))))
 (uSeq (uAsg (uIf (uB (uOp fLtI (uOp fAddI (uVar 8) (uC (.int (1)))) (uCB fLen (uCons (uVar 4) uNil)))) (uOp fAddI (uVar 8) (uC (.int (1)))) (uCB fLen (uCons (uVar 2) uNil))) (uName 9))
 (uDrop (uBM1 fAppend true (uVar 7) (uLc (uIterT (uOp fIxT (uOp fIxT (uFld K (uVar 0) "rows") (uVar 6)) (uOp fIxT (uVar 4) (uVar 8)))) (uName 10) uYes (uMeth A.C_Places "number_of" (us_number_of A) false (uVar 5) (uCons (uTupR (uCons (uVar 9) (uCons (uVar 10) uNil))) uNil)) [10]))))))
 (uRet (uTup (uCons (uFld K (uVar 5) "order") (uCons (uVar 7) uNil))))))))))
theorem ru_runs (T : Cl K A) (E : XK) : RS K [] (fun _ => E) (t_runs K A E) (u_runs K A) := by
  unfold t_runs u_runs
  exact (rs_seq (rs_asg re_var (rg_tup (rg_cons (rg_name rfl) (rg_cons (rg_name rfl) rg_nil))))
 (rs_seq (rs_asg (re_op o_catA (re_cb o_tupOf (ra_cons re_var ra_nil)) (re_cb o_tupOf (ra_cons re_var ra_nil))) (rg_name rfl))
 (rs_seq (rs_asg (re_make (ad_Places_init) ra_nil (.inr fun _ _ h => h)) (rg_name rfl))
 (rs_seq (rs_for (ri_tup (re_fld re_var)) (rg_name rfl) (rs_drop (re_meth (chk := false) (ad_Places_number_of) re_var (ra_cons (re_tupR (ra_cons rc_i (ra_cons re_var ra_nil))) ra_nil) (.inl rfl) (.inr fun _ _ h => h))))
 (rs_seq (rs_asg (re_lst ra_nil) (rg_name rfl))
 (rs_seq (rs_while (rt_b (re_waits re_var re_var)) (rs_seq (rs_asg (re_first re_var re_var) (rg_tup (rg_cons (rg_name rfl) (rg_cons (rg_name rfl) rg_nil))))
 (rs_seq (rs_asg (re_if (rt_test (re_op o_ltI (re_op o_addI re_var rc_i) (re_cb o_len (ra_cons re_var ra_nil)))) (re_op o_addI re_var rc_i) (re_cb o_len (ra_cons re_var ra_nil))) (rg_name rfl))
 (rs_drop (re_bm1 (chk := true) om_append re_var (re_lc (ri_tup (re_op o_ixT (re_op o_ixT (re_fld re_var) re_var) (re_op o_ixT re_var re_var))) (fun Pi h => (rg_name (h 10 (by decide)))) rt_yes (re_meth (chk := false) (ad_Places_number_of) re_var (ra_cons (re_tupR (ra_cons re_var (ra_cons re_var ra_nil))) ra_nil) (.inl rfl) (.inr fun _ _ h => h)) (by decide) (by decide)) (.inr rfl))))))
 (rs_ret (re_tup (ra_cons (re_fld re_var) (ra_cons re_var ra_nil))))))))))
def u__law_lasso (K : PySem.W.Frag) (A : Ads) : UTS := (uSeq (uAsg (uLc (uRng1 (uCons (uCall1 us_take (uCons (uVar 0) (uCons (uOp fAddI (uVar 2) (uC (.int (1)))) uNil))) uNil)) (uName 3) uYes (uCall1 us_take (uCons (uVar 0) (uCons (uVar 1) uNil))) [3]) (uName 4))
 (uSeq (uAsg (uLc (uRng1 (uCons (uOpI fAddI (uC (.int (1))) (uCall1 us_take (uCons (uVar 0) (uCons (uVar 2) uNil)))) uNil)) (uName 3) uYes (uCall1 us_take (uCons (uVar 0) (uCons (uVar 1) uNil))) [3]) (uName 5))
 (uRet (uTup (uCons (uCB fTupOf (uCons (uVar 4) uNil)) (uCons (uCB fTupOf (uCons (uVar 5) uNil)) uNil))))))
theorem ru__law_lasso (T : Cl K A) (E : XK) : RS K [0] (fun _ => E) (t__law_lasso K A E) (u__law_lasso K A) := by
  unfold t__law_lasso u__law_lasso
  exact (rs_seq (rs_asg (re_lc (ri_rng1 (ra_cons (re_call1N (ad__law_take) (ra_cons re_var (ra_cons (re_op o_addI re_var rc_i) ra_nil)) (fun _ _ h => h)) ra_nil)) (fun Pi h => (rg_name (h 3 (by decide)))) rt_yes (re_call1N (ad__law_take) (ra_cons re_var (ra_cons re_var ra_nil)) (fun _ _ h => h)) (by decide) (by decide)) (rg_name rfl))
 (rs_seq (rs_asg (re_lc (ri_rng1 (ra_cons (re_opI o_addI rc_i (re_call1N (ad__law_take) (ra_cons re_var (ra_cons re_var ra_nil)) (fun _ _ h => h))) ra_nil)) (fun Pi h => (rg_name (h 3 (by decide)))) rt_yes (re_call1N (ad__law_take) (ra_cons re_var (ra_cons re_var ra_nil)) (fun _ _ h => h)) (by decide) (by decide)) (rg_name rfl))
 (rs_ret (re_tup (ra_cons (re_cb o_tupOf (ra_cons re_var ra_nil)) (ra_cons (re_cb o_tupOf (ra_cons re_var ra_nil)) ra_nil))))))
def u__law_ascending (K : PySem.W.Frag) (A : Ads) : UTS := (uRet (uLc (uRng1 (uCons (uVar 1) uNil)) (uName 3) (uB (uOp fLtI (uCall1 us_take (uCons (uVar 0) (uCons (uC (.int (10))) uNil))) (uVar 2))) (uVar 3) [3]))
theorem ru__law_ascending (T : Cl K A) (E : XK) : RS K [0] (fun _ => E) (t__law_ascending K A E) (u__law_ascending K A) := by
  unfold t__law_ascending u__law_ascending
  exact (rs_ret (re_lc (ri_rng1 (ra_cons re_var ra_nil)) (fun Pi h => (rg_name (h 3 (by decide)))) (rt_test (re_op o_ltI (re_call1N (ad__law_take) (ra_cons re_var (ra_cons rc_i ra_nil)) (fun _ _ h => h)) re_var)) re_var (by decide) (by decide)))
def u__law_automaton_5 (K : PySem.W.Frag) (A : Ads) : UTS := (uSeq (uAsg (uLst uNil) (uName 7))
 (uSeq (uFor (uRng1 (uCons (uVar 3) uNil)) (uName 8) (uDrop (uBM1 fAppend true (uVar 7) (uLc (uRng1 (uCons (uVar 1) uNil)) (uName 9) uYes (uCall1 us_law_ascending (uCons (uVar 0) (uCons (uVar 3) (uCons (uVar 4) uNil)))) [9]))))
 (uRet (uTup (uCons (uVar 5) (uCons (uVar 6) (uCons (uVar 7) uNil)))))))
theorem ru__law_automaton_5 (T : Cl K A) (E : XK) : RS K [0] (fun _ => E) (t__law_automaton_5 K A E) (u__law_automaton_5 K A) := by
  unfold t__law_automaton_5 u__law_automaton_5
  exact (rs_seq (rs_asg (re_lst ra_nil) (rg_name rfl))
 (rs_seq (rs_for (ri_rng1 (ra_cons re_var ra_nil)) (rg_name rfl) (rs_drop (re_bm1 (chk := true) om_append re_var (re_lc (ri_rng1 (ra_cons re_var ra_nil)) (fun Pi h => (rg_name (h 9 (by decide)))) rt_yes (re_call1N (ad__law_ascending) (ra_cons re_var (ra_cons re_var (ra_cons re_var ra_nil))) (fun _ _ h => h)) (by decide) (by decide)) (.inr rfl))))
 (rs_ret (re_tup (ra_cons re_var (ra_cons re_var (ra_cons re_var ra_nil)))))))
def u__law_automaton (K : PySem.W.Frag) (A : Ads) : UTS := (uSeq (uAsg (uOpI fAddI (uC (.int (1))) (uCall1 us_take (uCons (uVar 0) (uCons (uVar 2) uNil)))) (uName 3))
 (uSeq (uAsg (uOpI fAddI (uC (.int (2))) (uCall1 us_take (uCons (uVar 0) (uCons (uC (.int (4))) uNil)))) (uName 4))
 (uSeq (uAsg (uCall1 us_law_ascending (uCons (uVar 0) (uCons (uVar 3) (uCons (uC (.int (5))) uNil)))) (uName 5))
 (uSeq (uAsg (uCall1 us_law_ascending (uCons (uVar 0) (uCons (uVar 3) (uCons (uC (.int (5))) uNil)))) (uName 6))
 (uSeq (uIfS (uAnd (uB (uOp fEq (uCB fLen (uCons (uVar 5) uNil)) (uC (.int (0))))) (uB (uOp fGtI (uCall1 us_take (uCons (uVar 0) (uCons (uC (.int (4))) uNil))) (uC (.int (0)))))) (uAsg (uLst (uCons (uC (.int (0))) uNil)) (uName 5)) uNext)
 (u__law_automaton_5 K A))))))
theorem ru__law_automaton (T : Cl K A) (E : XK) : RS K [0] (fun _ => E) (t__law_automaton K A E) (u__law_automaton K A) := by
  unfold t__law_automaton u__law_automaton
  exact (rs_seq (rs_asg (re_opI o_addI rc_i (re_call1N (ad__law_take) (ra_cons re_var (ra_cons re_var ra_nil)) (fun _ _ h => h))) (rg_name rfl))
 (rs_seq (rs_asg (re_opI o_addI rc_i (re_call1N (ad__law_take) (ra_cons re_var (ra_cons rc_i ra_nil)) (fun _ _ h => h))) (rg_name rfl))
 (rs_seq (rs_asg (re_call1N (ad__law_ascending) (ra_cons re_var (ra_cons re_var (ra_cons rc_i ra_nil))) (fun _ _ h => h)) (rg_name rfl))
 (rs_seq (rs_asg (re_call1N (ad__law_ascending) (ra_cons re_var (ra_cons re_var (ra_cons rc_i ra_nil))) (fun _ _ h => h)) (rg_name rfl))
 (rs_seq (rs_if (rt_and (rt_test (re_op o_eq (re_cb o_len (ra_cons re_var ra_nil)) rc_i)) (rt_test (re_op o_gtI (re_call1N (ad__law_take) (ra_cons re_var (ra_cons rc_i ra_nil)) (fun _ _ h => h)) rc_i))) (rs_asg (re_lst (ra_cons rc_i ra_nil)) (rg_name rfl)) rs_next)
 (ru__law_automaton_5 T E))))))
def u__law_copy (K : PySem.W.Frag) (A : Ads) : UTS := (uRet (uLc (uIterL (uVar 0)) (uName 1) uYes (uLc (uIterL (uVar 1)) (uName 2) uYes (uCB fListOf (uCons (uVar 2) uNil)) [2]) [1]))
theorem ru__law_copy (T : Cl K A) (E : XK) : RS K [] (fun _ => E) (t__law_copy K A E) (u__law_copy K A) := by
  unfold t__law_copy u__law_copy
  exact (rs_ret (re_lc (ri_list re_var) (fun Pi h => (rg_name (h 1 (by decide)))) rt_yes (re_lc (ri_list re_var) (fun Pi h => (rg_name (h 2 (by decide)))) rt_yes (re_cb o_listOf (ra_cons re_var ra_nil)) (by decide) (by decide)) (by decide) (by decide)))
def u__law_outcome (K : PySem.W.Frag) (A : Ads) : UTS := (uSeq (uTry K [(A.C_InvalidLetter, (uRet (uC .non)))] (uAsg (uCall (us_accepts A) (uCons (uVar 0) (uCons (uVar 1) uNil))) (uName 2)))
 (uRet (uIf (uB (uOp fIsN (uVar 2) (uC .non))) (uC (.str "nothing")) (uVar 2))))
theorem ru__law_outcome (T : Cl K A) (E : XK) : RS K [] (fun _ => E) (t__law_outcome K A E) (u__law_outcome K A) := by
  unfold t__law_outcome u__law_outcome
  exact (rs_seq (rs_try (fun Wx => (rs_asg (re_call (ad_accepts) (ra_cons re_var (ra_cons re_var ra_nil)) (fun _ _ _ h => h)) (rg_name rfl))) (HdsR.cons (fun _ _ _ => (rs_ret rc_n)) HdsR.nil))
 (rs_ret (re_if (rt_test (re_op o_isN re_var rc_n)) rc_s re_var)))
def u_law_10 (K : PySem.W.Frag) (A : Ads) : UTS := (uSeq (uIfS (uOr (uNot (uB (uCB fIsi (uCons (uVar 11) (uCons (uC (.ty "bool")) uNil))))) (uB (uOp fNe (uVar 11) (uVar 10)))) (uRet (uC (.bl false))) uNext)
 (uRet (uAndV (uOpI fEq (uVar 12) (uCall us_law_accepts (uCons (uVar 5) (uCons (uVar 3) (uCons (uVar 4) (uCons (uVar 8) uNil)))))) (uOp fEq (uCall (us_law_outcome A) (uCons (uVar 6) (uCons (uVar 7) uNil))) (uVar 10)))))
theorem ru_law_10 (T : Cl K A) (E : XK) : RS K [] (fun _ => E) (t_law_10 K A E) (u_law_10 K A) := by
  unfold t_law_10 u_law_10
  exact (rs_seq (rs_if (rt_or (rt_not (rt_b (re_cb o_isi (ra_cons re_var (ra_cons rc_t ra_nil))))) (rt_test (re_op o_ne re_var re_var))) (rs_ret rc_b) rs_next)
 (rs_ret (re_andV (re_opI o_eq re_var (re_callN (ad__law_accepts) (ra_cons re_var (ra_cons re_var (ra_cons re_var (ra_cons re_var ra_nil)))) (fun _ _ h => h))) (re_op o_eq (re_callN (ad__law_outcome) (ra_cons re_var (ra_cons re_var ra_nil)) (fun _ _ h => h)) re_var))))
def u_law_7 (K : PySem.W.Frag) (A : Ads) : UTS := (uSeq (uAsg (uCall us_law_accepts (uCons (uVar 5) (uCons (uVar 3) (uCons (uVar 4) (uCons (uVar 7) uNil))))) (uName 10))
 (uSeq (uAsg (uCall (us_law_outcome A) (uCons (uVar 6) (uCons (uVar 7) uNil))) (uName 11))
 (uSeq (uAsg (uCall (us_law_outcome A) (uCons (uVar 6) (uCons (uVar 8) uNil))) (uName 12))
 (u_law_10 K A))))
theorem ru_law_7 (T : Cl K A) (E : XK) : RS K [] (fun _ => E) (t_law_7 K A E) (u_law_7 K A) := by
  unfold t_law_7 u_law_7
  exact (rs_seq (rs_asg (re_callN (ad__law_accepts) (ra_cons re_var (ra_cons re_var (ra_cons re_var (ra_cons re_var ra_nil)))) (fun _ _ h => h)) (rg_name rfl))
 (rs_seq (rs_asg (re_callN (ad__law_outcome) (ra_cons re_var (ra_cons re_var ra_nil)) (fun _ _ h => h)) (rg_name rfl))
 (rs_seq (rs_asg (re_callN (ad__law_outcome) (ra_cons re_var (ra_cons re_var ra_nil)) (fun _ _ h => h)) (rg_name rfl))
 (ru_law_10 T E))))
def u_law_6 (K : PySem.W.Frag) (A : Ads) : UTS := (uSeq (uIfS (uB (uOp fEq (uCall1 us_take (uCons (uVar 1) (uCons (uC (.int (8))) uNil))) (uC (.int (0))))) (uSeq (uAsg (uOpI fCat (uCB fListOf (uCons (uOp fIxT (uVar 7) (uC (.int (0)))) uNil)) (uLst (uCons (uOpI fAddI (uVar 2) (uCall1 us_take (uCons (uVar 1) (uCons (uC (.int (2))) uNil)))) uNil))) (uName 9))
 (uRet (uOp fIsN (uCall (us_law_outcome A) (uCons (uVar 6) (uCons (uTup (uCons (uCB fTupOf (uCons (uVar 9) uNil)) (uCons (uOp fIxT (uVar 7) (uC (.int (1)))) uNil))) uNil))) (uC .non)))) uNext)
 (u_law_7 K A))
theorem ru_law_6 (T : Cl K A) (E : XK) : RS K [] (fun _ => E) (t_law_6 K A E) (u_law_6 K A) := by
  unfold t_law_6 u_law_6
  exact (rs_seq (rs_if (rt_test (re_op o_eq (re_call1N (ad__law_take) (ra_cons re_var (ra_cons rc_i ra_nil)) (fun _ _ h => h)) rc_i)) (rs_seq (rs_asg (re_opI o_cat (re_cb o_listOf (ra_cons (re_op o_ixT re_var rc_i) ra_nil)) (re_lst (ra_cons (re_opI o_addI re_var (re_call1N (ad__law_take) (ra_cons re_var (ra_cons rc_i ra_nil)) (fun _ _ h => h))) ra_nil))) (rg_name rfl))
 (rs_ret (re_op o_isN (re_callN (ad__law_outcome) (ra_cons re_var (ra_cons (re_tup (ra_cons (re_cb o_tupOf (ra_cons re_var ra_nil)) (ra_cons (re_op o_ixT re_var rc_i) ra_nil))) ra_nil)) (fun _ _ h => h)) rc_n))) rs_next)
 (ru_law_7 T E))
def u_law (K : PySem.W.Frag) (A : Ads) : UTS := (uSeq (uAsg (uCall us_draws (uCons (uVar 0) (uCons (uC (.int (200))) uNil))) (uName 1))
 (uSeq (uAsg (uOpI fAddI (uC (.int (1))) (uCall1 us_take (uCons (uVar 1) (uCons (uC (.int (3))) uNil)))) (uName 2))
 (uSeq (uAsg (uCall1 us_law_automaton (uCons (uVar 1) (uCons (uVar 2) (uCons (uC (.int (5))) uNil)))) (uGTup 3 (uGCons (uName 3) (uGCons (uName 4) (uGCons (uName 5) uGNil)))))
 (uSeq (uAsg (uMake A.C_Automaton ((us_Automaton_init A)).mute (uConsI (uVar 2) (uConsI (uCB fListOf (uCons (uVar 3) uNil)) (uConsI (uCB fListOf (uCons (uVar 4) uNil)) (uCons (uCall us_law_copy (uCons (uVar 5) uNil)) uNil))))) (uName 6))
 (uSeq (uAsg (uCall1 us_law_lasso (uCons (uVar 1) (uCons (uVar 2) (uCons (uC (.int (4))) uNil)))) (uName 7))
 (uSeq (uAsg (uCall1 us_law_lasso (uCons (uVar 1) (uCons (uVar 2) (uCons (uC (.int (4))) uNil)))) (uName 8))
 (u_law_6 K A)))))))
theorem ru_law (T : Cl K A) (E : XK) : RS K [] (fun _ => E) (t_law K A E) (u_law K A) := by
  unfold t_law u_law
  exact (rs_seq (rs_asg (re_callN (ad__law_draws) (ra_cons re_var (ra_cons rc_i ra_nil)) (fun _ _ h => h)) (rg_name rfl))
 (rs_seq (rs_asg (re_opI o_addI rc_i (re_call1N (ad__law_take) (ra_cons re_var (ra_cons rc_i ra_nil)) (fun _ _ h => h))) (rg_name rfl))
 (rs_seq (rs_asg (re_call1N (ad__law_automaton) (ra_cons re_var (ra_cons re_var (ra_cons rc_i ra_nil))) (fun _ _ h => h)) (rg_tup (rg_cons (rg_name rfl) (rg_cons (rg_name rfl) (rg_cons (rg_name rfl) rg_nil)))))
 (rs_seq (rs_asg (re_make (fun vs H Q E h => ad_Automaton_init vs H Q E (mute1 h)) (ra_consI re_var (ra_consI (re_cb o_listOf (ra_cons re_var ra_nil)) (ra_consI (re_cb o_listOf (ra_cons re_var ra_nil)) (ra_cons (re_callN (ad__law_copy) (ra_cons re_var ra_nil) (fun _ _ h => h)) ra_nil)))) (.inr fun _ _ h => h)) (rg_name rfl))
 (rs_seq (rs_asg (re_call1N (ad__law_lasso) (ra_cons re_var (ra_cons re_var (ra_cons rc_i ra_nil))) (fun _ _ h => h)) (rg_name rfl))
 (rs_seq (rs_asg (re_call1N (ad__law_lasso) (ra_cons re_var (ra_cons re_var (ra_cons rc_i ra_nil))) (fun _ _ h => h)) (rg_name rfl))
 (ru_law_6 T E)))))))
theorem idx_new {ps : List (Int × Int)} {p : Int × Int} (h : p ∉ ps) : (ps ++ [p]).idxOf p = ps.length := by
  rw [List.idxOf_append, if_neg h]; simp
theorem pK_inj (a b : Int × Int) (h : pK a = pK b) : a = b := by
  unfold pK at h
  simp only [List.cons.injEq, Sum.inl.injEq, and_true] at h
  exact Prod.ext h.1 h.2
theorem num_val {ps : List (Int × Int)} {p : Int × Int} : valD [Sum.inl p.1, Sum.inl p.2] (ps.map pK) (rngD 0 ps.length) = if p ∈ ps then some (.int (ps.idxOf p : Nat)) else none := by
  have := valD_rng (k := pK p) (ks := ps.map pK) (lo := 0)
  rw [List.length_map, idxOf_map pK_inj, Int.zero_add] at this
  rw [show [Sum.inl p.1, Sum.inl p.2] = pK p from rfl, this]
  by_cases c : p ∈ ps
  · rw [if_pos c, if_pos ((mem_mapi pK_inj).mpr c)]
  · rw [if_neg c, if_neg (fun h => c ((mem_mapi pK_inj).mp h))]
theorem put_num {C : Addr} {a b x : D} : put (.ins true C ["order", "numbers"] [a, b]) [.fld "numbers"] x = .ins true C ["order", "numbers"] [a, x] := rfl
theorem put_ord {C : Addr} {a b x : D} : put (.ins true C ["order", "numbers"] [a, b]) [.fld "order"] x = .ins true C ["order", "numbers"] [x, b] := rfl
theorem hu_ascends (T : Cl K A) : ∀ a, (us_ascends).pre a → u_ascends K A (E0U (us_ascends) a) (sd0 ["numbers", "count", "before", "number"] ((us_ascends).args a)) := by
  rintro ⟨d, ns, c⟩ ⟨k, e⟩
  dsimp only at e
  subst e
  unfold u_ascends E0U
  show uSeq _ _ _ [some (sqD k (eI ns)), some (.int c), none, none]
  walk_at "k"
  refine x_inv (fun i s => ∃ b v, s = [some (sqD k (eI ns)), some (.int c), some (.int b), v] ∧ asc c (-1) ns = asc c b (ns.drop i)) ⟨-1, none, rfl, rfl⟩ ?_ ?_
  · rintro s ⟨b, v, rfl, e⟩
    walk_at "k"
    rw [eI_len, List.drop_length] at e
    show D.bl true = _
    rw [e]; rfl
  · rintro i x s hi ⟨b, v, rfl, e⟩
    obtain ⟨z, hz, rfl⟩ := eI_get hi
    rw [drop_cons hz, asc] at e
    walk_at "k"
    refine x_ifD (fun h => ?_) (fun h => ?_)
    · walk_at "k"
      show D.bl false = _
      rw [e, decide_eq_false (show ¬ b < z by omega)]; rfl
    · walk_at "k"
      refine x_ifD (fun h2 => ?_) (fun h2 => ?_)
      · walk_at "k"
        show D.bl false = _
        rw [e, decide_eq_false (show ¬ z < c by omega), Bool.and_false]; rfl
      · walk_at "k"
        exact ⟨z, _, rfl, by rw [e, decide_eq_true (show b < z by omega), decide_eq_true (show z < c by omega)]; rfl⟩
theorem p_ascends (T : Cl K A) (h : sp_ascends K A vs H Q E) : t_ascends K A E (D0 Q) (start ["numbers", "count", "before", "number"] vs) H := run0 (t := t_ascends K A) (ru_ascends T E) (hu_ascends T) h
theorem hu_Automaton_init (T : Cl K A) : ∀ a, ((us_Automaton_init A)).pre a → u_Automaton_init K A (E1U ((us_Automaton_init A)) a) (sd0 ["self", "letters", "initial", "accepting", "rows", "row", "entry"] (((us_Automaton_init A)).self a :: ((us_Automaton_init A)).args a)) := by
  rintro ⟨d1, d2, d3, m, is, cs, rs⟩ ⟨g1, g2, g3, lr, ll⟩
  dsimp only at g1 g2 g3 lr ll
  obtain ⟨k3, ds, rfl, hl, hR⟩ := g3
  unfold u_Automaton_init
  refine gen1 fun nx rt bk ct er kn kr ke => ?_
  have bad : ∀ {s : US}, ¬ Aok m is cs rs → er A.C_InvalidAutomaton s := fun h => ke _ _ ⟨rfl, h⟩
  have fin : ∀ {s : US}, s[0]? = some (some (auD A true m is cs rs)) → Aok m is cs rs → nx s := fun h1 h2 => kn _ _ h1 ⟨rfl, rfl, h2⟩
  show uSeq _ _ _ [some (.ins true A.C_Automaton [] []), some (.int m), some d1, some d2, some (sqD k3 ds), none, none]
  walk_at "k"
  refine x_ifD (fun h1 => ?_) (fun h1 => ?_)
  · walk_at "k"
    exact bad fun p => by have := p.m1; omega
  walk_at "k"
  rw [hl]
  refine x_ifD (fun h2 => ?_) (fun h2 => ?_)
  · walk_at "k"
    exact bad fun p => by have := p.ne; omega
  walk_at "k"
  refine x_args (sp := us_ascends) (d1, is, ds.length) (by walk_at "cl") rfl g1 (fun r hr => ?_) (fun _ h => h.elim)
  dsimp only [us_ascends] at hr
  subst hr
  rw [hl]
  walk_at "k"
  refine x_ifB (fun h3 => ?_) (fun h3 => ?_)
  · walk_at "k"
    exact bad fun p => by rw [p.ai] at h3; cases h3
  walk_at "k"
  refine x_args (sp := us_ascends) (d2, cs, ds.length) (by walk_at "cl") rfl g2 (fun r hr => ?_) (fun _ h => h.elim)
  dsimp only [us_ascends] at hr
  subst hr
  rw [hl]
  walk_at "k"
  refine x_ifB (fun h4 => ?_) (fun h4 => ?_)
  · walk_at "k"
    exact bad fun p => by rw [p.ac] at h4; cases h4
  walk_at "k"
  refine x_inv (fun i s => (∃ v, s = [some (.ins true A.C_Automaton [] []), some (.int m), some d1, some d2, some (sqD k3 ds), v, none]) ∧ ∀ r ∈ rs.take i, (r.length : Int) = m ∧ ∀ y ∈ r, asc rs.length (-1) y = true) ⟨⟨_, rfl⟩, fun _ h => by simp at h⟩ ?_ ?_
  rotate_left
  · rintro i x s hi ⟨⟨v, rfl⟩, hok⟩
    obtain ⟨r, hr, hx⟩ := hR i x hi
    have hx' := hx
    obtain ⟨k, es, rfl, hA⟩ := hx'
    have hm : r ∈ rs := List.mem_of_getElem? hr
    have hl0 := ll r hm
    walk_at "k"
    rw [hA.1]
    refine x_ifN (fun h7 => ?_) (fun h7 => ?_)
    · walk_at "k"
      exact bad fun p => h7 (p.rr r hm).1
    walk_at "k"
    refine x_lcR (fo := fun e => .bl (asc rs.length (-1) e)) hA (by omega) ?_ ?_
    · walk_at "st"
      refine x_nil ?_
      refine x_un' (r := .bl (r.all fun e => asc rs.length (-1) e)) rfl ?_ ?_
      · rw [show List.map (fun e => D.bl (asc (rs.length : Int) (-1) e)) r = (r.map fun e => asc rs.length (-1) e).map D.bl from by rw [List.map_map]; rfl]
        rw [fAll, blsD_map]
        simp [List.all_map]
      walk_at "k"
      refine x_ifB (fun h8 => ?_) (fun h8 => ?_)
      · walk_at "k"
        exact bad fun p => by
          have : (r.all fun e => asc rs.length (-1) e) = true := List.all_eq_true.mpr (p.rr r hm).2
          rw [this] at h8; cases h8
      walk_at "k"
      refine ⟨⟨_, rfl⟩, fun r' hr' => ?_⟩
      rw [take_snoc hr] at hr'
      rcases List.mem_append.mp hr' with q | q
      · exact hok r' q
      · rw [List.mem_singleton.mp q]
        have : (r.all fun e => asc rs.length (-1) e) = true := by simpa using h8
        exact ⟨h7, List.all_eq_true.mp this⟩
    · rintro j x e acc I hx hz hI
      walk_at "st"
      walk_at "k"
      rw [hl]
      refine x_args (sp := us_ascends) (x, e, rs.length) (by walk_at "cl") rfl hx (fun r hr => ?_) (fun _ h => h.elim)
      dsimp only [us_ascends] at hr
      subst hr
      walk_at "k"
      exact hI
  · rintro s ⟨⟨v, rfl⟩, hok⟩
    rw [hl, List.take_length] at hok
    have OK : Aok m is cs rs := ⟨by omega, by omega, by simpa using h3, by simpa using h4, hok⟩
    obtain ⟨k1, rfl⟩ := g1
    obtain ⟨k2, rfl⟩ := g2
    walk_at "k"
    refine x_lcR (fo := fun r => eTT r) ⟨hl, hR⟩ (by omega) ?_ ?_
    · walk_at "st"
      walk_at "k"
      refine fin ?_ OK
      rfl
    · rintro j x r acc I ⟨k, es, rfl, hA⟩ hz hI
      have hl0 := ll r (List.mem_of_getElem? hz)
      walk_at "st"
      walk_at "k"
      refine x_lcR (fo := fun e => eT e) hA (by omega) ?_ ?_
      · walk_at "st"
        walk_at "k"
        walk_at "st"
        exact hI
      · rintro j x e acc I ⟨k, rfl⟩ hz hI
        walk_at "st"
        walk_at "k"
        walk_at "st"
        exact hI
theorem p_Automaton_init (T : Cl K A) (h : sp_Automaton_init K A vs H Q E) : t_Automaton_init K A E (D0 Q) (start ["self", "letters", "initial", "accepting", "rows", "row", "entry"] vs) H := run1 (t := t_Automaton_init K A) (ru_Automaton_init T E) (hu_Automaton_init T) h
theorem hu_Places_init (T : Cl K A) : ∀ a, ((us_Places_init A)).pre a → u_Places_init K A (E1U ((us_Places_init A)) a) (sd0 ["self"] (((us_Places_init A)).self a :: ((us_Places_init A)).args a)) := by
  rintro ⟨⟩ -
  unfold u_Places_init
  refine gen1 fun nx rt bk ct er kn kr ke => ?_
  show uSeq _ _ _ [some (.ins true A.C_Places [] [])]
  walk_at "k"
  exact kn _ _ rfl ⟨rfl, rfl⟩
theorem p_Places_init (T : Cl K A) (h : sp_Places_init K A vs H Q E) : t_Places_init K A E (D0 Q) (start ["self"] vs) H := run1 (t := t_Places_init K A) (ru_Places_init T E) (hu_Places_init T) h
theorem hu_Places_number_of (T : Cl K A) : ∀ a, ((us_number_of A)).pre a → u_Places_number_of K A (E1U ((us_number_of A)) a) (sd0 ["self", "place"] (((us_number_of A)).self a :: ((us_number_of A)).args a)) := by
  rintro ⟨ps, p⟩ ⟨hn, hl⟩
  dsimp only at hn hl
  unfold u_Places_number_of
  refine gen1 fun nx rt bk ct er kn kr ke => ?_
  show uSeq _ _ _ [some (plD A true ps), some (eP p)]
  walk_at "k"
  rw [num_val]
  by_cases c : p ∈ ps
  · have ea : addP ps p = ps := if_pos c
    rw [if_pos c]
    refine x_ifF ?_
    walk_at "k"
    refine x_uop (r := .int (ps.idxOf p : Nat)) rfl rfl (num_val.trans (if_pos c)) ?_
    walk_at "k"
    exact kr _ _ _ rfl ⟨by rw [ea]; exact fz_pure rfl, by rw [ea]⟩
  · have ea : addP ps p = ps ++ [p] := if_neg c
    rw [if_neg c]
    refine x_ifT ?_
    walk_at "k"
    refine x_dpR (clo_p rfl) rfl rfl (szl (by rw [List.length_map]; omega)) ?_
    walk_at "st"
    have e1 : putKs [Sum.inl p.1, Sum.inl p.2] (ps.map pK) = (ps ++ [p]).map pK := by
      rw [List.map_append]
      exact if_neg (fun h => c ((mem_mapi pK_inj).mp h))
    have e2 : putXs [Sum.inl p.1, Sum.inl p.2] (.int (ps.length : Nat)) (ps.map pK) (rngD 0 ps.length) = rngD 0 (ps ++ [p]).length := by
      rw [List.length_append]
      exact (if_neg (fun h => c ((mem_mapi pK_inj).mp h))).trans rngD_snoc
    rw [List.length_map, e1, e2, put_num]
    walk_at "k"
    walk_at "st"
    rw [put_ord, fz_pure rfl]
    refine x_uop (r := .int ((ps ++ [p]).idxOf p : Nat)) rfl rfl (num_val.trans (if_pos (by simp))) ?_
    walk_at "k"
    refine kr _ _ _ rfl ⟨by rw [ea]; exact fz_pure rfl, ?_⟩
    rw [ea, show List.map eP ps ++ [eP p] = (ps ++ [p]).map eP from by rw [List.map_append]; rfl]
theorem p_Places_waits (T : Cl K A) (h : sp_Places_waits K A vs H Q E) : t_Places_waits K A E (D0 Q) (start ["self", "rows"] vs) H := by
  obtain ⟨x, r, o, dx, fs, ws, us, rfl, hx, hf, ho, hr, k⟩ := h
  unfold t_Places_waits D0
  show tRet _ _ [some (.ref x), some (.ref r)] H
  walk_at "go"
  refine r_fld hx T.cl_Places T.na_Places_order hf ?_
  walk_at "go"
  exact k
theorem p_Places_first_without (T : Cl K A) (h : sp_Places_first_without K A vs H Q E) : t_Places_first_without K A E (D0 Q) (start ["self", "rows"] vs) H := by
  obtain ⟨x, r, o, dx, fs, ws, us, y, rfl, hx, hf, ho, hr, hy, k⟩ := h
  unfold t_Places_first_without D0
  show tRet _ _ [some (.ref x), some (.ref r)] H
  walk_at "go"
  refine r_fld hx T.cl_Places T.na_Places_order hf ?_
  walk_at "go"
  refine r_ixL ho (atI_nat hy) ?_
  exact k
theorem AcOk.ent {a : AcA} (h : AcOk a) : ∀ r ∈ a.rs, ∀ e ∈ r, ∀ x ∈ e, 0 ≤ x ∧ x < a.rs.length := fun r hr e he x hx => by
  have := (asc_iff.mp ((h.ok.rr r hr).2 e he)).1 x hx
  omega
theorem AcOk.ini {a : AcA} (h : AcOk a) : ∀ s ∈ a.is, 0 ≤ s ∧ s < a.rs.length := fun s q => by have := (asc_iff.mp h.ok.ai).1 s q; omega
theorem suc_len {a : AcA} (h : AcOk a) {p : Int × Int} : (suc a.rs a.hs a.ls p).length ≤ 10 := by
  unfold suc
  rw [List.length_map, List.getD_eq_getElem?_getD, List.getD_eq_getElem?_getD]
  cases e1 : a.rs[p.2.toNat]? with
  | none => simp
  | some r =>
    rw [Option.getD_some]
    cases e2 : r[((a.hs ++ a.ls).getD p.1.toNat 0).toNat]? with
    | none => simp
    | some e =>
      rw [Option.getD_some]
      have := asc_len ((h.ok.rr r (List.mem_of_getElem? e1)).2 e (List.mem_of_getElem? e2)) (by omega)
      have := h.rl
      omega
theorem run_rows {a : AcA} {ps : List (Int × Int)} {M : List (List Int)} (R : RunI a.rs a.hs a.ls a.is ps M) (hM : M.length = ps.length) (h : AcOk a) (hl : ps.length ≤ 200) : ∀ ts ∈ M, ts.length ≤ 1000 ∧ ∀ t ∈ ts, 0 ≤ t ∧ t < M.length := fun ts hts => by
  obtain ⟨i, hi⟩ := List.mem_iff_getElem?.mp hts
  have il : i < M.length := (List.getElem?_eq_some_iff.mp hi).1
  obtain ⟨p, hp⟩ : ∃ p, ps[i]? = some p := ⟨_, List.getElem?_eq_getElem (by omega)⟩
  obtain ⟨h1, h2⟩ := R.ed i p il hp
  rw [hi] at h2
  obtain rfl := Option.some.inj h2
  refine ⟨by rw [List.length_map]; have := suc_len h (p := p); omega, fun t ht => ?_⟩
  obtain ⟨q, hq, rfl⟩ := List.mem_map.mp ht
  have := List.idxOf_lt_length_iff.mpr (h1 q hq)
  omega
theorem gmax_lt {m : Int} : ∀ {ns : List Int}, ns ≠ [] → (gmax ns < m ↔ ∀ z ∈ ns, z < m) := fun {ns} hn => by
  obtain ⟨h1, h2⟩ := gmax_spec hn
  exact ⟨fun h z hz => by have := h2 z hz; omega, fun h => h _ h1⟩
theorem fMaxB_eT {ns : List Int} (h : ns ≠ []) : fMaxB [eT ns] = some (.int (gmax ns)) := by
  show (match intsD (eI ns) with | some ns => if ns = [] then none else some (D.int (gmax ns)) | none => none) = _
  rw [intsD_map]; exact if_neg h
theorem fMaxD_eT {ns : List Int} {z : Int} : fMaxD [eT ns] [.int z] = some (.int (if ns = [] then z else gmax ns)) := by
  show (match intsD (eI ns) with | some ns => some (D.int (if ns = [] then z else gmax ns)) | none => none) = _
  rw [intsD_map]
theorem hu_check_letters (T : Cl K A) : ∀ a, ((us_check_letters A)).pre a → u_check_letters K A (E0U ((us_check_letters A)) a) (sd0 ["lasso", "letters", "head", "loop"] (((us_check_letters A)).args a)) := by
  rintro ⟨⟨hs, ls⟩, m⟩ ⟨h1, h2, h3⟩
  dsimp only at h1 h2 h3
  unfold u_check_letters
  refine gen0 fun nx rt bk ct er kn kr ke => ?_
  show uSeq _ _ _ [some (lasD hs ls), some (.int m), none, none]
  walk_at "k"
  refine x_un' rfl (fMaxB_eT h1) ?_
  walk_at "k"
  refine x_ifD (fun c => ?_) (fun c => ?_)
  · walk_at "k"
    exact ke _ _ ⟨rfl, fun h => by have := (gmax_lt h1).mpr fun z hz => h z (List.mem_append_right _ hz); omega⟩
  walk_at "k"
  refine ⟨_, _, _, rfl, rfl, fMaxD_eT, ?_⟩
  walk_at "k"
  have c1 := (gmax_lt h1).mp (by omega : gmax ls < m)
  have e : (if hs = [] then (0 : Int) else gmax hs) < m ↔ ∀ z ∈ hs, z < m := by
    by_cases q : hs = []
    · rw [if_pos q, q]; simp; omega
    · rw [if_neg q]; exact gmax_lt q
  refine x_ifD (fun c => ?_) (fun c => ?_)
  · walk_at "k"
    exact ke _ _ ⟨rfl, fun h => by have := e.mpr fun z hz => h z (List.mem_append_left _ hz); omega⟩
  walk_at "k"
  refine kn _ ⟨rfl, fun z hz => ?_⟩
  rcases List.mem_append.mp hz with q | q
  · exact e.mp (by omega) z q
  · exact c1 z q
theorem p_check_letters (T : Cl K A) (h : sp_check_letters K A vs H Q E) : t_check_letters K A E (D0 Q) (start ["lasso", "letters", "head", "loop"] vs) H := run0 (t := t_check_letters K A) (ru_check_letters T E) (hu_check_letters T) h
theorem fRep_bl {n : Nat} {b : Bool} (h : n ≤ 1000) : fRep (.lst true [.bl b]) (.int (n : Nat)) = some (.lst true (eB (List.replicate n b))) := by
  simp only [fRep]
  rw [if_pos ⟨by omega, by omega, sz (by simp; omega)⟩]
  rw [Int.toNat_natCast]
  congr 2
  rw [eB, List.map_replicate]
  induction n with
  | zero => rfl
  | succ n ih => rw [List.replicate_succ, List.flatten_cons, ih (by omega), List.replicate_succ]; rfl
theorem set_mem {n i : Nat} {cs : List Int} {z : Int} (hz : cs[i]? = some z) (h0 : 0 ≤ z) : (eB ((List.range n).map fun (k : Nat) => decide ((k : Int) ∈ cs.take i))).set z.toNat (.bl true) = eB ((List.range n).map fun (k : Nat) => decide ((k : Int) ∈ cs.take (i + 1))) := by
  rw [take_snoc hz]
  refine List.ext_getElem? fun j => ?_
  rw [List.getElem?_set]
  simp only [eB, List.getElem?_map, List.length_map, List.length_range]
  by_cases c : z.toNat = j
  · subst c
    rw [if_pos rfl]
    by_cases q : z.toNat < n
    · rw [if_pos q, List.getElem?_range q]
      simp [Int.toNat_of_nonneg h0]
    · rw [if_neg q, List.getElem?_eq_none (by rw [List.length_range]; omega)]; rfl
  · rw [if_neg c]
    cases e : (List.range n)[j]? with
    | none => rfl
    | some k =>
      have : k = j := by
        have := List.getElem?_eq_some_iff.mp e
        obtain ⟨_, h⟩ := this
        simp at h; exact h.symm
      subst this
      have : ¬ (k : Int) = z := by omega
      simp [this]
theorem hu_flags (T : Cl K A) : ∀ a, (us_flags).pre a → u_flags K A (E0U (us_flags) a) (sd0 ["states", "count", "told", "state"] ((us_flags).args a)) := by
  rintro ⟨cs, n⟩ ⟨h1, h2⟩
  dsimp only at h1 h2
  unfold u_flags
  refine gen0 fun nx rt bk ct er kn kr ke => ?_
  show uSeq _ _ _ [some (eT cs), some (.int (n : Nat)), none, none]
  iterate 9 (first | walk_at "k1" | walk_at "k2")
  rw [fz_pure rfl]
  refine x_uop rfl rfl (fRep_bl h1) ?_
  walk_at "k"
  refine x_inv (fun i s => ∃ v, s = [some (eT cs), some (.int (n : Nat)), some (.lst true (eB ((List.range n).map fun (k : Nat) => decide ((k : Int) ∈ cs.take i)))), v]) ⟨none, by rw [show (List.range n).map (fun (k : Nat) => decide ((k : Int) ∈ cs.take 0)) = List.replicate n false from by simp [List.map_const']]; rfl⟩ ?_ ?_
  · rintro s ⟨v, rfl⟩
    rw [eI_len, List.take_length]
    walk_at "k"
    exact kr _ _ rfl
  · rintro i x s hi ⟨v, rfl⟩
    obtain ⟨z, hz, rfl⟩ := eI_get hi
    have hb := h2 z (List.mem_of_getElem? hz)
    walk_at "k"
    refine x_gs (xs := eB ((List.range n).map fun (k : Nat) => decide ((k : Int) ∈ cs.take i))) rfl ⟨hb.1, by rw [List.length_map, List.length_map, List.length_range]; exact hb.2⟩ ?_
    walk_at "st"
    refine ⟨some (.int z), ?_⟩
    rw [fz_pure rfl, set_mem hz hb.1]
theorem hu__law_copy (T : Cl K A) : ∀ a, (us_law_copy).pre a → u__law_copy K A (E0U (us_law_copy) a) (sd0 ["rows", "row", "entry"] ((us_law_copy).args a)) := by
  rintro rs ⟨h1, h2⟩
  unfold u__law_copy
  refine gen0 fun nx rt bk ct er kn kr ke => ?_
  show uRet _ _ [some (eR rs), none, none]
  walk_at "k"
  refine x_lcM (fo := eLL) (by omega) ?_ ?_
  · walk_at "st"
    walk_at "k"
    exact kr _ _ rfl
  · intro i r acc I hz hI
    have h0 := h2 r (List.mem_of_getElem? hz)
    walk_at "st"
    walk_at "k"
    refine x_lcM (fo := eL) (by omega) ?_ ?_
    · walk_at "st"
      walk_at "k"
      walk_at "st"
      exact hI
    · intro j e acc I hz hI
      walk_at "st"
      walk_at "k"
      walk_at "st"
      exact hI
theorem p__law_copy (T : Cl K A) (h : sp__law_copy K A vs H Q E) : t__law_copy K A E (D0 Q) (start ["rows", "row", "entry"] vs) H := run0 (t := t__law_copy K A) (ru__law_copy T E) (hu__law_copy T) h
theorem hu__law_ascending (T : Cl K A) : ∀ a, (us_law_ascending).pre a → u__law_ascending K A (E1U (us_law_ascending) a) (sd0 ["draws", "limit", "share", "k"] ((us_law_ascending).self a :: (us_law_ascending).args a)) := by
  rintro ⟨ds, n, c⟩ ⟨h1, h2⟩
  dsimp only at h1 h2
  unfold u__law_ascending
  refine gen1 fun nx rt bk ct er kn kr ke => ?_
  show uRet _ _ [some (.lst true (eI ds)), some (.int (n : Nat)), some (.int c), none]
  walk_at "k"
  refine ⟨(n : Nat), rfl, by omega, by omega, sz (by rw [rngD_len]; omega), fun j acc s => ∃ ds' ks, s = [some (.lst true (eI ds')), some (.int (n : Nat)), some (.int c), none] ∧ acc = eI ks ∧ Dok ds' ∧ asc (j : Nat) (-1) ks = true, ⟨ds, [], rfl, rfl, h1, rfl⟩, ?_, ?_⟩
  · rintro acc s ⟨ds', ks, rfl, rfl, hd, ha⟩
    rw [rngD_len, Int.toNat_natCast] at ha
    walk_at "st"
    walk_at "k"
    exact kr _ _ _ rfl ⟨ds', ks, rfl, hd, rfl, ha⟩
  · rintro j x acc s hi ⟨ds', ks, rfl, rfl, hd, ha⟩
    obtain ⟨hj, rfl⟩ := rngD_get.mp hi
    walk_at "st"
    walk_at "k"
    refine' x_args1 (sp := us_take) (ds', 10) ?hc ?hv rfl rfl ⟨hd, by show (0 : Int) < 10; decide⟩ (fun r f hr => ?_) (fun _ h => h.elim)
    case hc => walk_at "cl"
    case hv => rfl
    obtain ⟨t, ds2, rfl, t0, t1, hd2, rfl⟩ := hr
    walk_at "st"
    walk_at "k"
    refine x_ifD (fun q => ?_) (fun q => ?_)
    · walk_at "k"
      refine ⟨ds2, ks ++ [(j : Int)], rfl, by rw [Int.zero_add, fz_pure rfl]; exact (List.map_append (f := D.int) (l₁ := ks) (l₂ := [(j : Int)])).symm, hd2, asc_snoc ha (by omega)⟩
    · exact ⟨ds2, ks, rfl, rfl, hd2, asc_mono ha (by omega)⟩
theorem p__law_ascending (T : Cl K A) (h : sp__law_ascending K A vs H Q E) : t__law_ascending K A E (D0 Q) (start ["draws", "limit", "share", "k"] vs) H := run1 (t := t__law_ascending K A) (ru__law_ascending T E) (hu__law_ascending T) h
theorem p_flags (T : Cl K A) (h : sp_flags K A vs H Q E) : t_flags K A E (D0 Q) (start ["states", "count", "told", "state"] vs) H := run0 (t := t_flags K A) (ru_flags T E) (hu_flags T) h
theorem hu__law_lasso (T : Cl K A) : ∀ a, (us_law_lasso).pre a → u__law_lasso K A (E1U (us_law_lasso) a) (sd0 ["draws", "letters", "longest", "k", "head", "loop"] ((us_law_lasso).self a :: (us_law_lasso).args a)) := by
  rintro ⟨ds, m, n⟩ ⟨h1, h2, h3, h4⟩
  dsimp only at h1 h2 h3 h4
  unfold u__law_lasso
  refine gen1 fun nx rt bk ct er kn kr ke => ?_
  show uSeq _ _ _ [some (.lst true (eI ds)), some (.int m), some (.int n), none, none, none]
  walk_at "k"
  refine' x_args1 (sp := us_take) (ds, n + 1) ?hc ?hv rfl rfl ⟨h1, by show (0 : Int) < n + 1; omega⟩ (fun r f hr => ?_) (fun _ h => h.elim)
  case hc => walk_at "cl"
  case hv => rfl
  obtain ⟨t, ds2, rfl, t0, t1, hd2, rfl⟩ := hr
  dsimp only at t1
  walk_at "st"
  walk_at "k"
  refine ⟨t, rfl, by omega, by omega, sz (by rw [rngD_len]; omega), fun j acc s => ∃ ds' hs, s = [some (.lst true (eI ds')), some (.int m), some (.int n), none, none, none] ∧ acc = eI hs ∧ Dok ds' ∧ hs.length = j ∧ ∀ z ∈ hs, 0 ≤ z ∧ z < m, ⟨ds2, [], rfl, rfl, hd2, rfl, fun _ h => nomatch h⟩, ?_, ?_⟩
  rotate_left
  · rintro j x acc s hi ⟨ds', hs, rfl, rfl, hd, hl, hb⟩
    obtain ⟨hj, rfl⟩ := rngD_get.mp hi
    walk_at "st"
    walk_at "k"
    refine' x_args1 (sp := us_take) (ds', m) ?hc ?hv rfl rfl ⟨hd, by show (0 : Int) < m; omega⟩ (fun r f hr => ?_) (fun _ h => h.elim)
    case hc => walk_at "cl"
    case hv => rfl
    obtain ⟨t, ds2, rfl, t0, t1, hd2, rfl⟩ := hr
    walk_at "st"
    walk_at "k"
    walk_at "st"
    refine ⟨ds2, hs ++ [t], rfl, by rw [fz_pure rfl]; exact (List.map_append (f := D.int) (l₁ := hs) (l₂ := [t])).symm, hd2, by rw [List.length_append, hl]; rfl, fun z hz => ?_⟩
    rcases List.mem_append.mp hz with q | q
    · exact hb z q
    · rw [List.mem_singleton.mp q]; exact ⟨t0, t1⟩
  · rintro acc s ⟨ds', hs, rfl, rfl, hd, hl, hb⟩
    rw [rngD_len] at hl
    walk_at "st"
    walk_at "k"
    refine' x_args1 (sp := us_take) (ds', n) ?hc ?hv rfl rfl ⟨hd, by show (0 : Int) < n; omega⟩ (fun r f hr => ?_) (fun _ h => h.elim)
    case hc => walk_at "cl"
    case hv => rfl
    obtain ⟨t', ds2, rfl, u0, u1, hd2, rfl⟩ := hr
    dsimp only at u1
    walk_at "st"
    walk_at "k"
    refine ⟨1 + t', rfl, by omega, by omega, sz (by rw [rngD_len]; omega), fun j acc s => ∃ ds' ls, s = [some (.lst true (eI ds')), some (.int m), some (.int n), none, some (.lst true (eI hs)), none] ∧ acc = eI ls ∧ Dok ds' ∧ ls.length = j ∧ ∀ z ∈ ls, 0 ≤ z ∧ z < m, ⟨ds2, [], rfl, rfl, hd2, rfl, fun _ h => nomatch h⟩, ?_, ?_⟩
    rotate_left
    · rintro j x acc s hi ⟨ds', ls, rfl, rfl, hd, hl, hb⟩
      obtain ⟨hj, rfl⟩ := rngD_get.mp hi
      walk_at "st"
      walk_at "k"
      refine' x_args1 (sp := us_take) (ds', m) ?hc ?hv rfl rfl ⟨hd, by show (0 : Int) < m; omega⟩ (fun r f hr => ?_) (fun _ h => h.elim)
      case hc => walk_at "cl"
      case hv => rfl
      obtain ⟨t, ds2, rfl, t0, t1, hd2, rfl⟩ := hr
      walk_at "st"
      walk_at "k"
      walk_at "st"
      refine ⟨ds2, ls ++ [t], rfl, by rw [fz_pure rfl]; exact (List.map_append (f := D.int) (l₁ := ls) (l₂ := [t])).symm, hd2, by rw [List.length_append, hl]; rfl, fun z hz => ?_⟩
      rcases List.mem_append.mp hz with q | q
      · exact hb z q
      · rw [List.mem_singleton.mp q]; exact ⟨t0, t1⟩
    · rintro acc s ⟨ds3, ls, rfl, rfl, hd3, hl3, hb3⟩
      rw [rngD_len] at hl3
      walk_at "st"
      walk_at "k"
      refine kr _ _ _ rfl ⟨ds3, hs, ls, rfl, hd3, rfl, by omega, by show (ls.length : Int) ≤ n; omega, by show (hs.length : Int) ≤ n; omega, fun z hz => ?_⟩
      rcases List.mem_append.mp hz with q | q
      · exact hb z q
      · exact hb3 z q
theorem p__law_lasso (T : Cl K A) (h : sp__law_lasso K A vs H Q E) : t__law_lasso K A E (D0 Q) (start ["draws", "letters", "longest", "k", "head", "loop"] vs) H := run1 (t := t__law_lasso K A) (ru__law_lasso T E) (hu__law_lasso T) h
theorem hu__law_outcome (T : Cl K A) : ∀ a, ((us_law_outcome A)).pre a → u__law_outcome K A (E0U ((us_law_outcome A)) a) (sd0 ["automaton", "lasso", "found"] (((us_law_outcome A)).args a)) := by
  intro a h
  unfold u__law_outcome
  refine gen0 fun nx rt bk ct er kn kr ke => ?_
  show uSeq _ _ _ [some (auD A false a.m a.is a.cs a.rs), some (lasD a.hs a.ls), none]
  refine x_seq ?_
  refine x_try ?_
  walk_at "k"
  refine x_args (sp := us_accepts A) a (by walk_at "cl") rfl h (fun r hr => ?_) (fun C hC => ?_)
  · obtain ⟨rfl, hb⟩ := hr
    walk_at "k"
    refine x_ifF ?_
    walk_at "k"
    exact kr _ _ (.inl ⟨hb, rfl⟩)
  · obtain ⟨rfl, hb⟩ := hC
    refine x_hdT T.em_InvalidLetter_InvalidLetter ?_
    walk_at "k"
    exact kr _ _ (.inr ⟨hb, rfl⟩)
theorem p__law_outcome (T : Cl K A) (h : sp__law_outcome K A vs H Q E) : t__law_outcome K A E (D0 Q) (start ["automaton", "lasso", "found"] vs) H := run0 (t := t__law_outcome K A) (ru__law_outcome T E) (hu__law_outcome T) h
theorem hu_accepts (T : Cl K A) : ∀ a, ((us_accepts A)).pre a → u_accepts K A (E0U ((us_accepts A)) a) (sd0 ["automaton", "lasso", "places", "edges", "accepting", "cyclic", "node", "_", "state"] (((us_accepts A)).args a)) := by
  intro a h
  unfold u_accepts
  refine gen0 fun nx rt bk ct er kn kr ke => ?_
  show uSeq _ _ _ [some (auD A false a.m a.is a.cs a.rs), some (lasD a.hs a.ls), none, none, none, none, none, none, none]
  walk_at "k"
  refine x_args (sp := us_check_letters A) ((a.hs, a.ls), a.m) (by walk_at "cl") rfl ⟨fun q => by have := h.ne; rw [show a.ls = [] from q] at this; exact absurd this (by decide), fun z hz => (List.mem_append.mp hz).elim (h.h0 z) (h.l0 z), by have := h.ok.m1; show (0 : Int) < a.m; omega⟩ (fun r hr => ?_) (fun C hC => ?_)
  rotate_left
  · exact ke _ _ hC
  obtain ⟨rfl, hb⟩ := hr
  walk_at "k"
  refine x_args (sp := us_runs A) a (by walk_at "cl") rfl ⟨h, hb⟩ (fun r hr => ?_) (fun _ h => h.elim)
  obtain ⟨ps, M, rfl, R, hM, hl⟩ := hr
  walk_at "k"
  rw [List.length_map]
  have icl : ∀ s ∈ a.cs, 0 ≤ s ∧ s < (a.rs.length : Nat) := fun s q => by have := (asc_iff.mp h.ok.ac).1 s q; omega
  refine x_args (sp := us_flags) (a.cs, a.rs.length) (by walk_at "cl") rfl ⟨by have := h.rl; show a.rs.length ≤ 1000; omega, icl⟩ (fun r hr => ?_) (fun _ h => h.elim)
  dsimp only [us_flags] at hr
  subst hr
  walk_at "k"
  refine x_args (sp := us_on_cycles) M (by walk_at "cl") rfl ⟨by omega, run_rows R hM h hl⟩ (fun r hr => ?_) (fun _ h => h.elim)
  obtain ⟨cy, rfl, lc, hc⟩ := hr
  have acc := run_acc R hM (cs := a.cs) h.ne (fun r hr e he => h.ent r hr e he) h.ini
  walk_at "k"
  refine x_inv (fun i s => ∃ v6 v7 v8, s = [some (auD A false a.m a.is a.cs a.rs), some (lasD a.hs a.ls), some (.lst false (ps.map eP)), some (eLL M), some (.lst false (eB ((List.range a.rs.length).map fun (k : Nat) => decide ((k : Int) ∈ a.cs)))), some (.lst false (eB cy)), v6, v7, v8] ∧ ∀ j p, j < i → ps[j]? = some p → ¬ (p.2 ∈ a.cs ∧ SL.Cyc M j)) ⟨none, none, none, rfl, fun _ _ h => absurd h (by omega)⟩ ?_ ?_
  · rintro s ⟨v6, v7, v8, rfl, hn⟩
    walk_at "k"
    rw [enD_len, List.length_map] at hn
    refine kr _ _ ⟨?_, hb⟩
    rw [fz_pure rfl]
    congr 1
    cases q : ACC a.rs a.is a.cs a.hs a.ls with
    | false => rfl
    | true =>
      obtain ⟨i, p, h1, h2, h3⟩ := acc.mp q
      exact absurd ⟨h2, h3⟩ (hn i p (List.getElem?_eq_some_iff.mp h1).1 h1)
  · rintro i x s hi ⟨v6, v7, v8, rfl, hn⟩
    obtain ⟨y, hy, rfl⟩ := enD_get.mp hi
    obtain ⟨p, hp, rfl⟩ := map_get hy
    have il : i < ps.length := (List.getElem?_eq_some_iff.mp hp).1
    have rp := R.rg p (List.mem_of_getElem? hp)
    have lf : ((List.range a.rs.length).map fun (k : Nat) => decide ((k : Int) ∈ a.cs)).length = a.rs.length := by simp
    have ef : ((List.range a.rs.length).map fun (k : Nat) => decide ((k : Int) ∈ a.cs)).getD p.2.toNat false = decide (p.2 ∈ a.cs) := by
      rw [List.getD_eq_getElem?_getD, List.getElem?_map, List.getElem?_range (by omega), Option.map_some, Option.getD_some, Int.toNat_of_nonneg rp.2.2.1]
    walk_at "k"
    refine x_uop (r := .bl (decide (p.2 ∈ a.cs))) rfl rfl ((atD_map (f := D.bl) false rp.2.2.1 (by rw [lf]; exact rp.2.2.2)).trans (by rw [ef])) ?_
    walk_at "k"
    refine x_ifD (fun c1 => ?_) (fun c1 => ?_)
    · walk_at "k"
      refine x_uop (r := .bl (cy.getD i false)) rfl rfl ((atD_map (f := D.bl) (l := cy) (i := (i : Nat)) false (by omega) (by omega)).trans (by rw [Int.toNat_natCast])) ?_
      walk_at "k"
      refine x_ifB (fun c2 => ?_) (fun c2 => ?_)
      · walk_at "k"
        refine kr _ _ ⟨?_, hb⟩
        rw [fz_pure rfl, acc.mpr ⟨i, p, hp, c1, (hc i (by omega)).mp c2⟩]
      · walk_at "k"
        refine ⟨_, _, _, rfl, fun j q hj hq => ?_⟩
        rcases Nat.lt_succ_iff_lt_or_eq.mp hj with h5 | rfl
        · exact hn j q h5 hq
        · rw [hp] at hq
          obtain rfl := Option.some.inj hq
          exact fun h6 => by rw [(hc j (by omega)).mpr h6.2] at c2; cases c2
    · walk_at "k"
      refine ⟨_, _, _, rfl, fun j q hj hq => ?_⟩
      rcases Nat.lt_succ_iff_lt_or_eq.mp hj with h5 | rfl
      · exact hn j q h5 hq
      · rw [hp] at hq
        obtain rfl := Option.some.inj hq
        exact fun h6 => c1 h6.1
theorem p_accepts (T : Cl K A) (h : sp_accepts K A vs H Q E) : t_accepts K A E (D0 Q) (start ["automaton", "lasso", "places", "edges", "accepting", "cyclic", "node", "_", "state"] vs) H := run0 (t := t_accepts K A) (ru_accepts T E) (hu_accepts T) h
theorem nodup_len {n : Int} {ks : List Int} (hn : ks.Nodup) (hb : ∀ x ∈ ks, 0 ≤ x ∧ x < n) (h0 : 0 ≤ n) : (ks.length : Int) ≤ n := by
  have hs : (ks.mergeSort (fun a b => decide (a ≤ b))).Pairwise (· ≤ ·) := by
    have := List.pairwise_mergeSort (le := fun a b : Int => decide (a ≤ b)) (fun a b c h1 h2 => by simp at *; omega) (fun a b => by simp; omega) ks
    exact this.imp fun h => by simpa using h
  have := asc_len (asc_of (List.mergeSort_perm ks _) hs hn hb) (by omega)
  have e := (List.mergeSort_perm ks (fun a b => decide (a ≤ b))).length_eq
  omega
structure PsI (rs : List (List (List Int))) (hs ls is : List Int) (ps : List (Int × Int)) : Prop where
  nd : ps.Nodup
  rg : ∀ p ∈ ps, Rg rs hs ls p
  rc : ∀ p ∈ ps, Rch rs hs ls is p
theorem addP_mem {ps : List (Int × Int)} {p : Int × Int} : p ∈ addP ps p := by
  unfold addP
  split
  · assumption
  · simp
theorem addP_app {ps : List (Int × Int)} {p : Int × Int} : ∃ l, addP ps p = ps ++ l := by
  unfold addP
  split
  · exact ⟨[], (List.append_nil _).symm⟩
  · exact ⟨[p], rfl⟩
theorem idx_app {ps l : List (Int × Int)} {p : Int × Int} (h : p ∈ ps) : (ps ++ l).idxOf p = ps.idxOf p := by rw [List.idxOf_append, if_pos h]
section
variable {rs : List (List (List Int))} {hs ls is : List Int} {ps : List (Int × Int)} {M : List (List Int)}
theorem PsI.add (P : PsI rs hs ls is ps) {p : Int × Int} (h1 : Rg rs hs ls p) (h2 : Rch rs hs ls is p) : PsI rs hs ls is (addP ps p) := by
  unfold addP
  split
  · exact P
  · next c =>
    refine ⟨List.nodup_append.mpr ⟨P.nd, by simp, fun a ha b hb => by rw [List.mem_singleton.mp hb]; exact fun e => c (e ▸ ha)⟩, fun q hq => ?_, fun q hq => ?_⟩
    · rcases List.mem_append.mp hq with q1 | q1
      · exact P.rg q q1
      · rw [List.mem_singleton.mp q1]; exact h1
    · rcases List.mem_append.mp hq with q1 | q1
      · exact P.rc q q1
      · rw [List.mem_singleton.mp q1]; exact h2
theorem PsI.len (P : PsI rs hs ls is ps) (h1 : rs.length ≤ 10) (h2 : (hs ++ ls).length ≤ 20) : ps.length ≤ 200 := by
  have nd : (ps.map fun p => (enc hs ls p : Int)).Nodup := by
    refine List.pairwise_map.mpr (List.Pairwise.imp_of_mem (fun {p q} hp hq hne e => hne ?_) P.nd)
    exact enc_inj (P.rg p hp) (P.rg q hq) (by omega)
  have := nodup_len (n := 200) nd (fun x hx => by
    obtain ⟨p, hp, rfl⟩ := List.mem_map.mp hx
    have := enc_lt (P.rg p hp)
    have : rs.length * (hs ++ ls).length ≤ 10 * 20 := Nat.mul_le_mul h1 h2
    omega) (by omega)
  rw [List.length_map] at this
  omega
theorem RunI.next (R : RunI rs hs ls is ps M) {p : Int × Int} (hp : ps[M.length]? = some p) {l : List (Int × Int)} (P : PsI rs hs ls is (ps ++ l)) (hq : ∀ q ∈ suc rs hs ls p, q ∈ ps ++ l) :
    RunI rs hs ls is (ps ++ l) (M ++ [(suc rs hs ls p).map fun q => ((ps ++ l).idxOf q : Int)]) := by
  have il := (List.getElem?_eq_some_iff.mp hp).1
  refine ⟨P.nd, P.rg, P.rc, fun s h => List.mem_append_left _ (R.i0 s h), by simp only [List.length_append, List.length_cons, List.length_nil]; omega, fun i p' hi hp' => ?_⟩
  by_cases c : i < M.length
  · rw [List.getElem?_append_left (by omega)] at hp'
    obtain ⟨h1, h2⟩ := R.ed i p' c hp'
    refine ⟨fun q h => List.mem_append_left _ (h1 q h), ?_⟩
    rw [List.getElem?_append_left c, h2]
    congr 1
    exact List.map_congr_left fun q h => by rw [idx_app (h1 q h)]
  · have : i = M.length := by simp only [List.length_append, List.length_cons, List.length_nil] at hi; omega
    subst this
    rw [List.getElem?_append_left il, hp] at hp'
    obtain rfl := Option.some.inj hp'
    refine ⟨hq, ?_⟩
    rw [List.getElem?_append_right (Nat.le_refl _), Nat.sub_self]; rfl
theorem RunI.psI (R : RunI rs hs ls is ps M) : PsI rs hs ls is ps := ⟨R.nd, R.rg, R.rc⟩
end
theorem hu_runs (T : Cl K A) : ∀ a, ((us_runs A)).pre a → u_runs K A (E0U ((us_runs A)) a) (sd0 ["automaton", "lasso", "head", "loop", "letters", "places", "state", "edges", "turn", "later", "target"] (((us_runs A)).args a)) := by
  rintro (a : AcA) ⟨h, hb⟩
  unfold u_runs
  refine gen0 fun nx rt bk ct er kn kr ke => ?_
  show uSeq _ _ _ [some (auD A false a.m a.is a.cs a.rs), some (lasD a.hs a.ls), none, none, none, none, none, none, none, none, none]
  have wl : (a.hs ++ a.ls).length ≤ 20 := by rw [List.length_append]; have := h.hl; have := h.ll; omega
  have w0 : 0 < (a.hs ++ a.ls).length := by rw [List.length_append]; have := h.ne; omega
  walk_at "k"
  refine x_uop (r := eT (a.hs ++ a.ls)) rfl rfl (by simp only [fCatA]; rw [if_pos (sz (by rw [eI_len, eI_len]; rw [List.length_append] at wl; omega)), ← List.map_append]) ?_
  walk_at "k"
  refine x_margs (sp := us_Places_init A) () (by walk_at "cl") rfl rfl trivial (fun r f hr => ?_) (fun _ h => h.elim)
  obtain ⟨rfl, rfl⟩ := hr
  refine ⟨rfl, ?_⟩
  walk_at "k"
  refine x_inv (fun i s => ∃ ps v6, s = [some (auD A false a.m a.is a.cs a.rs), some (lasD a.hs a.ls), some (eT a.hs), some (eT a.ls), some (eT (a.hs ++ a.ls)), some (plD A true ps), v6, none, none, none, none] ∧ PsI a.rs a.hs a.ls a.is ps ∧ ∀ s ∈ a.is.take i, (0, s) ∈ ps) ⟨[], none, rfl, ⟨List.nodup_nil, (fun _ h => nomatch h), (fun _ h => nomatch h)⟩, fun _ h => by simp at h⟩ ?_ ?_
  rotate_left
  · rintro i x s hi ⟨ps, v6, rfl, P, h0⟩
    obtain ⟨z, hz, rfl⟩ := eI_get hi
    have zm := List.mem_of_getElem? hz
    have pl := P.len h.rl wl
    walk_at "k"
    refine' x_m1 (sp := us_number_of A) (ps, (0, z)) ?hc ?hv rfl ?ha ⟨P.nd, by show ps.length ≤ 100000; omega⟩ (fun r f hr => ?_) (fun _ h => h.elim)
    case hc => walk_at "cl"
    case hv => rfl
    case ha => rfl
    obtain ⟨rfl, rfl⟩ := hr
    walk_at "st"
    refine ⟨addP ps (0, z), some (.int z), rfl, P.add ⟨Int.le_refl _, by show (0 : Int) < _; omega, h.ini z zm⟩ (.base zm), fun s hs => ?_⟩
    rw [take_snoc hz] at hs
    obtain ⟨l, hl⟩ := addP_app (ps := ps) (p := (0, z))
    rcases List.mem_append.mp hs with q | q
    · rw [hl]; exact List.mem_append_left _ (h0 s q)
    · rw [List.mem_singleton.mp q]; exact addP_mem
  rintro s ⟨ps, v6, rfl, P, h0⟩
  rw [eI_len, List.take_length] at h0
  walk_at "k"
  refine x_while (fun m s => ∃ ps M v6 v8 v9, s = [some (auD A false a.m a.is a.cs a.rs), some (lasD a.hs a.ls), some (eT a.hs), some (eT a.ls), some (eT (a.hs ++ a.ls)), some (plD A true ps), v6, some (.lst true (M.map eL)), v8, v9, none] ∧ RunI a.rs a.hs a.ls a.is ps M ∧ m + M.length = 200) 200 ⟨ps, [], v6, none, none, rfl, ⟨P.nd, P.rg, P.rc, h0, Nat.zero_le _, fun _ _ h => absurd h (by simp)⟩, rfl⟩ ?_
  rintro m s ⟨ps, M, v6, v8, v9, rfl, R, hm⟩
  have pl := R.psI.len h.rl wl
  refine x_b ?_
  refine x_waits rfl rfl ?_
  refine x_bl ?_
  rw [List.length_map, List.length_map]
  refine x_ifD (fun c => ?_) (fun c => ?_)
  rotate_left
  · have hM : M.length = ps.length := by have := R.le; omega
    walk_at "k"
    rw [fz_pure rfl, show fz (D.lst true (ps.map eP)) = .lst false (ps.map eP) from by rw [fz], show fz (D.lst true (M.map eL)) = eLL M from by rw [fz]]
    exact kr _ _ ⟨ps, M, rfl, R, hM, pl⟩
  obtain ⟨p, hp⟩ : ∃ p, ps[M.length]? = some p := ⟨_, List.getElem?_eq_getElem (by omega)⟩
  have rp := R.rg p (List.mem_of_getElem? hp)
  refine x_seq ?_
  refine x_asg ?_
  refine x_first rfl rfl (x := eP p) (by rw [List.length_map, List.getElem?_map, hp]; rfl) ?_
  walk_at "k"
  rw [eI_len]
  obtain ⟨z, hz⟩ : ∃ z, z = lat a.hs a.ls p.1 := ⟨_, rfl⟩
  have z1 : p.1 + 1 < ((a.hs ++ a.ls).length : Int) → p.1 + 1 = z := fun q => by rw [hz, lat, if_pos q]
  have z2 : ¬ p.1 + 1 < ((a.hs ++ a.ls).length : Int) → ((a.hs.length : Nat) : Int) = z := fun q => by rw [hz, lat, if_neg q]
  obtain ⟨w, hw⟩ : ∃ w, w = (a.hs ++ a.ls).getD p.1.toNat 0 := ⟨_, rfl⟩
  have wm : w ∈ a.hs ++ a.ls := by
    rw [hw, List.getD_eq_getElem?_getD, List.getElem?_eq_getElem (by omega)]
    exact List.getElem_mem _
  have wb : 0 ≤ w ∧ w < a.m := ⟨(List.mem_append.mp wm).elim (h.h0 w) (h.l0 w), hb w wm⟩
  obtain ⟨r, hr⟩ : ∃ r, r = a.rs.getD p.2.toNat [] := ⟨_, rfl⟩
  have rm : r ∈ a.rs := by
    rw [hr, List.getD_eq_getElem?_getD, List.getElem?_eq_getElem (by omega)]
    exact List.getElem_mem _
  have rl := (h.ok.rr r rm).1
  obtain ⟨e, he⟩ : ∃ e, e = r.getD w.toNat [] := ⟨_, rfl⟩
  have es : suc a.rs a.hs a.ls p = e.map fun t => (z, t) := by rw [suc, ← hw, ← hr, ← he, ← hz]
  have el : e.length ≤ 10 := by have := suc_len h (p := p); rw [es, List.length_map] at this; exact this
  refine x_ifD (fun c => ?_) (fun c => ?_)
  all_goals walk_at "k"
  · simp only [z1 c]
    refine x_uop (r := eTT r) rfl rfl ((atD_map (f := eTT) [] rp.2.2.1 rp.2.2.2).trans (by rw [← hr])) ?_
    walk_at "k"
    refine x_uop (r := .int w) rfl rfl ((atD_eI rp.1 rp.2.1).trans (by rw [← hw])) ?_
    walk_at "k"
    refine x_uop (r := eT e) rfl rfl ((atD_map (f := eT) [] wb.1 (by omega)).trans (by rw [← he])) ?_
    walk_at "k"
    walk_at "st"
    refine ⟨sz (by rw [eI_len]; omega), fun j acc s => ∃ ps' l, s = [some (auD A false a.m a.is a.cs a.rs), some (lasD a.hs a.ls), some (eT a.hs), some (eT a.ls), some (eT (a.hs ++ a.ls)), some (plD A true ps'), some (.int p.2), some (.lst true (M.map eL)), some (.int p.1), some (.int z), none] ∧ ps' = ps ++ l ∧ PsI a.rs a.hs a.ls a.is ps' ∧ acc = eI ((e.take j).map fun t => (ps'.idxOf (z, t) : Int)) ∧ ∀ t ∈ e.take j, (z, t) ∈ ps', ⟨ps, [], rfl, (List.append_nil _).symm, R.psI, rfl, fun _ h => by simp at h⟩, ?_, ?_⟩
    · rintro acc s ⟨ps', l, rfl, hl, P', rfl, hin⟩
      rw [eI_len, List.take_length] at hin
      rw [eI_len, List.take_length]
      walk_at "st"
      walk_at "k"
      subst hl
      have e1 : (suc a.rs a.hs a.ls p).map (fun q => ((ps ++ l).idxOf q : Int)) = e.map fun t => ((ps ++ l).idxOf (z, t) : Int) := by rw [es, List.map_map]; rfl
      refine ⟨m - 1, by omega, ps ++ l, M ++ [e.map fun t => ((ps ++ l).idxOf (z, t) : Int)], some (.int p.2), some (.int p.1), some (.int z), ?_, ?_, ?_⟩
      · rw [show fz (D.lst true (eI (e.map fun t => ((ps ++ l).idxOf (z, t) : Int)))) = eL (e.map fun t => ((ps ++ l).idxOf (z, t) : Int)) from by rw [fz], List.map_append]; rfl
      · rw [← e1]
        exact R.next hp P' fun q hq => by
          rw [es] at hq
          obtain ⟨t, ht, rfl⟩ := List.mem_map.mp hq
          exact hin t ht
      · rw [List.length_append]
        show m - 1 + (M.length + 1) = 200
        omega
    · rintro j x acc s hi ⟨ps', l, rfl, hl, P', rfl, hin⟩
      obtain ⟨t, ht, rfl⟩ := eI_get hi
      have sm : (z, t) ∈ suc a.rs a.hs a.ls p := by rw [es]; exact List.mem_map.mpr ⟨t, List.mem_of_getElem? ht, rfl⟩
      have pl' := P'.len h.rl wl
      walk_at "st"
      walk_at "k"
      refine' x_m1 (sp := us_number_of A) (ps', (z, t)) ?hc ?hv rfl ?ha ⟨P'.nd, by show ps'.length ≤ 100000; omega⟩ (fun r f hr => ?_) (fun _ h => h.elim)
      case hc => walk_at "cl"
      case hv => rfl
      case ha => rfl
      obtain ⟨rfl, rfl⟩ := hr
      walk_at "st"
      walk_at "k"
      walk_at "st"
      obtain ⟨l2, hl2⟩ := addP_app (ps := ps') (p := (z, t))
      refine ⟨addP ps' (z, t), l ++ l2, rfl, by rw [hl2, hl, List.append_assoc], P'.add (suc_rg h.ne h.ent rp sm) (.step (R.rc p (List.mem_of_getElem? hp)) sm), ?_, fun t' h' => ?_⟩
      · have e2 : (e.take j).map (fun t => ((ps' ++ l2).idxOf (z, t) : Int)) = (e.take j).map fun t => (ps'.idxOf (z, t) : Int) := List.map_congr_left fun t' h => by rw [idx_app (hin t' h)]
        rw [fz_pure rfl, take_snoc ht, hl2, List.map_append, e2]
        simp only [eI, List.map_append, List.map_cons, List.map_nil]
      · rw [take_snoc ht] at h'
        rcases List.mem_append.mp h' with q | q
        · rw [hl2]; exact List.mem_append_left _ (hin t' q)
        · rw [List.mem_singleton.mp q]; exact addP_mem
  · rw [eI_len, z2 c]
    refine x_uop (r := eTT r) rfl rfl ((atD_map (f := eTT) [] rp.2.2.1 rp.2.2.2).trans (by rw [← hr])) ?_
    walk_at "k"
    refine x_uop (r := .int w) rfl rfl ((atD_eI rp.1 rp.2.1).trans (by rw [← hw])) ?_
    walk_at "k"
    refine x_uop (r := eT e) rfl rfl ((atD_map (f := eT) [] wb.1 (by omega)).trans (by rw [← he])) ?_
    walk_at "k"
    walk_at "st"
    refine ⟨sz (by rw [eI_len]; omega), fun j acc s => ∃ ps' l, s = [some (auD A false a.m a.is a.cs a.rs), some (lasD a.hs a.ls), some (eT a.hs), some (eT a.ls), some (eT (a.hs ++ a.ls)), some (plD A true ps'), some (.int p.2), some (.lst true (M.map eL)), some (.int p.1), some (.int z), none] ∧ ps' = ps ++ l ∧ PsI a.rs a.hs a.ls a.is ps' ∧ acc = eI ((e.take j).map fun t => (ps'.idxOf (z, t) : Int)) ∧ ∀ t ∈ e.take j, (z, t) ∈ ps', ⟨ps, [], rfl, (List.append_nil _).symm, R.psI, rfl, fun _ h => by simp at h⟩, ?_, ?_⟩
    · rintro acc s ⟨ps', l, rfl, hl, P', rfl, hin⟩
      rw [eI_len, List.take_length] at hin
      rw [eI_len, List.take_length]
      walk_at "st"
      walk_at "k"
      subst hl
      have e1 : (suc a.rs a.hs a.ls p).map (fun q => ((ps ++ l).idxOf q : Int)) = e.map fun t => ((ps ++ l).idxOf (z, t) : Int) := by rw [es, List.map_map]; rfl
      refine ⟨m - 1, by omega, ps ++ l, M ++ [e.map fun t => ((ps ++ l).idxOf (z, t) : Int)], some (.int p.2), some (.int p.1), some (.int z), ?_, ?_, ?_⟩
      · rw [show fz (D.lst true (eI (e.map fun t => ((ps ++ l).idxOf (z, t) : Int)))) = eL (e.map fun t => ((ps ++ l).idxOf (z, t) : Int)) from by rw [fz], List.map_append]; rfl
      · rw [← e1]
        exact R.next hp P' fun q hq => by
          rw [es] at hq
          obtain ⟨t, ht, rfl⟩ := List.mem_map.mp hq
          exact hin t ht
      · rw [List.length_append]
        show m - 1 + (M.length + 1) = 200
        omega
    · rintro j x acc s hi ⟨ps', l, rfl, hl, P', rfl, hin⟩
      obtain ⟨t, ht, rfl⟩ := eI_get hi
      have sm : (z, t) ∈ suc a.rs a.hs a.ls p := by rw [es]; exact List.mem_map.mpr ⟨t, List.mem_of_getElem? ht, rfl⟩
      have pl' := P'.len h.rl wl
      walk_at "st"
      walk_at "k"
      refine' x_m1 (sp := us_number_of A) (ps', (z, t)) ?hc ?hv rfl ?ha ⟨P'.nd, by show ps'.length ≤ 100000; omega⟩ (fun r f hr => ?_) (fun _ h => h.elim)
      case hc => walk_at "cl"
      case hv => rfl
      case ha => rfl
      obtain ⟨rfl, rfl⟩ := hr
      walk_at "st"
      walk_at "k"
      walk_at "st"
      obtain ⟨l2, hl2⟩ := addP_app (ps := ps') (p := (z, t))
      refine ⟨addP ps' (z, t), l ++ l2, rfl, by rw [hl2, hl, List.append_assoc], P'.add (suc_rg h.ne h.ent rp sm) (.step (R.rc p (List.mem_of_getElem? hp)) sm), ?_, fun t' h' => ?_⟩
      · have e2 : (e.take j).map (fun t => ((ps' ++ l2).idxOf (z, t) : Int)) = (e.take j).map fun t => (ps'.idxOf (z, t) : Int) := List.map_congr_left fun t' h => by rw [idx_app (hin t' h)]
        rw [fz_pure rfl, take_snoc ht, hl2, List.map_append, e2]
        simp only [eI, List.map_append, List.map_cons, List.map_nil]
      · rw [take_snoc ht] at h'
        rcases List.mem_append.mp h' with q | q
        · rw [hl2]; exact List.mem_append_left _ (hin t' q)
        · rw [List.mem_singleton.mp q]; exact addP_mem
theorem p_runs (T : Cl K A) (h : sp_runs K A vs H Q E) : t_runs K A E (D0 Q) (start ["automaton", "lasso", "head", "loop", "letters", "places", "state", "edges", "turn", "later", "target"] vs) H := run0 (t := t_runs K A) (ru_runs T E) (hu_runs T) h
theorem p_Places_number_of (T : Cl K A) (h : sp_Places_number_of K A vs H Q E) : t_Places_number_of K A E (D0 Q) (start ["self", "place"] vs) H := run1 (t := t_Places_number_of K A) (ru_Places_number_of T E) (hu_Places_number_of T) h
theorem hu__law_automaton (T : Cl K A) : ∀ a, (us_law_automaton).pre a → u__law_automaton K A (E1U (us_law_automaton) a) (sd0 ["draws", "letters", "most", "count", "share", "initial", "accepting", "rows", "state", "letter"] ((us_law_automaton).self a :: (us_law_automaton).args a)) := by
  rintro ⟨ds, m, mo⟩ ⟨h1, h2, h3, h4, h5⟩
  dsimp only at h1 h2 h3 h4 h5
  unfold u__law_automaton
  refine gen1 fun nx rt bk ct er kn kr ke => ?_
  show uSeq _ _ _ [some (.lst true (eI ds)), some (.int (m : Nat)), some (.int (mo : Nat)), none, none, none, none, none, none, none]
  walk_at "k"
  refine' x_args1 (sp := us_take) (ds, (mo : Nat)) ?hc ?hv rfl ?ha ⟨h1, by show (0 : Int) < (mo : Nat); omega⟩ (fun r f hr => ?_) (fun _ h => h.elim)
  case hc => walk_at "cl"
  case hv => rfl
  case ha => rfl
  obtain ⟨t, ds2, rfl, t0, t1, hd2, rfl⟩ := hr
  dsimp only at t1
  obtain ⟨n, hn⟩ : ∃ n : Nat, 1 + t = (n : Int) := ⟨(1 + t).toNat, by omega⟩
  walk_at "st"
  walk_at "k"
  refine' x_args1 (sp := us_take) (ds2, 4) ?hc ?hv rfl ?ha ⟨hd2, by show (0 : Int) < 4; decide⟩ (fun r f hr => ?_) (fun _ h => h.elim)
  case hc => walk_at "cl"
  case hv => rfl
  case ha => rfl
  obtain ⟨t', ds3, rfl, u0, u1, hd3, rfl⟩ := hr
  walk_at "st"
  walk_at "k"
  walk_at "st"
  simp only [hn]
  obtain ⟨sh, hsh⟩ : ∃ sh, sh = 2 + t' := ⟨_, rfl⟩
  simp only [← hsh]
  refine' x_args1 (sp := us_law_ascending) (ds3, n, 5) ?hc ?hv rfl ?ha ⟨hd3, by show n ≤ 100; omega⟩ (fun r f hr => ?_) (fun _ h => h.elim)
  case hc => walk_at "cl"
  case hv => rfl
  case ha => rfl
  obtain ⟨ds4, is, rfl, hd4, rfl, hai⟩ := hr
  dsimp only at hai
  walk_at "st"
  walk_at "k"
  refine' x_args1 (sp := us_law_ascending) (ds4, n, 5) ?hc ?hv rfl ?ha ⟨hd4, by show n ≤ 100; omega⟩ (fun r f hr => ?_) (fun _ h => h.elim)
  case hc => walk_at "cl"
  case hv => rfl
  case ha => rfl
  obtain ⟨ds5, cs, rfl, hd5, rfl, hac⟩ := hr
  dsimp only at hac
  walk_at "st"
  walk_at "k"
  have rest : ∀ (b : Bool) (ds' is' : List Int), Dok ds' → asc n (-1) is' = true → u__law_automaton_5 K A ⟨nx, rt, bk, ct, er⟩ [some (.lst true (eI ds')), some (.int (m : Nat)), some (.int (mo : Nat)), some (.int (n : Nat)), some (.int sh), some (.lst b (eI is')), some (eL cs), none, none, none] := by
    intro b ds' is' hd' hi'
    unfold u__law_automaton_5
    walk_at "k"
    refine ⟨(n : Nat), rfl, by omega, by omega, ?_⟩
    refine x_inv (fun j s => ∃ ds' rs v8, s = [some (.lst true (eI ds')), some (.int (m : Nat)), some (.int (mo : Nat)), some (.int (n : Nat)), some (.int sh), some (.lst b (eI is')), some (eL cs), some (.lst true (rs.map eLL)), v8, none] ∧ Dok ds' ∧ rs.length = j ∧ ∀ r ∈ rs, r.length = m ∧ ∀ e ∈ r, asc n (-1) e = true) ⟨ds', [], none, rfl, hd', rfl, fun _ h => nomatch h⟩ ?_ ?_
    · rintro s ⟨ds', rs, v8, rfl, hd', hl, hr⟩
      rw [rngD_len, Int.toNat_natCast] at hl
      have ez : fz (.tup [fz (.lst b (eI is')), fz (eL cs), fz (.lst true (rs.map eLL))]) = .tup [eL is', eL cs, eR rs] := by cases b <;> simp [fz]
      subst hl
      have OK : Aok m is' cs rs := ⟨by omega, by omega, hi', hac, fun r h => ⟨by rw [(hr r h).1], (hr r h).2⟩⟩
      cases b <;> walk_at "k" <;> rw [ez] <;> exact kr _ _ _ rfl ⟨ds', is', cs, rs, rfl, hd', rfl, OK, by show rs.length ≤ mo; omega⟩
    · rintro j x s hi ⟨ds', rs, v8, rfl, hd', hl, hr⟩
      obtain ⟨hj, rfl⟩ := rngD_get.mp hi
      walk_at "k"
      refine ⟨(m : Nat), rfl, by omega, by omega, sz (by rw [rngD_len]; omega), fun k acc s => ∃ ds' r, s = [some (.lst true (eI ds')), some (.int (m : Nat)), some (.int (mo : Nat)), some (.int (n : Nat)), some (.int sh), some (.lst b (eI is')), some (eL cs), some (.lst true (rs.map eLL)), some (.int (0 + (j : Nat))), none] ∧ acc = r.map eL ∧ Dok ds' ∧ r.length = k ∧ ∀ e ∈ r, asc n (-1) e = true, ⟨ds', [], rfl, rfl, hd', rfl, fun _ h => nomatch h⟩, ?_, ?_⟩
      · rintro acc s ⟨ds', r, rfl, rfl, hd', hl2, hr2⟩
        rw [rngD_len, Int.toNat_natCast] at hl2
        walk_at "st"
        walk_at "k"
        refine ⟨ds', rs ++ [r], some (.int (0 + (j : Nat))), by rw [show fz (D.lst true (r.map eL)) = eLL r from by rw [fz], List.map_append]; rfl, hd', by rw [List.length_append, hl]; rfl, fun r' h' => ?_⟩
        rcases List.mem_append.mp h' with q | q
        · exact hr r' q
        · rw [List.mem_singleton.mp q]; exact ⟨hl2, hr2⟩
      · rintro k x acc s hi ⟨ds', r, rfl, rfl, hd', hl2, hr2⟩
        obtain ⟨hk, rfl⟩ := rngD_get.mp hi
        walk_at "st"
        walk_at "k"
        refine' x_args1 (sp := us_law_ascending) (ds', n, sh) ?hc ?hv rfl ?ha ⟨hd', by show n ≤ 100; omega⟩ (fun r f hr => ?_) (fun _ h => h.elim)
        case hc => walk_at "cl"
        case hv => rfl
        case ha => rfl
        obtain ⟨ds4, e, rfl, hd4, rfl, he⟩ := hr
        walk_at "st"
        walk_at "k"
        walk_at "st"
        refine ⟨ds4, r ++ [e], rfl, by rw [List.map_append]; rfl, hd4, by rw [List.length_append, hl2]; rfl, fun e' h' => ?_⟩
        rcases List.mem_append.mp h' with q | q
        · exact hr2 e' q
        · rw [List.mem_singleton.mp q]; exact he
  refine x_ifD (fun c => ?_) (fun c => ?_)
  · walk_at "k"
    refine' x_args1 (sp := us_take) (ds5, 4) ?hc ?hv rfl ?ha ⟨hd5, by show (0 : Int) < 4; decide⟩ (fun r f hr => ?_) (fun _ h => h.elim)
    case hc => walk_at "cl"
    case hv => rfl
    case ha => rfl
    obtain ⟨t2, ds6, rfl, _, _, hd6, rfl⟩ := hr
    walk_at "st"
    walk_at "k"
    refine x_ifD (fun c => ?_) (fun c => ?_)
    · walk_at "k"
      rw [fz_pure rfl]
      exact rest true ds6 [0] hd6 (by simp [asc]; omega)
    · walk_at "k"
      exact rest false ds6 is hd6 hai
  · walk_at "k"
    exact rest false ds5 is hd5 hai
theorem fz_au {A : Ads} {m : Int} {is cs : List Int} {rs : List (List (List Int))} : fz (auD A true m is cs rs) = auD A false m is cs rs := by simp [fz, fzL]
theorem hu_law (T : Cl K A) : ∀ a, (us_law).pre a → u_law K A (E0U (us_law) a) (sd0 ["script", "draws", "letters", "initial", "accepting", "rows", "automaton", "lasso", "other", "head", "expected", "found", "between"] ((us_law).args a)) := by
  intro (ns : List Int) h
  unfold u_law
  refine gen0 fun nx rt bk ct er kn kr ke => ?_
  show uSeq _ _ _ [some (.sl (eI ns)), none, none, none, none, none, none, none, none, none, none, none, none]
  walk_at "k"
  refine x_args (sp := us_draws) (ns, 200) (by walk_at "cl") rfl ⟨h, by show (0 : Int) ≤ 200; decide, by show (200 : Int) ≤ 1000; decide⟩ (fun r hr => ?_) (fun _ h => h.elim)
  obtain ⟨ds, rfl, hd⟩ := hr
  walk_at "k"
  refine' x_args1 (sp := us_take) (ds, 3) ?hc ?hv rfl ?ha ⟨hd, by show (0 : Int) < 3; decide⟩ (fun r f hr => ?_) (fun _ h => h.elim)
  case hc => walk_at "cl"
  case hv => rfl
  case ha => rfl
  obtain ⟨t, ds2, rfl, t0, t1, hd2, rfl⟩ := hr
  dsimp only at t1
  obtain ⟨m, hm⟩ : ∃ m : Nat, 1 + t = (m : Int) := ⟨(1 + t).toNat, by omega⟩
  walk_at "st"
  walk_at "k"
  walk_at "st"
  simp only [hm]
  refine' x_args1 (sp := us_law_automaton) (ds2, m, 5) ?hc ?hv rfl ?ha ⟨hd2, by show 1 ≤ m; omega, by show m ≤ 10; omega, by show 1 ≤ 5; decide, by show 5 ≤ 10; decide⟩ (fun r f hr => ?_) (fun _ h => h.elim)
  case hc => walk_at "cl"
  case hv => rfl
  case ha => rfl
  obtain ⟨ds3, is, cs, rs, rfl, hd3, rfl, hA, hl⟩ := hr
  dsimp only at hA hl
  walk_at "st"
  walk_at "k"
  have AO : Aok m is cs rs := hA
  have nb : ∀ r ∈ rs, r.length ≤ 100 ∧ ∀ e ∈ r, e.length ≤ 100 := fun r hr => by
    obtain ⟨q1, q2⟩ := hA.rr r hr
    refine ⟨by omega, fun e he => ?_⟩
    have := asc_len (q2 e he) (by omega)
    omega
  refine x_args (sp := us_law_copy) rs (by walk_at "cl") rfl ⟨by omega, nb⟩ (fun r hr => ?_) (fun _ h => h.elim)
  obtain rfl : r = eR rs := hr
  walk_at "k"
  refine' x_margs (sp := (us_Automaton_init A).mute) ⟨.lst false (eI is), .lst false (eI cs), eR rs, m, is, cs, rs⟩ ?hc rfl ?ha ⟨⟨⟨true, rfl⟩, ⟨true, rfl⟩, ⟨true, rs.map eLL, rfl, all2_map fun r _ => ⟨true, r.map eL, rfl, all2_map fun e _ => ⟨true, rfl⟩⟩⟩, by show rs.length ≤ 1000; omega, fun r hr => by have := (nb r hr).1; omega⟩, fun C hC => hC.2 hA⟩ (fun r f hr => ?_) (fun _ h => h.elim)
  case hc => walk_at "cl"
  case ha => rfl
  obtain ⟨rfl, rfl, _⟩ := hr
  refine ⟨rfl, ?_⟩
  walk_at "k"
  walk_at "st"
  refine' x_args1 (sp := us_law_lasso) (ds3, (m : Nat), 4) ?hc ?hv rfl ?ha ⟨hd3, by show (1 : Int) ≤ (m : Nat); omega, by show (1 : Int) ≤ 4; decide, by show (4 : Int) ≤ 10; decide⟩ (fun r f hr => ?_) (fun _ h => h.elim)
  case hc => walk_at "cl"
  case hv => rfl
  case ha => rfl
  obtain ⟨ds4, hs, ls, rfl, hd4, rfl, ln, ll, hl', lb⟩ := hr
  dsimp only at ll hl' lb
  walk_at "st"
  walk_at "k"
  walk_at "st"
  refine' x_args1 (sp := us_law_lasso) (ds4, (m : Nat), 4) ?hc ?hv rfl ?ha ⟨hd4, by show (1 : Int) ≤ (m : Nat); omega, by show (1 : Int) ≤ 4; decide, by show (4 : Int) ≤ 10; decide⟩ (fun r f hr => ?_) (fun _ h => h.elim)
  case hc => walk_at "cl"
  case hv => rfl
  case ha => rfl
  obtain ⟨ds5, hs', ls', rfl, hd5, rfl, ln', ll', hl2', lb'⟩ := hr
  dsimp only at ll' hl2' lb'
  walk_at "st"
  walk_at "k"
  walk_at "st"
  have ok1 : AcOk ⟨m, is, cs, rs, hs, ls⟩ := ⟨hA, by show rs.length ≤ 10; omega, fun z q => (lb z (List.mem_append_left _ q)).1, fun z q => (lb z (List.mem_append_right _ q)).1, ln, by show ls.length ≤ 10; omega, by show hs.length ≤ 10; omega⟩
  have ok2 : AcOk ⟨m, is, cs, rs, hs', ls'⟩ := ⟨hA, by show rs.length ≤ 10; omega, fun z q => (lb' z (List.mem_append_left _ q)).1, fun z q => (lb' z (List.mem_append_right _ q)).1, ln', by show ls'.length ≤ 10; omega, by show hs'.length ≤ 10; omega⟩
  have bd1 : AcB ⟨m, is, cs, rs, hs, ls⟩ := fun z q => (lb z q).2
  have bd2 : AcB ⟨m, is, cs, rs, hs', ls'⟩ := fun z q => (lb' z q).2
  unfold u_law_6
  walk_at "k"
  refine' x_args1 (sp := us_take) (ds5, 8) ?hc ?hv rfl ?ha ⟨hd5, by show (0 : Int) < 8; decide⟩ (fun r f hr => ?_) (fun _ h => h.elim)
  case hc => walk_at "cl"
  case hv => rfl
  case ha => rfl
  obtain ⟨t2, ds6, rfl, _, _, hd6, rfl⟩ := hr
  walk_at "st"
  walk_at "k"
  refine x_ifD (fun c => ?_) (fun c => ?_)
  · walk_at "k"
    refine' x_args1 (sp := us_take) (ds6, 2) ?hc ?hv rfl ?ha ⟨hd6, by show (0 : Int) < 2; decide⟩ (fun r f hr => ?_) (fun _ h => h.elim)
    case hc => walk_at "cl"
    case hv => rfl
    case ha => rfl
    obtain ⟨t3, ds7, rfl, t30, _, hd7, rfl⟩ := hr
    walk_at "st"
    walk_at "k"
    refine ⟨sz (by simp), [.int ((m : Int) + t3)], _, cloL_p (all_cons rfl all_nil), ?_⟩
    refine x_uop (r := .lst true (eI (hs ++ [(m : Int) + t3]))) rfl rfl (by simp only [fCat]; rw [if_pos (by first | exact sz (by simp; omega) | simp)]; simp [eI]) ?_
    walk_at "k"
    have ok3 : AcOk ⟨m, is, cs, rs, hs ++ [(m : Int) + t3], ls⟩ := ⟨hA, by show rs.length ≤ 10; omega, fun z q => by
      rcases List.mem_append.mp q with q | q
      · exact ok1.h0 z q
      · rw [List.mem_singleton.mp q]; omega, ok1.l0, ln, ok1.ll, by show (hs ++ [(m : Int) + t3]).length ≤ 10; rw [List.length_append, List.length_singleton]; omega⟩
    refine' x_args (sp := us_law_outcome A) ⟨m, is, cs, rs, hs ++ [(m : Int) + t3], ls⟩ ?hc ?ha ok3 (fun r hr => ?_) (fun _ h => h.elim)
    case hc => rfl
    case ha => (show [fz _, _] = _; rw [fz_au]; rfl)
    rcases hr with ⟨q, _⟩ | ⟨_, rfl⟩
    · exact absurd (q ((m : Int) + t3) (List.mem_append_left _ (List.mem_append_right _ List.mem_cons_self))) (by show ¬ (m : Int) + t3 < (m : Nat); omega)
    walk_at "st"
    walk_at "k"
    exact kr _ _ (fz_pure rfl)
  · unfold u_law_7
    walk_at "k"
    refine x_args (sp := us_law_accepts) ⟨m, is, cs, rs, hs, ls⟩ (by walk_at "cl") rfl ⟨ok1, bd1⟩ (fun r hr => ?_) (fun _ h => h.elim)
    obtain rfl : r = .bl (ACC rs is cs hs ls) := hr
    walk_at "k"
    refine' x_args (sp := us_law_outcome A) ⟨m, is, cs, rs, hs, ls⟩ ?hc ?ha ok1 (fun r hr => ?_) (fun _ h => h.elim)
    case hc => rfl
    case ha => (show [fz _, _] = _; rw [fz_au]; rfl)
    rcases hr with ⟨_, rfl⟩ | ⟨q, _⟩
    rotate_left
    · exact absurd bd1 q
    walk_at "st"
    walk_at "k"
    rw [fz_au]
    refine x_args (sp := us_law_outcome A) ⟨m, is, cs, rs, hs', ls'⟩ (by walk_at "cl") rfl ok2 (fun r hr => ?_) (fun _ h => h.elim)
    rcases hr with ⟨_, rfl⟩ | ⟨q, _⟩
    rotate_left
    · exact absurd bd2 q
    walk_at "k"
    unfold u_law_10
    walk_at "k"
    refine x_ifF ?_
    walk_at "k"
    refine x_ifNF rfl ?_
    walk_at "k"
    refine x_args (sp := us_law_accepts) ⟨m, is, cs, rs, hs', ls'⟩ (by walk_at "cl") rfl ⟨ok2, bd2⟩ (fun r hr => ?_) (fun _ h => h.elim)
    obtain rfl : r = .bl (ACC rs is cs hs' ls') := hr
    walk_at "k"
    refine x_ifDT rfl ?_
    walk_at "k"
    refine x_args (sp := us_law_outcome A) ⟨m, is, cs, rs, hs, ls⟩ (by walk_at "cl") rfl ok1 (fun r hr => ?_) (fun _ h => h.elim)
    rcases hr with ⟨_, rfl⟩ | ⟨q, _⟩
    rotate_left
    · exact absurd bd1 q
    walk_at "k"
    refine kr _ _ ?_
    show _ = D.bl true
    rw [fz_pure rfl]
    simp
theorem p__law_automaton (T : Cl K A) (h : sp__law_automaton K A vs H Q E) : t__law_automaton K A E (D0 Q) (start ["draws", "letters", "most", "count", "share", "initial", "accepting", "rows", "state", "letter"] vs) H := run1 (t := t__law_automaton K A) (ru__law_automaton T E) (hu__law_automaton T) h
theorem p_law (T : Cl K A) (h : sp_law K A vs H Q E) : t_law K A E (D0 Q) (start ["script", "draws", "letters", "initial", "accepting", "rows", "automaton", "lasso", "other", "head", "expected", "found", "between"] vs) H := run0 (t := t_law K A) (ru_law T E) (hu_law T) (law_in h)
end
section

set_option hygiene false
local macro_rules | `(tactic| walk_at "m") => `(tactic| first | exact List.Mem.head _ | (refine List.Mem.tail _ ?_; walk_at "m"))
local macro_rules | `(tactic| walk_at "u") => `(tactic| first | exact Upd.head | (apply Upd.tail; walk_at "u"))
local macro_rules | `(tactic| walk_at "tk") => `(tactic| first | exact Tak.head | (apply Tak.tail; walk_at "tk"))
local macro_rules | `(tactic| walk_at "l") => `(tactic| first | assumption | exact lS (St.fh (by assumption)) (by assumption) | exact SqL.of (St.get (by assumption) (by walk_at "m")))
local macro_rules | `(tactic| walk_at "t") => `(tactic| first | assumption | exact tS (St.fh (by assumption)) (by assumption) | exact SqT.of (St.get (by assumption) (by walk_at "m")))
local macro_rules | `(tactic| walk_at "lt") => `(tactic| first | exact .inl (by walk_at "l") | exact .inr (by walk_at "t"))
local macro_rules | `(tactic| walk_at "sz") => `(tactic| first | (show _ ≤ sizeLine; decide) | exact sz (by simp) | exact szl (by simp) | exact sz (by omega) | exact szl (by omega) | exact sz (by simp; omega) | exact szl (by simp; omega))
local macro_rules | `(tactic| walk_at "c") => `(tactic| first | assumption | decide | omega)
local macro_rules | `(tactic| walk_at "g1") => `(tactic| with_reducible first
  | refine w_seq ?_ | refine w_asg ?_ | refine w_c ?_ | refine w_op ?_
  | refine r_I0 ?_ | refine w_test ?_ | refine r_b ?_ | refine w_if ?_ | refine w_cons ?_ | refine w_nil ?_
  | refine w_ret ?_ | refine w_drop ?_ | refine w_cb ?_ | refine w_call ?_ | refine w_next ?_ | refine w_tup ?_ | refine w_lst ?_ | refine w_bm ?_ | refine w_bm0 ?_
  | refine w_and ?_ | refine w_or ?_ | refine w_not ?_ | refine w_andV ?_ | refine w_orV ?_ | refine w_notV ?_ | refine w_tB ?_ | refine w_un ?_ | refine r_U ?_
  | refine w_for ?_ | refine w_iL ?_ | refine w_iT ?_ | refine w_i1 ?_ | refine w_i2 ?_ | refine w_sl ?_ | refine w_part ?_ | refine w_nopart ?_ | refine r_part ?_
  | refine r_eqI ?_ | refine r_neI ?_ | refine r_eqS ?_ | refine r_neS ?_ | refine r_eqB ?_ | refine r_neB ?_ | refine r_ifT ?_ | refine r_ifF ?_ | refine r_ifNt ?_ | refine r_ifNf ?_ | refine r_ifRN ?_ | refine r_ifNRN ?_ | refine r_ifNN ?_ | refine r_ifNNN ?_
  | refine w_ifE ?_ | refine r_int1 ?_ | refine r_int1b ?_ | refine r_isnone ?_ | refine r_notnone ?_ | refine r_max2 ?_ | refine r_min2 ?_ | refine r_ipI ?_ | refine w_tru ?_ | refine w_rs ?_
  | refine w_retN ?_ | refine w_break ?_ | refine w_cont ?_ | refine w_callS ?_ | refine w_asgG ?_ | refine w_gsub ?_ | refine w_fld ?_ | refine w_sfld ?_ | refine w_mk ?_ | refine w_lc ?_ | refine w_iSq ?_ | refine u_isint ?_ | refine w_dnew ?_ | refine w_dnotin ?_ | refine w_din ?_ | refine w_dget ?_ | refine w_dput ?_ | refine w_ckw ?_)
local macro_rules | `(tactic| walk_at "g2") => `(tactic| first
  | ((with_reducible refine' w_var ?hv ?_); (case hv => rfl)) | ((with_reducible refine' w_aug ?hv ?_); (case hv => rfl))
  | ((with_reducible show rLen _ _ _ _); refine r_len (by walk_at "lt") ?_)
  | (with_reducible refine r_I ?cnd ?_; (case cnd => first | decide | omega | assumption | (unfold CPow; decide)))
  | ((with_reducible show RTy _ _ _ _ _); refine r_tyL (by walk_at "l") ?_)
  | (with_reducible refine r_ifDT (by walk_at "c") ?_) | (with_reducible refine r_ifDF (by walk_at "c") ?_)
  | (with_reducible refine r_ifNT (by walk_at "c") ?_) | (with_reducible refine r_ifNF (by walk_at "c") ?_))
local macro_rules | `(tactic| walk_at "go") => `(tactic| repeat (first | walk_at "g1" | walk_at "g2"))

variable {vs : List V} {H : Hp} {Q : VK} {E : XK} {K : PySem.W.Frag} {A : Ads}
theorem p__law_draws (T : Cl K A) (h : sp__law_draws K A vs H Q E) : t__law_draws K A E (D0 Q) (start ["script", "count", "cells", "found", "mixed", "k", "j", "cell", "again"] vs) H := cv_draws (E := E) h
theorem p__law_take (T : Cl K A) (h : sp__law_take K A vs H Q E) : t__law_take K A E (D0 Q) (start ["draws", "limit"] vs) H := cv_take (E := E) h
theorem p_Search_enter (T : Cl K A) (h : sp_Search_enter K A vs H Q E) : t_Search_enter K A E (D0 Q) (start ["self", "node"] vs) H := by
  obtain ⟨En, F, L, x, dx, ed, a1, a2, a3, a4, a5, s, n, rfl, G, n1, l1, l2, l3, l4, k⟩ := h
  unfold t_Search_enter
  show tSeq _ _ (D0 Q) [some (.ref x), some (.int n)] H
  unfold D0
  unfold sLed at G
  walk_at "go"
  refine r_fld (G.get (by walk_at "m")) T.cl_Search T.na_Search_clock rfl ?_
  walk_at "go"
  refine r_fld (G.get (by walk_at "m")) T.cl_Search T.na_Search_entered rfl ?_
  walk_at "go"
  refine r_setL (xs := iv s.ent) G (ixN_of (by omega) (by rw [iv_len]; omega)) (by walk_at "u") fun H1 G1 => ?_
  rw [iv_set, Int.toNat_natCast] at G1
  walk_at "go"
  refine r_fld (G1.get (by walk_at "m")) T.cl_Search T.na_Search_clock rfl ?_
  walk_at "go"
  refine r_fld (G1.get (by walk_at "m")) T.cl_Search T.na_Search_low rfl ?_
  walk_at "go"
  refine r_setL (xs := iv s.low) G1 (ixN_of (by omega) (by rw [iv_len]; omega)) (by walk_at "u") fun H2 G2 => ?_
  rw [iv_set, Int.toNat_natCast] at G2
  walk_at "go"
  unfold sFldAug
  walk_at "go"
  refine ⟨x, _, dx, _, _, rfl, G2.get (by walk_at "m"), T.cl_Search, T.na_Search_clock, rfl, ?_⟩
  walk_at "go"
  refine ⟨_, _, rfl, rfl, dx, seF ed a1 a2 a3 a4 a5 s.total s.clock, G2.get (by walk_at "m"), (show 8 < 1000 by decide), ?_⟩
  have G3 := G2.put (a := x) (o' := .ins A.C_Search dx (seF ed a1 a2 a3 a4 a5 s.total (s.clock + 1))) Upd.head
  rw [show putF "clock" (.int (s.clock + 1)) (seF ed a1 a2 a3 a4 a5 s.total s.clock) = seF ed a1 a2 a3 a4 a5 s.total (s.clock + 1) from by rfl]
  walk_at "go"
  refine r_fld (G3.get (by walk_at "m")) T.cl_Search T.na_Search_open_nodes rfl ?_
  walk_at "go"
  refine r_append G3 (by walk_at "u") (szl (by rw [nv_len]; omega)) fun H4 G4 => ?_
  walk_at "go"
  refine r_fld (G4.get (by walk_at "m")) T.cl_Search T.na_Search_path rfl ?_
  walk_at "go"
  refine r_lst G4 (by walk_at "sz") fun p H5 G5 => ?_
  walk_at "go"
  refine r_append G5 (.tail (by walk_at "u")) (szl (by rw [av_len]; omega)) fun H6 G6 => ?_
  refine k H6 p ?_
  unfold sLed
  rw [nv_snoc, av_snoc, pLed_snoc, List.append_assoc, List.singleton_append]
  show SL.St En F H6 ((x, _) :: (a1, _) :: (a2, _) :: (a3, _) :: (a4, _) :: (a5, _) :: (pLed s.path ++ (p, .lst [.int (n : Int), .int 0]) :: L))
  exact G6.perm (List.perm_middle (l₁ := (_ :: _ :: _ :: _ :: _ :: _ :: pLed s.path : Led)))
theorem atI_top {xs : List V} {v : V} : atI (xs ++ [v]) (-1) = some v := by
  have q : ixN (xs ++ [v]).length (-1) = some xs.length := by
    unfold ixN
    rw [if_neg (by decide), List.length_append]
    first
      | (rw [if_pos (by simp; omega)]; congr 1; simp; omega)
      | (split <;> (first | (congr 1; simp; omega) | (simp at *; omega)))
  unfold atI
  rw [q]
  simp
theorem leave_tail (T : Cl K A) {En : SL.En} {F : Hp} {L : Led} {x dx ed a1 a2 a3 a4 a5 : Addr} {s : SS} {u : Nat} {O2 O1 : List Nat} {v2 : Option V} (G : St En F H (sLed A.C_Search x dx ed a1 a2 a3 a4 a5 s L)) (hop : s.opn = O2 ++ u :: O1) (l2 : s.low.length = s.ent.length) (l3 : s.cmp.length = s.ent.length) (u1 : u < s.ent.length) (hO : u ∉ O1) (hO2 : ∀ v ∈ O1, v < s.ent.length)
    (k1 : s.low.getD u 0 ≠ s.ent.getD u 0 → ∀ H', St En F H' (sLed A.C_Search x dx ed a1 a2 a3 a4 a5 s L) → Q .non H')
    (k2 : s.low.getD u 0 = s.ent.getD u 0 → ∀ H', St En F H' (sLed A.C_Search x dx ed a1 a2 a3 a4 a5 ⟨s.ent, s.low, clo s.cmp s.total (O1.reverse ++ [u]), s.total + 1, s.clock, s.path, O2⟩ L) → Q .non H') :
    t_Search_leave_2 K A E (D0 Q) [some (.ref x), some (.int u), v2, none] H := by
  have GS := G
  unfold sLed at G
  unfold t_Search_leave_2 D0
  walk_at "go"
  refine r_fld (G.get (by walk_at "m")) T.cl_Search T.na_Search_low rfl ?_
  walk_at "go"
  refine r_ixL (xs := iv s.low) (SqL.of (G.get (by walk_at "m"))) (atI_iv (by omega) (by omega)) ?_
  walk_at "go"
  refine r_fld (G.get (by walk_at "m")) T.cl_Search T.na_Search_entered rfl ?_
  walk_at "go"
  refine r_ixL (xs := iv s.ent) (SqL.of (G.get (by walk_at "m"))) (atI_iv (by omega) (by omega)) ?_
  rw [Int.toNat_natCast]
  walk_at "go"
  refine r_ifD (fun c => ?_) (fun c => ?_)
  · obtain ⟨W, hW⟩ : ∃ W, W = O1.reverse ++ [u] := ⟨_, rfl⟩
    have lW : W.length = O1.length + 1 := by rw [hW]; simp
    have gW : ∀ t, t < O1.length → W[t]? = O1[O1.length - 1 - t]? := fun t ht => by
      rw [hW, List.getElem?_append_left (by simp; exact ht), List.getElem?_reverse ht]
    have gU : W[O1.length]? = some u := by rw [hW, List.getElem?_append_right (by simp)]; simp
    have Wb : ∀ w ∈ W, w < s.ent.length := fun w hw => by
      rw [hW] at hw
      rcases List.mem_append.mp hw with q | q
      · exact hO2 w (List.mem_reverse.mp q)
      · rw [List.mem_singleton.mp q]; exact u1
    let rem : Nat → List Nat := fun t => O2 ++ (u :: O1).take (O1.length + 1 - t)
    have r0 : rem 0 = s.opn := by
      show O2 ++ (u :: O1).take (O1.length + 1 - 0) = _
      rw [hop, List.take_of_length_le (by simp)]
    have rS : ∀ (t w : Nat), W[t]? = some w → nv (rem t) = nv (rem (t + 1)) ++ [V.int (w : Int)] := fun t w hw => by
      have ht : t < O1.length + 1 := by rw [← lW]; exact (List.getElem?_eq_some_iff.mp hw).1
      rw [← nv_snoc]
      congr 1
      show O2 ++ (u :: O1).take (O1.length + 1 - t) = (O2 ++ (u :: O1).take (O1.length + 1 - (t + 1))) ++ [w]
      rw [List.append_assoc, show O1.length + 1 - t = (O1.length + 1 - (t + 1)) + 1 from by omega]
      congr 1
      refine take_snoc ?_
      rcases Nat.lt_or_ge t O1.length with q | q
      · rw [show O1.length + 1 - (t + 1) = (O1.length - 1 - t) + 1 from by omega, List.getElem?_cons_succ, ← gW t q, hw]
      · have e : t = O1.length := by omega
        subst e
        rw [gU] at hw
        rw [show O1.length + 1 - (O1.length + 1) = 0 from by omega, List.getElem?_cons_zero, hw]
    have tS : ∀ (t w : Nat), W[t]? = some w → clo s.cmp s.total (W.take (t + 1)) = (clo s.cmp s.total (W.take t)).set w s.total := fun t w hw => by rw [take_snoc hw, clo_snoc]
    let LL : Nat → Led := fun t => sLed A.C_Search x dx ed a1 a2 a3 a4 a5 ⟨s.ent, s.low, clo s.cmp s.total (W.take t), s.total, s.clock, s.path, rem t⟩ L
    have GL0 : St En F H (LL 0) := by
      show St En F H (sLed A.C_Search x dx ed a1 a2 a3 a4 a5 ⟨s.ent, s.low, clo s.cmp s.total (W.take 0), s.total, s.clock, s.path, rem 0⟩ L)
      rw [r0]; exact GS
    obtain ⟨w0, hw0⟩ : ∃ w : Nat, W[0]? = some w := ⟨_, List.getElem?_eq_getElem (by omega)⟩
    refine w_seq ?_
    walk_at "go"
    have G0 := GL0
    simp only [LL] at G0
    unfold sLed at G0
    rw [rS 0 w0 hw0] at G0
    refine r_fld (G0.get (by walk_at "m")) T.cl_Search T.na_Search_open_nodes rfl ?_
    walk_at "go"
    refine r_pop G0 (by walk_at "u") fun H1 G1 => ?_
    walk_at "go"
    refine r_fld (G1.get (by walk_at "m")) T.cl_Search T.na_Search_total rfl ?_
    walk_at "go"
    refine r_fld (G1.get (by walk_at "m")) T.cl_Search T.na_Search_component rfl ?_
    walk_at "go"
    have w0b := Wb w0 (List.mem_of_getElem? hw0)
    refine r_setL (xs := iv (clo s.cmp s.total (W.take 0))) G1 (ixN_of (by omega) (by rw [iv_len, clo_len]; omega)) (by walk_at "u") fun H2 G2 => ?_
    rw [iv_set, Int.toNat_natCast, ← tS 0 w0 hw0] at G2
    walk_at "go"
    refine r_while (fun m σ H' => ∃ t w : Nat, t ≤ O1.length ∧ m = O1.length - t ∧ W[t]? = some w ∧ σ = [some (.ref x), some (.int u), v2, some (.int (w : Int))] ∧ St En F H' (LL (t + 1))) O1.length ⟨0, w0, by omega, by omega, hw0, rfl, G2⟩ ?_
    rintro m σ H3 ⟨t, w, ht, rfl, hw, rfl, G3⟩
    walk_at "go"
    refine r_wb (fun c2 => ?_) (fun c2 => ?_)
    · have c3 : ¬ (w : Int) = u := by simpa using c2
      have tl : t < O1.length := by
        rcases Nat.lt_or_ge t O1.length with q | q
        · exact q
        · have e : t = O1.length := by omega
          subst e
          rw [gU] at hw
          cases hw
          exact absurd rfl c3
      obtain ⟨w', hw'⟩ : ∃ w : Nat, W[t + 1]? = some w := ⟨_, List.getElem?_eq_getElem (by omega)⟩
      have w'b := Wb w' (List.mem_of_getElem? hw')
      simp only [LL] at G3
      unfold sLed at G3
      rw [rS (t + 1) w' hw'] at G3
      refine w_seq ?_
      walk_at "go"
      refine r_fld (G3.get (by walk_at "m")) T.cl_Search T.na_Search_open_nodes rfl ?_
      walk_at "go"
      refine r_pop G3 (by walk_at "u") fun H4 G4 => ?_
      walk_at "go"
      refine r_fld (G4.get (by walk_at "m")) T.cl_Search T.na_Search_total rfl ?_
      walk_at "go"
      refine r_fld (G4.get (by walk_at "m")) T.cl_Search T.na_Search_component rfl ?_
      walk_at "go"
      refine r_setL (xs := iv (clo s.cmp s.total (W.take (t + 1)))) G4 (ixN_of (by omega) (by rw [iv_len, clo_len]; omega)) (by walk_at "u") fun H5 G5 => ?_
      rw [iv_set, Int.toNat_natCast, ← tS (t + 1) w' hw'] at G5
      exact ⟨O1.length - (t + 1), by omega, t + 1, w', by omega, rfl, hw', rfl, G5⟩
    · have c3 : (w : Int) = u := by simpa using c2
      have e : t = O1.length := by
        rcases Nat.lt_or_ge t O1.length with q | q
        · rw [gW t q] at hw
          have := List.mem_of_getElem? hw
          rw [show w = u from by omega] at this
          exact absurd this hO
        · omega
      subst e
      have eW : W.take (O1.length + 1) = W := List.take_of_length_le (by omega)
      have eR : rem (O1.length + 1) = O2 := by
        show O2 ++ (u :: O1).take (O1.length + 1 - (O1.length + 1)) = O2
        rw [Nat.sub_self, List.take_zero, List.append_nil]
      simp only [LL] at G3
      rw [eW, eR, hW] at G3
      unfold sLed at G3
      unfold sFldAug
      walk_at "go"
      refine ⟨x, _, dx, _, _, rfl, G3.get (by walk_at "m"), T.cl_Search, T.na_Search_total, rfl, ?_⟩
      walk_at "go"
      refine ⟨_, _, rfl, rfl, dx, seF ed a1 a2 a3 a4 a5 s.total s.clock, G3.get (by walk_at "m"), (show 8 < 1000 by decide), ?_⟩
      have G6 := G3.put (a := x) (o' := .ins A.C_Search dx (seF ed a1 a2 a3 a4 a5 (s.total + 1) s.clock)) Upd.head
      rw [show putF "total" (.int (s.total + 1)) (seF ed a1 a2 a3 a4 a5 s.total s.clock) = seF ed a1 a2 a3 a4 a5 (s.total + 1) s.clock from by rfl]
      walk_at "go"
      exact k2 c _ G6
  · walk_at "go"
    exact k1 c H GS
theorem p_Search_leave (T : Cl K A) (h : sp_Search_leave K A vs H Q E) : t_Search_leave K A E (D0 Q) (start ["self", "node", "parent", "member"] vs) H := by
  obtain ⟨En, F, L, x, dx, ed, a1, a2, a3, a4, a5, s, u, q, i, P, O2, O1, rfl, G, hpt, hop, l2, l3, u1, hP, hO, hO2, l4, l5, k1, k2⟩ := h
  unfold t_Search_leave
  show tSeq _ _ (D0 Q) [some (.ref x), some (.int u), none, none] H
  unfold sLed at G
  rw [hpt, av_snoc, pLed_snoc] at G
  have lP : P.length ≤ 1000 := by rw [hpt] at l4; simp at l4; omega
  refine w_seq ?_
  walk_at "go"
  refine r_fld (G.get (by walk_at "m")) T.cl_Search T.na_Search_path rfl ?_
  walk_at "go"
  refine r_pop G (by walk_at "u") fun H1 G1 => ?_
  -- the list that was popped is of no use any more
  have G2 : St En F H1 ((q, .lst [.int u, .int i]) :: sLed A.C_Search x dx ed a1 a2 a3 a4 a5 ⟨s.ent, s.low, s.cmp, s.total, s.clock, P, s.opn⟩ L) := by
    rw [List.append_assoc, List.singleton_append] at G1
    exact G1.perm (List.perm_middle (l₁ := (_ :: _ :: _ :: _ :: _ :: _ :: pLed P : Led))).symm
  have G3 := G2.drop Tak.head
  clear G1 G2
  unfold sLed at G3
  walk_at "go"
  refine r_fld (G3.get (by walk_at "m")) T.cl_Search T.na_Search_path rfl ?_
  rcases List.eq_nil_or_concat P with rfl | ⟨P', y, rfl⟩
  · refine ⟨false, .inl ⟨_, SqL.of (G3.get (by walk_at "m")), rfl⟩, ?_⟩
    walk_at "go"
    exact leave_tail T (s := ⟨s.ent, s.low, s.cmp, s.total, s.clock, [], s.opn⟩) G3 hop l2 l3 u1 hO hO2 k1 k2
  · obtain ⟨r, p, j⟩ := y
    rw [List.concat_eq_append] at *
    obtain ⟨p1, p2⟩ := hP (r, p, j) (List.mem_append_right _ List.mem_cons_self)
    have p3 : p < s.low.length := by have : p < s.ent.length := p1; omega
    refine ⟨true, .inl ⟨_, SqL.of (G3.get (by walk_at "m")), by unfold av; simp⟩, ?_⟩
    walk_at "go"
    refine r_fld (G3.get (by walk_at "m")) T.cl_Search T.na_Search_path rfl ?_
    walk_at "go"
    refine r_ixL (SqL.of (G3.get (a := a4) (by walk_at "m"))) (by rw [av_snoc]; exact atI_top) ?_
    walk_at "go"
    refine r_ixL (xs := [.int p, .int j]) (SqL.of (G3.get (a := r) (by
      refine List.Mem.tail _ (List.Mem.tail _ (List.Mem.tail _ (List.Mem.tail _ (List.Mem.tail _ (List.Mem.tail _ (List.mem_append_left _ ?_))))))
      rw [pLed_snoc]
      exact List.mem_append_right _ List.mem_cons_self))) (atI_nat (j := 0) rfl) ?_
    walk_at "go"
    refine r_fld (G3.get (by walk_at "m")) T.cl_Search T.na_Search_low rfl ?_
    walk_at "go"
    refine r_ixL (xs := iv s.low) (SqL.of (G3.get (by walk_at "m"))) (atI_iv (by omega) (by omega)) ?_
    walk_at "go"
    refine r_fld (G3.get (by walk_at "m")) T.cl_Search T.na_Search_low rfl ?_
    walk_at "go"
    refine r_ixL (xs := iv s.low) (SqL.of (G3.get (by walk_at "m"))) (atI_iv (by omega) (by omega)) ?_
    walk_at "go"
    refine r_fld (G3.get (by walk_at "m")) T.cl_Search T.na_Search_low rfl ?_
    walk_at "go"
    refine r_setL (xs := iv s.low) G3 (ixN_of (by omega) (by rw [iv_len]; omega)) (by walk_at "u") fun H4 G4 => ?_
    rw [iv_set, Int.toNat_natCast, Int.toNat_natCast] at G4
    have el : lvL (P' ++ [(r, p, j)]) s.low u = s.low.set p (mn (s.low.getD p 0) (s.low.getD u 0)) := by unfold lvL; rw [List.getLast?_concat]
    have eu : (s.low.set p (mn (s.low.getD p 0) (s.low.getD u 0))).getD u 0 = s.low.getD u 0 := by
      rw [List.getD_eq_getElem?_getD, List.getElem?_set_ne p2, ← List.getD_eq_getElem?_getD]
    rw [el] at k1 k2
    exact leave_tail T (s := ⟨s.ent, s.low.set p (mn (s.low.getD p 0) (s.low.getD u 0)), s.cmp, s.total, s.clock, P' ++ [(r, p, j)], s.opn⟩) G4 hop (by rw [List.length_set]; exact l2) l3 u1 hO hO2 (by rw [eu]; exact k1) (by rw [eu]; exact k2)
def InvR (C x dx ed a1 a2 a3 a4 a5 : Addr) (En : SL.En) (F : Hp) (L : Led) (M : List (List Int)) (u : Nat) (s0 : SS) (m : Nat) (σ : L2.St) (H' : Hp) : Prop := ∃ s Pr v2 v3 v4, σ = [some (.ref x), some (.int (u : Int)), v2, v3, v4] ∧ SL.St En F H' (sLed C x dx ed a1 a2 a3 a4 a5 s L) ∧ Sok M s ∧ STI M s Pr ∧ 0 ≤ s.ent.getD u (-1) ∧ (∀ v, 0 ≤ s0.ent.getD v (-1) → 0 ≤ s.ent.getD v (-1)) ∧ m = mu M (fn (-1) s.ent) (pth s)
theorem p_Search_run (T : Cl K A) (h : sp_Search_run K A vs H Q E) : t_Search_run K A E (D0 Q) (start ["self", "root", "place", "node", "target"] vs) H := by
  obtain ⟨En, F, L, x, dx, ed, a1, a2, a3, a4, a5, s, u, es, M, Pr, rfl, G, hed, hR, lM, hM, ok, hp, ⟨I, hPr⟩, u1, u2, k⟩ := h
  obtain ⟨o1, o2, o3⟩ := id ok
  have few := I.few
  have hpn : pth s = [] := by unfold pth; rw [hp]; rfl
  have edb : ∀ {v t : Nat}, (t : Int) ∈ M.getD v [] → t < M.length := fun {v t} h => by
    rw [List.getD_eq_getElem?_getD] at h
    cases e : M[v]? with
    | none => rw [e] at h; simp at h
    | some ts =>
      rw [e] at h
      have := (hM ts (List.mem_of_getElem? e)).2 _ h
      omega
  unfold t_Search_run
  show tSeq _ _ (D0 Q) [some (.ref x), some (.int u), none, none, none] H
  refine w_seq ?_
  walk_at "go"
  refine w_meth ?_
  walk_at "go"
  refine ⟨x, dx, _, rfl, G.get (List.Mem.head _), rfl, ?_⟩
  walk_at "go"
  refine ⟨En, F, L, x, dx, ed, a1, a2, a3, a4, a5, s, u, rfl, G, by omega, by omega, by omega, by rw [hp]; exact Nat.zero_le _, by have := few.1; rw [List.length_reverse] at this; omega, fun H1 p1 G1 => ?_⟩
  obtain ⟨ok1, ⟨Pr1, h1⟩, _, h3, h4⟩ := sti_enter (a := p1) ok I (fun y hy => by rw [hpn] at hy; cases hy) u2 u1 (fun p e => by rw [hpn] at e; cases e)
  walk_at "go"
  refine r_while (InvR A.C_Search x dx ed a1 a2 a3 a4 a5 En F L M u s) _ ⟨_, Pr1, _, _, _, rfl, G1, ok1, h1, h3, h4, rfl⟩ ?_
  clear h1 h3 h4 ok1 G1 G
  rintro m σ H2 ⟨s, Pr, v2, v3, v4, rfl, G, ok, ⟨I, hPr⟩, hu, hmono, rfl⟩
  obtain ⟨o1, o2, o3⟩ := id ok
  obtain ⟨fw1, fw2, fw3, fw4, fw5, fw6⟩ := I.few
  rw [List.length_reverse] at fw1
  have fwp : s.path.length ≤ M.length := by
    have : ((pth s).map (·.1)).length = s.path.length := by unfold pth; simp
    omega
  have GS := G
  unfold sLed at G
  walk_at "go"
  refine r_fld (G.get (by walk_at "m")) T.cl_Search T.na_Search_path rfl ?_
  rcases List.eq_nil_or_concat s.path with hn | ⟨P, y, hcc⟩
  · refine ⟨false, .inl ⟨_, SqL.of (G.get (by walk_at "m")), by rw [hn]; rfl⟩, ?_⟩
    refine r_wb (fun c => by cases c) (fun _ => ?_)
    exact k H2 s Pr GS ok hn ⟨I, hPr⟩ hu hmono
  obtain ⟨q, w, i⟩ := y
  rw [List.concat_eq_append] at hcc
  refine ⟨true, .inl ⟨_, SqL.of (G.get (by walk_at "m")), by rw [hcc]; unfold av; simp⟩, ?_⟩
  refine r_wb (fun _ => ?_) (fun c => by cases c)
  have eP : pth s = (w, i) :: (P.map (·.2)).reverse := pth_snoc hcc
  obtain ⟨B, hB⟩ : ∃ B, B = (P.map (·.2)).reverse := ⟨_, rfl⟩
  rw [← hB] at eP
  have wN : w < M.length := fw6 w (by rw [eP]; exact List.mem_cons_self)
  have ⟨hi, hpr⟩ := hPr (w, i) (by rw [eP]; exact List.mem_cons_self)
  have al := hR.len
  obtain ⟨e, hee⟩ : ∃ e, es[w]? = some e := ⟨_, List.getElem?_eq_getElem (by omega)⟩
  obtain ⟨ts, ht1, hts⟩ := hR.at hee
  have eM : M.getD w [] = ts := by rw [List.getD_eq_getElem?_getD, ht1]; rfl
  have eD : SL.deg M w = ts.length := by unfold SL.deg; rw [eM]
  have hi' : i ≤ ts.length := by rw [← eD]; exact hi
  have hts' : SqL K F e (iv ts) := hts
  have mq : (q, HO.lst [.int (w : Int), .int (i : Int)]) ∈ sLed A.C_Search x dx ed a1 a2 a3 a4 a5 s L := by
    unfold sLed
    refine List.Mem.tail _ (List.Mem.tail _ (List.Mem.tail _ (List.Mem.tail _ (List.Mem.tail _ (List.Mem.tail _ (List.mem_append_left _ ?_))))))
    rw [hcc, pLed_snoc]
    exact List.mem_append_right _ List.mem_cons_self
  have hq : SqL K H2 q [.int (w : Int), .int (i : Int)] := SqL.of (GS.get mq)
  refine w_seq ?_
  walk_at "go"
  refine r_fld (G.get (by walk_at "m")) T.cl_Search T.na_Search_path rfl ?_
  walk_at "go"
  refine r_ixL (SqL.of (G.get (a := a4) (by walk_at "m"))) (by rw [hcc, av_snoc]; exact atI_top) ?_
  walk_at "go"
  refine r_ixL hq (atI_nat (j := 0) rfl) ?_
  walk_at "go"
  refine r_ixL hq (atI_nat (j := 1) rfl) ?_
  walk_at "go"
  refine r_fld (G.get (by walk_at "m")) T.cl_Search T.na_Search_edges rfl ?_
  walk_at "go"
  refine r_ixL (lS G.fh hed) (atI_rv (by omega) hee) ?_
  walk_at "go"
  rw [iv_len]
  walk_at "go"
  refine r_ifD (fun c => ?_) (fun c => ?_)
  · obtain ⟨tz, htz⟩ : ∃ z, ts[i]? = some z := ⟨_, List.getElem?_eq_getElem (by omega)⟩
    have tb := (hM ts (List.mem_of_getElem? ht1)).2 tz (List.mem_of_getElem? htz)
    obtain ⟨tn, rfl⟩ : ∃ tn : Nat, tz = (tn : Int) := ⟨tz.toNat, by omega⟩
    have tN : tn < M.length := by omega
    have hE : Ed M w tn := by unfold Ed; rw [eM]; exact List.mem_of_getElem? htz
    walk_at "go"
    refine r_fld (G.get (by walk_at "m")) T.cl_Search T.na_Search_edges rfl ?_
    walk_at "go"
    refine r_ixL (lS G.fh hed) (atI_rv (by omega) hee) ?_
    walk_at "go"
    refine r_ixL hq (atI_nat (j := 1) rfl) ?_
    refine r_ixL (lS G.fh hts') (atI_iv (by omega) (by omega)) ?_
    rw [Int.toNat_natCast, show ts.getD i 0 = (tn : Int) from by rw [List.getD_eq_getElem?_getD, htz]; rfl]
    walk_at "go"
    refine w_augS ?_
    walk_at "go"
    refine r_getP hq (by decide) (atI_nat (j := 1) rfl) ?_
    walk_at "go"
    have Gq := GS
    unfold sLed at Gq
    rw [hcc, av_snoc, pLed_snoc] at Gq
    refine r_setL (xs := [.int (w : Int), .int (i : Int)]) (j := 1) Gq rfl (.tail (.tail (.tail (.tail (.tail (.tail (Upd.appL (Upd.app Upd.head))))))))  fun H3 G3 => ?_
    obtain ⟨sb, hsb⟩ : ∃ sb : SS, sb = ⟨s.ent, s.low, s.cmp, s.total, s.clock, P ++ [(q, w, i + 1)], s.opn⟩ := ⟨_, rfl⟩
    have GB : St En F H3 (sLed A.C_Search x dx ed a1 a2 a3 a4 a5 sb L) := by
      rw [hsb]
      unfold sLed
      rw [av_snoc, pLed_snoc]
      exact G3
    have epb : pth sb = (w, i + 1) :: B := by rw [hB]; exact pth_snoc (s := sb) (P := P) (q := (q, w, i + 1)) (by rw [hsb])
    have emap : (pth sb).map (·.1) = (pth s).map (·.1) := by rw [epb, eP]; rfl
    have mub : mu M (fn (-1) s.ent) (pth sb) + 1 = mu M (fn (-1) s.ent) (pth s) := by
      rw [epb, eP]
      unfold mu
      rw [List.map_cons, List.map_cons, List.sum_cons, List.sum_cons]
      show _ + ((SL.deg M w - (i + 1) + 1) + _) + 1 = _ + ((SL.deg M w - i + 1) + _)
      rw [eD]
      omega
    have okb : Sok M sb := by rw [hsb]; exact ok
    have etk : (M.getD w []).take (i + 1) = (M.getD w []).take i ++ [(tn : Int)] := by rw [eM]; exact take_snoc htz
    have GBu := GB
    unfold sLed at GBu
    have sbe : sb.ent = s.ent := by rw [hsb]
    have sbl : sb.low = s.low := by rw [hsb]
    have sbc : sb.cmp = s.cmp := by rw [hsb]
    have sbo : sb.opn = s.opn := by rw [hsb]
    walk_at "go"
    refine r_fld (GBu.get (by walk_at "m")) T.cl_Search T.na_Search_entered rfl ?_
    walk_at "go"
    refine r_ixL (xs := iv sb.ent) (SqL.of (GBu.get (by walk_at "m"))) (atI_iv (by omega) (by rw [sbe]; omega)) ?_
    rw [Int.toNat_natCast]
    walk_at "go"
    have swp : ∀ {d : Int}, s.ent.getD tn 0 = s.ent.getD tn d := fun {d} => by
      rw [List.getD_eq_getElem?_getD, List.getD_eq_getElem?_getD, List.getElem?_eq_getElem (by omega)]; rfl
    refine r_ifD (fun c2 => ?_) (fun c2 => ?_)
    · rw [sbe, swp (d := -1)] at c2
      walk_at "go"
      refine w_meth ?_
      walk_at "go"
      refine ⟨x, dx, _, rfl, GBu.get (List.Mem.head _), rfl, ?_⟩
      walk_at "go"
      refine ⟨En, F, L, x, dx, ed, a1, a2, a3, a4, a5, sb, tn, rfl, GB, by rw [sbe]; omega, by rw [sbe, sbl]; omega, by rw [sbe]; omega, by rw [hsb]; rw [hcc] at fwp; simp at fwp ⊢; omega, by rw [sbo]; omega, fun H4 p4 G4 => ?_⟩
      obtain ⟨ok5, ⟨Pr5, h5⟩, mu5, h6, h7⟩ := sti_enter (s := sb) (Pr := Pr) (n := tn) (a := p4) okb (by rw [emap, sbe, sbl, sbc, sbo, show sb.total = s.total from by rw [hsb], show sb.clock = s.clock from by rw [hsb]]; exact I) (fun y hy => by
        rw [emap, eP]
        rw [epb] at hy
        rcases List.mem_cons.mp hy with rfl | hy'
        · refine ⟨by show i + 1 ≤ SL.deg M w; rw [eD]; omega, fun t ht => ?_⟩
          have ht' : (t : Int) ∈ (M.getD w []).take (i + 1) := ht
          rw [etk] at ht'
          rcases List.mem_append.mp ht' with z | z
          · exact .inl (hpr t z)
          · have := List.mem_singleton.mp z
            exact .inr ⟨rfl, by omega⟩
        · obtain ⟨z1, z2⟩ := hPr y (by rw [eP]; exact List.mem_cons_of_mem _ hy')
          exact ⟨z1, fun t ht => .inl (z2 t ht)⟩) (by rw [sbe]; exact c2) tN (fun p hp => by
        rw [emap, eP] at hp
        have : w = p := by simpa using hp
        exact this ▸ hE)
      walk_at "go"
      exact ⟨_, Nat.lt_trans mu5 (by rw [sbe]; omega), _, Pr5, _, _, _, rfl, G4, ok5, h5, h7 u (by rw [sbe]; exact hu), fun v hv => h7 v (by rw [sbe]; exact hmono v hv), rfl⟩
    · rw [sbe, swp (d := -1)] at c2
      have c3 : 0 ≤ fn (-1) s.ent tn := by show 0 ≤ s.ent.getD tn (-1); omega
      have I2 := I
      rw [eP, List.map_cons] at I2
      have I3 := I2.look hE c3
      have hpr3 : ∀ y ∈ pth sb, y.2 ≤ SL.deg M y.1 ∧ ∀ t : Nat, (t : Int) ∈ (M.getD y.1 []).take y.2 → Pr y.1 t ∨ y.1 = w ∧ t = tn := fun y hy => by
        rw [epb] at hy
        rcases List.mem_cons.mp hy with rfl | hy'
        · refine ⟨by show i + 1 ≤ SL.deg M w; rw [eD]; omega, fun t ht => ?_⟩
          have ht' : (t : Int) ∈ (M.getD w []).take (i + 1) := ht
          rw [etk] at ht'
          rcases List.mem_append.mp ht' with z | z
          · exact .inl (hpr t z)
          · have := List.mem_singleton.mp z
            exact .inr ⟨rfl, by omega⟩
        · obtain ⟨z1, z2⟩ := hPr y (by rw [eP]; exact List.mem_cons_of_mem _ hy')
          exact ⟨z1, fun t ht => .inl (z2 t ht)⟩
      have cmz : s.cmp.getD tn 0 = fn (-1) s.cmp tn := by
        show _ = s.cmp.getD tn (-1)
        rw [List.getD_eq_getElem?_getD, List.getD_eq_getElem?_getD, List.getElem?_eq_getElem (by omega)]; rfl
      walk_at "go"
      refine r_fld (GBu.get (by walk_at "m")) T.cl_Search T.na_Search_component rfl ?_
      walk_at "go"
      refine r_ixL (xs := iv sb.cmp) (SqL.of (GBu.get (by walk_at "m"))) (atI_iv (by omega) (by rw [sbc]; omega)) ?_
      rw [Int.toNat_natCast]
      walk_at "go"
      refine r_ifD (fun c4 => ?_) (fun c4 => ?_)
      · rw [sbc, cmz] at c4
        rw [if_pos c4] at I3
        walk_at "go"
        refine r_fld (GBu.get (by walk_at "m")) T.cl_Search T.na_Search_low rfl ?_
        walk_at "go"
        refine r_ixL (xs := iv sb.low) (SqL.of (GBu.get (by walk_at "m"))) (atI_iv (by omega) (by rw [sbl]; omega)) ?_
        walk_at "go"
        refine r_fld (GBu.get (by walk_at "m")) T.cl_Search T.na_Search_entered rfl ?_
        walk_at "go"
        refine r_ixL (xs := iv sb.ent) (SqL.of (GBu.get (by walk_at "m"))) (atI_iv (by omega) (by rw [sbe]; omega)) ?_
        walk_at "go"
        refine r_fld (GBu.get (by walk_at "m")) T.cl_Search T.na_Search_low rfl ?_
        walk_at "go"
        refine r_setL (xs := iv sb.low) GBu (ixN_of (by omega) (by rw [iv_len, sbl]; omega)) (by walk_at "u") fun H4 G4 => ?_
        rw [iv_set, Int.toNat_natCast, Int.toNat_natCast] at G4
        have el : fn 0 (sb.low.set w (mn (sb.low.getD w 0) (sb.ent.getD tn 0))) = up (fn 0 s.low) w (min (fn 0 s.low w) (fn (-1) s.ent tn)) := by
          rw [sbl, sbe, fn_set (by omega), mn_eq, swp (d := -1)]; rfl
        refine ⟨mu M (fn (-1) s.ent) (pth sb), by omega, ⟨sb.ent, sb.low.set w (mn (sb.low.getD w 0) (sb.ent.getD tn 0)), sb.cmp, sb.total, sb.clock, sb.path, sb.opn⟩, fun v t => Pr v t ∨ v = w ∧ t = tn, _, _, _, rfl, G4, ⟨okb.1, by rw [List.length_set]; exact okb.2.1, okb.2.2⟩, ⟨?_, hpr3⟩, by show 0 ≤ sb.ent.getD u (-1); rw [sbe]; exact hu, fun v hv => by show 0 ≤ sb.ent.getD v (-1); rw [sbe]; exact hmono v hv, by show _ = mu M (fn (-1) sb.ent) (pth sb); rw [sbe]⟩
        show TInv M (fn (-1) sb.ent) (fn 0 (sb.low.set w (mn (sb.low.getD w 0) (sb.ent.getD tn 0)))) (fn (-1) sb.cmp) sb.total sb.clock ((pth sb).map (·.1)) sb.opn.reverse _
        rw [el, epb, sbe, sbc, sbo, show sb.total = s.total from by rw [hsb], show sb.clock = s.clock from by rw [hsb]]
        exact I3
      · rw [sbc, cmz] at c4
        rw [if_neg c4] at I3
        walk_at "go"
        refine ⟨mu M (fn (-1) s.ent) (pth sb), by omega, sb, fun v t => Pr v t ∨ v = w ∧ t = tn, _, _, _, rfl, GB, okb, ⟨?_, hpr3⟩, by rw [sbe]; exact hu, fun v hv => by rw [sbe]; exact hmono v hv, by rw [sbe]⟩
        rw [epb, sbe, sbl, sbc, sbo, show sb.total = s.total from by rw [hsb], show sb.clock = s.clock from by rw [hsb]]
        exact I3
  · have i3 : i = ts.length := by omega
    have hall : ∀ t, Ed M w t → Pr w t := fun t ht => hpr t (by
      show (t : Int) ∈ (M.getD w []).take i
      rw [i3, eM, List.take_length]
      unfold Ed at ht
      rw [eM] at ht
      exact ht)
    have I2 := I
    rw [eP, List.map_cons] at I2
    obtain ⟨l1, l2, hsp⟩ := List.append_of_mem (I2.e2 w List.mem_cons_self)
    have hop : s.opn = l2.reverse ++ w :: l1.reverse := by
      have := congrArg List.reverse hsp
      rw [List.reverse_reverse, List.reverse_append, List.reverse_cons, List.append_assoc] at this
      exact this
    have sw : fn 0 s.ent w = fn (-1) s.ent w := by
      unfold fn
      rw [List.getD_eq_getElem?_getD, List.getD_eq_getElem?_getD, List.getElem?_eq_getElem (by omega)]; rfl
    have fw4' := fw4
    rw [eP, List.map_cons, List.nodup_cons] at fw4'
    have Pw : ∀ y ∈ P, y.2.1 < s.ent.length ∧ y.2.1 ≠ w := fun y hy => by
      have hyB : y.2 ∈ B := by rw [hB]; exact List.mem_reverse.mpr (List.mem_map.mpr ⟨y, hy, rfl⟩)
      have := fw6 y.2.1 (by rw [eP]; exact List.mem_cons_of_mem _ (List.mem_map.mpr ⟨y.2, hyB, rfl⟩))
      refine ⟨by omega, fun z => fw4'.1 ?_⟩
      rw [← z]
      exact List.mem_map.mpr ⟨y.2, hyB, rfl⟩
    have fw3' := fw3
    rw [hsp, List.nodup_append] at fw3'
    have w1 : w ∉ l1 := fun z => fw3'.2.2 w z w List.mem_cons_self rfl
    have hPrB : ∀ y ∈ B, y.2 ≤ SL.deg M y.1 ∧ ∀ t : Nat, (t : Int) ∈ (M.getD y.1 []).take y.2 → Pr y.1 t := fun y hy => hPr y (by rw [eP]; exact List.mem_cons_of_mem _ hy)
    have muB : mu M (fn (-1) s.ent) B < mu M (fn (-1) s.ent) (pth s) := by
      rw [eP]
      unfold mu
      rw [List.map_cons, List.sum_cons]
      omega
    walk_at "go"
    refine w_meth ?_
    walk_at "go"
    refine ⟨x, dx, _, rfl, G.get (List.Mem.head _), rfl, ?_⟩
    walk_at "go"
    refine ⟨En, F, L, x, dx, ed, a1, a2, a3, a4, a5, s, w, q, i, P, l2.reverse, l1.reverse, rfl, GS, hcc, hop, by omega, by omega, by omega, Pw, fun z => w1 (List.mem_reverse.mp z), fun v hv => by have := fw5 v (by rw [hsp]; exact List.mem_append_left _ (List.mem_reverse.mp hv)); omega, by omega, by omega, fun cne H4 G4 => ?_, fun ceq H4 G4 => ?_⟩
    · obtain ⟨p, r, e1, I3⟩ := I2.leave1 hall (by rw [← sw]; exact cne)
      have epB : pth ⟨s.ent, lvL P s.low w, s.cmp, s.total, s.clock, P, s.opn⟩ = B := hB.symm
      have el : fn 0 (lvL P s.low w) = up (fn 0 s.low) p (min (fn 0 s.low p) (fn 0 s.low w)) ∧ (lvL P s.low w).length = s.low.length := by
        rcases List.eq_nil_or_concat P with hn | ⟨P', y, hc⟩
        · rw [hB, hn] at e1; cases e1
        · rw [List.concat_eq_append] at hc
          have : y.2.1 = p := by
            rw [hB, hc, List.map_append, List.reverse_append] at e1
            have := congrArg List.head? e1
            simpa using this
          have yl := (Pw y (by rw [hc]; exact List.mem_append_right _ List.mem_cons_self)).1
          unfold lvL
          rw [hc, List.getLast?_concat]
          show fn 0 (s.low.set y.2.1 (mn (s.low.getD y.2.1 0) (s.low.getD w 0))) = _ ∧ (s.low.set y.2.1 (mn (s.low.getD y.2.1 0) (s.low.getD w 0))).length = _
          rw [fn_set (by omega), mn_eq, this]
          exact ⟨rfl, List.length_set ..⟩
      walk_at "go"
      refine ⟨mu M (fn (-1) s.ent) B, muB, _, Pr, _, _, _, rfl, G4, ⟨o1, by rw [← o2]; exact el.2, o3⟩, ⟨?_, by rw [epB]; exact hPrB⟩, hu, hmono, by rw [epB]⟩
      show TInv M (fn (-1) s.ent) (fn 0 (lvL P s.low w)) (fn (-1) s.cmp) s.total s.clock _ s.opn.reverse Pr
      rw [epB, e1, el.1]
      exact I3
    · obtain ⟨I3, hmin⟩ := I2.leave2 hall (by rw [← sw]; exact ceq) hsp
      have epB : pth ⟨s.ent, lvL P s.low w, clo s.cmp s.total (l1.reverse.reverse ++ [w]), s.total + 1, s.clock, P, l2.reverse⟩ = B := hB.symm
      have el : fn 0 (lvL P s.low w) = fn 0 s.low ∧ (lvL P s.low w).length = s.low.length := by
        rcases List.eq_nil_or_concat P with hn | ⟨P', y, hc⟩
        · rw [hn]; exact ⟨rfl, rfl⟩
        · rw [List.concat_eq_append] at hc
          have yB : y.2.1 ∈ B.map (·.1) := by
            rw [hB]
            exact List.mem_map.mpr ⟨y.2, List.mem_reverse.mpr (List.mem_map.mpr ⟨y, by rw [hc]; exact List.mem_append_right _ List.mem_cons_self, rfl⟩), rfl⟩
          have hm := hmin y.2.1 yB
          unfold lvL
          rw [hc, List.getLast?_concat]
          show fn 0 (s.low.set y.2.1 (mn (s.low.getD y.2.1 0) (s.low.getD w 0))) = _ ∧ (s.low.set y.2.1 (mn (s.low.getD y.2.1 0) (s.low.getD w 0))).length = _
          rw [mn_eq, show min (s.low.getD y.2.1 0) (s.low.getD w 0) = s.low.getD y.2.1 0 from hm, fn_id]
          exact ⟨rfl, List.length_set ..⟩
      have ec : fn (-1) (clo s.cmp s.total (l1.reverse.reverse ++ [w])) = fun v => if v ∈ l1 ∨ v = w then s.total else fn (-1) s.cmp v := by
        rw [List.reverse_reverse, fn_clo (M := M) (fun v hv => by
          have : v < M.length := by
            rcases List.mem_append.mp hv with z | z
            · exact fw5 v (by rw [hsp]; exact List.mem_append_left _ z)
            · rw [List.mem_singleton.mp z]; exact wN
          omega)]
        funext v
        simp only [List.mem_append, List.mem_singleton]
      walk_at "go"
      refine ⟨mu M (fn (-1) s.ent) B, muB, _, Pr, _, _, _, rfl, G4, ⟨o1, by rw [← o2]; exact el.2, by rw [← o3]; exact clo_len⟩, ⟨?_, by rw [epB]; exact hPrB⟩, hu, hmono, by rw [epB]⟩
      show TInv M (fn (-1) s.ent) (fn 0 (lvL P s.low w)) (fn (-1) (clo s.cmp s.total (l1.reverse.reverse ++ [w]))) (s.total + 1) s.clock _ l2.reverse.reverse Pr
      rw [epB, el.1, ec, List.reverse_reverse]
      exact I3
theorem flat_i1 {n : Nat} {z : Int} : (List.replicate n [V.int z]).flatten = iv (List.replicate n z) := by
  show _ = (List.replicate n z).map V.int
  rw [List.map_replicate]
  induction n with
  | zero => rfl
  | succ n ih => rw [List.replicate_succ, List.flatten_cons, ih, List.replicate_succ]; rfl
theorem p_Search_init (T : Cl K A) (h : sp_Search_init K A vs H Q E) : t_Search_init K A E (D0 Q) (start ["self", "edges"] vs) H := by
  obtain ⟨En, F, L, x, dx, ed, es, rfl, G, hed, le, k⟩ := h
  unfold t_Search_init
  show tSeq _ _ (D0 Q) [some (.ref x), some (.ref ed)] H
  unfold D0
  walk_at "go"
  refine r_sfld G T.cl_Search T.na_Search_edges (fs' := [("edges", .ref ed)]) (by walk_at "u") rfl (by show 0 < 1000; decide) fun H1 G1 => ?_
  walk_at "go"
  refine r_lst G1 (by walk_at "sz") fun z1 H2 G2 => ?_
  walk_at "go"
  rw [rv_len]
  refine r_rep G2 (by walk_at "m") (by omega) (by omega) (sz (by simp; omega)) fun a1 H3 G3 => ?_
  rw [show ((es.length : Int)).toNat = es.length from by omega, flat_i1] at G3
  have G4 := G3.drop (.tail .head)
  walk_at "go"
  refine r_sfld G4 T.cl_Search T.na_Search_entered (fs' := [("edges", .ref ed), ("entered", .ref a1)]) (by walk_at "u") rfl (by show 1 < 1000; decide) fun H5 G5 => ?_
  walk_at "go"
  refine r_lst G5 (by walk_at "sz") fun z2 H6 G6 => ?_
  walk_at "go"
  rw [rv_len]
  refine r_rep G6 (by walk_at "m") (by omega) (by omega) (sz (by simp; omega)) fun a2 H7 G7 => ?_
  rw [show ((es.length : Int)).toNat = es.length from by omega, flat_i1] at G7
  have G8 := G7.drop (.tail .head)
  walk_at "go"
  refine r_sfld G8 T.cl_Search T.na_Search_low (fs' := [("edges", .ref ed), ("entered", .ref a1), ("low", .ref a2)]) (by walk_at "u") rfl (by show 2 < 1000; decide) fun H9 G9 => ?_
  walk_at "go"
  refine r_lst G9 (by walk_at "sz") fun z3 H10 G10 => ?_
  walk_at "go"
  rw [rv_len]
  refine r_rep G10 (by walk_at "m") (by omega) (by omega) (sz (by simp; omega)) fun a3 H11 G11 => ?_
  rw [show ((es.length : Int)).toNat = es.length from by omega, flat_i1] at G11
  have G12 := G11.drop (.tail .head)
  walk_at "go"
  refine r_sfld G12 T.cl_Search T.na_Search_component (fs' := [("edges", .ref ed), ("entered", .ref a1), ("low", .ref a2), ("component", .ref a3)]) (by walk_at "u") rfl (by show 3 < 1000; decide) fun H13 G13 => ?_
  walk_at "go"
  refine r_sfld G13 T.cl_Search T.na_Search_total (fs' := [("edges", .ref ed), ("entered", .ref a1), ("low", .ref a2), ("component", .ref a3), ("total", .int 0)]) (by walk_at "u") rfl (by show 4 < 1000; decide) fun H14 G14 => ?_
  walk_at "go"
  refine r_sfld G14 T.cl_Search T.na_Search_clock (fs' := [("edges", .ref ed), ("entered", .ref a1), ("low", .ref a2), ("component", .ref a3), ("total", .int 0), ("clock", .int 0)]) (by walk_at "u") rfl (by show 5 < 1000; decide) fun H15 G15 => ?_
  walk_at "go"
  refine r_lst G15 (by walk_at "sz") fun a4 H16 G16 => ?_
  walk_at "go"
  refine r_sfld G16 T.cl_Search T.na_Search_path (fs' := [("edges", .ref ed), ("entered", .ref a1), ("low", .ref a2), ("component", .ref a3), ("total", .int 0), ("clock", .int 0), ("path", .ref a4)]) (by walk_at "u") rfl (by show 6 < 1000; decide) fun H17 G17 => ?_
  walk_at "go"
  refine r_lst G17 (by walk_at "sz") fun a5 H18 G18 => ?_
  walk_at "go"
  refine r_sfld G18 T.cl_Search T.na_Search_open_nodes (fs' := seF ed a1 a2 a3 a4 a5 0 0) (by walk_at "u") rfl (by show 7 < 1000; decide) fun H19 G19 => ?_
  walk_at "go"
  refine k H19 a1 a2 a3 a4 a5 ?_
  unfold sLed
  have G20 := (((((G19.front (a := a5) (by walk_at "tk")).front (a := a4) (by walk_at "tk")).front (a := a3) (by walk_at "tk")).front (a := a2) (by walk_at "tk")).front (a := a1) (by walk_at "tk")).front (a := x) (by walk_at "tk")
  exact G20
theorem p_components (T : Cl K A) (h : sp_components K A vs H Q E) : t_components K A E (D0 Q) (start ["edges", "search", "node"] vs) H := by
  obtain ⟨F, ed, es, M, rfl, sF, hed, hR, lM, hM, k⟩ := h
  have al := hR.len
  have G := St.init sF
  unfold t_components
  show tSeq _ _ (D0 Q) [some (.ref ed), none, none] H
  unfold D0
  walk_at "go"
  refine r_mk G fun x dx H1 G1 => ?_
  refine ⟨⟨F, H⟩, F, [], x, dx, ed, es, rfl, G1, hed, by omega, fun H2 a1 a2 a3 a4 a5 G2 => ⟨rfl, ?_⟩⟩
  have gm : ∀ v, fn (-1) (List.replicate es.length (-1)) v = -1 := fun v => by
    unfold fn
    rw [List.getD_eq_getElem?_getD, List.getElem?_replicate]
    split <;> rfl
  have I0 : TInv M (fn (-1) (List.replicate es.length (-1))) (fn 0 (List.replicate es.length 0)) (fn (-1) (List.replicate es.length (-1))) 0 0 [] [] (fun _ _ => False) := by
    rw [show fn (-1) (List.replicate es.length (-1)) = fun _ => -1 from funext gm]
    exact TInv.start
  walk_at "go"
  rw [rv_len, al]
  refine r_i1 (by omega) ?_
  refine r_forR (fun i σ H' => ∃ s Pr v, σ = [some (.ref ed), some (.ref x), v] ∧ St ⟨F, H⟩ F H' (sLed A.C_Search x dx ed a1 a2 a3 a4 a5 s [(dx, .own x)]) ∧ Sok M s ∧ s.path = [] ∧ STI M s Pr ∧ ∀ v, v < i → 0 ≤ s.ent.getD v (-1)) ⟨_, fun _ _ => False, _, rfl, G2, ⟨by simp [al], by simp [al], by simp [al]⟩, rfl, ⟨I0, fun y hy => by cases hy⟩, fun v h => absurd h (by omega)⟩ ?_ ?_
  · rintro i σ H3 hi ⟨s, Pr, v, rfl, G3, ok, hp, hS, hall⟩
    have iN : i < M.length := by omega
    have G3' := G3
    unfold sLed at G3'
    have e0 : (0 + (i : Int)).toNat = i := by omega
    walk_at "go"
    refine r_fld (G3'.get (by walk_at "m")) T.cl_Search T.na_Search_entered rfl ?_
    walk_at "go"
    refine r_ixL (xs := iv s.ent) (SqL.of (G3'.get (by walk_at "m"))) (atI_iv (by omega) (by have := ok.1; omega)) ?_
    rw [e0]
    walk_at "go"
    have swp : s.ent.getD i 0 = s.ent.getD i (-1) := by
      rw [List.getD_eq_getElem?_getD, List.getD_eq_getElem?_getD, List.getElem?_eq_getElem (by have := ok.1; omega)]; rfl
    refine r_ifD (fun c => ?_) (fun c => ?_)
    · rw [swp] at c
      walk_at "go"
      refine w_meth ?_
      walk_at "go"
      refine ⟨x, dx, _, rfl, G3'.get (List.Mem.head _), rfl, ?_⟩
      walk_at "go"
      refine ⟨⟨F, H⟩, F, [(dx, .own x)], x, dx, ed, a1, a2, a3, a4, a5, s, i, es, M, Pr, by rw [show (0 + (i : Int)) = ((i : Nat) : Int) from by omega]; rfl, G3, hed, hR, lM, hM, ok, hp, hS, iN, c, fun H4 s' Pr' G4 ok' hp' hS' hu' hm' => ?_⟩
      walk_at "go"
      refine ⟨s', Pr', _, rfl, G4, ok', hp', hS', fun v hv => ?_⟩
      rcases Nat.lt_or_ge v i with q | q
      · exact hm' v (hall v q)
      · rw [show v = i from by omega]; exact hu'
    · rw [swp] at c
      walk_at "go"
      refine ⟨s, Pr, _, rfl, G3, ok, hp, hS, fun v hv => ?_⟩
      rcases Nat.lt_or_ge v i with q | q
      · exact hall v q
      · rw [show v = i from by omega]; omega
  · rintro σ H3 ⟨s, Pr, v, rfl, G3, ok, hp, hS, hall⟩
    unfold sLed at G3
    walk_at "go"
    refine r_fld (G3.get (by walk_at "m")) T.cl_Search T.na_Search_component rfl ?_
    obtain ⟨F4, s4, f4, G4⟩ := G3.frz (a := a3) (o := .lst (iv s.cmp)) (by walk_at "tk")
    have I := hS.1
    rw [show pth s = [] from by unfold pth; rw [hp]; rfl] at I
    refine k F4 H3 a3 s.cmp ok.2.2 (fun v w hv hw => I.final (fun v hv => hall v (by omega)) hv hw) (SqL.of f4) G4.clr
theorem p_on_cycles (T : Cl K A) (h : sp_on_cycles K A vs H Q E) : t_on_cycles K A E (D0 Q) (start ["edges", "component", "inner", "node", "targets", "target", "number"] vs) H := by
  obtain ⟨F, ed, es, M, rfl, sF, hed, hR, lM, hM, k⟩ := h
  have al := hR.len
  unfold t_on_cycles
  show tSeq _ _ (D0 Q) [some (.ref ed), none, none, none, none, none, none] H
  unfold D0
  walk_at "go"
  refine ⟨F, ed, es, M, rfl, sF, hed, hR, lM, hM, fun F1 H1 b cm lc hc hb G => ?_⟩
  have s1 := G.ff
  have hed1 : SqL K F1 ed (rv es) := lS s1 hed
  have swp : ∀ v, v < M.length → cm.getD v 0 = cm.getD v (-1) := fun v hv => by
    rw [List.getD_eq_getElem?_getD, List.getD_eq_getElem?_getD, List.getElem?_eq_getElem (by omega)]; rfl
  walk_at "go"
  refine r_dnew G fun d H2 G2 => ?_
  walk_at "go"
  refine w_iE ?_
  walk_at "go"
  refine ⟨ed, rv es, rfl, lS G2.fh hed1, ?_⟩
  -- what is in the dict: the numbers of the components with an inner edge
  let Q0 : Nat → Int → Prop := fun i z => ∃ v, v < i ∧ ∃ t, Ed M v t ∧ cm.getD t (-1) = cm.getD v (-1) ∧ cm.getD v (-1) = z
  refine r_forE (xs := rv es) (fun i σ H' => ∃ ks v3 v4 v5, σ = [some (.ref ed), some (.ref b), some (.ref d), v3, v4, v5, none] ∧ ks.length ≤ 1000 * i ∧ (∀ z, z ∈ ks ↔ Q0 i z) ∧ St ⟨F, H⟩ F1 H' [(d, .dK (kS ks))]) ⟨[], _, _, _, rfl, Nat.zero_le _, fun z => ⟨fun h => (nomatch h), fun ⟨v, h, _⟩ => absurd h (by omega)⟩, G2⟩ (fun _ _ _ _ h => by obtain ⟨_, _, _, _, _, _, _, G'⟩ := h; exact lS G'.fh hed1) ?_ ?_
  · rintro i y σ H3 H3' hi ⟨ks, v3, v4, v5, rfl, lk, hk, G3⟩ e2
    obtain ⟨e, he, rfl⟩ := rv_get hi
    obtain ⟨ts, ht1, hts⟩ := hR.at he
    have iN : i < M.length := (List.getElem?_eq_some_iff.mp ht1).1
    obtain ⟨tl, tb⟩ := hM ts (List.mem_of_getElem? ht1)
    have eM : M.getD i [] = ts := by rw [List.getD_eq_getElem?_getD, ht1]; rfl
    have hts' : SqL K F1 e (iv ts) := lS s1 hts
    have G4 := G3.grow e2
    walk_at "go"
    refine r_il (lS G4.fh hts') ?_
    refine r_forL (xs := iv ts) (fun j σ H' => ∃ ks v5, σ = [some (.ref ed), some (.ref b), some (.ref d), some (.int (i : Nat)), some (.ref e), v5, none] ∧ ks.length ≤ 1000 * i + j ∧ (∀ z, z ∈ ks ↔ Q0 i z ∨ ∃ t : Nat, (t : Int) ∈ ts.take j ∧ cm.getD t (-1) = cm.getD i (-1) ∧ cm.getD i (-1) = z) ∧ St ⟨F, H⟩ F1 H' [(d, .dK (kS ks))]) ⟨ks, _, rfl, by omega, fun z => by rw [hk]; simp, G4⟩ (fun _ _ _ _ h => by obtain ⟨_, _, _, _, _, G'⟩ := h; exact lS G'.fh hts') ?_ ?_
    · rintro j y σ H5 hj ⟨ks, v5, rfl, lk, hk, G5⟩
      obtain ⟨tz, hz, rfl⟩ := iv_get hj
      have tzb := tb tz (List.mem_of_getElem? hz)
      obtain ⟨tn, rfl⟩ : ∃ tn : Nat, tz = (tn : Int) := ⟨tz.toNat, by omega⟩
      have jl : j < ts.length := (List.getElem?_eq_some_iff.mp hz).1
      have grow : ∀ z, (∃ t : Nat, (t : Int) ∈ ts.take (j + 1) ∧ cm.getD t (-1) = cm.getD i (-1) ∧ cm.getD i (-1) = z) ↔ (∃ t : Nat, (t : Int) ∈ ts.take j ∧ cm.getD t (-1) = cm.getD i (-1) ∧ cm.getD i (-1) = z) ∨ (cm.getD tn (-1) = cm.getD i (-1) ∧ cm.getD i (-1) = z) := fun z => by
        rw [take_snoc hz]
        constructor
        · rintro ⟨t, h1, h2⟩
          rcases List.mem_append.mp h1 with q | q
          · exact .inl ⟨t, q, h2⟩
          · have : t = tn := by have := List.mem_singleton.mp q; omega
            exact .inr (this ▸ h2)
        · rintro (⟨t, h1, h2⟩ | h2)
          · exact ⟨t, List.mem_append_left _ h1, h2⟩
          · exact ⟨tn, List.mem_append_right _ List.mem_cons_self, h2⟩
      walk_at "go"
      refine r_ixL (lS G5.fh hb) (atI_iv (by omega) (by omega)) ?_
      walk_at "go"
      refine r_ixL (lS G5.fh hb) (atI_iv (by omega) (by omega)) ?_
      rw [Int.toNat_natCast, Int.toNat_natCast, swp tn (by omega), swp i iN]
      walk_at "go"
      refine r_ifD (fun c => ?_) (fun c => ?_)
      · walk_at "go"
        refine r_ixL (lS G5.fh hb) (atI_iv (by omega) (by omega)) ?_
        rw [Int.toNat_natCast, swp i iN]
        walk_at "go"
        refine r_dput G5 Upd.head (szl (by rw [kS_len]; omega)) fun H6 G6 => ?_
        rw [kS_put] at G6
        refine ⟨addS ks (cm.getD i (-1)), _, rfl, ?_, fun z => ?_, G6⟩
        · unfold addS
          split
          · omega
          · rw [List.length_append]; show _ + 1 ≤ _; omega
        · rw [addS_mem, hk, grow, or_assoc]
          exact or_congr Iff.rfl (or_congr Iff.rfl ⟨fun h => ⟨c, h.symm⟩, fun h => h.2.symm⟩)
      · walk_at "go"
        refine ⟨ks, _, rfl, by omega, fun z => ?_, G5⟩
        rw [hk, grow]
        exact or_congr Iff.rfl ⟨.inl, fun h => h.resolve_right fun q => c q.1⟩
    · rintro σ H5 ⟨ks, v5, rfl, lk, hk, G5⟩
      rw [iv_len] at lk hk
      rw [List.take_length] at hk
      refine ⟨ks, _, _, _, rfl, by omega, fun z => ?_, G5⟩
      rw [hk]
      constructor
      · rintro (⟨v, h1, h2⟩ | ⟨t, h1, h2⟩)
        · exact ⟨v, by omega, h2⟩
        · exact ⟨i, by omega, t, by unfold Ed; rw [eM]; exact h1, h2⟩
      · rintro ⟨v, h1, t, h2, h3⟩
        rcases Nat.lt_or_ge v i with q | q
        · exact .inl ⟨v, q, t, h2, h3⟩
        · have e : v = i := by omega
          subst e
          unfold Ed at h2
          rw [eM] at h2
          exact .inr ⟨t, h2, h3⟩
  · rintro σ H3 ⟨ks, v3, v4, v5, rfl, lk, hk, G3⟩
    rw [rv_len, al] at hk
    walk_at "go"
    refine r_il (lS G3.fh hb) ?_
    refine r_lcB (k := true) (xs := iv cm) G3 (fun D i H' => St ⟨F, H⟩ F1 H' [(D, .lst (bv ((cm.take i).map fun z => decide (z ∈ ks)))), (d, .dK (kS ks))]) (fun D H' G' => G') (fun D i H' _ h => lS h.fh hb) ?_ ?_
    · rintro D i y H4 hi G4
      obtain ⟨z, hz, rfl⟩ := iv_get hi
      walk_at "go"
      refine r_din (G4.get (by walk_at "m")) ?_
      have e : (valV (kS ks) (.inl z)).isSome = decide (z ∈ ks) := by
        rw [kS_val]
        by_cases q : z ∈ ks
        · rw [if_pos q, decide_eq_true q]; rfl
        · rw [if_neg q, decide_eq_false q]; rfl
      rw [e]
      have := (List.getElem?_eq_some_iff.mp hz).1
      refine r_app G4 Upd.head (szl (by rw [bv_len]; simp; omega)) fun H5 G5 => ?_
      rw [take_snoc hz, List.map_append, show ∀ xs ys : List Bool, bv (xs ++ ys) = bv xs ++ bv ys from fun xs ys => List.map_append ..]
      exact G5
    rintro D H4 G4
    rw [iv_len, List.take_length] at G4
    obtain ⟨F5, s5, f5, G5⟩ := G4.frz Tak.head
    have edb : ∀ {v t : Nat}, Ed M v t → t < M.length := fun {v t} h => by
      unfold Ed at h
      rw [List.getD_eq_getElem?_getD] at h
      cases e : M[v]? with
      | none => rw [e] at h; simp at h
      | some ts =>
        rw [e] at h
        have := (hM ts (List.mem_of_getElem? e)).2 _ h
        omega
    walk_at "go"
    refine k F5 H4 D _ (by rw [List.length_map]; exact lc) (fun v hv => ?_) f5 G5.clr
    have ev : (cm.map fun z => decide (z ∈ ks)).getD v false = decide (cm.getD v (-1) ∈ ks) := by
      rw [List.getD_eq_getElem?_getD, List.getElem?_map, List.getD_eq_getElem?_getD, List.getElem?_eq_getElem (by omega)]; rfl
    rw [ev, decide_eq_true_iff, hk]
    constructor
    · rintro ⟨n, hn, t, h1, h2, h3⟩
      have tN := edb h1
      have nt := (hc t n tN hn).mp h2
      have nv' := (hc n v hn hv).mp h3
      -- v leads to n, over the edge to t, and back
      have back : Wk M t v := nt.1.trans nv'.1
      cases nv'.2 with
      | nil => exact ⟨t, h1, back⟩
      | step a b => exact ⟨_, a, b.trans (.step h1 back)⟩
    · rintro ⟨t, h1, h2⟩
      exact ⟨v, hv, t, h1, (hc t v (edb h1) hv).mpr ⟨h2, .step h1 .nil⟩, rfl⟩
theorem psL_succ {M : List (List Int)} {g kept reach : List Bool} {j : Nat} : psL M g kept reach (j + 1) = stepL M g kept (psL M g kept reach j) (M.length - 1 - j) := by
  unfold psL
  rw [List.range_succ, List.map_append, List.foldl_append]; rfl
theorem stepL_len {M : List (List Int)} {g kept : List Bool} {rc : List Bool × Bool} {k : Nat} : (stepL M g kept rc k).1.length = rc.1.length := by
  unfold stepL
  split
  · exact List.length_set ..
  · rfl
theorem psL_len {M : List (List Int)} {g kept reach : List Bool} : ∀ {j : Nat}, (psL M g kept reach j).1.length = reach.length
  | 0 => rfl
  | j + 1 => by rw [psL_succ, stepL_len, psL_len]
theorem againL_len {M : List (List Int)} {g kept : List Bool} : ∀ {f : Nat} {reach : List Bool}, (againL M g kept f reach).length = reach.length
  | 0, _ => rfl
  | f + 1, reach => by
    unfold againL
    split
    · rw [againL_len, psL_len]
    · exact psL_len
theorem hit_step {A ch : Bool} {g kept rc cur : List Bool} {kn : Nat} {t : Int} (hc : cur = if A then rc.set kn true else rc) :
    ((kept.getD t.toNat false && (g.getD t.toNat false || cur.getD t.toNat false)) = true → (A || hit1 g kept rc t) = true ∧ cur.set kn true = if (A || hit1 g kept rc t) then rc.set kn true else rc) ∧
    ((kept.getD t.toNat false && (g.getD t.toNat false || cur.getD t.toNat false)) = false → cur = (if (A || hit1 g kept rc t) then rc.set kn true else rc) ∧ (if A then true else ch) = if (A || hit1 g kept rc t) then true else ch) := by
  cases A with
  | true =>
    have hc' : cur = rc.set kn true := hc
    subst hc'
    refine ⟨fun _ => ⟨rfl, ?_⟩, fun _ => ⟨rfl, rfl⟩⟩
    show (rc.set kn true).set kn true = rc.set kn true
    rw [List.set_set]
  | false =>
    have hc' : cur = rc := hc
    subst hc'
    refine ⟨fun h => ?_, fun h => ?_⟩
    · have e : hit1 g kept cur t = true := h
      rw [e]; exact ⟨rfl, rfl⟩
    · have e : hit1 g kept cur t = false := h
      rw [e]; exact ⟨rfl, rfl⟩
theorem flat_bl {n : Nat} {x : Bool} : (List.replicate n [V.bl x]).flatten = bv (List.replicate n x) := by rw [flat_one]; simp
theorem bv_eqv (xs ys : List Bool) : PyData.eqv (.list (xs.map .bool)) (.list (ys.map .bool)) = decide (xs = ys) := by
  rw [eqv_list]
  exact eqvAll_map (fun x y => eqv_bool x y) xs ys
theorem dpa_bv {H : Hp} : ∀ {bs : List Bool}, DpAll K H (bv bs) (bs.map .bool)
  | [] => .nil
  | b :: bs => .cons (.bl b) dpa_bv
theorem dp_bv {a : Addr} {bs : List Bool} (h : SqL K H a (bv bs)) : Dp K H (.ref a) (.list (bs.map .bool)) := .lst h dpa_bv
theorem shp_bv {bs : List Bool} : Shp 1 (.list (bs.map .bool)) := shp_list (shpa_map fun _ _ => shp_bool)
set_option hygiene false
local macro_rules | `(tactic| walk_at "yes") => `(tactic| (
  walk_at "go"
  refine r_setL (xs := bv cur) G8 (ixN_of (by omega) (by rw [bv_len]; omega)) Upd.head fun H9 G9 => ?_
  rw [bv_set, Int.toNat_natCast, (y1 hc).2] at G9
  walk_at "go"
  refine ⟨some (.int t), ?_, G9⟩
  rw [(y1 hc).1]
  rfl))
local macro_rules | `(tactic| walk_at "noo") => `(tactic| (
  walk_at "go"
  obtain ⟨z1, z2⟩ := y2 hc
  refine ⟨some (.int t), ?_, by rw [← z1]; exact G8⟩
  rw [← z2]
  rfl))
theorem p__law_lives (T : Cl K A) (h : sp__law_lives K A vs H Q E) : t__law_lives K A E (D0 Q) (start ["moves", "goods", "starts", "kept", "turn", "reach", "again", "changed", "j", "k", "target", "start"] vs) H := by
  obtain ⟨F, a, b, c, as, M, g, st, rfl, sF, ha, hR, hb, hc, lM, lg, hM, hst, k⟩ := h
  have G := St.init sF
  have al := hR.len
  have fin : ∀ {F' H' : Hp} {ka : Addr} {kept : List Bool} {v4 v5 v6 v7 v8 v9 v10 : Option V}, Same F F' → SqL K F' ka (bv kept) → kept.length = M.length → turnL M g (M.length + 1) (List.replicate M.length true) = kept → St ⟨F, H⟩ F' H' [] →
      t__law_lives_2 K A E (D0 Q) [some (.ref a), some (.ref b), some (.ref c), some (.ref ka), v4, v5, v6, v7, v8, v9, v10, none] H' := by
    intro F' H' ka kept v4 v5 v6 v7 v8 v9 v10 s1 hk lk ek G1
    unfold t__law_lives_2 D0
    walk_at "go"
    refine r_il (lS G1.fh (lS s1 hc)) ?_
    refine r_forL (xs := iv st) (fun i σ H'' => H' = H'' ∧ (∃ v, σ = [some (.ref a), some (.ref b), some (.ref c), some (.ref ka), v4, v5, v6, v7, v8, v9, v10, v]) ∧ (st.take i).any (fun s => kept.getD s.toNat false) = false) ⟨rfl, ⟨_, rfl⟩, rfl⟩ (fun _ _ _ _ h => h.1 ▸ lS G1.fh (lS s1 hc)) ?_ ?_
    · rintro i y σ H'' hi ⟨rfl, ⟨v, rfl⟩, hf⟩
      obtain ⟨z, hz, rfl⟩ := iv_get hi
      have zb := hst z (List.mem_of_getElem? hz)
      walk_at "go"
      refine r_ixL (lS G1.fh hk) (atI_bv zb.1 (by omega)) ?_
      walk_at "go"
      refine r_if (fun h => ?_) (fun h => ?_)
      · walk_at "go"
        have e : LV M g st = true := by
          unfold LV
          rw [ek, List.any_eq_true]
          exact ⟨z, List.mem_of_getElem? hz, h⟩
        have := k H' G1.bh
        rw [e] at this
        exact this
      · walk_at "go"
        refine ⟨rfl, ⟨_, rfl⟩, ?_⟩
        rw [take_snoc hz, List.any_append, hf, Bool.false_or, List.any_cons, List.any_nil, Bool.or_false]
        exact h
    · rintro σ H'' ⟨rfl, ⟨v, rfl⟩, hf⟩
      rw [iv_len, List.take_length] at hf
      walk_at "go"
      have e : LV M g st = false := by
        unfold LV
        rw [ek]; exact hf
      have := k H' G1.bh
      rw [e] at this
      exact this
  unfold t__law_lives
  show tSeq _ _ (D0 Q) [some (.ref a), some (.ref b), some (.ref c), none, none, none, none, none, none, none, none, none] H
  unfold D0
  walk_at "go"
  refine r_lst G (by walk_at "sz") fun z0 H1 G1 => ?_
  walk_at "go"
  rw [rv_len, al]
  refine r_rep G1 (by walk_at "m") (by omega) (by omega) (sz (by simp; omega)) fun ka H2 G2 => ?_
  rw [show ((M.length : Int)).toNat = M.length from by omega, flat_bl] at G2
  obtain ⟨F2, s2, f2, G2⟩ := G2.frz Tak.head
  have G2 := G2.clr
  have la : SqL K F2 a (rv as) := lS s2 ha
  walk_at "go"
  rw [rv_len, al]
  refine r_i1 (by omega) ?_
  refine r_forR (InvT K F H a b c M g) ⟨F2, ka, _, none, none, none, none, none, none, none, rfl, s2, SqL.of f2, by simp, rfl, G2⟩ ?_ ?_
  · rintro i σ H3 hi ⟨F', ka', kept, v4, v5, v6, v7, v8, v9, v10, rfl, s3, hk, lk, ek, G3⟩
    have la' : SqL K F' a (rv as) := lS s3 ha
    have lb' : SqL K F' b (bv g) := lS s3 hb
    walk_at "go"
    refine r_lst G3 (by walk_at "sz") fun z1 H4 G4 => ?_
    walk_at "go"
    rw [rv_len, al]
    refine r_rep G4 (by walk_at "m") (by omega) (by omega) (sz (by simp; omega)) fun ra H5 G5 => ?_
    rw [show ((M.length : Int)).toNat = M.length from by omega, flat_bl] at G5
    have G5 := G5.only (.head _)
    have aft : ∀ {H' : Hp} {v6 v7 v8 v9 v10 : Option V}, St ⟨F, H⟩ F' H' [(ra, .lst (bv (againL M g kept (M.length + 1) (List.replicate M.length false))))] →
        tSeq (tIfS (tTest (tOp (rEqD K) (tVar 5) (tVar 3))) tBreak tNext) (tAsg (tVar 5) (gName 3)) ⟨InvT K F H a b c M g (i + 1), Q, fun σ H => t__law_lives_2 K A E (D0 Q) σ H, InvT K F H a b c M g (i + 1)⟩ [some (.ref a), some (.ref b), some (.ref c), some (.ref ka'), some (.int (0 + (i : Int))), some (.ref ra), v6, v7, v8, v9, v10, none] H' := by
      intro H' v6 v7 v8 v9 v10 G6
      have lR : (againL M g kept (M.length + 1) (List.replicate M.length false)).length = M.length := by rw [againL_len]; simp
      have et : turnL M g (M.length + 1 - i) kept = if againL M g kept (M.length + 1) (List.replicate M.length false) = kept then kept else turnL M g (M.length - i) (againL M g kept (M.length + 1) (List.replicate M.length false)) := by
        rw [show M.length + 1 - i = (M.length - i) + 1 from by omega]; rfl
      walk_at "go"
      refine r_eqD (dp_bv (SqL.of (G6.get (.head _)))) (dp_bv (lS G6.fh hk)) shp_bv shp_bv (bv_eqv _ _) ?_
      walk_at "go"
      refine r_ifD (fun h => ?_) (fun h => ?_)
      · walk_at "go"
        exact fin s3 hk lk (by rw [ek, et, if_pos h]) G6.clr
      · walk_at "go"
        obtain ⟨F7, s7, f7, G7⟩ := G6.frz Tak.head
        exact ⟨F7, ra, _, _, _, _, _, _, _, _, rfl, s3.trans s7, SqL.of f7, lR, by rw [ek, et, if_neg h]; congr 1; omega, G7⟩
    walk_at "go"
    rw [rv_len, al]
    refine r_i1 (by omega) ?_
    refine r_forR (fun i2 σ H' => ∃ v6 v7 v8 v9 v10 reach, σ = [some (.ref a), some (.ref b), some (.ref c), some (.ref ka'), some (.int (0 + (i : Int))), some (.ref ra), v6, v7, v8, v9, v10, none] ∧ reach.length = M.length ∧ againL M g kept (M.length + 1) (List.replicate M.length false) = againL M g kept (M.length + 1 - i2) reach ∧ SL.St ⟨F, H⟩ F' H' [(ra, .lst (bv reach))]) ⟨v6, v7, v8, v9, v10, _, rfl, by simp, rfl, G5⟩ ?_ ?_
    · rintro i2 σ H6 hi2 ⟨v6, v7, v8, v9, v10, reach, rfl, lr, er, G6⟩
      walk_at "go"
      rw [rv_len, al]
      refine r_i1 (by omega) ?_
      refine r_forR (fun j σ H' => ∃ v8 v9 v10, σ = [some (.ref a), some (.ref b), some (.ref c), some (.ref ka'), some (.int (0 + (i : Int))), some (.ref ra), some (.int (0 + (i2 : Int))), some (.bl (psL M g kept reach j).2), v8, v9, v10, none] ∧ SL.St ⟨F, H⟩ F' H' [(ra, .lst (bv (psL M g kept reach j).1))]) ⟨_, _, _, rfl, G6⟩ ?_ ?_
      · rintro j σ H7 hj ⟨v8, v9, v10, rfl, G7⟩
        have lp : (psL M g kept reach j).1.length = M.length := by rw [psL_len, lr]
        rw [psL_succ]
        generalize psL M g kept reach j = rc at *
        have hj' : j < M.length := by omega
        obtain ⟨kn, hkn⟩ : ∃ kn, kn = M.length - 1 - j := ⟨_, rfl⟩
        rw [← hkn]
        have hkl : kn < M.length := by omega
        walk_at "go"
        rw [rv_len, al, show (M.length : Int) - 1 - (0 + (j : Int)) = ((kn : Nat) : Int) from by omega]
        refine r_ixL (lS G7.fh hk) (atI_bv (by omega) (by omega)) ?_
        rw [Int.toNat_natCast]
        walk_at "go"
        refine r_if (fun h1 => ?_) (fun h1 => ?_)
        · walk_at "go"
          refine r_ixL (SqL.of (G7.get (.head _))) (atI_bv (by omega) (by omega)) ?_
          rw [Int.toNat_natCast]
          walk_at "go"
          refine r_if (fun h2 => ?_) (fun h2 => ?_)
          · obtain ⟨e, he⟩ : ∃ e, as[kn]? = some e := ⟨_, List.getElem?_eq_getElem (by omega)⟩
            obtain ⟨ts, ht, hs⟩ := hR.at he
            have hs' : SqL K F' e (iv ts) := lS s3 hs
            have tb := hM ts (List.mem_of_getElem? ht)
            have eM : M.getD kn [] = ts := by rw [List.getD_eq_getElem?_getD, ht]; rfl
            walk_at "go"
            refine r_ixL (lS G7.fh la') (atI_rv (by omega) (by rw [Int.toNat_natCast]; exact he)) ?_
            refine r_il (lS G7.fh hs') ?_
            refine r_forL (xs := iv ts) (fun i4 σ H' => ∃ v10, σ = [some (.ref a), some (.ref b), some (.ref c), some (.ref ka'), some (.int (0 + (i : Int))), some (.ref ra), some (.int (0 + (i2 : Int))), some (.bl (if (ts.take i4).any (hit1 g kept rc.1) then true else rc.2)), some (.int (0 + (j : Int))), some (.int (kn : Int)), v10, none] ∧ SL.St ⟨F, H⟩ F' H' [(ra, .lst (bv (if (ts.take i4).any (hit1 g kept rc.1) then rc.1.set kn true else rc.1)))]) ⟨_, rfl, G7⟩ (fun _ _ _ _ h => by obtain ⟨_, _, G'⟩ := h; exact lS G'.fh hs') ?_ ?_
            · rintro i4 y σ H8 hi4 ⟨v10, rfl, G8⟩
              obtain ⟨t, hz, rfl⟩ := iv_get hi4
              have tz := tb t (List.mem_of_getElem? hz)
              have eA : (ts.take (i4 + 1)).any (hit1 g kept rc.1) = ((ts.take i4).any (hit1 g kept rc.1) || hit1 g kept rc.1 t) := by rw [take_snoc hz, List.any_append, List.any_cons, List.any_nil, Bool.or_false]
              rw [eA]
              generalize (ts.take i4).any (hit1 g kept rc.1) = A' at *
              obtain ⟨cur, hcur⟩ : ∃ cur, cur = if A' then rc.1.set kn true else rc.1 := ⟨_, rfl⟩
              have lc : cur.length = M.length := by rw [hcur]; split <;> simp [lp]
              obtain ⟨y1, y2⟩ := hit_step (A := A') (ch := rc.2) (g := g) (kept := kept) (t := t) hcur
              rw [← hcur] at G8
              walk_at "go"
              refine r_ixL (lS G8.fh hk) (atI_bv tz.1 (by omega)) ?_
              walk_at "go"
              refine r_if (fun h3 => ?_) (fun h3 => ?_)
              · walk_at "go"
                refine r_ixL (lS G8.fh lb') (atI_bv tz.1 (by omega)) ?_
                walk_at "go"
                refine r_if (fun h4 => ?_) (fun h4 => ?_)
                · have hc : (kept.getD t.toNat false && (g.getD t.toNat false || cur.getD t.toNat false)) = true := by rw [h3, h4]; rfl
                  walk_at "yes"
                · walk_at "go"
                  refine r_ixL (SqL.of (G8.get (.head _))) (atI_bv tz.1 (by omega)) ?_
                  walk_at "go"
                  refine r_if (fun h5 => ?_) (fun h5 => ?_)
                  · have hc : (kept.getD t.toNat false && (g.getD t.toNat false || cur.getD t.toNat false)) = true := by rw [h3, h4, h5]; rfl
                    walk_at "yes"
                  · have hc : (kept.getD t.toNat false && (g.getD t.toNat false || cur.getD t.toNat false)) = false := by rw [h3, h4, h5]; rfl
                    walk_at "noo"
              · have hc : (kept.getD t.toNat false && (g.getD t.toNat false || cur.getD t.toNat false)) = false := by rw [h3]; rfl
                walk_at "noo"
            · rintro σ H8 ⟨v10, rfl, G8⟩
              rw [iv_len, List.take_length] at G8 ⊢
              have es : stepL M g kept rc kn = if ts.any (hit1 g kept rc.1) then (rc.1.set kn true, true) else rc := by
                unfold stepL hitM
                rw [h1, h2, eM]; rfl
              rw [es]
              refine ⟨some (.int (0 + (j : Int))), some (.int (kn : Int)), v10, ?_, ?_⟩
              · cases ts.any (hit1 g kept rc.1) <;> rfl
              · cases ht' : ts.any (hit1 g kept rc.1) <;> rw [ht'] at G8 <;> exact G8
          · walk_at "go"
            have es : stepL M g kept rc kn = rc := by
              unfold stepL
              rw [h1, h2]; rfl
            rw [es]
            exact ⟨_, _, _, rfl, G7⟩
        · walk_at "go"
          have es : stepL M g kept rc kn = rc := by
            unfold stepL
            rw [h1]; rfl
          rw [es]
          exact ⟨_, _, _, rfl, G7⟩
      · rintro σ H7 ⟨v8, v9, v10, rfl, G7⟩
        rw [show ((M.length : Int)).toNat = M.length from by omega] at G7 ⊢
        have lp : (psL M g kept reach M.length).1.length = M.length := by rw [psL_len, lr]
        have ea : againL M g kept (M.length + 1 - i2) reach = if (psL M g kept reach M.length).2 then againL M g kept (M.length - i2) (psL M g kept reach M.length).1 else (psL M g kept reach M.length).1 := by
          rw [show M.length + 1 - i2 = (M.length - i2) + 1 from by omega]; rfl
        walk_at "go"
        refine r_if (fun h => ?_) (fun h => ?_)
        · refine w_break ?_
          have h' : (psL M g kept reach M.length).2 = false := by simpa using h
          rw [h'] at ea
          have er' : againL M g kept (M.length + 1) (List.replicate M.length false) = (psL M g kept reach M.length).1 := by rw [er, ea]; rfl
          rw [← er'] at G7
          exact aft G7
        · walk_at "go"
          have h' : (psL M g kept reach M.length).2 = true := by simpa using h
          rw [h'] at ea
          refine ⟨_, _, _, _, _, _, rfl, lp, ?_, G7⟩
          rw [er, ea, show M.length + 1 - (i2 + 1) = M.length - i2 from by omega]; rfl
    · rintro σ H6 ⟨v6, v7, v8, v9, v10, reach, rfl, lr, er, G6⟩
      rw [show M.length + 1 - ((M.length : Int) + 1).toNat = 0 from by omega] at er
      have er' : againL M g kept (M.length + 1) (List.replicate M.length false) = reach := er
      rw [← er'] at G6
      exact aft G6
  · rintro σ H3 ⟨F', ka', kept, v4, v5, v6, v7, v8, v9, v10, rfl, s3, hk, lk, ek, G3⟩
    refine fin s3 hk lk ?_ G3
    rw [ek, show (M.length + 1 - ((M.length : Int) + 1).toNat) = 0 from by omega]; rfl
theorem inV_iv {s : Int} {cs : List Int} : inV (.int s) (iv cs) = decide (s ∈ cs) := by
  unfold inV
  induction cs with
  | nil => rfl
  | cons c cs ih =>
    show (eqV (.int c) (.int s) || (iv cs).any fun y => eqV y (.int s)) = _
    rw [ih]
    have e : eqV (.int c) (.int s) = decide (c = s) := by
      show (c == s) = _
      by_cases q : c = s
      · subst q; simp
      · rw [decide_eq_false q]; simpa using q
    rw [e]
    by_cases q : c = s
    · subst q; simp
    · rw [decide_eq_false q, Bool.false_or]
      exact decide_eq_decide.mpr ⟨fun h => List.mem_cons_of_mem _ h, fun h => by rcases List.mem_cons.mp h with z | z; exact absurd z.symm q; exact z⟩
theorem flat_iv {cs : List Int} : (iv cs).all flatV = true := by
  rw [List.all_eq_true]
  intro x hx
  obtain ⟨z, _, rfl⟩ := List.mem_map.mp hx
  rfl
theorem r_inQ {s : Int} {a : Addr} {cs : List Int} (h : SqL K H a (iv cs) ∨ SqT K H a (iv cs)) (q : Q (.bl (decide (s ∈ cs))) H) : rIn K false (.int s) (.ref a) H Q := ⟨a, iv cs, rfl, h, rfl, flat_iv, by rw [← inV_iv] at q; exact q⟩
theorem p__law_accepts (T : Cl K A) (h : sp__law_accepts K A vs H Q E) : t__law_accepts K A E (D0 Q) (start ["rows", "initial", "accepting", "lasso", "letters", "size", "moves", "goods", "state", "place", "after", "target"] vs) H := by
  obtain ⟨F, kb, a, b, c, w, as, m, is, cs, hs, ls, rs, rfl, sF, ha, hR, hb, hc, hw, hh, hl, ln, l1, l2, rl, il, cl, hrs, his, k⟩ := h
  obtain ⟨hd, ld, w1, w2, w3⟩ := hw.ex
  have G := St.init sF
  have al := hR.len
  obtain ⟨sz, hsz⟩ : ∃ sz, sz = hs.length + ls.length := ⟨_, rfl⟩
  have s1 : 1 ≤ sz := by omega
  have s20 : sz ≤ 20 := by omega
  have nn : rs.length * sz ≤ 10 * 20 := Nat.mul_le_mul rl s20
  have wb : ∀ p, p < sz → 0 ≤ (hs ++ ls).getD p 0 ∧ (hs ++ ls).getD p 0 < m := fun p hp => by
    have : (hs ++ ls).getD p 0 ∈ hs ++ ls := by
      rw [List.getD_eq_getElem?_getD, List.getElem?_eq_getElem (by rw [List.length_append]; omega)]
      exact List.getElem_mem _
    rcases List.mem_append.mp this with q | q
    · exact hh _ q
    · exact hl _ q
  unfold t__law_accepts
  show tSeq _ _ (D0 Q) [some (.ref a), some (.ref b), some (.ref c), some (.ref w), none, none, none, none, none, none, none, none] H
  unfold D0
  walk_at "go"
  refine r_ixT (tS G.fh w1) (atI_nat (j := 0) rfl) ?_
  walk_at "go"
  refine r_listof G (.inr (tS G.fh w2)) fun e1 H1 G1 => ?_
  walk_at "go"
  refine r_ixT (tS G1.fh w1) (atI_nat (j := 1) rfl) ?_
  walk_at "go"
  refine r_listof G1 (.inr (tS G1.fh w3)) fun e2 H2 G2 => ?_
  refine r_cat G2 (.tail _ (.head _)) (.head _) (SL.sz (by rw [iv_len, iv_len]; omega)) fun lt H3 G3 => ?_
  rw [← List.map_append] at G3
  obtain ⟨F3, s3, f3, G3⟩ := G3.frz Tak.head
  have G3 := G3.clr
  have hlt : SqL K F3 lt (iv (hs ++ ls)) := SqL.of f3
  walk_at "go"
  rw [iv_len, List.length_append, ← hsz]
  refine r_lst G3 (by walk_at "sz") fun mA H4 G4 => ?_
  walk_at "go"
  refine r_lst G4 (by walk_at "sz") fun gA H5 G5 => ?_
  walk_at "go"
  refine r_len (qor (qS G5.fh (qS s3 ha))) ?_
  rw [rv_len, al]
  walk_at "go"
  refine r_i1 (by omega) ?_
  refine r_forR (fun s σ H' => ∃ F' ms v8 v9 v10, σ = [some (.ref a), some (.ref b), some (.ref c), some (.ref w), some (.ref lt), some (.int (sz : Int)), some (.ref mA), some (.ref gA), v8, v9, v10, none] ∧ Same F3 F' ∧ Rows K F' true ms ((List.range (s * sz)).map (mvs rs sz hs.length (hs ++ ls))) ∧
      SL.St ⟨F, H⟩ F' H' [(gA, .lst (bv ((List.range (s * sz)).map fun q => decide (((q / sz : Nat) : Int) ∈ cs)))), (mA, .lst (rv ms))]) ⟨F3, [], none, none, none, rfl, Same.refl _, by rw [Nat.zero_mul]; exact .nil, by rw [Nat.zero_mul]; exact G5⟩ ?_ ?_
  · rintro s σ H6 hs' ⟨F6, ms, v8, v9, v10, rfl, s6, hM, G6⟩
    have hsn : s < rs.length := by omega
    walk_at "go"
    refine r_i1 (by omega) ?_
    refine r_forR (fun p σ H' => ∃ F' ms v9 v10, σ = [some (.ref a), some (.ref b), some (.ref c), some (.ref w), some (.ref lt), some (.int (sz : Int)), some (.ref mA), some (.ref gA), some (.int (0 + (s : Int))), v9, v10, none] ∧ Same F3 F' ∧ Rows K F' true ms ((List.range (s * sz + p)).map (mvs rs sz hs.length (hs ++ ls))) ∧
        SL.St ⟨F, H⟩ F' H' [(gA, .lst (bv ((List.range (s * sz + p)).map fun q => decide (((q / sz : Nat) : Int) ∈ cs)))), (mA, .lst (rv ms))]) ⟨F6, ms, _, _, rfl, s6, hM, G6⟩ ?_ ?_
    · rintro p σ H7 hp ⟨F7, ms, v9, v10, rfl, s7, hM, G7⟩
      have hpz : p < sz := by omega
      have snn : s * sz + p < 10 * 20 := by
        have : (s + 1) * sz ≤ rs.length * sz := Nat.mul_le_mul_right sz (by omega)
        rw [Nat.succ_mul] at this
        omega
      have qd : (s * sz + p) / sz = s := by rw [Nat.mul_comm, Nat.mul_add_div (by omega), Nat.div_eq_of_lt hpz, Nat.add_zero]
      have qm : (s * sz + p) % sz = p := by rw [Nat.mul_comm, Nat.mul_add_mod, Nat.mod_eq_of_lt hpz]
      have sA := s3.trans s7
      obtain ⟨af, haf⟩ : ∃ af : Nat, af = if p + 1 = sz then hs.length else p + 1 := ⟨_, rfl⟩
      have rest : ∀ {v10' v11' : L2.St → Hp → Prop} (z : Int), z = (af : Int) → tSeq (tDrop (tBM K "list" rAppend (tVar 6) (tCons (tLc (iSeq K (tOp (rIx K) (tOp (rIx K) (tVar 0) (tVar 8)) (tOp (rIxL K) (tVar 4) (tVar 9)))) (gName 11) tYes (tOp rAddI (tOp rMulI (tVar 11) (tVar 5)) (tVar 10)) [11]) tNil))) (tDrop (tBM K "list" rAppend (tVar 7) (tCons (tOp (rIn K false) (tVar 8) (tVar 2)) tNil)))
          ⟨fun σ H' => ∃ F' ms v9 v10, σ = [some (.ref a), some (.ref b), some (.ref c), some (.ref w), some (.ref lt), some (.int (sz : Int)), some (.ref mA), some (.ref gA), some (.int (0 + (s : Int))), v9, v10, none] ∧ Same F3 F' ∧ Rows K F' true ms ((List.range (s * sz + (p + 1))).map (mvs rs sz hs.length (hs ++ ls))) ∧
            SL.St ⟨F, H⟩ F' H' [(gA, .lst (bv ((List.range (s * sz + (p + 1))).map fun q => decide (((q / sz : Nat) : Int) ∈ cs)))), (mA, .lst (rv ms))], Q, v10', v11'⟩ [some (.ref a), some (.ref b), some (.ref c), some (.ref w), some (.ref lt), some (.int (sz : Int)), some (.ref mA), some (.ref gA), some (.int (0 + (s : Int))), some (.int (0 + (p : Int))), some (.int z), none] H7 := by
        rintro v10' v11' z rfl
        obtain ⟨ea, hea⟩ : ∃ e, as[s]? = some e := ⟨_, List.getElem?_eq_getElem (by omega)⟩
        obtain ⟨bs, r, hr1, hs1, hR1⟩ := hR.at hea
        obtain ⟨q1, q2⟩ := hrs r (List.mem_of_getElem? hr1)
        obtain ⟨wz, hwz⟩ : ∃ z, z = (hs ++ ls).getD p 0 := ⟨_, rfl⟩
        have wz1 := wb p hpz
        rw [← hwz] at wz1
        have wl : wz.toNat < bs.length := by rw [hR1.len]; omega
        obtain ⟨eb, heb⟩ : ∃ e, bs[wz.toNat]? = some e := ⟨_, List.getElem?_eq_getElem wl⟩
        obtain ⟨ts, ht1, hts⟩ := hR1.at heb
        obtain ⟨t1, t2⟩ := q2 ts (List.mem_of_getElem? ht1)
        have em : mvs rs sz hs.length (hs ++ ls) (s * sz + p) = ts.map fun t => t * (sz : Int) + (af : Int) := by
          unfold mvs
          rw [qd, qm, ← hwz, haf]
          rw [List.getD_eq_getElem?_getD, List.getD_eq_getElem?_getD, hr1, Option.getD_some, ht1]; rfl
        have lm : ms.length = s * sz + p := by rw [hM.len]; simp
        have e0 : (0 + (s : Int)).toNat = s := by omega
        have e1 : (0 + (p : Int)).toNat = p := by omega
        walk_at "go"
        refine r_ixQ (qor (qS G7.fh (qS sA ha))) (atI_rv (by omega) (by rw [e0]; exact hea)) ?_
        walk_at "go"
        refine r_ixL (lS G7.fh (lS s7 hlt)) (atI_iv (by omega) (by rw [List.length_append]; omega)) ?_
        rw [e1, ← hwz]
        refine r_ixQ (qor (qS G7.fh (qS sA hs1))) (atI_rv (by omega) heb) ?_
        refine r_isq (qS G7.fh (qS sA hts)) ?_
        refine r_lcB (k := kb) (xs := iv ts) G7 (fun D i H' => St ⟨F, H⟩ F7 H' ((D, .lst (iv ((ts.take i).map fun t => t * (sz : Int) + (af : Int)))) :: [(gA, .lst (bv ((List.range (s * sz + p)).map fun q => decide (((q / sz : Nat) : Int) ∈ cs)))), (mA, .lst (rv ms))])) (fun D H' G' => G') (fun D i H' _ h => qS h.fh (qS sA hts)) ?_ ?_
        · rintro D i y H8 hi G8
          obtain ⟨t, hz, rfl⟩ := iv_get hi
          walk_at "go"
          have tb := t2 t (List.mem_of_getElem? hz)
          refine r_mul (m := 8) (k := 8) (by omega) (by omega) ?_
          walk_at "go"
          refine r_app G8 Upd.head (szl (by rw [iv_len]; simp; omega)) fun H9 G9 => ?_
          rw [take_snoc hz, List.map_append]
          rw [iv_snoc] at G9
          exact G9
        rintro D H8 G8
        rw [iv_len, List.take_length] at G8
        obtain ⟨F9, s9, f9, G9⟩ := G8.frz Tak.head
        walk_at "go"
        refine r_append G9 (.tail .head) (szl (by rw [rv_len]; omega)) fun H10 G10 => ?_
        walk_at "go"
        refine r_inQ (qor (qS G10.fh (qS (sA.trans s9) hc))) ?_
        walk_at "go"
        refine r_append G10 Upd.head (szl (by rw [bv_len]; simp; omega)) fun H11 G11 => ?_
        refine ⟨F9, ms ++ [D], _, _, rfl, s7.trans s9, ?_, ?_⟩
        · rw [← Nat.add_assoc, List.range_succ, List.map_append, List.map_cons, List.map_nil, em]
          exact (hM.mono s9).snoc (show SqL K F9 D _ from SqL.of f9)
        · rw [← Nat.add_assoc, List.range_succ, List.map_append, List.map_cons, List.map_nil, qd]
          rw [show rv (ms ++ [D]) = rv ms ++ [V.ref D] from by simp, show ∀ xs : List Bool, bv (xs ++ [decide ((s : Int) ∈ cs)]) = bv xs ++ [V.bl (decide ((s : Int) ∈ cs))] from fun xs => by simp]
          rw [show (0 + (s : Int)) = (s : Int) from by omega] at G11
          exact G11
      walk_at "go"
      refine r_ifD (fun h => ?_) (fun h => ?_)
      · walk_at "go"
        refine r_ixT (tS G7.fh (tS sA w1)) (atI_nat (j := 0) rfl) ?_
        refine w_nil ?_
        refine r_len (.inr (tS G7.fh (tS sA w2))) ?_
        refine rest _ ?_
        rw [iv_len, haf, if_pos (by omega)]
      · refine w_next ?_
        refine rest _ ?_
        rw [haf, if_neg (by omega)]; omega
    · rintro σ H7 ⟨F7, ms, v9, v10, rfl, s7, hM, G7⟩
      rw [show ((sz : Int)).toNat = sz from by omega, ← Nat.succ_mul] at hM G7
      exact ⟨F7, ms, _, _, _, rfl, s7, hM, G7⟩
  · rintro σ H6 ⟨F6, ms, v8, v9, v10, rfl, s6, hM, G6⟩
    rw [show ((rs.length : Int)).toNat = rs.length from by omega] at hM G6
    obtain ⟨F7, s7, f7, G7⟩ := G6.frz Tak.head
    obtain ⟨F8, s8, f8, G8⟩ := G7.frz Tak.head
    have sB := s3.trans (s6.trans (s7.trans s8))
    unfold t__law_accepts_5
    walk_at "go"
    refine r_isq (qS G8.fh (qS sB hb)) ?_
    refine r_lcB (k := kb) (xs := iv is) G8 (fun D i H' => St ⟨F, H⟩ F8 H' [(D, .lst (iv ((is.take i).map fun t => t * (sz : Int))))]) (fun D H' G' => G') (fun D i H' _ h => qS h.fh (qS sB hb)) ?_ ?_
    · rintro D i y H9 hi G9
      obtain ⟨t, hz, rfl⟩ := iv_get hi
      walk_at "go"
      have tb := his t (List.mem_of_getElem? hz)
      refine r_mul (m := 8) (k := 8) (by omega) (by omega) ?_
      refine r_app G9 Upd.head (szl (by rw [iv_len]; simp; omega)) fun H10 G10 => ?_
      rw [take_snoc hz, List.map_append]
      rw [iv_snoc] at G10
      exact G10
    rintro D H9 G9
    rw [iv_len, List.take_length] at G9
    obtain ⟨F10, s10, f10, G10⟩ := G9.frz Tak.head
    have lM : (movesOf rs hs ls).length = rs.length * sz := by unfold movesOf; rw [List.length_map, List.length_range, ← hsz]
    have szi : (0 : Int) ≤ (sz : Int) := by omega
    walk_at "go"
    refine ⟨F10, mA, gA, D, ms, movesOf rs hs ls, goodsOf rs.length sz cs, is.map fun t => t * (sz : Int), rfl, G10.fh, SqL.of (s10 _ _ f8), (by unfold movesOf; rw [← hsz]; exact hM.mono (s7.trans (s8.trans s10))), SqL.of (s10 _ _ (s8 _ _ f7)), SqL.of f10, by omega, ?_, ?_, ?_, fun H' s' => ?_⟩
    · unfold goodsOf
      rw [lM]; simp
    · rw [lM]
      intro ts hts t ht
      unfold movesOf at hts
      obtain ⟨q, hq, rfl⟩ := List.mem_map.mp hts
      rw [List.mem_range, ← hsz] at hq
      unfold mvs at ht
      rw [← hsz] at ht
      obtain ⟨x, hx, rfl⟩ := List.mem_map.mp ht
      have hqm : q % sz < sz := Nat.mod_lt _ (by omega)
      have ha2 : ((if q % sz + 1 = sz then hs.length else q % sz + 1 : Nat)) < sz := by split <;> omega
      generalize (if q % sz + 1 = sz then hs.length else q % sz + 1 : Nat) = af at *
      have hx2 : 0 ≤ x ∧ x < rs.length := by
        rw [List.getD_eq_getElem?_getD, List.getD_eq_getElem?_getD] at hx
        cases e1 : rs[q / sz]? with
        | none => rw [e1] at hx; simp at hx
        | some r =>
          rw [e1, Option.getD_some] at hx
          cases e2 : r[((hs ++ ls).getD (q % sz) 0).toNat]? with
          | none => rw [e2] at hx; simp at hx
          | some e =>
            rw [e2, Option.getD_some] at hx
            exact ((hrs r (List.mem_of_getElem? e1)).2 e (List.mem_of_getElem? e2)).2 x hx
      have m1 := Int.mul_nonneg hx2.1 szi
      have m2 : (x + 1) * (sz : Int) ≤ (rs.length : Int) * (sz : Int) := Int.mul_le_mul_of_nonneg_right (by omega) szi
      rw [Int.add_mul, Int.one_mul] at m2
      have m3 : ((rs.length * sz : Nat) : Int) = (rs.length : Int) * (sz : Int) := by simp
      omega
    · rw [lM]
      intro t ht
      obtain ⟨x, hx, rfl⟩ := List.mem_map.mp ht
      have hx2 := his x hx
      have m1 := Int.mul_nonneg hx2.1 szi
      have m2 : (x + 1) * (sz : Int) ≤ (rs.length : Int) * (sz : Int) := Int.mul_le_mul_of_nonneg_right (by omega) szi
      rw [Int.add_mul, Int.one_mul] at m2
      have m3 : ((rs.length * sz : Nat) : Int) = (rs.length : Int) * (sz : Int) := by simp
      omega
    · have := k H' (G10.bh.trans s')
      unfold ACC at this
      rw [← hsz] at this
      exact this
end

def top (i : Nat) : Stmt := PySem.Challenge.pw_promiseplay_k17_accepts.main.body.getD i (.Pass ⟨0, 0, 0, 0⟩)
abbrev s_Search_init : Stmt := (inClass (top 5) 0)
abbrev s_Search_enter : Stmt := (inClass (top 5) 1)
abbrev s_Search_run : Stmt := (inClass (top 5) 2)
abbrev s_Search_leave : Stmt := (inClass (top 5) 3)
abbrev s_components : Stmt := (top 6)
abbrev s_on_cycles : Stmt := (top 7)
abbrev s_Places_init : Stmt := (inClass (top 9) 0)
abbrev s_Places_number_of : Stmt := (inClass (top 9) 1)
abbrev s_Places_waits : Stmt := (inClass (top 9) 2)
abbrev s_Places_first_without : Stmt := (inClass (top 9) 3)
abbrev s_ascends : Stmt := (top 10)
abbrev s_check_letters : Stmt := (top 12)
abbrev s_Automaton_init : Stmt := (inClass (top 14) 0)
abbrev s_flags : Stmt := (top 15)
abbrev s_accepts : Stmt := (top 16)
abbrev s_runs : Stmt := (top 17)
abbrev s__law_draws : Stmt := (top 19)
abbrev s__law_take : Stmt := (top 20)
abbrev s__law_lasso : Stmt := (top 21)
abbrev s__law_lives : Stmt := (top 22)
abbrev s__law_ascending : Stmt := (top 23)
abbrev s__law_automaton : Stmt := (top 24)
abbrev s__law_copy : Stmt := (top 25)
abbrev s__law_accepts : Stmt := (top 26)
abbrev s__law_outcome : Stmt := (top 27)
abbrev s_law : Stmt := (top 28)
theorem sc_Search_init : FnScope ["self", "edges"] ["self", "edges"] (defScope s_Search_init) := ⟨rfl, rfl, rfl, by decide +kernel, rfl, by decide +kernel, by decide +kernel⟩
theorem sc_Search_enter : FnScope ["self", "node"] ["self", "node"] (defScope s_Search_enter) := ⟨rfl, rfl, rfl, by decide +kernel, rfl, by decide +kernel, by decide +kernel⟩
theorem sc_Search_run : FnScope ["self", "root", "place", "node", "target"] ["self", "root"] (defScope s_Search_run) := ⟨rfl, rfl, rfl, by decide +kernel, rfl, by decide +kernel, by decide +kernel⟩
theorem sc_Search_leave : FnScope ["self", "node", "parent", "member"] ["self", "node"] (defScope s_Search_leave) := ⟨rfl, rfl, rfl, by decide +kernel, rfl, by decide +kernel, by decide +kernel⟩
theorem sc_components : FnScope ["edges", "search", "node"] ["edges"] (defScope s_components) := ⟨rfl, rfl, rfl, by decide +kernel, rfl, by decide +kernel, by decide +kernel⟩
theorem sc_on_cycles : FnScope ["edges", "component", "inner", "node", "targets", "target", "number"] ["edges"] (defScope s_on_cycles) := ⟨rfl, rfl, rfl, by decide +kernel, rfl, by decide +kernel, by decide +kernel⟩
theorem sc_Places_init : FnScope ["self"] ["self"] (defScope s_Places_init) := ⟨rfl, rfl, rfl, by decide +kernel, rfl, by decide +kernel, by decide +kernel⟩
theorem sc_Places_number_of : FnScope ["self", "place"] ["self", "place"] (defScope s_Places_number_of) := ⟨rfl, rfl, rfl, by decide +kernel, rfl, by decide +kernel, by decide +kernel⟩
theorem sc_Places_waits : FnScope ["self", "rows"] ["self", "rows"] (defScope s_Places_waits) := ⟨rfl, rfl, rfl, by decide +kernel, rfl, by decide +kernel, by decide +kernel⟩
theorem sc_Places_first_without : FnScope ["self", "rows"] ["self", "rows"] (defScope s_Places_first_without) := ⟨rfl, rfl, rfl, by decide +kernel, rfl, by decide +kernel, by decide +kernel⟩
theorem sc_ascends : FnScope ["numbers", "count", "before", "number"] ["numbers", "count"] (defScope s_ascends) := ⟨rfl, rfl, rfl, by decide +kernel, rfl, by decide +kernel, by decide +kernel⟩
theorem sc_check_letters : FnScope ["lasso", "letters", "head", "loop"] ["lasso", "letters"] (defScope s_check_letters) := ⟨rfl, rfl, rfl, by decide +kernel, rfl, by decide +kernel, by decide +kernel⟩
theorem sc_Automaton_init : FnScope ["self", "letters", "initial", "accepting", "rows", "row", "entry"] ["self", "letters", "initial", "accepting", "rows"] (defScope s_Automaton_init) := ⟨rfl, rfl, rfl, by decide +kernel, rfl, by decide +kernel, by decide +kernel⟩
theorem sc_flags : FnScope ["states", "count", "told", "state"] ["states", "count"] (defScope s_flags) := ⟨rfl, rfl, rfl, by decide +kernel, rfl, by decide +kernel, by decide +kernel⟩
theorem sc_accepts : FnScope ["automaton", "lasso", "places", "edges", "accepting", "cyclic", "node", "_", "state"] ["automaton", "lasso"] (defScope s_accepts) := ⟨rfl, rfl, rfl, by decide +kernel, rfl, by decide +kernel, by decide +kernel⟩
theorem sc_runs : FnScope ["automaton", "lasso", "head", "loop", "letters", "places", "state", "edges", "turn", "later", "target"] ["automaton", "lasso"] (defScope s_runs) := ⟨rfl, rfl, rfl, by decide +kernel, rfl, by decide +kernel, by decide +kernel⟩
theorem sc__law_draws : FnScope ["script", "count", "cells", "found", "mixed", "k", "j", "cell", "again"] ["script", "count"] (defScope s__law_draws) := ⟨rfl, rfl, rfl, by decide +kernel, rfl, by decide +kernel, by decide +kernel⟩
theorem sc__law_take : FnScope ["draws", "limit"] ["draws", "limit"] (defScope s__law_take) := ⟨rfl, rfl, rfl, by decide +kernel, rfl, by decide +kernel, by decide +kernel⟩
theorem sc__law_lasso : FnScope ["draws", "letters", "longest", "k", "head", "loop"] ["draws", "letters", "longest"] (defScope s__law_lasso) := ⟨rfl, rfl, rfl, by decide +kernel, rfl, by decide +kernel, by decide +kernel⟩
theorem sc__law_lives : FnScope ["moves", "goods", "starts", "kept", "turn", "reach", "again", "changed", "j", "k", "target", "start"] ["moves", "goods", "starts"] (defScope s__law_lives) := ⟨rfl, rfl, rfl, by decide +kernel, rfl, by decide +kernel, by decide +kernel⟩
theorem sc__law_ascending : FnScope ["draws", "limit", "share", "k"] ["draws", "limit", "share"] (defScope s__law_ascending) := ⟨rfl, rfl, rfl, by decide +kernel, rfl, by decide +kernel, by decide +kernel⟩
theorem sc__law_automaton : FnScope ["draws", "letters", "most", "count", "share", "initial", "accepting", "rows", "state", "letter"] ["draws", "letters", "most"] (defScope s__law_automaton) := ⟨rfl, rfl, rfl, by decide +kernel, rfl, by decide +kernel, by decide +kernel⟩
theorem sc__law_copy : FnScope ["rows", "row", "entry"] ["rows"] (defScope s__law_copy) := ⟨rfl, rfl, rfl, by decide +kernel, rfl, by decide +kernel, by decide +kernel⟩
theorem sc__law_accepts : FnScope ["rows", "initial", "accepting", "lasso", "letters", "size", "moves", "goods", "state", "place", "after", "target"] ["rows", "initial", "accepting", "lasso"] (defScope s__law_accepts) := ⟨rfl, rfl, rfl, by decide +kernel, rfl, by decide +kernel, by decide +kernel⟩
theorem sc__law_outcome : FnScope ["automaton", "lasso", "found"] ["automaton", "lasso"] (defScope s__law_outcome) := ⟨rfl, rfl, rfl, by decide +kernel, rfl, by decide +kernel, by decide +kernel⟩
theorem sc_law : FnScope ["script", "draws", "letters", "initial", "accepting", "rows", "automaton", "lasso", "other", "head", "expected", "found", "between"] ["script"] (defScope s_law) := ⟨rfl, rfl, rfl, by decide +kernel, rfl, by decide +kernel, by decide +kernel⟩
structure Txt (K : PySem.W.Frag) (mg : Str → Option Value) (A : Ads) : Prop where
  cl : Cl K A
  F_Search_init : Fun K "__init__" "Search.__init__" s_Search_init A.a_Search_init A.fd_Search_init
  b_Search_init : Binds K A.fd_Search_init ["self", "edges"] []
  mt_Search_init : Meth K A.C_Search "__init__" A.a_Search_init
  F_Search_enter : Fun K "enter" "Search.enter" s_Search_enter A.a_Search_enter A.fd_Search_enter
  b_Search_enter : Binds K A.fd_Search_enter ["self", "node"] []
  mt_Search_enter : Meth K A.C_Search "enter" A.a_Search_enter
  F_Search_run : Fun K "run" "Search.run" s_Search_run A.a_Search_run A.fd_Search_run
  b_Search_run : Binds K A.fd_Search_run ["self", "root"] []
  mt_Search_run : Meth K A.C_Search "run" A.a_Search_run
  F_Search_leave : Fun K "leave" "Search.leave" s_Search_leave A.a_Search_leave A.fd_Search_leave
  b_Search_leave : Binds K A.fd_Search_leave ["self", "node"] []
  mt_Search_leave : Meth K A.C_Search "leave" A.a_Search_leave
  F_components : Fun K "components" "components" s_components A.a_components A.fd_components
  b_components : Binds K A.fd_components ["edges"] []
  g_components : mg "components" = some (.ref A.a_components)
  k_components : PySem.W.keepIn K (.ref A.a_components) = true
  F_on_cycles : Fun K "on_cycles" "on_cycles" s_on_cycles A.a_on_cycles A.fd_on_cycles
  b_on_cycles : Binds K A.fd_on_cycles ["edges"] []
  g_on_cycles : mg "on_cycles" = some (.ref A.a_on_cycles)
  k_on_cycles : PySem.W.keepIn K (.ref A.a_on_cycles) = true
  F_Places_init : Fun K "__init__" "Places.__init__" s_Places_init A.a_Places_init A.fd_Places_init
  b_Places_init : Binds K A.fd_Places_init ["self"] []
  mt_Places_init : Meth K A.C_Places "__init__" A.a_Places_init
  F_Places_number_of : Fun K "number_of" "Places.number_of" s_Places_number_of A.a_Places_number_of A.fd_Places_number_of
  b_Places_number_of : Binds K A.fd_Places_number_of ["self", "place"] []
  mt_Places_number_of : Meth K A.C_Places "number_of" A.a_Places_number_of
  F_Places_waits : Fun K "waits" "Places.waits" s_Places_waits A.a_Places_waits A.fd_Places_waits
  b_Places_waits : Binds K A.fd_Places_waits ["self", "rows"] []
  mt_Places_waits : Meth K A.C_Places "waits" A.a_Places_waits
  F_Places_first_without : Fun K "first_without" "Places.first_without" s_Places_first_without A.a_Places_first_without A.fd_Places_first_without
  b_Places_first_without : Binds K A.fd_Places_first_without ["self", "rows"] []
  mt_Places_first_without : Meth K A.C_Places "first_without" A.a_Places_first_without
  F_ascends : Fun K "ascends" "ascends" s_ascends A.a_ascends A.fd_ascends
  b_ascends : Binds K A.fd_ascends ["numbers", "count"] []
  g_ascends : mg "ascends" = some (.ref A.a_ascends)
  k_ascends : PySem.W.keepIn K (.ref A.a_ascends) = true
  F_check_letters : Fun K "check_letters" "check_letters" s_check_letters A.a_check_letters A.fd_check_letters
  b_check_letters : Binds K A.fd_check_letters ["lasso", "letters"] []
  g_check_letters : mg "check_letters" = some (.ref A.a_check_letters)
  k_check_letters : PySem.W.keepIn K (.ref A.a_check_letters) = true
  F_Automaton_init : Fun K "__init__" "Automaton.__init__" s_Automaton_init A.a_Automaton_init A.fd_Automaton_init
  b_Automaton_init : Binds K A.fd_Automaton_init ["self", "letters", "initial", "accepting", "rows"] []
  mt_Automaton_init : Meth K A.C_Automaton "__init__" A.a_Automaton_init
  F_flags : Fun K "flags" "flags" s_flags A.a_flags A.fd_flags
  b_flags : Binds K A.fd_flags ["states", "count"] []
  g_flags : mg "flags" = some (.ref A.a_flags)
  k_flags : PySem.W.keepIn K (.ref A.a_flags) = true
  F_accepts : Fun K "accepts" "accepts" s_accepts A.a_accepts A.fd_accepts
  b_accepts : Binds K A.fd_accepts ["automaton", "lasso"] []
  g_accepts : mg "accepts" = some (.ref A.a_accepts)
  k_accepts : PySem.W.keepIn K (.ref A.a_accepts) = true
  F_runs : Fun K "runs" "runs" s_runs A.a_runs A.fd_runs
  b_runs : Binds K A.fd_runs ["automaton", "lasso"] []
  g_runs : mg "runs" = some (.ref A.a_runs)
  k_runs : PySem.W.keepIn K (.ref A.a_runs) = true
  F__law_draws : Fun K "_law_draws" "_law_draws" s__law_draws A.a__law_draws A.fd__law_draws
  b__law_draws : Binds K A.fd__law_draws ["script", "count"] []
  g__law_draws : mg "_law_draws" = some (.ref A.a__law_draws)
  k__law_draws : PySem.W.keepIn K (.ref A.a__law_draws) = true
  F__law_take : Fun K "_law_take" "_law_take" s__law_take A.a__law_take A.fd__law_take
  b__law_take : Binds K A.fd__law_take ["draws", "limit"] []
  g__law_take : mg "_law_take" = some (.ref A.a__law_take)
  k__law_take : PySem.W.keepIn K (.ref A.a__law_take) = true
  F__law_lasso : Fun K "_law_lasso" "_law_lasso" s__law_lasso A.a__law_lasso A.fd__law_lasso
  b__law_lasso : Binds K A.fd__law_lasso ["draws", "letters", "longest"] []
  g__law_lasso : mg "_law_lasso" = some (.ref A.a__law_lasso)
  k__law_lasso : PySem.W.keepIn K (.ref A.a__law_lasso) = true
  F__law_lives : Fun K "_law_lives" "_law_lives" s__law_lives A.a__law_lives A.fd__law_lives
  b__law_lives : Binds K A.fd__law_lives ["moves", "goods", "starts"] []
  g__law_lives : mg "_law_lives" = some (.ref A.a__law_lives)
  k__law_lives : PySem.W.keepIn K (.ref A.a__law_lives) = true
  F__law_ascending : Fun K "_law_ascending" "_law_ascending" s__law_ascending A.a__law_ascending A.fd__law_ascending
  b__law_ascending : Binds K A.fd__law_ascending ["draws", "limit", "share"] []
  g__law_ascending : mg "_law_ascending" = some (.ref A.a__law_ascending)
  k__law_ascending : PySem.W.keepIn K (.ref A.a__law_ascending) = true
  F__law_automaton : Fun K "_law_automaton" "_law_automaton" s__law_automaton A.a__law_automaton A.fd__law_automaton
  b__law_automaton : Binds K A.fd__law_automaton ["draws", "letters", "most"] []
  g__law_automaton : mg "_law_automaton" = some (.ref A.a__law_automaton)
  k__law_automaton : PySem.W.keepIn K (.ref A.a__law_automaton) = true
  F__law_copy : Fun K "_law_copy" "_law_copy" s__law_copy A.a__law_copy A.fd__law_copy
  b__law_copy : Binds K A.fd__law_copy ["rows"] []
  g__law_copy : mg "_law_copy" = some (.ref A.a__law_copy)
  k__law_copy : PySem.W.keepIn K (.ref A.a__law_copy) = true
  F__law_accepts : Fun K "_law_accepts" "_law_accepts" s__law_accepts A.a__law_accepts A.fd__law_accepts
  b__law_accepts : Binds K A.fd__law_accepts ["rows", "initial", "accepting", "lasso"] []
  g__law_accepts : mg "_law_accepts" = some (.ref A.a__law_accepts)
  k__law_accepts : PySem.W.keepIn K (.ref A.a__law_accepts) = true
  F__law_outcome : Fun K "_law_outcome" "_law_outcome" s__law_outcome A.a__law_outcome A.fd__law_outcome
  b__law_outcome : Binds K A.fd__law_outcome ["automaton", "lasso"] []
  g__law_outcome : mg "_law_outcome" = some (.ref A.a__law_outcome)
  k__law_outcome : PySem.W.keepIn K (.ref A.a__law_outcome) = true
  F_law : Fun K "law" "law" s_law A.a_law A.fd_law
  b_law : Binds K A.fd_law ["script"] []
  g_law : mg "law" = some (.ref A.a_law)
  k_law : PySem.W.keepIn K (.ref A.a_law) = true
  g_Search : mg "Search" = some (.ref A.C_Search)
  cl_Search : Cls K A.C_Search
  M_Search : Mk K A.C_Search A.a_Search_init
  g_Places : mg "Places" = some (.ref A.C_Places)
  cl_Places : Cls K A.C_Places
  M_Places : Mk K A.C_Places A.a_Places_init
  g_Automaton : mg "Automaton" = some (.ref A.C_Automaton)
  cl_Automaton : Cls K A.C_Automaton
  M_Automaton : Mk K A.C_Automaton A.a_Automaton_init
  g_InvalidAutomaton : mg "InvalidAutomaton" = some (.ref A.C_InvalidAutomaton)
  g_InvalidLetter : mg "InvalidLetter" = some (.ref A.C_InvalidLetter)
  k_InvalidAutomaton : PySem.W.keepIn K (.ref A.C_InvalidAutomaton) = true
  x_InvalidAutomaton : PySem.W.excIn K A.C_InvalidAutomaton [.type "ValueError", .type "Exception", .type "BaseException", .type "object"] "ValueError.__new__" = true
  s_InvalidAutomaton : PySem.W.subIn K (.ref A.C_InvalidAutomaton) (.type "BaseException") = some true
  t_InvalidAutomaton : PySem.W.typeIn K (.ref A.C_InvalidAutomaton) = some (.type "type")
  k_InvalidLetter : PySem.W.keepIn K (.ref A.C_InvalidLetter) = true
  x_InvalidLetter : PySem.W.excIn K A.C_InvalidLetter [.type "ValueError", .type "Exception", .type "BaseException", .type "object"] "ValueError.__new__" = true
  s_InvalidLetter : PySem.W.subIn K (.ref A.C_InvalidLetter) (.type "BaseException") = some true
  t_InvalidLetter : PySem.W.typeIn K (.ref A.C_InvalidLetter) = some (.type "type")
  z_all : mg "all" = none
  z_bool : mg "bool" = none
  z_enumerate : mg "enumerate" = none
  z_int : mg "int" = none
  z_isinstance : mg "isinstance" = none
  z_len : mg "len" = none
  z_list : mg "list" = none
  z_max : mg "max" = none
  z_min : mg "min" = none
  z_range : mg "range" = none
  z_tuple : mg "tuple" = none
section
variable {P : Program} {w : World} {K : PySem.W.Frag} {mg : Str → Option Value} {base : Heap} {A : Ads}
theorem ok_Search_init (T : Txt K mg A) : FnOk P w K mg base CX0 1 A.a_Search_init A.fd_Search_init ["self", "edges"] (sp_Search_init K A) :=
  T.F_Search_init.ok sc_Search_init (fun vs H Q E h => by obtain ⟨_, _, _, _, _, _, _, rfl, _⟩ := h; rfl) (fun cdv Ar outer s H vs Q E hr h => ⟨t_Search_init K A E, by exact (pss_cons (ps_fld (pv 0) (pv 1) rfl)
 (pss_cons (ps_fld (pv 0) (pe_op op_rep (pe_lst (pa_cons (pe_un un_neg pe_int) pa_nil)) (pe_callB call_len_seq (by rfl) T.z_len (by decide +kernel) (pa_cons (pv 1) pa_nil))) rfl)
 (pss_cons (ps_fld (pv 0) (pe_op op_rep (pe_lst (pa_cons pe_int pa_nil)) (pe_callB call_len_seq (by rfl) T.z_len (by decide +kernel) (pa_cons (pv 1) pa_nil))) rfl)
 (pss_cons (ps_fld (pv 0) (pe_op op_rep (pe_lst (pa_cons (pe_un un_neg pe_int) pa_nil)) (pe_callB call_len_seq (by rfl) T.z_len (by decide +kernel) (pa_cons (pv 1) pa_nil))) rfl)
 (pss_cons (ps_fld (pv 0) pe_int rfl)
 (pss_cons (ps_fld (pv 0) pe_int rfl)
 (pss_cons (ps_fld (pv 0) (pe_lst pa_nil) rfl)
 (pss_one (ps_fld (pv 0) (pe_lst pa_nil) rfl))))))))), p_Search_init T.cl h⟩)
theorem ok_Search_enter (T : Txt K mg A) : FnOk P w K mg base CX0 1 A.a_Search_enter A.fd_Search_enter ["self", "node"] (sp_Search_enter K A) :=
  T.F_Search_enter.ok sc_Search_enter (fun vs H Q E h => by obtain ⟨_, _, _, _, _, _, _, _, _, _, _, _, _, rfl, _⟩ := h; rfl) (fun cdv Ar outer s H vs Q E hr h => ⟨t_Search_enter K A E, by exact (pss_cons (ps_asg (pe_fld (pv 0) rfl) (pg_sub (pe_fld (pv 0) rfl) (pv 1) set_list))
 (pss_cons (ps_asg (pe_fld (pv 0) rfl) (pg_sub (pe_fld (pv 0) rfl) (pv 1) set_list))
 (pss_cons (ps_fldaug (pv 0) pe_int in_add)
 (pss_cons (ps_expr (pe_bm PySem.F.plainAttrs_list PySem.F.slot_list_append PySem.F.type_list_append mt_append (pe_fld (pv 0) rfl) (pa_cons (pv 1) pa_nil)))
 (pss_one (ps_expr (pe_bm PySem.F.plainAttrs_list PySem.F.slot_list_append PySem.F.type_list_append mt_append (pe_fld (pv 0) rfl) (pa_cons (pe_lst (pa_cons (pv 1) (pa_cons pe_int pa_nil))) pa_nil)))))))), p_Search_enter T.cl h⟩)
theorem ok_Search_leave (T : Txt K mg A) : FnOk P w K mg base CX0 1 A.a_Search_leave A.fd_Search_leave ["self", "node"] (sp_Search_leave K A) :=
  T.F_Search_leave.ok sc_Search_leave (fun vs H Q E h => by obtain ⟨_, _, _, _, _, _, _, _, _, _, _, _, _, _, _, _, _, _, rfl, _⟩ := h; rfl) (fun cdv Ar outer s H vs Q E hr h => ⟨t_Search_leave K A E, by exact (pss_cons (ps_expr (pe_bm0 PySem.F.plainAttrs_list PySem.F.slot_list_pop PySem.F.type_list_pop mt_pop (pe_fld (pv 0) rfl)))
 (pss_cons (ps_if (pt_truth (pe_fld (pv 0) rfl) (by intro _; rfl)) (pss_cons (ps_set (i := 2) sc_Search_leave.nd rfl (Or.inl rfl) (pe_ix ix_list (pe_ix ix_list (pe_fld (pv 0) rfl) (pe_un un_neg pe_int) (fun _ _ => rfl)) pe_int (fun _ _ => rfl)))
 (pss_one (ps_asg (pe_callB (call_min2 rfl) (by rfl) T.z_min (by decide +kernel) (pa_cons (pe_ix ix_list (pe_fld (pv 0) rfl) (pv 2) (fun _ _ => rfl)) (pa_cons (pe_ix ix_list (pe_fld (pv 0) rfl) (pv 1) (fun _ _ => rfl)) pa_nil))) (pg_sub (pe_fld (pv 0) rfl) (pv 2) set_list)))) pss_nil)
 (pss_one (ps_if (pt_cmpR op_eq (pe_ix ix_list (pe_fld (pv 0) rfl) (pv 1) (fun _ _ => rfl)) (pe_ix ix_list (pe_fld (pv 0) rfl) (pv 1) (fun _ _ => rfl)) (nomark _)) (pss_cons (ps_set (i := 3) sc_Search_leave.nd rfl (Or.inl rfl) (pe_bm0 PySem.F.plainAttrs_list PySem.F.slot_list_pop PySem.F.type_list_pop mt_pop (pe_fld (pv 0) rfl)))
 (pss_cons (ps_asg (pe_fld (pv 0) rfl) (pg_sub (pe_fld (pv 0) rfl) (pv 3) set_list))
 (pss_cons (ps_while PassesOwn.never (pt_cmpR op_ne (pv 3) (pv 1) (nomark _)) (pss_cons (ps_set (i := 3) sc_Search_leave.nd rfl (Or.inl rfl) (pe_bm0 PySem.F.plainAttrs_list PySem.F.slot_list_pop PySem.F.type_list_pop mt_pop (pe_fld (pv 0) rfl)))
 (pss_one (ps_asg (pe_fld (pv 0) rfl) (pg_sub (pe_fld (pv 0) rfl) (pv 3) set_list)))))
 (pss_one (ps_fldaug (pv 0) pe_int in_add))))) pss_nil)))), p_Search_leave T.cl h⟩)
theorem ok_Places_init (T : Txt K mg A) : FnOk P w K mg base CX0 1 A.a_Places_init A.fd_Places_init ["self"] (sp_Places_init K A) :=
  T.F_Places_init.ok sc_Places_init (fun vs H Q E h => by obtain ⟨a, e⟩ := conc1_len h; rw [e]; rfl) (fun cdv Ar outer s H vs Q E hr h => ⟨t_Places_init K A E, by exact (pss_cons (ps_fld (pv 0) (pe_lst pa_nil) rfl)
 (pss_one (ps_fld (pv 0) pe_dnewT rfl))), p_Places_init T.cl h⟩)
theorem ok_Places_number_of (T : Txt K mg A) : FnOk P w K mg base CX0 1 A.a_Places_number_of A.fd_Places_number_of ["self", "place"] (sp_Places_number_of K A) :=
  T.F_Places_number_of.ok sc_Places_number_of (fun vs H Q E h => by obtain ⟨a, e⟩ := conc1_len h; rw [e]; rfl) (fun cdv Ar outer s H vs Q E hr h => ⟨t_Places_number_of K A E, by exact (pss_cons (ps_if (pt_cmp (pc_dnotin (hu_of hr) (pv 1) (pe_fld (pv 0) rfl))) (pss_cons (ps_dput (hu_of hr) (pe_fld (pv 0) rfl) (pv 1) (pe_callB call_len_seq (by rfl) T.z_len (by decide +kernel) (pa_cons (pe_fld (pv 0) rfl) pa_nil)) rfl)
 (pss_one (ps_expr (pe_bm PySem.F.plainAttrs_list PySem.F.slot_list_append PySem.F.type_list_append mt_append (pe_fld (pv 0) rfl) (pa_cons (pv 1) pa_nil))))) pss_nil)
 (pss_one (ps_ret (pe_dget (hu_of hr) (pe_fld (pv 0) rfl) (pv 1) (fun _ _ => rfl))))), p_Places_number_of T.cl h⟩)
theorem ok_Places_waits (T : Txt K mg A) : FnOk P w K mg base CX0 1 A.a_Places_waits A.fd_Places_waits ["self", "rows"] (sp_Places_waits K A) :=
  T.F_Places_waits.ok sc_Places_waits (fun vs H Q E h => by obtain ⟨_, _, _, _, _, _, _, rfl, _⟩ := h; rfl) (fun cdv Ar outer s H vs Q E hr h => ⟨t_Places_waits K A E, by exact (pss_one (ps_ret (pe_cmpR op_lt (pe_callB call_len_seq (by rfl) T.z_len (by decide +kernel) (pa_cons (pv 1) pa_nil)) (pe_callB call_len_seq (by rfl) T.z_len (by decide +kernel) (pa_cons (pe_fld (pv 0) rfl) pa_nil)) (nomark _)))), p_Places_waits T.cl h⟩)
theorem ok_Places_first_without (T : Txt K mg A) : FnOk P w K mg base CX0 1 A.a_Places_first_without A.fd_Places_first_without ["self", "rows"] (sp_Places_first_without K A) :=
  T.F_Places_first_without.ok sc_Places_first_without (fun vs H Q E h => by obtain ⟨_, _, _, _, _, _, _, _, rfl, _⟩ := h; rfl) (fun cdv Ar outer s H vs Q E hr h => ⟨t_Places_first_without K A E, by exact (pss_one (ps_ret (pe_ix ix_list (pe_fld (pv 0) rfl) (pe_callB call_len_seq (by rfl) T.z_len (by decide +kernel) (pa_cons (pv 1) pa_nil)) (fun _ _ => rfl)))), p_Places_first_without T.cl h⟩)
theorem ok_ascends (T : Txt K mg A) : FnOk P w K mg base CX0 1 A.a_ascends A.fd_ascends ["numbers", "count"] (sp_ascends K A) :=
  T.F_ascends.ok sc_ascends (fun vs H Q E h => by obtain ⟨a, e⟩ := conc0_len h; rw [e]; rfl) (fun cdv Ar outer s H vs Q E hr h => ⟨t_ascends K A E, by exact (pss_cons (ps_set (i := 2) sc_ascends.nd rfl (Or.inl rfl) (pe_un un_neg pe_int))
 (pss_cons (ps_for PassesOwn.never rfl (pi_seq (pv 0)) (pg_name (i := 3) sc_ascends.nd rfl (Or.inl rfl)) (pss_cons (ps_if (PW.pt (pw_or (pt_cmpR op_le (pv 3) (pv 2) (nomark _)) (pw_or1 (pt_cmpR op_ge (pv 3) (pv 1) (nomark _))))) (pss_one (ps_ret pe_bl)) pss_nil)
 (pss_one (ps_set (i := 2) sc_ascends.nd rfl (Or.inl rfl) (pv 3)))))
 (pss_one (ps_ret pe_bl)))), p_ascends T.cl h⟩)
theorem ok_check_letters (T : Txt K mg A) : FnOk P w K mg base (L2.CX P w) 1 A.a_check_letters A.fd_check_letters ["lasso", "letters"] (sp_check_letters K A) :=
  T.F_check_letters.okX sc_check_letters (fun vs H Q E h => by obtain ⟨a, e⟩ := conc0_len h; rw [e]; rfl) (fun cdv Ar outer s H vs Q E hr h => ⟨t_check_letters K A E, by exact (pss_cons (ps_asg (pv 0) (pg_tup (by rfl) (pgs_cons (pg_name (i := 2) sc_check_letters.nd rfl (Or.inl rfl)) (pgs_cons (pg_name (i := 3) sc_check_letters.nd rfl (Or.inl rfl)) pgs_nil))))
 (pss_one (ps_if (PW.pt (pw_or (pt_cmpR op_ge (pe_callB (cB_max rfl) (by rfl) T.z_max (by decide +kernel) (pa_cons (pv 3) pa_nil)) (pv 1) (nomark _)) (pw_or1 (pt_cmpR op_ge (pe_callBK (cD_max rfl) (by rfl) T.z_max (by decide +kernel) (pa_cons (pv 2) pa_nil) (pk_cons pe_int pk_nil)) (pv 1) (nomark _))))) (pss_one (ps_raise rfl (takes_of rfl rfl rfl rfl) (pmk_own PySem.F.excBase_ValueError T.x_InvalidLetter T.g_InvalidLetter T.k_InvalidLetter (raises_own T.s_InvalidLetter T.t_InvalidLetter) (by exact rfl)))) pss_nil))), p_check_letters T.cl h⟩)
theorem ok_flags (T : Txt K mg A) : FnOk P w K mg base CX0 1 A.a_flags A.fd_flags ["states", "count"] (sp_flags K A) :=
  T.F_flags.ok sc_flags (fun vs H Q E h => by obtain ⟨a, e⟩ := conc0_len h; rw [e]; rfl) (fun cdv Ar outer s H vs Q E hr h => ⟨t_flags K A E, by exact (pss_cons (ps_set (i := 2) sc_flags.nd rfl (Or.inl rfl) (pe_op op_rep (pe_lst (pa_cons pe_bl pa_nil)) (pv 1)))
 (pss_cons (ps_for PassesOwn.never rfl (pi_tup (pv 0)) (pg_name (i := 3) sc_flags.nd rfl (Or.inl rfl)) (pss_one (ps_asg pe_bl (pg_sub (pv 2) (pv 3) set_list))))
 (pss_one (ps_ret (pv 2))))), p_flags T.cl h⟩)
theorem ok__law_draws (T : Txt K mg A) : FnOk P w K mg base CX0 1 A.a__law_draws A.fd__law_draws ["script", "count"] (sp__law_draws K A) :=
  T.F__law_draws.ok sc__law_draws (fun vs H Q E h => by obtain ⟨_, _, _, rfl, _⟩ := h; rfl) (fun cdv Ar outer s H vs Q E hr h => ⟨t__law_draws K A E, by exact (pss_cons (ps_set (i := 2) sc__law_draws.nd rfl (Or.inl rfl) (pe_callTy call_list_of (by rfl) T.z_list (by decide +kernel) (pa_cons (pv 0) pa_nil)))
 (pss_cons (ps_if (pt_cmpR op_eq (pe_callB call_len_seq (by rfl) T.z_len (by decide +kernel) (pa_cons (pv 2) pa_nil)) pe_int (nomark _)) (pss_one (ps_set (i := 2) sc__law_draws.nd rfl (Or.inl rfl) (pe_lst (pa_cons pe_int pa_nil)))) pss_nil)
 (pss_cons (ps_set (i := 3) sc__law_draws.nd rfl (Or.inl rfl) (pe_lst pa_nil))
 (pss_cons (ps_set (i := 4) sc__law_draws.nd rfl (Or.inl rfl) pe_int)
 (pss_cons (ps_for PassesOwn.never rfl (pi_range1 rfl T.z_range (pa_cons (pv 1) pa_nil)) (pg_name (i := 5) sc__law_draws.nd rfl (Or.inl rfl)) (pss_cons (ps_set (i := 6) sc__law_draws.nd rfl (Or.inl rfl) (pe_op op_mod (pv 5) (pe_callB call_len_seq (by rfl) T.z_len (by decide +kernel) (pa_cons (pv 2) pa_nil))))
 (pss_cons (ps_set (i := 7) sc__law_draws.nd rfl (Or.inl rfl) (pe_ix ix_list (pv 2) (pv 6) (fun _ _ => rfl)))
 (pss_cons (ps_set (i := 4) sc__law_draws.nd rfl (Or.inl rfl) (pe_op op_mod (pe_callTy call_int1 (by rfl) T.z_int (by decide +kernel) (pa_cons (pe_op op_add (pe_op op_add (pe_op op_add (pe_op op_mulW (pv 4) pe_int) (pe_op op_mulW (pe_op op_mod (pe_callTy call_int1 (by rfl) T.z_int (by decide +kernel) (pa_cons (pv 7) pa_nil)) pe_int) pe_int)) (pe_op op_mulW (pv 5) pe_int)) pe_int) pa_nil)) pe_int))
 (pss_cons (ps_set (i := 8) sc__law_draws.nd rfl (Or.inl rfl) (pe_op op_mod (pe_callTy call_int1 (by rfl) T.z_int (by decide +kernel) (pa_cons (pe_op op_add (pe_op op_add (pe_op op_mulW (pv 4) (pv 4)) (pe_op op_mulW pe_int (pv 4))) (pv 5)) pa_nil)) pe_int))
 (pss_one (ps_if (pt_cmpR op_ge (pv 7) (pe_op op_pow pe_int pe_int) (nomark _)) (pss_cons (ps_expr (pe_bm PySem.F.plainAttrs_list PySem.F.slot_list_append PySem.F.type_list_append mt_append (pv 3) (pa_cons (pe_op op_mod (pe_callTy call_int1 (by rfl) T.z_int (by decide +kernel) (pa_cons (pv 7) pa_nil)) pe_int) pa_nil)))
 (pss_one (ps_asg (pe_op op_fdivW (pv 7) pe_int) (pg_sub (pv 2) (pv 6) set_list)))) (pss_one (ps_expr (pe_bm PySem.F.plainAttrs_list PySem.F.slot_list_append PySem.F.type_list_append mt_append (pv 3) (pa_cons (pe_op op_mod (pe_callTy call_int1 (by rfl) T.z_int (by decide +kernel) (pa_cons (pv 8) pa_nil)) pe_int) pa_nil)))))))))))
 (pss_cons (ps_expr (pe_bm0 PySem.F.plainAttrs_list PySem.F.slot_list_reverse PySem.F.type_list_reverse mt_reverse (pv 3)))
 (pss_one (ps_ret (pv 3))))))))), p__law_draws T.cl h⟩)
theorem ok__law_take (T : Txt K mg A) : FnOk P w K mg base CX0 1 A.a__law_take A.fd__law_take ["draws", "limit"] (sp__law_take K A) :=
  T.F__law_take.ok sc__law_take (fun vs H Q E h => by obtain ⟨_, _, _, rfl, _⟩ := h; rfl) (fun cdv Ar outer s H vs Q E hr h => ⟨t__law_take K A E, by exact (pss_cons (ps_if (pt_cmpR op_eq (pe_callB call_len_seq (by rfl) T.z_len (by decide +kernel) (pa_cons (pv 0) pa_nil)) pe_int (nomark _)) (pss_one (ps_ret pe_int)) pss_nil)
 (pss_one (ps_ret (pe_op op_mod (pe_callTy call_int1 (by rfl) T.z_int (by decide +kernel) (pa_cons (pe_bm0 PySem.F.plainAttrs_list PySem.F.slot_list_pop PySem.F.type_list_pop mt_pop (pv 0)) pa_nil)) (pv 1))))), p__law_take T.cl h⟩)
theorem ok__law_lives (T : Txt K mg A) : FnOk P w K mg base CX0 1 A.a__law_lives A.fd__law_lives ["moves", "goods", "starts"] (sp__law_lives K A) :=
  T.F__law_lives.ok sc__law_lives (fun vs H Q E h => by obtain ⟨_, _, _, _, _, _, _, _, rfl, _⟩ := h; rfl) (fun cdv Ar outer s H vs Q E hr h => ⟨t__law_lives K A E, by exact (pss_cons (ps_set (i := 3) sc__law_lives.nd rfl (Or.inl rfl) (pe_op op_rep (pe_lst (pa_cons pe_bl pa_nil)) (pe_callB call_len_seq (by rfl) T.z_len (by decide +kernel) (pa_cons (pv 0) pa_nil))))
 (pss_cons (ps_for PassesOwn.never rfl (pi_range1 rfl T.z_range (pa_cons (pe_op op_add (pe_callB call_len_seq (by rfl) T.z_len (by decide +kernel) (pa_cons (pv 0) pa_nil)) pe_int) pa_nil)) (pg_name (i := 4) sc__law_lives.nd rfl (Or.inl rfl)) (pss_cons (ps_set (i := 5) sc__law_lives.nd rfl (Or.inl rfl) (pe_op op_rep (pe_lst (pa_cons pe_bl pa_nil)) (pe_callB call_len_seq (by rfl) T.z_len (by decide +kernel) (pa_cons (pv 0) pa_nil))))
 (pss_cons (ps_for PassesOwn.never rfl (pi_range1 rfl T.z_range (pa_cons (pe_op op_add (pe_callB call_len_seq (by rfl) T.z_len (by decide +kernel) (pa_cons (pv 0) pa_nil)) pe_int) pa_nil)) (pg_name (i := 6) sc__law_lives.nd rfl (Or.inl rfl)) (pss_cons (ps_set (i := 7) sc__law_lives.nd rfl (Or.inl rfl) pe_bl)
 (pss_cons (ps_for PassesOwn.never rfl (pi_range1 rfl T.z_range (pa_cons (pe_callB call_len_seq (by rfl) T.z_len (by decide +kernel) (pa_cons (pv 0) pa_nil)) pa_nil)) (pg_name (i := 8) sc__law_lives.nd rfl (Or.inl rfl)) (pss_cons (ps_set (i := 9) sc__law_lives.nd rfl (Or.inl rfl) (pe_op op_sub (pe_op op_sub (pe_callB call_len_seq (by rfl) T.z_len (by decide +kernel) (pa_cons (pv 0) pa_nil)) pe_int) (pv 8)))
 (pss_one (ps_if (PW.pt (pw_and (pt_val (pe_ix ix_list (pv 3) (pv 9) (fun _ _ => rfl))) (pw_and1 (pt_not (pt_val (pe_ix ix_list (pv 5) (pv 9) (fun _ _ => rfl))))))) (pss_one (ps_for PassesOwn.never rfl (pi_list (pe_ix ix_list (pv 0) (pv 9) (fun _ _ => rfl))) (pg_name (i := 10) sc__law_lives.nd rfl (Or.inl rfl)) (pss_one (ps_if (PW.pt (pw_and (pt_val (pe_ix ix_list (pv 3) (pv 10) (fun _ _ => rfl))) (pw_and1 (PW.pt (pw_or (pt_val (pe_ix ix_list (pv 1) (pv 10) (fun _ _ => rfl))) (pw_or1 (pt_val (pe_ix ix_list (pv 5) (pv 10) (fun _ _ => rfl))))))))) (pss_cons (ps_asg pe_bl (pg_sub (pv 5) (pv 9) set_list))
 (pss_one (ps_set (i := 7) sc__law_lives.nd rfl (Or.inl rfl) pe_bl))) pss_nil)))) pss_nil))))
 (pss_one (ps_if (pt_not (pt_val (pv 7))) (pss_one ps_break) pss_nil)))))
 (pss_cons (ps_if (pt_cmpR (op_eqD hr.units) (pv 5) (pv 3) (nomark _)) (pss_one ps_break) pss_nil)
 (pss_one (ps_set (i := 3) sc__law_lives.nd rfl (Or.inl rfl) (pv 5)))))))
 (pss_cons (ps_for PassesOwn.never rfl (pi_list (pv 2)) (pg_name (i := 11) sc__law_lives.nd rfl (Or.inl rfl)) (pss_one (ps_if (pt_val (pe_ix ix_list (pv 3) (pv 11) (fun _ _ => rfl))) (pss_one (ps_ret pe_bl)) pss_nil)))
 (pss_one (ps_ret pe_bl))))), p__law_lives T.cl h⟩)
theorem ok__law_copy (T : Txt K mg A) : FnOk P w K mg base CX0 1 A.a__law_copy A.fd__law_copy ["rows"] (sp__law_copy K A) :=
  T.F__law_copy.ok sc__law_copy (fun vs H Q E h => by obtain ⟨a, e⟩ := conc0_len h; rw [e]; rfl) (fun cdv Ar outer s H vs Q E hr h => ⟨t__law_copy K A E, by exact (pss_one (ps_ret (pe_lc (own := [("row", 1)]) rfl sc__law_copy.nd (pi_list (pv 0)) (blkOk_by (N := ["rows", "row", "entry"]) (sc := defScope s__law_copy) (own := [("row", 1)]) (by decide +kernel)) (fun _ _ _ _ _ => (pg_name (i := 1) sc__law_copy.nd rfl (Or.inl rfl))) (fun _ _ _ _ _ => pts_nil) (fun _ _ _ _ _ => (pe_lc (own := [("entry", 2)]) rfl sc__law_copy.nd (pi_list (pv 1)) (blk_in (N := ["rows", "row", "entry"]) (sc0 := defScope s__law_copy) (own := [("entry", 2)]) rfl (by decide +kernel)) (fun _ _ _ _ _ => (pg_name (i := 2) sc__law_copy.nd rfl (Or.inl rfl))) (fun _ _ _ _ _ => pts_nil) (fun _ _ _ _ _ => (pe_callTy call_list_of (by rfl) T.z_list (by decide +kernel) (pa_cons (pv 2) pa_nil)))))))), p__law_copy T.cl h⟩)
theorem ok_Search_run (T : Txt K mg A) : FnOk P w K mg base CX0 2 A.a_Search_run A.fd_Search_run ["self", "root"] (sp_Search_run K A) :=
  T.F_Search_run.ok sc_Search_run (fun vs H Q E h => by obtain ⟨_, _, _, _, _, _, _, _, _, _, _, _, _, _, _, _, rfl, _⟩ := h; rfl) (fun cdv Ar outer s H vs Q E hr h => ⟨t_Search_run K A E, by exact (pss_cons (ps_expr (pe_meth (pv 0) T.cl_Search T.mt_Search_enter (ok_Search_enter T) (hr.mono (by decide)) T.b_Search_enter .nil pass0 (pa_cons (pv 1) pa_nil)))
 (pss_one (ps_while PassesOwn.never (pt_truth (pe_fld (pv 0) rfl) (by intro _; rfl)) (pss_cons (ps_set (i := 2) sc_Search_run.nd rfl (Or.inl rfl) (pe_ix ix_list (pe_fld (pv 0) rfl) (pe_un un_neg pe_int) (fun _ _ => rfl)))
 (pss_cons (ps_set (i := 3) sc_Search_run.nd rfl (Or.inl rfl) (pe_ix ix_list (pv 2) pe_int (fun _ _ => rfl)))
 (pss_one (ps_if (pt_cmpR op_lt (pe_ix ix_list (pv 2) pe_int (fun _ _ => rfl)) (pe_callB call_len_seq (by rfl) T.z_len (by decide +kernel) (pa_cons (pe_ix ix_list (pe_fld (pv 0) rfl) (pv 3) (fun _ _ => rfl)) pa_nil)) (nomark _)) (pss_cons (ps_set (i := 4) sc_Search_run.nd rfl (Or.inl rfl) (pe_ix ix_list (pe_ix ix_list (pe_fld (pv 0) rfl) (pv 3) (fun _ _ => rfl)) (pe_ix ix_list (pv 2) pe_int (fun _ _ => rfl)) (fun _ _ => rfl)))
 (pss_cons (ps_augS (pv 2) pe_int gt_list pe_int ip_add set_list)
 (pss_one (ps_if (pt_cmpR op_lt (pe_ix ix_list (pe_fld (pv 0) rfl) (pv 4) (fun _ _ => rfl)) pe_int (nomark _)) (pss_one (ps_expr (pe_meth (pv 0) T.cl_Search T.mt_Search_enter (ok_Search_enter T) (hr.mono (by decide)) T.b_Search_enter .nil pass0 (pa_cons (pv 4) pa_nil)))) (pss_one (ps_if (pt_cmpR op_lt (pe_ix ix_list (pe_fld (pv 0) rfl) (pv 4) (fun _ _ => rfl)) pe_int (nomark _)) (pss_one (ps_asg (pe_callB (call_min2 rfl) (by rfl) T.z_min (by decide +kernel) (pa_cons (pe_ix ix_list (pe_fld (pv 0) rfl) (pv 3) (fun _ _ => rfl)) (pa_cons (pe_ix ix_list (pe_fld (pv 0) rfl) (pv 4) (fun _ _ => rfl)) pa_nil))) (pg_sub (pe_fld (pv 0) rfl) (pv 3) set_list))) pss_nil)))))) (pss_one (ps_expr (pe_meth (pv 0) T.cl_Search T.mt_Search_leave (ok_Search_leave T) (hr.mono (by decide)) T.b_Search_leave .nil pass0 (pa_cons (pv 3) pa_nil))))))))))), p_Search_run T.cl h⟩)
theorem ok_Automaton_init (T : Txt K mg A) : FnOk P w K mg base (L2.CX P w) 2 A.a_Automaton_init A.fd_Automaton_init ["self", "letters", "initial", "accepting", "rows"] (sp_Automaton_init K A) :=
  T.F_Automaton_init.okX sc_Automaton_init (fun vs H Q E h => by obtain ⟨a, e⟩ := conc1_len h; rw [e]; rfl) (fun cdv Ar outer s H vs Q E hr h => ⟨t_Automaton_init K A E, by exact (pss_cons (ps_if (PW.pt (pw_or (pt_cmpR op_lt (pv 1) pe_int (nomark _)) (pw_or1 (pt_cmpR op_eq (pe_callB call_len_seq (by rfl) T.z_len (by decide +kernel) (pa_cons (pv 4) pa_nil)) pe_int (nomark _))))) (pss_one (ps_raise rfl (takes_of rfl rfl rfl rfl) (pmk_own PySem.F.excBase_ValueError T.x_InvalidAutomaton T.g_InvalidAutomaton T.k_InvalidAutomaton (raises_own T.s_InvalidAutomaton T.t_InvalidAutomaton) (by exact rfl)))) pss_nil)
 (pss_cons (ps_if (PW.pt (pw_or (pt_not (pt_val (pe_call (ok_ascends T) (hr.mono (by decide)) rfl T.g_ascends T.k_ascends T.b_ascends .nil pass0 (pa_cons (pv 2) (pa_cons (pe_callB call_len_seq (by rfl) T.z_len (by decide +kernel) (pa_cons (pv 4) pa_nil)) pa_nil))))) (pw_or1 (pt_not (pt_val (pe_call (ok_ascends T) (hr.mono (by decide)) rfl T.g_ascends T.k_ascends T.b_ascends .nil pass0 (pa_cons (pv 3) (pa_cons (pe_callB call_len_seq (by rfl) T.z_len (by decide +kernel) (pa_cons (pv 4) pa_nil)) pa_nil)))))))) (pss_one (ps_raise rfl (takes_of rfl rfl rfl rfl) (pmk_own PySem.F.excBase_ValueError T.x_InvalidAutomaton T.g_InvalidAutomaton T.k_InvalidAutomaton (raises_own T.s_InvalidAutomaton T.t_InvalidAutomaton) (by exact rfl)))) pss_nil)
 (pss_cons (ps_for (passes_of rfl) rfl (pi_seq (pv 4)) (pg_name (i := 5) sc_Automaton_init.nd rfl (Or.inl rfl)) (pss_cons (ps_if (pt_cmpR op_ne (pe_callB call_len_seq (by rfl) T.z_len (by decide +kernel) (pa_cons (pv 5) pa_nil)) (pv 1) (nomark _)) (pss_one (ps_raise rfl (takes_of rfl rfl rfl rfl) (pmk_own PySem.F.excBase_ValueError T.x_InvalidAutomaton T.g_InvalidAutomaton T.k_InvalidAutomaton (raises_own T.s_InvalidAutomaton T.t_InvalidAutomaton) (by exact rfl)))) pss_nil)
 (pss_one (ps_if (pt_not (pt_val (pe_callB (cr_all rfl) (by rfl) T.z_all (by decide +kernel) (pa_cons (pe_lc (own := [("entry", 6)]) rfl sc_Automaton_init.nd (pi_seq (pv 5)) (blkOk_by (N := ["self", "letters", "initial", "accepting", "rows", "row", "entry"]) (sc := defScope s_Automaton_init) (own := [("entry", 6)]) (by decide +kernel)) (fun _ _ _ _ _ => (pg_name (i := 6) sc_Automaton_init.nd rfl (Or.inl rfl))) (fun _ _ _ _ _ => pts_nil) (fun _ _ _ _ _ => (pe_call (ok_ascends T) (hr.mono (by decide)) rfl T.g_ascends T.k_ascends T.b_ascends .nil pass0 (pa_cons (pv 6) (pa_cons (pe_callB call_len_seq (by rfl) T.z_len (by decide +kernel) (pa_cons (pv 4) pa_nil)) pa_nil))))) pa_nil)))) (pss_one (ps_raise rfl (takes_of rfl rfl rfl rfl) (pmk_own PySem.F.excBase_ValueError T.x_InvalidAutomaton T.g_InvalidAutomaton T.k_InvalidAutomaton (raises_own T.s_InvalidAutomaton T.t_InvalidAutomaton) (by exact rfl)))) pss_nil))))
 (pss_cons (ps_fld (pv 0) (pv 1) rfl)
 (pss_cons (ps_fld (pv 0) (pe_callTy call_tuple_of (by rfl) T.z_tuple (by decide +kernel) (pa_cons (pv 2) pa_nil)) rfl)
 (pss_cons (ps_fld (pv 0) (pe_callTy call_tuple_of (by rfl) T.z_tuple (by decide +kernel) (pa_cons (pv 3) pa_nil)) rfl)
 (pss_one (ps_fld (pv 0) (pe_callTy call_tuple_of (by rfl) T.z_tuple (by decide +kernel) (pa_cons (pe_lc (own := [("row", 5)]) rfl sc_Automaton_init.nd (pi_seq (pv 4)) (blkOk_by (N := ["self", "letters", "initial", "accepting", "rows", "row", "entry"]) (sc := defScope s_Automaton_init) (own := [("row", 5)]) (by decide +kernel)) (fun _ _ _ _ _ => (pg_name (i := 5) sc_Automaton_init.nd rfl (Or.inl rfl))) (fun _ _ _ _ _ => pts_nil) (fun _ _ _ _ _ => (pe_callTy call_tuple_of (by rfl) T.z_tuple (by decide +kernel) (pa_cons (pe_lc (own := [("entry", 6)]) rfl sc_Automaton_init.nd (pi_seq (pv 5)) (blk_in (N := ["self", "letters", "initial", "accepting", "rows", "row", "entry"]) (sc0 := defScope s_Automaton_init) (own := [("entry", 6)]) rfl (by decide +kernel)) (fun _ _ _ _ _ => (pg_name (i := 6) sc_Automaton_init.nd rfl (Or.inl rfl))) (fun _ _ _ _ _ => pts_nil) (fun _ _ _ _ _ => (pe_callTy call_tuple_of (by rfl) T.z_tuple (by decide +kernel) (pa_cons (pv 6) pa_nil)))) pa_nil)))) pa_nil)) rfl)))))))), p_Automaton_init T.cl h⟩)
theorem ok__law_lasso (T : Txt K mg A) : FnOk P w K mg base CX0 2 A.a__law_lasso A.fd__law_lasso ["draws", "letters", "longest"] (sp__law_lasso K A) :=
  T.F__law_lasso.ok sc__law_lasso (fun vs H Q E h => by obtain ⟨a, e⟩ := conc1_len h; rw [e]; rfl) (fun cdv Ar outer s H vs Q E hr h => ⟨t__law_lasso K A E, by exact (pss_cons (ps_setLc (i := 4) (own := [("k", 3)]) rfl sc__law_lasso.nd rfl rfl (sw_true rfl rfl rfl (by decide +kernel)) (pi_range1 rfl T.z_range (pa_cons (pe_call (ok__law_take T) (hr.mono (by decide)) rfl T.g__law_take T.k__law_take T.b__law_take .nil pass0 (pa_cons (pv 0) (pa_cons (pe_op op_add (pv 2) pe_int) pa_nil))) pa_nil)) (blkOk_by (N := ["draws", "letters", "longest", "k", "head", "loop"]) (sc := defScope s__law_lasso) (own := [("k", 3)]) (by decide +kernel)) (fun _ _ _ _ _ => (pg_name (i := 3) sc__law_lasso.nd rfl (Or.inl rfl))) (fun _ _ _ _ _ => pts_nil) (fun _ _ _ _ _ => (pe_call (ok__law_take T) (hr.mono (by decide)) rfl T.g__law_take T.k__law_take T.b__law_take .nil pass0 (pa_cons (pv 0) (pa_cons (pv 1) pa_nil)))))
 (pss_cons (ps_setLc (i := 5) (own := [("k", 3)]) rfl sc__law_lasso.nd rfl rfl (sw_true rfl rfl rfl (by decide +kernel)) (pi_range1 rfl T.z_range (pa_cons (pe_op op_add pe_int (pe_call (ok__law_take T) (hr.mono (by decide)) rfl T.g__law_take T.k__law_take T.b__law_take .nil pass0 (pa_cons (pv 0) (pa_cons (pv 2) pa_nil)))) pa_nil)) (blkOk_by (N := ["draws", "letters", "longest", "k", "head", "loop"]) (sc := defScope s__law_lasso) (own := [("k", 3)]) (by decide +kernel)) (fun _ _ _ _ _ => (pg_name (i := 3) sc__law_lasso.nd rfl (Or.inl rfl))) (fun _ _ _ _ _ => pts_nil) (fun _ _ _ _ _ => (pe_call (ok__law_take T) (hr.mono (by decide)) rfl T.g__law_take T.k__law_take T.b__law_take .nil pass0 (pa_cons (pv 0) (pa_cons (pv 1) pa_nil)))))
 (pss_one (ps_ret (pe_tup (pa_cons (pe_callTy call_tuple_of (by rfl) T.z_tuple (by decide +kernel) (pa_cons (pv 4) pa_nil)) (pa_cons (pe_callTy call_tuple_of (by rfl) T.z_tuple (by decide +kernel) (pa_cons (pv 5) pa_nil)) pa_nil))))))), p__law_lasso T.cl h⟩)
theorem ok__law_ascending (T : Txt K mg A) : FnOk P w K mg base CX0 2 A.a__law_ascending A.fd__law_ascending ["draws", "limit", "share"] (sp__law_ascending K A) :=
  T.F__law_ascending.ok sc__law_ascending (fun vs H Q E h => by obtain ⟨a, e⟩ := conc1_len h; rw [e]; rfl) (fun cdv Ar outer s H vs Q E hr h => ⟨t__law_ascending K A E, by exact (pss_one (ps_ret (pe_lc (own := [("k", 3)]) rfl sc__law_ascending.nd (pi_range1 rfl T.z_range (pa_cons (pv 1) pa_nil)) (blkOk_by (N := ["draws", "limit", "share", "k"]) (sc := defScope s__law_ascending) (own := [("k", 3)]) (by decide +kernel)) (fun _ _ _ _ _ => (pg_name (i := 3) sc__law_ascending.nd rfl (Or.inl rfl))) (fun _ _ _ _ _ => (pts_one (pt_cmpR op_lt (pe_call (ok__law_take T) (hr.mono (by decide)) rfl T.g__law_take T.k__law_take T.b__law_take .nil pass0 (pa_cons (pv 0) (pa_cons pe_int pa_nil))) (pv 2) (nomark _)))) (fun _ _ _ _ _ => (pv 3))))), p__law_ascending T.cl h⟩)
theorem ok__law_accepts (T : Txt K mg A) : FnOk P w K mg base CX0 2 A.a__law_accepts A.fd__law_accepts ["rows", "initial", "accepting", "lasso"] (sp__law_accepts K A) :=
  T.F__law_accepts.ok sc__law_accepts (fun vs H Q E h => by obtain ⟨_, _, _, _, _, _, _, _, _, _, _, _, _, rfl, _⟩ := h; rfl) (fun cdv Ar outer s H vs Q E hr h => ⟨t__law_accepts K A E, by exact (pss_cons (ps_set (i := 4) sc__law_accepts.nd rfl (Or.inl rfl) (pe_op op_cat (pe_callTy call_list_of (by rfl) T.z_list (by decide +kernel) (pa_cons (pe_ix ix_tup (pv 3) pe_int (fun _ _ => rfl)) pa_nil)) (pe_callTy call_list_of (by rfl) T.z_list (by decide +kernel) (pa_cons (pe_ix ix_tup (pv 3) pe_int (fun _ _ => rfl)) pa_nil))))
 (pss_cons (ps_set (i := 5) sc__law_accepts.nd rfl (Or.inr rfl) (pe_callB call_len_seq (by rfl) T.z_len (by decide +kernel) (pa_cons (pv 4) pa_nil)))
 (pss_cons (ps_set (i := 6) sc__law_accepts.nd rfl (Or.inl rfl) (pe_lst pa_nil))
 (pss_cons (ps_set (i := 7) sc__law_accepts.nd rfl (Or.inl rfl) (pe_lst pa_nil))
 (pss_cons (ps_for PassesOwn.never rfl (pi_range1 rfl T.z_range (pa_cons (pe_callB call_len_seq (by rfl) T.z_len (by decide +kernel) (pa_cons (pv 0) pa_nil)) pa_nil)) (pg_name (i := 8) sc__law_accepts.nd rfl (Or.inl rfl)) (pss_one (ps_for PassesOwn.never rfl (pi_range1 rfl T.z_range (pa_cons (pv 5) pa_nil)) (pg_name (i := 9) sc__law_accepts.nd rfl (Or.inl rfl)) (pss_cons (ps_set (i := 10) sc__law_accepts.nd rfl (Or.inr rfl) (pe_op op_add (pv 9) pe_int))
 (pss_cons (ps_if (pt_cmpR op_eq (pv 10) (pv 5) (nomark _)) (pss_one (ps_set (i := 10) sc__law_accepts.nd rfl (Or.inr rfl) (pe_callB call_len_seq (by rfl) T.z_len (by decide +kernel) (pa_cons (pe_ix ix_tup (pv 3) pe_int (fun _ _ => rfl)) pa_nil)))) pss_nil)
 (pss_cons (ps_expr (pe_bm PySem.F.plainAttrs_list PySem.F.slot_list_append PySem.F.type_list_append mt_append (pv 6) (pa_cons (pe_lc (own := [("target", 11)]) rfl sc__law_accepts.nd (pi_seq (pe_ix ix_seq (pe_ix ix_seq (pv 0) (pv 8) (fun _ _ => rfl)) (pe_ix ix_list (pv 4) (pv 9) (fun _ _ => rfl)) (fun _ _ => rfl))) (blkOk_by (N := ["rows", "initial", "accepting", "lasso", "letters", "size", "moves", "goods", "state", "place", "after", "target"]) (sc := defScope s__law_accepts) (own := [("target", 11)]) (by decide +kernel)) (fun _ _ _ _ _ => (pg_name (i := 11) sc__law_accepts.nd rfl (Or.inl rfl))) (fun _ _ _ _ _ => pts_nil) (fun _ _ _ _ _ => (pe_op op_add (pe_op op_mulW (pv 11) (pv 5)) (pv 10)))) pa_nil)))
 (pss_one (ps_expr (pe_bm PySem.F.plainAttrs_list PySem.F.slot_list_append PySem.F.type_list_append mt_append (pv 7) (pa_cons (pe_cmpR op_in_seq (pv 8) (pv 2) (by rfl)) pa_nil))))))))))
 (pss_one (ps_ret (pe_call (ok__law_lives T) (hr.mono (by decide)) rfl T.g__law_lives T.k__law_lives T.b__law_lives .nil pass0 (pa_cons (pv 6) (pa_cons (pv 7) (pa_cons (pe_lc (own := [("state", 8)]) rfl sc__law_accepts.nd (pi_seq (pv 1)) (blkOk_by (N := ["rows", "initial", "accepting", "lasso", "letters", "size", "moves", "goods", "state", "place", "after", "target"]) (sc := defScope s__law_accepts) (own := [("state", 8)]) (by decide +kernel)) (fun _ _ _ _ _ => (pg_name (i := 8) sc__law_accepts.nd rfl (Or.inl rfl))) (fun _ _ _ _ _ => pts_nil) (fun _ _ _ _ _ => (pe_op op_mulW (pv 8) (pv 5)))) pa_nil))))))))))), p__law_accepts T.cl h⟩)
theorem ok_components (T : Txt K mg A) : FnOk P w K mg base CX0 3 A.a_components A.fd_components ["edges"] (sp_components K A) :=
  T.F_components.ok sc_components (fun vs H Q E h => by obtain ⟨_, _, _, _, rfl, _⟩ := h; rfl) (fun cdv Ar outer s H vs Q E hr h => ⟨t_components K A E, by exact (pss_cons (ps_set (i := 1) sc_components.nd rfl (Or.inl rfl) (pe_make T.M_Search (ok_Search_init T) (hr.mono (by decide)) rfl T.g_Search T.b_Search_init .nil pass0 (pa_cons (pv 0) pa_nil)))
 (pss_cons (ps_for PassesOwn.never rfl (pi_range1 rfl T.z_range (pa_cons (pe_callB call_len_seq (by rfl) T.z_len (by decide +kernel) (pa_cons (pv 0) pa_nil)) pa_nil)) (pg_name (i := 2) sc_components.nd rfl (Or.inl rfl)) (pss_one (ps_if (pt_cmpR op_lt (pe_ix ix_list (pe_fld (pv 1) rfl) (pv 2) (fun _ _ => rfl)) pe_int (nomark _)) (pss_one (ps_expr (pe_meth (pv 1) T.cl_Search T.mt_Search_run (ok_Search_run T) (hr.mono (by decide)) T.b_Search_run .nil pass0 (pa_cons (pv 2) pa_nil)))) pss_nil)))
 (pss_one (ps_ret (pe_fld (pv 1) rfl))))), p_components T.cl h⟩)
theorem ok_runs (T : Txt K mg A) : FnOk P w K mg base CX0 3 A.a_runs A.fd_runs ["automaton", "lasso"] (sp_runs K A) :=
  T.F_runs.ok sc_runs (fun vs H Q E h => by obtain ⟨a, e⟩ := conc0_len h; rw [e]; rfl) (fun cdv Ar outer s H vs Q E hr h => ⟨t_runs K A E, by exact (pss_cons (ps_asg (pv 1) (pg_tup (by rfl) (pgs_cons (pg_name (i := 2) sc_runs.nd rfl (Or.inl rfl)) (pgs_cons (pg_name (i := 3) sc_runs.nd rfl (Or.inl rfl)) pgs_nil))))
 (pss_cons (ps_set (i := 4) sc_runs.nd rfl (Or.inl rfl) (pe_op op_catA (pe_callTy call_tuple_of (by rfl) T.z_tuple (by decide +kernel) (pa_cons (pv 2) pa_nil)) (pe_callTy call_tuple_of (by rfl) T.z_tuple (by decide +kernel) (pa_cons (pv 3) pa_nil))))
 (pss_cons (ps_set (i := 5) sc_runs.nd rfl (Or.inr rfl) (pe_make0 T.M_Places (ok_Places_init T) (hr.mono (by decide)) rfl T.g_Places T.b_Places_init .nil pass0 ))
 (pss_cons (ps_for PassesOwn.never rfl (pi_tup (pe_fld (pv 0) rfl)) (pg_name (i := 6) sc_runs.nd rfl (Or.inl rfl)) (pss_one (ps_expr (pe_meth (pv 5) T.cl_Places T.mt_Places_number_of (ok_Places_number_of T) (hr.mono (by decide)) T.b_Places_number_of .nil pass0 (pa_cons (pe_tup (pa_cons pe_int (pa_cons (pv 6) pa_nil))) pa_nil)))))
 (pss_cons (ps_set (i := 7) sc_runs.nd rfl (Or.inl rfl) (pe_lst pa_nil))
 (pss_cons (ps_while PassesOwn.never (pt_val (pe_meth (pv 5) T.cl_Places T.mt_Places_waits (ok_Places_waits T) (hr.mono (by decide)) T.b_Places_waits .nil pass0 (pa_cons (pv 7) pa_nil))) (pss_cons (ps_asg (pe_meth (pv 5) T.cl_Places T.mt_Places_first_without (ok_Places_first_without T) (hr.mono (by decide)) T.b_Places_first_without .nil pass0 (pa_cons (pv 7) pa_nil)) (pg_tup (by rfl) (pgs_cons (pg_name (i := 8) sc_runs.nd rfl (Or.inl rfl)) (pgs_cons (pg_name (i := 6) sc_runs.nd rfl (Or.inl rfl)) pgs_nil))))
 (pss_cons (ps_set (i := 9) sc_runs.nd rfl (Or.inr rfl) (pe_ifExp (pt_cmpR op_lt (pe_op op_add (pv 8) pe_int) (pe_callB call_len_seq (by rfl) T.z_len (by decide +kernel) (pa_cons (pv 4) pa_nil)) (nomark _)) (pe_op op_add (pv 8) pe_int) (pe_callB call_len_seq (by rfl) T.z_len (by decide +kernel) (pa_cons (pv 2) pa_nil))))
 (pss_one (ps_expr (pe_bm PySem.F.plainAttrs_list PySem.F.slot_list_append PySem.F.type_list_append mt_append (pv 7) (pa_cons (pe_lc (own := [("target", 10)]) rfl sc_runs.nd (pi_tup (pe_ix ix_tup (pe_ix ix_tup (pe_fld (pv 0) rfl) (pv 6) (fun _ _ => rfl)) (pe_ix ix_tup (pv 4) (pv 8) (fun _ _ => rfl)) (fun _ _ => rfl))) (blkOk_by (N := ["automaton", "lasso", "head", "loop", "letters", "places", "state", "edges", "turn", "later", "target"]) (sc := defScope s_runs) (own := [("target", 10)]) (by decide +kernel)) (fun _ _ _ _ _ => (pg_name (i := 10) sc_runs.nd rfl (Or.inl rfl))) (fun _ _ _ _ _ => pts_nil) (fun _ _ _ _ _ => (pe_meth (pv 5) T.cl_Places T.mt_Places_number_of (ok_Places_number_of T) (hr.mono (by decide)) T.b_Places_number_of .nil pass0 (pa_cons (pe_tup (pa_cons (pv 9) (pa_cons (pv 10) pa_nil))) pa_nil)))) pa_nil)))))))
 (pss_one (ps_ret (pe_tup (pa_cons (pe_fld (pv 5) rfl) (pa_cons (pv 7) pa_nil))))))))))), p_runs T.cl h⟩)
theorem ok__law_automaton (T : Txt K mg A) : FnOk P w K mg base CX0 3 A.a__law_automaton A.fd__law_automaton ["draws", "letters", "most"] (sp__law_automaton K A) :=
  T.F__law_automaton.ok sc__law_automaton (fun vs H Q E h => by obtain ⟨a, e⟩ := conc1_len h; rw [e]; rfl) (fun cdv Ar outer s H vs Q E hr h => ⟨t__law_automaton K A E, by exact (pss_cons (ps_set (i := 3) sc__law_automaton.nd rfl (Or.inr rfl) (pe_op op_add pe_int (pe_call (ok__law_take T) (hr.mono (by decide)) rfl T.g__law_take T.k__law_take T.b__law_take .nil pass0 (pa_cons (pv 0) (pa_cons (pv 2) pa_nil)))))
 (pss_cons (ps_set (i := 4) sc__law_automaton.nd rfl (Or.inr rfl) (pe_op op_add pe_int (pe_call (ok__law_take T) (hr.mono (by decide)) rfl T.g__law_take T.k__law_take T.b__law_take .nil pass0 (pa_cons (pv 0) (pa_cons pe_int pa_nil)))))
 (pss_cons (ps_set (i := 5) sc__law_automaton.nd rfl (Or.inl rfl) (pe_call (ok__law_ascending T) (hr.mono (by decide)) rfl T.g__law_ascending T.k__law_ascending T.b__law_ascending .nil pass0 (pa_cons (pv 0) (pa_cons (pv 3) (pa_cons pe_int pa_nil)))))
 (pss_cons (ps_set (i := 6) sc__law_automaton.nd rfl (Or.inl rfl) (pe_call (ok__law_ascending T) (hr.mono (by decide)) rfl T.g__law_ascending T.k__law_ascending T.b__law_ascending .nil pass0 (pa_cons (pv 0) (pa_cons (pv 3) (pa_cons pe_int pa_nil)))))
 (pss_cons (ps_if (PW.pt (pw_and (pt_cmpR op_eq (pe_callB call_len_seq (by rfl) T.z_len (by decide +kernel) (pa_cons (pv 5) pa_nil)) pe_int (nomark _)) (pw_and1 (pt_cmpR op_gt (pe_call (ok__law_take T) (hr.mono (by decide)) rfl T.g__law_take T.k__law_take T.b__law_take .nil pass0 (pa_cons (pv 0) (pa_cons pe_int pa_nil))) pe_int (nomark _))))) (pss_one (ps_set (i := 5) sc__law_automaton.nd rfl (Or.inl rfl) (pe_lst (pa_cons pe_int pa_nil)))) pss_nil)
 (pss_cons (ps_set (i := 7) sc__law_automaton.nd rfl (Or.inl rfl) (pe_lst pa_nil))
 (pss_cons (ps_for PassesOwn.never rfl (pi_range1 rfl T.z_range (pa_cons (pv 3) pa_nil)) (pg_name (i := 8) sc__law_automaton.nd rfl (Or.inl rfl)) (pss_one (ps_expr (pe_bm PySem.F.plainAttrs_list PySem.F.slot_list_append PySem.F.type_list_append mt_append (pv 7) (pa_cons (pe_lc (own := [("letter", 9)]) rfl sc__law_automaton.nd (pi_range1 rfl T.z_range (pa_cons (pv 1) pa_nil)) (blkOk_by (N := ["draws", "letters", "most", "count", "share", "initial", "accepting", "rows", "state", "letter"]) (sc := defScope s__law_automaton) (own := [("letter", 9)]) (by decide +kernel)) (fun _ _ _ _ _ => (pg_name (i := 9) sc__law_automaton.nd rfl (Or.inl rfl))) (fun _ _ _ _ _ => pts_nil) (fun _ _ _ _ _ => (pe_call (ok__law_ascending T) (hr.mono (by decide)) rfl T.g__law_ascending T.k__law_ascending T.b__law_ascending .nil pass0 (pa_cons (pv 0) (pa_cons (pv 3) (pa_cons (pv 4) pa_nil)))))) pa_nil)))))
 (pss_one (ps_ret (pe_tup (pa_cons (pv 5) (pa_cons (pv 6) (pa_cons (pv 7) pa_nil))))))))))))), p__law_automaton T.cl h⟩)
theorem ok_on_cycles (T : Txt K mg A) : FnOk P w K mg base CX0 4 A.a_on_cycles A.fd_on_cycles ["edges"] (sp_on_cycles K A) :=
  T.F_on_cycles.ok sc_on_cycles (fun vs H Q E h => by obtain ⟨_, _, _, _, rfl, _⟩ := h; rfl) (fun cdv Ar outer s H vs Q E hr h => ⟨t_on_cycles K A E, by exact (pss_cons (ps_set (i := 1) sc_on_cycles.nd rfl (Or.inl rfl) (pe_call (ok_components T) (hr.mono (by decide)) rfl T.g_components T.k_components T.b_components .nil pass0 (pa_cons (pv 0) pa_nil)))
 (pss_cons (ps_set (i := 2) sc_on_cycles.nd rfl (Or.inr rfl) pe_dnewK)
 (pss_cons (ps_for PassesOwn.never rfl (pi_enum (by rfl) T.z_enumerate (pa_cons (pv 0) pa_nil)) (pg_tup (by rfl) (pgs_cons (pg_name (i := 3) sc_on_cycles.nd rfl (Or.inl rfl)) (pgs_cons (pg_name (i := 4) sc_on_cycles.nd rfl (Or.inl rfl)) pgs_nil))) (pss_one (ps_for PassesOwn.never rfl (pi_list (pv 4)) (pg_name (i := 5) sc_on_cycles.nd rfl (Or.inl rfl)) (pss_one (ps_if (pt_cmpR op_eq (pe_ix ix_list (pv 1) (pv 5) (fun _ _ => rfl)) (pe_ix ix_list (pv 1) (pv 3) (fun _ _ => rfl)) (nomark _)) (pss_one (ps_dput (hu_of hr) (pv 2) (pe_ix ix_list (pv 1) (pv 3) (fun _ _ => rfl)) pe_bl rfl)) pss_nil)))))
 (pss_one (ps_ret (pe_lc (own := [("number", 6)]) rfl sc_on_cycles.nd (pi_list (pv 1)) (blkOk_by (N := ["edges", "component", "inner", "node", "targets", "target", "number"]) (sc := defScope s_on_cycles) (own := [("number", 6)]) (by decide +kernel)) (fun _ _ _ _ _ => (pg_name (i := 6) sc_on_cycles.nd rfl (Or.inl rfl))) (fun _ _ _ _ _ => pts_nil) (fun _ _ _ _ _ => (pe_cmp (pc_din (hu_of hr) (pv 6) (pv 2)) rfl)))))))), p_on_cycles T.cl h⟩)
theorem ok_accepts (T : Txt K mg A) : FnOk P w K mg base (L2.CX P w) 5 A.a_accepts A.fd_accepts ["automaton", "lasso"] (sp_accepts K A) :=
  T.F_accepts.okX sc_accepts (fun vs H Q E h => by obtain ⟨a, e⟩ := conc0_len h; rw [e]; rfl) (fun cdv Ar outer s H vs Q E hr h => ⟨t_accepts K A E, by exact (pss_cons (ps_expr (pe_call (ok_check_letters T) (hr.mono (by decide)) rfl T.g_check_letters T.k_check_letters T.b_check_letters .nil (passes_call (takes_of rfl rfl rfl rfl) (fun _ _ _ _ h => h)) (pa_cons (pv 1) (pa_cons (pe_fld (pv 0) rfl) pa_nil))))
 (pss_cons (ps_asg (pe_call (ok_runs T) (hr.mono (by decide)) rfl T.g_runs T.k_runs T.b_runs .nil pass0 (pa_cons (pv 0) (pa_cons (pv 1) pa_nil))) (pg_tup (by rfl) (pgs_cons (pg_name (i := 2) sc_accepts.nd rfl (Or.inl rfl)) (pgs_cons (pg_name (i := 3) sc_accepts.nd rfl (Or.inl rfl)) pgs_nil))))
 (pss_cons (ps_set (i := 4) sc_accepts.nd rfl (Or.inl rfl) (pe_call (ok_flags T) (hr.mono (by decide)) rfl T.g_flags T.k_flags T.b_flags .nil pass0 (pa_cons (pe_fld (pv 0) rfl) (pa_cons (pe_callB call_len_seq (by rfl) T.z_len (by decide +kernel) (pa_cons (pe_fld (pv 0) rfl) pa_nil)) pa_nil))))
 (pss_cons (ps_set (i := 5) sc_accepts.nd rfl (Or.inl rfl) (pe_call (ok_on_cycles T) (hr.mono (by decide)) rfl T.g_on_cycles T.k_on_cycles T.b_on_cycles .nil pass0 (pa_cons (pv 3) pa_nil)))
 (pss_cons (ps_for (passes_of rfl) rfl (pi_enum (by rfl) T.z_enumerate (pa_cons (pv 2) pa_nil)) (pg_tup (by rfl) (pgs_cons (pg_name (i := 6) sc_accepts.nd rfl (Or.inl rfl)) (pgs_cons (pg_tup (by rfl) (pgs_cons (pg_name (i := 7) sc_accepts.nd rfl (Or.inl rfl)) (pgs_cons (pg_name (i := 8) sc_accepts.nd rfl (Or.inl rfl)) pgs_nil))) pgs_nil))) (pss_one (ps_if (PW.pt (pw_and (pt_val (pe_ix ix_list (pv 4) (pv 8) (fun _ _ => rfl))) (pw_and1 (pt_val (pe_ix ix_list (pv 5) (pv 6) (fun _ _ => rfl)))))) (pss_one (ps_ret pe_bl)) pss_nil)))
 (pss_one (ps_ret pe_bl))))))), p_accepts T.cl h⟩)
theorem ok__law_outcome (T : Txt K mg A) : FnOk P w K mg base CX0 6 A.a__law_outcome A.fd__law_outcome ["automaton", "lasso"] (sp__law_outcome K A) :=
  T.F__law_outcome.ok sc__law_outcome (fun vs H Q E h => by obtain ⟨a, e⟩ := conc0_len h; rw [e]; rfl) (fun cdv Ar outer s H vs Q E hr h => ⟨t__law_outcome K A E, by exact (pss_cons (ps_try_many (tb := fun W => (tAsg (tCallS (sp_accepts K A) (WE W) (tCons (tVar 0) (tCons (tVar 1) tNil))) (gName 2))) (l := [(.ref A.C_InvalidLetter, fun a cls d => (tRet (tC .non)))]) (Wout := fun _ _ _ _ => False) rfl rfl takes0 (fun W pn xe tk po => (pss_one (ps_set (i := 2) sc__law_outcome.nd rfl (Or.inl rfl) (pe_callS (ok_accepts T) (hr.mono (by decide)) rfl T.g_accepts T.k_accepts T.b_accepts (fun σ => passAt tk σ) (pa_cons (pv 0) (pa_cons (pv 1) pa_nil)))))) (HdsOk.cons (c := .ref A.C_InvalidLetter) ⟨rfl, by decide, .inl T.g_InvalidLetter⟩ (fun a oe cls d pn hz hf => (pss_one (ps_ret pe_non))) HdsOk.nil))
 (pss_one (ps_ret (pe_ifExp (pt_cmpR op_isN (pv 2) pe_non (nomark _)) pe_str (pv 2))))), p__law_outcome T.cl h⟩)
theorem ok_law (T : Txt K mg A) : FnOk P w K mg base CX0 7 A.a_law A.fd_law ["script"] (sp_law K A) :=
  T.F_law.ok sc_law (fun vs H Q E h => by obtain ⟨_, _, rfl, _⟩ := h; rfl) (fun cdv Ar outer s H vs Q E hr h => ⟨t_law K A E, by exact (pss_cons (ps_set (i := 1) sc_law.nd rfl (Or.inl rfl) (pe_call (ok__law_draws T) (hr.mono (by decide)) rfl T.g__law_draws T.k__law_draws T.b__law_draws .nil pass0 (pa_cons (pv 0) (pa_cons pe_int pa_nil))))
 (pss_cons (ps_set (i := 2) sc_law.nd rfl (Or.inl rfl) (pe_op op_add pe_int (pe_call (ok__law_take T) (hr.mono (by decide)) rfl T.g__law_take T.k__law_take T.b__law_take .nil pass0 (pa_cons (pv 1) (pa_cons pe_int pa_nil)))))
 (pss_cons (ps_asg (pe_call (ok__law_automaton T) (hr.mono (by decide)) rfl T.g__law_automaton T.k__law_automaton T.b__law_automaton .nil pass0 (pa_cons (pv 1) (pa_cons (pv 2) (pa_cons pe_int pa_nil)))) (pg_tup (by rfl) (pgs_cons (pg_name (i := 3) sc_law.nd rfl (Or.inl rfl)) (pgs_cons (pg_name (i := 4) sc_law.nd rfl (Or.inl rfl)) (pgs_cons (pg_name (i := 5) sc_law.nd rfl (Or.inl rfl)) pgs_nil)))))
 (pss_cons (ps_set (i := 6) sc_law.nd rfl (Or.inl rfl) (pe_make T.M_Automaton (ok_Automaton_init T) (hr.mono (by decide)) rfl T.g_Automaton T.b_Automaton_init .nil passL (pa_cons (pv 2) (pa_cons (pe_callTy call_list_of (by rfl) T.z_list (by decide +kernel) (pa_cons (pv 3) pa_nil)) (pa_cons (pe_callTy call_list_of (by rfl) T.z_list (by decide +kernel) (pa_cons (pv 4) pa_nil)) (pa_cons (pe_call (ok__law_copy T) (hr.mono (by decide)) rfl T.g__law_copy T.k__law_copy T.b__law_copy .nil pass0 (pa_cons (pv 5) pa_nil)) pa_nil))))))
 (pss_cons (ps_set (i := 7) sc_law.nd rfl (Or.inl rfl) (pe_call (ok__law_lasso T) (hr.mono (by decide)) rfl T.g__law_lasso T.k__law_lasso T.b__law_lasso .nil pass0 (pa_cons (pv 1) (pa_cons (pv 2) (pa_cons pe_int pa_nil)))))
 (pss_cons (ps_set (i := 8) sc_law.nd rfl (Or.inl rfl) (pe_call (ok__law_lasso T) (hr.mono (by decide)) rfl T.g__law_lasso T.k__law_lasso T.b__law_lasso .nil pass0 (pa_cons (pv 1) (pa_cons (pv 2) (pa_cons pe_int pa_nil)))))
 (pss_cons (ps_if (pt_cmpR op_eq (pe_call (ok__law_take T) (hr.mono (by decide)) rfl T.g__law_take T.k__law_take T.b__law_take .nil pass0 (pa_cons (pv 1) (pa_cons pe_int pa_nil))) pe_int (nomark _)) (pss_cons (ps_set (i := 9) sc_law.nd rfl (Or.inl rfl) (pe_op op_cat (pe_callTy call_list_of (by rfl) T.z_list (by decide +kernel) (pa_cons (pe_ix ix_tup (pv 7) pe_int (fun _ _ => rfl)) pa_nil)) (pe_lst (pa_cons (pe_op op_add (pv 2) (pe_call (ok__law_take T) (hr.mono (by decide)) rfl T.g__law_take T.k__law_take T.b__law_take .nil pass0 (pa_cons (pv 1) (pa_cons pe_int pa_nil)))) pa_nil))))
 (pss_one (ps_ret (pe_cmpR op_isN (pe_call (ok__law_outcome T) (hr.mono (by decide)) rfl T.g__law_outcome T.k__law_outcome T.b__law_outcome .nil pass0 (pa_cons (pv 6) (pa_cons (pe_tup (pa_cons (pe_callTy call_tuple_of (by rfl) T.z_tuple (by decide +kernel) (pa_cons (pv 9) pa_nil)) (pa_cons (pe_ix ix_tup (pv 7) pe_int (fun _ _ => rfl)) pa_nil))) pa_nil))) pe_non (nomark _))))) pss_nil)
 (pss_cons (ps_set (i := 10) sc_law.nd rfl (Or.inl rfl) (pe_call (ok__law_accepts T) (hr.mono (by decide)) rfl T.g__law_accepts T.k__law_accepts T.b__law_accepts .nil pass0 (pa_cons (pv 5) (pa_cons (pv 3) (pa_cons (pv 4) (pa_cons (pv 7) pa_nil))))))
 (pss_cons (ps_set (i := 11) sc_law.nd rfl (Or.inl rfl) (pe_call (ok__law_outcome T) (hr.mono (by decide)) rfl T.g__law_outcome T.k__law_outcome T.b__law_outcome .nil pass0 (pa_cons (pv 6) (pa_cons (pv 7) pa_nil))))
 (pss_cons (ps_set (i := 12) sc_law.nd rfl (Or.inl rfl) (pe_call (ok__law_outcome T) (hr.mono (by decide)) rfl T.g__law_outcome T.k__law_outcome T.b__law_outcome .nil pass0 (pa_cons (pv 6) (pa_cons (pv 8) pa_nil))))
 (pss_cons (ps_if (PW.pt (pw_or (pt_not (pt_val (pe_callB call_isi (by rfl) T.z_isinstance (by decide +kernel) (pa_cons (pv 11) (pa_cons (pe_bltn (v := .ty "bool") (by rfl) T.z_bool (by decide +kernel) rfl) pa_nil))))) (pw_or1 (pt_cmpR op_ne (pv 11) (pv 10) (nomark _))))) (pss_one (ps_ret pe_bl)) pss_nil)
 (pss_one (ps_ret (pe_and (pe_cmpR op_eq (pv 12) (pe_call (ok__law_accepts T) (hr.mono (by decide)) rfl T.g__law_accepts T.k__law_accepts T.b__law_accepts .nil pass0 (pa_cons (pv 5) (pa_cons (pv 3) (pa_cons (pv 4) (pa_cons (pv 8) pa_nil))))) (nomark _)) (pe_one (pe_cmpR op_eq (pe_call (ok__law_outcome T) (hr.mono (by decide)) rfl T.g__law_outcome T.k__law_outcome T.b__law_outcome .nil pass0 (pa_cons (pv 6) (pa_cons (pv 7) pa_nil))) (pv 10) (nomark _))))))))))))))))), p_law T.cl h⟩)
end
theorem all_mk {l : PySem.W.OpenLaw} {w : World} {K : PySem.W.Frag} {h : Heap} {mg : Str → Option Value} {fa : Addr} (X : K.In h) (G : h.Ns mainGlobals mg) (hfa : mg "law" = some (.ref fa))
    {f_Search_init : Addr} {od_Search_init an_Search_init : Option Addr} {sl_Search_init : Array (Option Value)} {oc_Search_init kV_Search_init dc_Search_init pm_Search_init cd_Search_init ct_Search_init : Value}
    {f_Search_enter : Addr} {od_Search_enter an_Search_enter : Option Addr} {sl_Search_enter : Array (Option Value)} {oc_Search_enter kV_Search_enter dc_Search_enter pm_Search_enter cd_Search_enter ct_Search_enter : Value}
    {f_Search_run : Addr} {od_Search_run an_Search_run : Option Addr} {sl_Search_run : Array (Option Value)} {oc_Search_run kV_Search_run dc_Search_run pm_Search_run cd_Search_run ct_Search_run : Value}
    {f_Search_leave : Addr} {od_Search_leave an_Search_leave : Option Addr} {sl_Search_leave : Array (Option Value)} {oc_Search_leave kV_Search_leave dc_Search_leave pm_Search_leave cd_Search_leave ct_Search_leave : Value}
    {f_components : Addr} {od_components an_components : Option Addr} {sl_components : Array (Option Value)} {oc_components kV_components dc_components pm_components cd_components ct_components : Value}
    {f_on_cycles : Addr} {od_on_cycles an_on_cycles : Option Addr} {sl_on_cycles : Array (Option Value)} {oc_on_cycles kV_on_cycles dc_on_cycles pm_on_cycles cd_on_cycles ct_on_cycles : Value}
    {f_Places_init : Addr} {od_Places_init an_Places_init : Option Addr} {sl_Places_init : Array (Option Value)} {oc_Places_init kV_Places_init dc_Places_init pm_Places_init cd_Places_init ct_Places_init : Value}
    {f_Places_number_of : Addr} {od_Places_number_of an_Places_number_of : Option Addr} {sl_Places_number_of : Array (Option Value)} {oc_Places_number_of kV_Places_number_of dc_Places_number_of pm_Places_number_of cd_Places_number_of ct_Places_number_of : Value}
    {f_Places_waits : Addr} {od_Places_waits an_Places_waits : Option Addr} {sl_Places_waits : Array (Option Value)} {oc_Places_waits kV_Places_waits dc_Places_waits pm_Places_waits cd_Places_waits ct_Places_waits : Value}
    {f_Places_first_without : Addr} {od_Places_first_without an_Places_first_without : Option Addr} {sl_Places_first_without : Array (Option Value)} {oc_Places_first_without kV_Places_first_without dc_Places_first_without pm_Places_first_without cd_Places_first_without ct_Places_first_without : Value}
    {f_ascends : Addr} {od_ascends an_ascends : Option Addr} {sl_ascends : Array (Option Value)} {oc_ascends kV_ascends dc_ascends pm_ascends cd_ascends ct_ascends : Value}
    {f_check_letters : Addr} {od_check_letters an_check_letters : Option Addr} {sl_check_letters : Array (Option Value)} {oc_check_letters kV_check_letters dc_check_letters pm_check_letters cd_check_letters ct_check_letters : Value}
    {f_Automaton_init : Addr} {od_Automaton_init an_Automaton_init : Option Addr} {sl_Automaton_init : Array (Option Value)} {oc_Automaton_init kV_Automaton_init dc_Automaton_init pm_Automaton_init cd_Automaton_init ct_Automaton_init : Value}
    {f_flags : Addr} {od_flags an_flags : Option Addr} {sl_flags : Array (Option Value)} {oc_flags kV_flags dc_flags pm_flags cd_flags ct_flags : Value}
    {f_accepts : Addr} {od_accepts an_accepts : Option Addr} {sl_accepts : Array (Option Value)} {oc_accepts kV_accepts dc_accepts pm_accepts cd_accepts ct_accepts : Value}
    {f_runs : Addr} {od_runs an_runs : Option Addr} {sl_runs : Array (Option Value)} {oc_runs kV_runs dc_runs pm_runs cd_runs ct_runs : Value}
    {f__law_draws : Addr} {od__law_draws an__law_draws : Option Addr} {sl__law_draws : Array (Option Value)} {oc__law_draws kV__law_draws dc__law_draws pm__law_draws cd__law_draws ct__law_draws : Value}
    {f__law_take : Addr} {od__law_take an__law_take : Option Addr} {sl__law_take : Array (Option Value)} {oc__law_take kV__law_take dc__law_take pm__law_take cd__law_take ct__law_take : Value}
    {f__law_lasso : Addr} {od__law_lasso an__law_lasso : Option Addr} {sl__law_lasso : Array (Option Value)} {oc__law_lasso kV__law_lasso dc__law_lasso pm__law_lasso cd__law_lasso ct__law_lasso : Value}
    {f__law_lives : Addr} {od__law_lives an__law_lives : Option Addr} {sl__law_lives : Array (Option Value)} {oc__law_lives kV__law_lives dc__law_lives pm__law_lives cd__law_lives ct__law_lives : Value}
    {f__law_ascending : Addr} {od__law_ascending an__law_ascending : Option Addr} {sl__law_ascending : Array (Option Value)} {oc__law_ascending kV__law_ascending dc__law_ascending pm__law_ascending cd__law_ascending ct__law_ascending : Value}
    {f__law_automaton : Addr} {od__law_automaton an__law_automaton : Option Addr} {sl__law_automaton : Array (Option Value)} {oc__law_automaton kV__law_automaton dc__law_automaton pm__law_automaton cd__law_automaton ct__law_automaton : Value}
    {f__law_copy : Addr} {od__law_copy an__law_copy : Option Addr} {sl__law_copy : Array (Option Value)} {oc__law_copy kV__law_copy dc__law_copy pm__law_copy cd__law_copy ct__law_copy : Value}
    {f__law_accepts : Addr} {od__law_accepts an__law_accepts : Option Addr} {sl__law_accepts : Array (Option Value)} {oc__law_accepts kV__law_accepts dc__law_accepts pm__law_accepts cd__law_accepts ct__law_accepts : Value}
    {f__law_outcome : Addr} {od__law_outcome an__law_outcome : Option Addr} {sl__law_outcome : Array (Option Value)} {oc__law_outcome kV__law_outcome dc__law_outcome pm__law_outcome cd__law_outcome ct__law_outcome : Value}
    {f_law : Addr} {od_law an_law : Option Addr} {sl_law : Array (Option Value)} {oc_law kV_law dc_law pm_law cd_law ct_law : Value}
    {C_SynthError : Addr}
    {C_InvalidLetter : Addr}
    {C_InvalidAutomaton : Addr}
    {C_Search : Addr}
    {C_Places : Addr}
    {C_Automaton : Addr}
    (ha_Search_init : PySem.W.findIn K (.ref C_Search) "__init__" = some (some (.ref f_Search_init)))
    (hi_Search_init : PySem.W.isFn K (.ref f_Search_init) = true)
    (hl_Search_init : K.lookup f_Search_init = some ⟨oc_Search_init, od_Search_init, .func (PySem.W.fnOf "__init__" "Search.__init__" (defArgs s_Search_init) (defBody s_Search_init) (defScope s_Search_init) .none kV_Search_init dc_Search_init pm_Search_init an_Search_init cd_Search_init ct_Search_init), sl_Search_init⟩)
    (hc_Search_init : PySem.W.codeIn K cd_Search_init "Search.__init__" = true)
    (hk_Search_init : PySem.W.keepIn K (.ref f_Search_init) = true)
    (ha_Search_enter : PySem.W.findIn K (.ref C_Search) "enter" = some (some (.ref f_Search_enter)))
    (hi_Search_enter : PySem.W.isFn K (.ref f_Search_enter) = true)
    (hl_Search_enter : K.lookup f_Search_enter = some ⟨oc_Search_enter, od_Search_enter, .func (PySem.W.fnOf "enter" "Search.enter" (defArgs s_Search_enter) (defBody s_Search_enter) (defScope s_Search_enter) .none kV_Search_enter dc_Search_enter pm_Search_enter an_Search_enter cd_Search_enter ct_Search_enter), sl_Search_enter⟩)
    (hc_Search_enter : PySem.W.codeIn K cd_Search_enter "Search.enter" = true)
    (hk_Search_enter : PySem.W.keepIn K (.ref f_Search_enter) = true)
    (ha_Search_run : PySem.W.findIn K (.ref C_Search) "run" = some (some (.ref f_Search_run)))
    (hi_Search_run : PySem.W.isFn K (.ref f_Search_run) = true)
    (hl_Search_run : K.lookup f_Search_run = some ⟨oc_Search_run, od_Search_run, .func (PySem.W.fnOf "run" "Search.run" (defArgs s_Search_run) (defBody s_Search_run) (defScope s_Search_run) .none kV_Search_run dc_Search_run pm_Search_run an_Search_run cd_Search_run ct_Search_run), sl_Search_run⟩)
    (hc_Search_run : PySem.W.codeIn K cd_Search_run "Search.run" = true)
    (hk_Search_run : PySem.W.keepIn K (.ref f_Search_run) = true)
    (ha_Search_leave : PySem.W.findIn K (.ref C_Search) "leave" = some (some (.ref f_Search_leave)))
    (hi_Search_leave : PySem.W.isFn K (.ref f_Search_leave) = true)
    (hl_Search_leave : K.lookup f_Search_leave = some ⟨oc_Search_leave, od_Search_leave, .func (PySem.W.fnOf "leave" "Search.leave" (defArgs s_Search_leave) (defBody s_Search_leave) (defScope s_Search_leave) .none kV_Search_leave dc_Search_leave pm_Search_leave an_Search_leave cd_Search_leave ct_Search_leave), sl_Search_leave⟩)
    (hc_Search_leave : PySem.W.codeIn K cd_Search_leave "Search.leave" = true)
    (hk_Search_leave : PySem.W.keepIn K (.ref f_Search_leave) = true)
    (ha_components : PySem.W.nsIn K mainGlobals "components" = some (some (.ref f_components)))
    (hl_components : K.lookup f_components = some ⟨oc_components, od_components, .func (PySem.W.fnOf "components" "components" (defArgs s_components) (defBody s_components) (defScope s_components) .none kV_components dc_components pm_components an_components cd_components ct_components), sl_components⟩)
    (hc_components : PySem.W.codeIn K cd_components "components" = true)
    (hk_components : PySem.W.keepIn K (.ref f_components) = true)
    (ha_on_cycles : PySem.W.nsIn K mainGlobals "on_cycles" = some (some (.ref f_on_cycles)))
    (hl_on_cycles : K.lookup f_on_cycles = some ⟨oc_on_cycles, od_on_cycles, .func (PySem.W.fnOf "on_cycles" "on_cycles" (defArgs s_on_cycles) (defBody s_on_cycles) (defScope s_on_cycles) .none kV_on_cycles dc_on_cycles pm_on_cycles an_on_cycles cd_on_cycles ct_on_cycles), sl_on_cycles⟩)
    (hc_on_cycles : PySem.W.codeIn K cd_on_cycles "on_cycles" = true)
    (hk_on_cycles : PySem.W.keepIn K (.ref f_on_cycles) = true)
    (ha_Places_init : PySem.W.findIn K (.ref C_Places) "__init__" = some (some (.ref f_Places_init)))
    (hi_Places_init : PySem.W.isFn K (.ref f_Places_init) = true)
    (hl_Places_init : K.lookup f_Places_init = some ⟨oc_Places_init, od_Places_init, .func (PySem.W.fnOf "__init__" "Places.__init__" (defArgs s_Places_init) (defBody s_Places_init) (defScope s_Places_init) .none kV_Places_init dc_Places_init pm_Places_init an_Places_init cd_Places_init ct_Places_init), sl_Places_init⟩)
    (hc_Places_init : PySem.W.codeIn K cd_Places_init "Places.__init__" = true)
    (hk_Places_init : PySem.W.keepIn K (.ref f_Places_init) = true)
    (ha_Places_number_of : PySem.W.findIn K (.ref C_Places) "number_of" = some (some (.ref f_Places_number_of)))
    (hi_Places_number_of : PySem.W.isFn K (.ref f_Places_number_of) = true)
    (hl_Places_number_of : K.lookup f_Places_number_of = some ⟨oc_Places_number_of, od_Places_number_of, .func (PySem.W.fnOf "number_of" "Places.number_of" (defArgs s_Places_number_of) (defBody s_Places_number_of) (defScope s_Places_number_of) .none kV_Places_number_of dc_Places_number_of pm_Places_number_of an_Places_number_of cd_Places_number_of ct_Places_number_of), sl_Places_number_of⟩)
    (hc_Places_number_of : PySem.W.codeIn K cd_Places_number_of "Places.number_of" = true)
    (hk_Places_number_of : PySem.W.keepIn K (.ref f_Places_number_of) = true)
    (ha_Places_waits : PySem.W.findIn K (.ref C_Places) "waits" = some (some (.ref f_Places_waits)))
    (hi_Places_waits : PySem.W.isFn K (.ref f_Places_waits) = true)
    (hl_Places_waits : K.lookup f_Places_waits = some ⟨oc_Places_waits, od_Places_waits, .func (PySem.W.fnOf "waits" "Places.waits" (defArgs s_Places_waits) (defBody s_Places_waits) (defScope s_Places_waits) .none kV_Places_waits dc_Places_waits pm_Places_waits an_Places_waits cd_Places_waits ct_Places_waits), sl_Places_waits⟩)
    (hc_Places_waits : PySem.W.codeIn K cd_Places_waits "Places.waits" = true)
    (hk_Places_waits : PySem.W.keepIn K (.ref f_Places_waits) = true)
    (ha_Places_first_without : PySem.W.findIn K (.ref C_Places) "first_without" = some (some (.ref f_Places_first_without)))
    (hi_Places_first_without : PySem.W.isFn K (.ref f_Places_first_without) = true)
    (hl_Places_first_without : K.lookup f_Places_first_without = some ⟨oc_Places_first_without, od_Places_first_without, .func (PySem.W.fnOf "first_without" "Places.first_without" (defArgs s_Places_first_without) (defBody s_Places_first_without) (defScope s_Places_first_without) .none kV_Places_first_without dc_Places_first_without pm_Places_first_without an_Places_first_without cd_Places_first_without ct_Places_first_without), sl_Places_first_without⟩)
    (hc_Places_first_without : PySem.W.codeIn K cd_Places_first_without "Places.first_without" = true)
    (hk_Places_first_without : PySem.W.keepIn K (.ref f_Places_first_without) = true)
    (ha_ascends : PySem.W.nsIn K mainGlobals "ascends" = some (some (.ref f_ascends)))
    (hl_ascends : K.lookup f_ascends = some ⟨oc_ascends, od_ascends, .func (PySem.W.fnOf "ascends" "ascends" (defArgs s_ascends) (defBody s_ascends) (defScope s_ascends) .none kV_ascends dc_ascends pm_ascends an_ascends cd_ascends ct_ascends), sl_ascends⟩)
    (hc_ascends : PySem.W.codeIn K cd_ascends "ascends" = true)
    (hk_ascends : PySem.W.keepIn K (.ref f_ascends) = true)
    (ha_check_letters : PySem.W.nsIn K mainGlobals "check_letters" = some (some (.ref f_check_letters)))
    (hl_check_letters : K.lookup f_check_letters = some ⟨oc_check_letters, od_check_letters, .func (PySem.W.fnOf "check_letters" "check_letters" (defArgs s_check_letters) (defBody s_check_letters) (defScope s_check_letters) .none kV_check_letters dc_check_letters pm_check_letters an_check_letters cd_check_letters ct_check_letters), sl_check_letters⟩)
    (hc_check_letters : PySem.W.codeIn K cd_check_letters "check_letters" = true)
    (hk_check_letters : PySem.W.keepIn K (.ref f_check_letters) = true)
    (ha_Automaton_init : PySem.W.findIn K (.ref C_Automaton) "__init__" = some (some (.ref f_Automaton_init)))
    (hi_Automaton_init : PySem.W.isFn K (.ref f_Automaton_init) = true)
    (hl_Automaton_init : K.lookup f_Automaton_init = some ⟨oc_Automaton_init, od_Automaton_init, .func (PySem.W.fnOf "__init__" "Automaton.__init__" (defArgs s_Automaton_init) (defBody s_Automaton_init) (defScope s_Automaton_init) .none kV_Automaton_init dc_Automaton_init pm_Automaton_init an_Automaton_init cd_Automaton_init ct_Automaton_init), sl_Automaton_init⟩)
    (hc_Automaton_init : PySem.W.codeIn K cd_Automaton_init "Automaton.__init__" = true)
    (hk_Automaton_init : PySem.W.keepIn K (.ref f_Automaton_init) = true)
    (ha_flags : PySem.W.nsIn K mainGlobals "flags" = some (some (.ref f_flags)))
    (hl_flags : K.lookup f_flags = some ⟨oc_flags, od_flags, .func (PySem.W.fnOf "flags" "flags" (defArgs s_flags) (defBody s_flags) (defScope s_flags) .none kV_flags dc_flags pm_flags an_flags cd_flags ct_flags), sl_flags⟩)
    (hc_flags : PySem.W.codeIn K cd_flags "flags" = true)
    (hk_flags : PySem.W.keepIn K (.ref f_flags) = true)
    (ha_accepts : PySem.W.nsIn K mainGlobals "accepts" = some (some (.ref f_accepts)))
    (hl_accepts : K.lookup f_accepts = some ⟨oc_accepts, od_accepts, .func (PySem.W.fnOf "accepts" "accepts" (defArgs s_accepts) (defBody s_accepts) (defScope s_accepts) .none kV_accepts dc_accepts pm_accepts an_accepts cd_accepts ct_accepts), sl_accepts⟩)
    (hc_accepts : PySem.W.codeIn K cd_accepts "accepts" = true)
    (hk_accepts : PySem.W.keepIn K (.ref f_accepts) = true)
    (ha_runs : PySem.W.nsIn K mainGlobals "runs" = some (some (.ref f_runs)))
    (hl_runs : K.lookup f_runs = some ⟨oc_runs, od_runs, .func (PySem.W.fnOf "runs" "runs" (defArgs s_runs) (defBody s_runs) (defScope s_runs) .none kV_runs dc_runs pm_runs an_runs cd_runs ct_runs), sl_runs⟩)
    (hc_runs : PySem.W.codeIn K cd_runs "runs" = true)
    (hk_runs : PySem.W.keepIn K (.ref f_runs) = true)
    (ha__law_draws : PySem.W.nsIn K mainGlobals "_law_draws" = some (some (.ref f__law_draws)))
    (hl__law_draws : K.lookup f__law_draws = some ⟨oc__law_draws, od__law_draws, .func (PySem.W.fnOf "_law_draws" "_law_draws" (defArgs s__law_draws) (defBody s__law_draws) (defScope s__law_draws) .none kV__law_draws dc__law_draws pm__law_draws an__law_draws cd__law_draws ct__law_draws), sl__law_draws⟩)
    (hc__law_draws : PySem.W.codeIn K cd__law_draws "_law_draws" = true)
    (hk__law_draws : PySem.W.keepIn K (.ref f__law_draws) = true)
    (ha__law_take : PySem.W.nsIn K mainGlobals "_law_take" = some (some (.ref f__law_take)))
    (hl__law_take : K.lookup f__law_take = some ⟨oc__law_take, od__law_take, .func (PySem.W.fnOf "_law_take" "_law_take" (defArgs s__law_take) (defBody s__law_take) (defScope s__law_take) .none kV__law_take dc__law_take pm__law_take an__law_take cd__law_take ct__law_take), sl__law_take⟩)
    (hc__law_take : PySem.W.codeIn K cd__law_take "_law_take" = true)
    (hk__law_take : PySem.W.keepIn K (.ref f__law_take) = true)
    (ha__law_lasso : PySem.W.nsIn K mainGlobals "_law_lasso" = some (some (.ref f__law_lasso)))
    (hl__law_lasso : K.lookup f__law_lasso = some ⟨oc__law_lasso, od__law_lasso, .func (PySem.W.fnOf "_law_lasso" "_law_lasso" (defArgs s__law_lasso) (defBody s__law_lasso) (defScope s__law_lasso) .none kV__law_lasso dc__law_lasso pm__law_lasso an__law_lasso cd__law_lasso ct__law_lasso), sl__law_lasso⟩)
    (hc__law_lasso : PySem.W.codeIn K cd__law_lasso "_law_lasso" = true)
    (hk__law_lasso : PySem.W.keepIn K (.ref f__law_lasso) = true)
    (ha__law_lives : PySem.W.nsIn K mainGlobals "_law_lives" = some (some (.ref f__law_lives)))
    (hl__law_lives : K.lookup f__law_lives = some ⟨oc__law_lives, od__law_lives, .func (PySem.W.fnOf "_law_lives" "_law_lives" (defArgs s__law_lives) (defBody s__law_lives) (defScope s__law_lives) .none kV__law_lives dc__law_lives pm__law_lives an__law_lives cd__law_lives ct__law_lives), sl__law_lives⟩)
    (hc__law_lives : PySem.W.codeIn K cd__law_lives "_law_lives" = true)
    (hk__law_lives : PySem.W.keepIn K (.ref f__law_lives) = true)
    (ha__law_ascending : PySem.W.nsIn K mainGlobals "_law_ascending" = some (some (.ref f__law_ascending)))
    (hl__law_ascending : K.lookup f__law_ascending = some ⟨oc__law_ascending, od__law_ascending, .func (PySem.W.fnOf "_law_ascending" "_law_ascending" (defArgs s__law_ascending) (defBody s__law_ascending) (defScope s__law_ascending) .none kV__law_ascending dc__law_ascending pm__law_ascending an__law_ascending cd__law_ascending ct__law_ascending), sl__law_ascending⟩)
    (hc__law_ascending : PySem.W.codeIn K cd__law_ascending "_law_ascending" = true)
    (hk__law_ascending : PySem.W.keepIn K (.ref f__law_ascending) = true)
    (ha__law_automaton : PySem.W.nsIn K mainGlobals "_law_automaton" = some (some (.ref f__law_automaton)))
    (hl__law_automaton : K.lookup f__law_automaton = some ⟨oc__law_automaton, od__law_automaton, .func (PySem.W.fnOf "_law_automaton" "_law_automaton" (defArgs s__law_automaton) (defBody s__law_automaton) (defScope s__law_automaton) .none kV__law_automaton dc__law_automaton pm__law_automaton an__law_automaton cd__law_automaton ct__law_automaton), sl__law_automaton⟩)
    (hc__law_automaton : PySem.W.codeIn K cd__law_automaton "_law_automaton" = true)
    (hk__law_automaton : PySem.W.keepIn K (.ref f__law_automaton) = true)
    (ha__law_copy : PySem.W.nsIn K mainGlobals "_law_copy" = some (some (.ref f__law_copy)))
    (hl__law_copy : K.lookup f__law_copy = some ⟨oc__law_copy, od__law_copy, .func (PySem.W.fnOf "_law_copy" "_law_copy" (defArgs s__law_copy) (defBody s__law_copy) (defScope s__law_copy) .none kV__law_copy dc__law_copy pm__law_copy an__law_copy cd__law_copy ct__law_copy), sl__law_copy⟩)
    (hc__law_copy : PySem.W.codeIn K cd__law_copy "_law_copy" = true)
    (hk__law_copy : PySem.W.keepIn K (.ref f__law_copy) = true)
    (ha__law_accepts : PySem.W.nsIn K mainGlobals "_law_accepts" = some (some (.ref f__law_accepts)))
    (hl__law_accepts : K.lookup f__law_accepts = some ⟨oc__law_accepts, od__law_accepts, .func (PySem.W.fnOf "_law_accepts" "_law_accepts" (defArgs s__law_accepts) (defBody s__law_accepts) (defScope s__law_accepts) .none kV__law_accepts dc__law_accepts pm__law_accepts an__law_accepts cd__law_accepts ct__law_accepts), sl__law_accepts⟩)
    (hc__law_accepts : PySem.W.codeIn K cd__law_accepts "_law_accepts" = true)
    (hk__law_accepts : PySem.W.keepIn K (.ref f__law_accepts) = true)
    (ha__law_outcome : PySem.W.nsIn K mainGlobals "_law_outcome" = some (some (.ref f__law_outcome)))
    (hl__law_outcome : K.lookup f__law_outcome = some ⟨oc__law_outcome, od__law_outcome, .func (PySem.W.fnOf "_law_outcome" "_law_outcome" (defArgs s__law_outcome) (defBody s__law_outcome) (defScope s__law_outcome) .none kV__law_outcome dc__law_outcome pm__law_outcome an__law_outcome cd__law_outcome ct__law_outcome), sl__law_outcome⟩)
    (hc__law_outcome : PySem.W.codeIn K cd__law_outcome "_law_outcome" = true)
    (hk__law_outcome : PySem.W.keepIn K (.ref f__law_outcome) = true)
    (ha_law : PySem.W.nsIn K mainGlobals "law" = some (some (.ref f_law)))
    (hl_law : K.lookup f_law = some ⟨oc_law, od_law, .func (PySem.W.fnOf "law" "law" (defArgs s_law) (defBody s_law) (defScope s_law) .none kV_law dc_law pm_law an_law cd_law ct_law), sl_law⟩)
    (hc_law : PySem.W.codeIn K cd_law "law" = true)
    (hk_law : PySem.W.keepIn K (.ref f_law) = true)
    (hn_SynthError : PySem.W.nsIn K mainGlobals "SynthError" = some (some (.ref C_SynthError)))
    (hn_InvalidLetter : PySem.W.nsIn K mainGlobals "InvalidLetter" = some (some (.ref C_InvalidLetter)))
    (hn_InvalidAutomaton : PySem.W.nsIn K mainGlobals "InvalidAutomaton" = some (some (.ref C_InvalidAutomaton)))
    (hn_Search : PySem.W.nsIn K mainGlobals "Search" = some (some (.ref C_Search)))
    (hpg_Search : PySem.W.plainGet K C_Search Str.empty = true)
    (hhd_Search : PySem.W.hasDictIn K C_Search = true)
    (hpo_Search : PySem.W.plainOver K C_Search = true)
    (hsa_Search : PySem.W.findIn K (.ref C_Search) "__setattr__" = some (some (.builtin "object.__setattr__")))
    (hmk_Search : PySem.W.makesIn K C_Search = true)
    (hkc_Search : PySem.W.keepIn K (.ref C_Search) = true)
    (hna_Search_edges : PySem.W.findIn K (.ref C_Search) "edges" = some none)
    (hna_Search_entered : PySem.W.findIn K (.ref C_Search) "entered" = some none)
    (hna_Search_low : PySem.W.findIn K (.ref C_Search) "low" = some none)
    (hna_Search_component : PySem.W.findIn K (.ref C_Search) "component" = some none)
    (hna_Search_total : PySem.W.findIn K (.ref C_Search) "total" = some none)
    (hna_Search_clock : PySem.W.findIn K (.ref C_Search) "clock" = some none)
    (hna_Search_path : PySem.W.findIn K (.ref C_Search) "path" = some none)
    (hna_Search_open_nodes : PySem.W.findIn K (.ref C_Search) "open_nodes" = some none)
    (ht1_Search : PySem.W.findIn K (.ref C_Search) "__class__" = some (some (.builtin "object.__class__")))
    (ht4_Search : PySem.W.mroIn K C_Search (.type "object") = some true)
    (hn_Places : PySem.W.nsIn K mainGlobals "Places" = some (some (.ref C_Places)))
    (hpg_Places : PySem.W.plainGet K C_Places Str.empty = true)
    (hhd_Places : PySem.W.hasDictIn K C_Places = true)
    (hpo_Places : PySem.W.plainOver K C_Places = true)
    (hsa_Places : PySem.W.findIn K (.ref C_Places) "__setattr__" = some (some (.builtin "object.__setattr__")))
    (hmk_Places : PySem.W.makesIn K C_Places = true)
    (hkc_Places : PySem.W.keepIn K (.ref C_Places) = true)
    (hna_Places_order : PySem.W.findIn K (.ref C_Places) "order" = some none)
    (hna_Places_numbers : PySem.W.findIn K (.ref C_Places) "numbers" = some none)
    (ht1_Places : PySem.W.findIn K (.ref C_Places) "__class__" = some (some (.builtin "object.__class__")))
    (ht4_Places : PySem.W.mroIn K C_Places (.type "object") = some true)
    (hn_Automaton : PySem.W.nsIn K mainGlobals "Automaton" = some (some (.ref C_Automaton)))
    (hpg_Automaton : PySem.W.plainGet K C_Automaton Str.empty = true)
    (hhd_Automaton : PySem.W.hasDictIn K C_Automaton = true)
    (hpo_Automaton : PySem.W.plainOver K C_Automaton = true)
    (hsa_Automaton : PySem.W.findIn K (.ref C_Automaton) "__setattr__" = some (some (.builtin "object.__setattr__")))
    (hmk_Automaton : PySem.W.makesIn K C_Automaton = true)
    (hkc_Automaton : PySem.W.keepIn K (.ref C_Automaton) = true)
    (hna_Automaton_letters : PySem.W.findIn K (.ref C_Automaton) "letters" = some none)
    (hna_Automaton_initial : PySem.W.findIn K (.ref C_Automaton) "initial" = some none)
    (hna_Automaton_accepting : PySem.W.findIn K (.ref C_Automaton) "accepting" = some none)
    (hna_Automaton_rows : PySem.W.findIn K (.ref C_Automaton) "rows" = some none)
    (ht1_Automaton : PySem.W.findIn K (.ref C_Automaton) "__class__" = some (some (.builtin "object.__class__")))
    (ht4_Automaton : PySem.W.mroIn K C_Automaton (.type "object") = some true)
    (ht2 : PySem.W.specialIn K (.builtin "object.__class__") "__get__" = some (some (.builtin "getset_descriptor.__get__")))
    (ht3 : PySem.W.takesIn K (.builtin "object.__class__") = some true)
    (hk_InvalidAutomaton : PySem.W.keepIn K (.ref C_InvalidAutomaton) = true)
    (hx_InvalidAutomaton : PySem.W.excIn K C_InvalidAutomaton [.type "ValueError", .type "Exception", .type "BaseException", .type "object"] "ValueError.__new__" = true)
    (hk_InvalidLetter : PySem.W.keepIn K (.ref C_InvalidLetter) = true)
    (hx_InvalidLetter : PySem.W.excIn K C_InvalidLetter [.type "ValueError", .type "Exception", .type "BaseException", .type "object"] "ValueError.__new__" = true)
    (hs_InvalidAutomaton : PySem.W.subIn K (.ref C_InvalidAutomaton) (.type "BaseException") = some true)
    (ht_InvalidAutomaton : PySem.W.typeIn K (.ref C_InvalidAutomaton) = some (.type "type"))
    (hs_InvalidLetter : PySem.W.subIn K (.ref C_InvalidLetter) (.type "BaseException") = some true)
    (ht_InvalidLetter : PySem.W.typeIn K (.ref C_InvalidLetter) = some (.type "type"))
    (hhd_InvalidLetter : PySem.W.hasDictIn K C_InvalidLetter = true)
    (he_InvalidAutomaton_InvalidLetter : PySem.W.subIn K (.ref C_InvalidAutomaton) (.ref C_InvalidLetter) = some false)
    (he_InvalidLetter_InvalidLetter : PySem.W.subIn K (.ref C_InvalidLetter) (.ref C_InvalidLetter) = some true)
    (hz_all : PySem.W.nsIn K mainGlobals "all" = some none)
    (hz_bool : PySem.W.nsIn K mainGlobals "bool" = some none)
    (hz_enumerate : PySem.W.nsIn K mainGlobals "enumerate" = some none)
    (hz_int : PySem.W.nsIn K mainGlobals "int" = some none)
    (hz_isinstance : PySem.W.nsIn K mainGlobals "isinstance" = some none)
    (hz_len : PySem.W.nsIn K mainGlobals "len" = some none)
    (hz_list : PySem.W.nsIn K mainGlobals "list" = some none)
    (hz_max : PySem.W.nsIn K mainGlobals "max" = some none)
    (hz_min : PySem.W.nsIn K mainGlobals "min" = some none)
    (hz_range : PySem.W.nsIn K mainGlobals "range" = some none)
    (hz_tuple : PySem.W.nsIn K mainGlobals "tuple" = some none)
    : ∃ fd : FuncData, (∀ (s : Shared) (v : Value), BindsTo s fd ⟨[v], []⟩ [("script", v)]) ∧ ∀ base : Heap, K.In base → base.Ns mainGlobals mg → FnOk l.prog w K mg base CX0 7 fa fd ["script"] (spL K) := by
  have e : fa = f_law := by
    have e := hfa.symm.trans (PySem.W.mg_of X G ha_law)
    cases e
    rfl
  rw [e]
  have C : Cl K { a_Search_init := f_Search_init, fd_Search_init := PySem.W.fnOf "__init__" "Search.__init__" (defArgs s_Search_init) (defBody s_Search_init) (defScope s_Search_init) .none kV_Search_init dc_Search_init pm_Search_init an_Search_init cd_Search_init ct_Search_init, a_Search_enter := f_Search_enter, fd_Search_enter := PySem.W.fnOf "enter" "Search.enter" (defArgs s_Search_enter) (defBody s_Search_enter) (defScope s_Search_enter) .none kV_Search_enter dc_Search_enter pm_Search_enter an_Search_enter cd_Search_enter ct_Search_enter, a_Search_run := f_Search_run, fd_Search_run := PySem.W.fnOf "run" "Search.run" (defArgs s_Search_run) (defBody s_Search_run) (defScope s_Search_run) .none kV_Search_run dc_Search_run pm_Search_run an_Search_run cd_Search_run ct_Search_run, a_Search_leave := f_Search_leave, fd_Search_leave := PySem.W.fnOf "leave" "Search.leave" (defArgs s_Search_leave) (defBody s_Search_leave) (defScope s_Search_leave) .none kV_Search_leave dc_Search_leave pm_Search_leave an_Search_leave cd_Search_leave ct_Search_leave, a_components := f_components, fd_components := PySem.W.fnOf "components" "components" (defArgs s_components) (defBody s_components) (defScope s_components) .none kV_components dc_components pm_components an_components cd_components ct_components, a_on_cycles := f_on_cycles, fd_on_cycles := PySem.W.fnOf "on_cycles" "on_cycles" (defArgs s_on_cycles) (defBody s_on_cycles) (defScope s_on_cycles) .none kV_on_cycles dc_on_cycles pm_on_cycles an_on_cycles cd_on_cycles ct_on_cycles, a_Places_init := f_Places_init, fd_Places_init := PySem.W.fnOf "__init__" "Places.__init__" (defArgs s_Places_init) (defBody s_Places_init) (defScope s_Places_init) .none kV_Places_init dc_Places_init pm_Places_init an_Places_init cd_Places_init ct_Places_init, a_Places_number_of := f_Places_number_of, fd_Places_number_of := PySem.W.fnOf "number_of" "Places.number_of" (defArgs s_Places_number_of) (defBody s_Places_number_of) (defScope s_Places_number_of) .none kV_Places_number_of dc_Places_number_of pm_Places_number_of an_Places_number_of cd_Places_number_of ct_Places_number_of, a_Places_waits := f_Places_waits, fd_Places_waits := PySem.W.fnOf "waits" "Places.waits" (defArgs s_Places_waits) (defBody s_Places_waits) (defScope s_Places_waits) .none kV_Places_waits dc_Places_waits pm_Places_waits an_Places_waits cd_Places_waits ct_Places_waits, a_Places_first_without := f_Places_first_without, fd_Places_first_without := PySem.W.fnOf "first_without" "Places.first_without" (defArgs s_Places_first_without) (defBody s_Places_first_without) (defScope s_Places_first_without) .none kV_Places_first_without dc_Places_first_without pm_Places_first_without an_Places_first_without cd_Places_first_without ct_Places_first_without, a_ascends := f_ascends, fd_ascends := PySem.W.fnOf "ascends" "ascends" (defArgs s_ascends) (defBody s_ascends) (defScope s_ascends) .none kV_ascends dc_ascends pm_ascends an_ascends cd_ascends ct_ascends, a_check_letters := f_check_letters, fd_check_letters := PySem.W.fnOf "check_letters" "check_letters" (defArgs s_check_letters) (defBody s_check_letters) (defScope s_check_letters) .none kV_check_letters dc_check_letters pm_check_letters an_check_letters cd_check_letters ct_check_letters, a_Automaton_init := f_Automaton_init, fd_Automaton_init := PySem.W.fnOf "__init__" "Automaton.__init__" (defArgs s_Automaton_init) (defBody s_Automaton_init) (defScope s_Automaton_init) .none kV_Automaton_init dc_Automaton_init pm_Automaton_init an_Automaton_init cd_Automaton_init ct_Automaton_init, a_flags := f_flags, fd_flags := PySem.W.fnOf "flags" "flags" (defArgs s_flags) (defBody s_flags) (defScope s_flags) .none kV_flags dc_flags pm_flags an_flags cd_flags ct_flags, a_accepts := f_accepts, fd_accepts := PySem.W.fnOf "accepts" "accepts" (defArgs s_accepts) (defBody s_accepts) (defScope s_accepts) .none kV_accepts dc_accepts pm_accepts an_accepts cd_accepts ct_accepts, a_runs := f_runs, fd_runs := PySem.W.fnOf "runs" "runs" (defArgs s_runs) (defBody s_runs) (defScope s_runs) .none kV_runs dc_runs pm_runs an_runs cd_runs ct_runs, a__law_draws := f__law_draws, fd__law_draws := PySem.W.fnOf "_law_draws" "_law_draws" (defArgs s__law_draws) (defBody s__law_draws) (defScope s__law_draws) .none kV__law_draws dc__law_draws pm__law_draws an__law_draws cd__law_draws ct__law_draws, a__law_take := f__law_take, fd__law_take := PySem.W.fnOf "_law_take" "_law_take" (defArgs s__law_take) (defBody s__law_take) (defScope s__law_take) .none kV__law_take dc__law_take pm__law_take an__law_take cd__law_take ct__law_take, a__law_lasso := f__law_lasso, fd__law_lasso := PySem.W.fnOf "_law_lasso" "_law_lasso" (defArgs s__law_lasso) (defBody s__law_lasso) (defScope s__law_lasso) .none kV__law_lasso dc__law_lasso pm__law_lasso an__law_lasso cd__law_lasso ct__law_lasso, a__law_lives := f__law_lives, fd__law_lives := PySem.W.fnOf "_law_lives" "_law_lives" (defArgs s__law_lives) (defBody s__law_lives) (defScope s__law_lives) .none kV__law_lives dc__law_lives pm__law_lives an__law_lives cd__law_lives ct__law_lives, a__law_ascending := f__law_ascending, fd__law_ascending := PySem.W.fnOf "_law_ascending" "_law_ascending" (defArgs s__law_ascending) (defBody s__law_ascending) (defScope s__law_ascending) .none kV__law_ascending dc__law_ascending pm__law_ascending an__law_ascending cd__law_ascending ct__law_ascending, a__law_automaton := f__law_automaton, fd__law_automaton := PySem.W.fnOf "_law_automaton" "_law_automaton" (defArgs s__law_automaton) (defBody s__law_automaton) (defScope s__law_automaton) .none kV__law_automaton dc__law_automaton pm__law_automaton an__law_automaton cd__law_automaton ct__law_automaton, a__law_copy := f__law_copy, fd__law_copy := PySem.W.fnOf "_law_copy" "_law_copy" (defArgs s__law_copy) (defBody s__law_copy) (defScope s__law_copy) .none kV__law_copy dc__law_copy pm__law_copy an__law_copy cd__law_copy ct__law_copy, a__law_accepts := f__law_accepts, fd__law_accepts := PySem.W.fnOf "_law_accepts" "_law_accepts" (defArgs s__law_accepts) (defBody s__law_accepts) (defScope s__law_accepts) .none kV__law_accepts dc__law_accepts pm__law_accepts an__law_accepts cd__law_accepts ct__law_accepts, a__law_outcome := f__law_outcome, fd__law_outcome := PySem.W.fnOf "_law_outcome" "_law_outcome" (defArgs s__law_outcome) (defBody s__law_outcome) (defScope s__law_outcome) .none kV__law_outcome dc__law_outcome pm__law_outcome an__law_outcome cd__law_outcome ct__law_outcome, a_law := f_law, fd_law := PySem.W.fnOf "law" "law" (defArgs s_law) (defBody s_law) (defScope s_law) .none kV_law dc_law pm_law an_law cd_law ct_law, C_SynthError := C_SynthError, C_InvalidLetter := C_InvalidLetter, C_InvalidAutomaton := C_InvalidAutomaton, C_Search := C_Search, C_Places := C_Places, C_Automaton := C_Automaton : Ads } := {
    cl_Search := ⟨hpg_Search, hhd_Search, hpo_Search, hsa_Search⟩,
    na_Search_edges := hna_Search_edges,
    na_Search_entered := hna_Search_entered,
    na_Search_low := hna_Search_low,
    na_Search_component := hna_Search_component,
    na_Search_total := hna_Search_total,
    na_Search_clock := hna_Search_clock,
    na_Search_path := hna_Search_path,
    na_Search_open_nodes := hna_Search_open_nodes,
    ty_Search := fun e => .base (.ins e ⟨hpg_Search, hhd_Search, hpo_Search, hsa_Search⟩ ht1_Search ht2 ht3 ht4_Search),
    cl_Places := ⟨hpg_Places, hhd_Places, hpo_Places, hsa_Places⟩,
    na_Places_order := hna_Places_order,
    na_Places_numbers := hna_Places_numbers,
    ty_Places := fun e => .base (.ins e ⟨hpg_Places, hhd_Places, hpo_Places, hsa_Places⟩ ht1_Places ht2 ht3 ht4_Places),
    cl_Automaton := ⟨hpg_Automaton, hhd_Automaton, hpo_Automaton, hsa_Automaton⟩,
    na_Automaton_letters := hna_Automaton_letters,
    na_Automaton_initial := hna_Automaton_initial,
    na_Automaton_accepting := hna_Automaton_accepting,
    na_Automaton_rows := hna_Automaton_rows,
    ty_Automaton := fun e => .base (.ins e ⟨hpg_Automaton, hhd_Automaton, hpo_Automaton, hsa_Automaton⟩ ht1_Automaton ht2 ht3 ht4_Automaton),
    em_InvalidAutomaton_InvalidLetter := PySem.W.exm_ref hs_InvalidLetter hhd_InvalidLetter ht_InvalidLetter he_InvalidAutomaton_InvalidLetter,
    em_InvalidLetter_InvalidLetter := PySem.W.exm_ref hs_InvalidLetter hhd_InvalidLetter ht_InvalidLetter he_InvalidLetter_InvalidLetter }
  have F_Search_init := fun_mk (st := s_Search_init) hl_Search_init hc_Search_init hk_Search_init
  have F_Search_enter := fun_mk (st := s_Search_enter) hl_Search_enter hc_Search_enter hk_Search_enter
  have F_Search_run := fun_mk (st := s_Search_run) hl_Search_run hc_Search_run hk_Search_run
  have F_Search_leave := fun_mk (st := s_Search_leave) hl_Search_leave hc_Search_leave hk_Search_leave
  have F_components := fun_mk (st := s_components) hl_components hc_components hk_components
  have F_on_cycles := fun_mk (st := s_on_cycles) hl_on_cycles hc_on_cycles hk_on_cycles
  have F_Places_init := fun_mk (st := s_Places_init) hl_Places_init hc_Places_init hk_Places_init
  have F_Places_number_of := fun_mk (st := s_Places_number_of) hl_Places_number_of hc_Places_number_of hk_Places_number_of
  have F_Places_waits := fun_mk (st := s_Places_waits) hl_Places_waits hc_Places_waits hk_Places_waits
  have F_Places_first_without := fun_mk (st := s_Places_first_without) hl_Places_first_without hc_Places_first_without hk_Places_first_without
  have F_ascends := fun_mk (st := s_ascends) hl_ascends hc_ascends hk_ascends
  have F_check_letters := fun_mk (st := s_check_letters) hl_check_letters hc_check_letters hk_check_letters
  have F_Automaton_init := fun_mk (st := s_Automaton_init) hl_Automaton_init hc_Automaton_init hk_Automaton_init
  have F_flags := fun_mk (st := s_flags) hl_flags hc_flags hk_flags
  have F_accepts := fun_mk (st := s_accepts) hl_accepts hc_accepts hk_accepts
  have F_runs := fun_mk (st := s_runs) hl_runs hc_runs hk_runs
  have F__law_draws := fun_mk (st := s__law_draws) hl__law_draws hc__law_draws hk__law_draws
  have F__law_take := fun_mk (st := s__law_take) hl__law_take hc__law_take hk__law_take
  have F__law_lasso := fun_mk (st := s__law_lasso) hl__law_lasso hc__law_lasso hk__law_lasso
  have F__law_lives := fun_mk (st := s__law_lives) hl__law_lives hc__law_lives hk__law_lives
  have F__law_ascending := fun_mk (st := s__law_ascending) hl__law_ascending hc__law_ascending hk__law_ascending
  have F__law_automaton := fun_mk (st := s__law_automaton) hl__law_automaton hc__law_automaton hk__law_automaton
  have F__law_copy := fun_mk (st := s__law_copy) hl__law_copy hc__law_copy hk__law_copy
  have F__law_accepts := fun_mk (st := s__law_accepts) hl__law_accepts hc__law_accepts hk__law_accepts
  have F__law_outcome := fun_mk (st := s__law_outcome) hl__law_outcome hc__law_outcome hk__law_outcome
  have F_law := fun_mk (st := s_law) hl_law hc_law hk_law
  have T : Txt K mg _ := {
    cl := C,
    F_Search_init := F_Search_init,
    b_Search_init := F_Search_init.binds (ps := ["self", "edges"]) fun _ _ _ _ _ _ us hl => match us, hl with | [_, _], _ => rfl,
    mt_Search_init := ⟨ha_Search_init, hi_Search_init, hk_Search_init⟩,
    F_Search_enter := F_Search_enter,
    b_Search_enter := F_Search_enter.binds (ps := ["self", "node"]) fun _ _ _ _ _ _ us hl => match us, hl with | [_, _], _ => rfl,
    mt_Search_enter := ⟨ha_Search_enter, hi_Search_enter, hk_Search_enter⟩,
    F_Search_run := F_Search_run,
    b_Search_run := F_Search_run.binds (ps := ["self", "root"]) fun _ _ _ _ _ _ us hl => match us, hl with | [_, _], _ => rfl,
    mt_Search_run := ⟨ha_Search_run, hi_Search_run, hk_Search_run⟩,
    F_Search_leave := F_Search_leave,
    b_Search_leave := F_Search_leave.binds (ps := ["self", "node"]) fun _ _ _ _ _ _ us hl => match us, hl with | [_, _], _ => rfl,
    mt_Search_leave := ⟨ha_Search_leave, hi_Search_leave, hk_Search_leave⟩,
    F_components := F_components,
    b_components := F_components.binds (ps := ["edges"]) fun _ _ _ _ _ _ us hl => match us, hl with | [_], _ => rfl,
    g_components := PySem.W.mg_of X G ha_components,
    k_components := hk_components,
    F_on_cycles := F_on_cycles,
    b_on_cycles := F_on_cycles.binds (ps := ["edges"]) fun _ _ _ _ _ _ us hl => match us, hl with | [_], _ => rfl,
    g_on_cycles := PySem.W.mg_of X G ha_on_cycles,
    k_on_cycles := hk_on_cycles,
    F_Places_init := F_Places_init,
    b_Places_init := F_Places_init.binds (ps := ["self"]) fun _ _ _ _ _ _ us hl => match us, hl with | [_], _ => rfl,
    mt_Places_init := ⟨ha_Places_init, hi_Places_init, hk_Places_init⟩,
    F_Places_number_of := F_Places_number_of,
    b_Places_number_of := F_Places_number_of.binds (ps := ["self", "place"]) fun _ _ _ _ _ _ us hl => match us, hl with | [_, _], _ => rfl,
    mt_Places_number_of := ⟨ha_Places_number_of, hi_Places_number_of, hk_Places_number_of⟩,
    F_Places_waits := F_Places_waits,
    b_Places_waits := F_Places_waits.binds (ps := ["self", "rows"]) fun _ _ _ _ _ _ us hl => match us, hl with | [_, _], _ => rfl,
    mt_Places_waits := ⟨ha_Places_waits, hi_Places_waits, hk_Places_waits⟩,
    F_Places_first_without := F_Places_first_without,
    b_Places_first_without := F_Places_first_without.binds (ps := ["self", "rows"]) fun _ _ _ _ _ _ us hl => match us, hl with | [_, _], _ => rfl,
    mt_Places_first_without := ⟨ha_Places_first_without, hi_Places_first_without, hk_Places_first_without⟩,
    F_ascends := F_ascends,
    b_ascends := F_ascends.binds (ps := ["numbers", "count"]) fun _ _ _ _ _ _ us hl => match us, hl with | [_, _], _ => rfl,
    g_ascends := PySem.W.mg_of X G ha_ascends,
    k_ascends := hk_ascends,
    F_check_letters := F_check_letters,
    b_check_letters := F_check_letters.binds (ps := ["lasso", "letters"]) fun _ _ _ _ _ _ us hl => match us, hl with | [_, _], _ => rfl,
    g_check_letters := PySem.W.mg_of X G ha_check_letters,
    k_check_letters := hk_check_letters,
    F_Automaton_init := F_Automaton_init,
    b_Automaton_init := F_Automaton_init.binds (ps := ["self", "letters", "initial", "accepting", "rows"]) fun _ _ _ _ _ _ us hl => match us, hl with | [_, _, _, _, _], _ => rfl,
    mt_Automaton_init := ⟨ha_Automaton_init, hi_Automaton_init, hk_Automaton_init⟩,
    F_flags := F_flags,
    b_flags := F_flags.binds (ps := ["states", "count"]) fun _ _ _ _ _ _ us hl => match us, hl with | [_, _], _ => rfl,
    g_flags := PySem.W.mg_of X G ha_flags,
    k_flags := hk_flags,
    F_accepts := F_accepts,
    b_accepts := F_accepts.binds (ps := ["automaton", "lasso"]) fun _ _ _ _ _ _ us hl => match us, hl with | [_, _], _ => rfl,
    g_accepts := PySem.W.mg_of X G ha_accepts,
    k_accepts := hk_accepts,
    F_runs := F_runs,
    b_runs := F_runs.binds (ps := ["automaton", "lasso"]) fun _ _ _ _ _ _ us hl => match us, hl with | [_, _], _ => rfl,
    g_runs := PySem.W.mg_of X G ha_runs,
    k_runs := hk_runs,
    F__law_draws := F__law_draws,
    b__law_draws := F__law_draws.binds (ps := ["script", "count"]) fun _ _ _ _ _ _ us hl => match us, hl with | [_, _], _ => rfl,
    g__law_draws := PySem.W.mg_of X G ha__law_draws,
    k__law_draws := hk__law_draws,
    F__law_take := F__law_take,
    b__law_take := F__law_take.binds (ps := ["draws", "limit"]) fun _ _ _ _ _ _ us hl => match us, hl with | [_, _], _ => rfl,
    g__law_take := PySem.W.mg_of X G ha__law_take,
    k__law_take := hk__law_take,
    F__law_lasso := F__law_lasso,
    b__law_lasso := F__law_lasso.binds (ps := ["draws", "letters", "longest"]) fun _ _ _ _ _ _ us hl => match us, hl with | [_, _, _], _ => rfl,
    g__law_lasso := PySem.W.mg_of X G ha__law_lasso,
    k__law_lasso := hk__law_lasso,
    F__law_lives := F__law_lives,
    b__law_lives := F__law_lives.binds (ps := ["moves", "goods", "starts"]) fun _ _ _ _ _ _ us hl => match us, hl with | [_, _, _], _ => rfl,
    g__law_lives := PySem.W.mg_of X G ha__law_lives,
    k__law_lives := hk__law_lives,
    F__law_ascending := F__law_ascending,
    b__law_ascending := F__law_ascending.binds (ps := ["draws", "limit", "share"]) fun _ _ _ _ _ _ us hl => match us, hl with | [_, _, _], _ => rfl,
    g__law_ascending := PySem.W.mg_of X G ha__law_ascending,
    k__law_ascending := hk__law_ascending,
    F__law_automaton := F__law_automaton,
    b__law_automaton := F__law_automaton.binds (ps := ["draws", "letters", "most"]) fun _ _ _ _ _ _ us hl => match us, hl with | [_, _, _], _ => rfl,
    g__law_automaton := PySem.W.mg_of X G ha__law_automaton,
    k__law_automaton := hk__law_automaton,
    F__law_copy := F__law_copy,
    b__law_copy := F__law_copy.binds (ps := ["rows"]) fun _ _ _ _ _ _ us hl => match us, hl with | [_], _ => rfl,
    g__law_copy := PySem.W.mg_of X G ha__law_copy,
    k__law_copy := hk__law_copy,
    F__law_accepts := F__law_accepts,
    b__law_accepts := F__law_accepts.binds (ps := ["rows", "initial", "accepting", "lasso"]) fun _ _ _ _ _ _ us hl => match us, hl with | [_, _, _, _], _ => rfl,
    g__law_accepts := PySem.W.mg_of X G ha__law_accepts,
    k__law_accepts := hk__law_accepts,
    F__law_outcome := F__law_outcome,
    b__law_outcome := F__law_outcome.binds (ps := ["automaton", "lasso"]) fun _ _ _ _ _ _ us hl => match us, hl with | [_, _], _ => rfl,
    g__law_outcome := PySem.W.mg_of X G ha__law_outcome,
    k__law_outcome := hk__law_outcome,
    F_law := F_law,
    b_law := F_law.binds (ps := ["script"]) fun _ _ _ _ _ _ us hl => match us, hl with | [_], _ => rfl,
    g_law := PySem.W.mg_of X G ha_law,
    k_law := hk_law,
    g_Search := PySem.W.mg_of X G hn_Search,
    cl_Search := C.cl_Search,
    M_Search := ⟨hmk_Search, ha_Search_init, hi_Search_init, hkc_Search⟩,
    g_Places := PySem.W.mg_of X G hn_Places,
    cl_Places := C.cl_Places,
    M_Places := ⟨hmk_Places, ha_Places_init, hi_Places_init, hkc_Places⟩,
    g_Automaton := PySem.W.mg_of X G hn_Automaton,
    cl_Automaton := C.cl_Automaton,
    M_Automaton := ⟨hmk_Automaton, ha_Automaton_init, hi_Automaton_init, hkc_Automaton⟩,
    g_InvalidAutomaton := PySem.W.mg_of X G hn_InvalidAutomaton,
    g_InvalidLetter := PySem.W.mg_of X G hn_InvalidLetter,
    k_InvalidAutomaton := hk_InvalidAutomaton, x_InvalidAutomaton := hx_InvalidAutomaton, s_InvalidAutomaton := hs_InvalidAutomaton, t_InvalidAutomaton := ht_InvalidAutomaton,
    k_InvalidLetter := hk_InvalidLetter, x_InvalidLetter := hx_InvalidLetter, s_InvalidLetter := hs_InvalidLetter, t_InvalidLetter := ht_InvalidLetter,
    z_all := PySem.W.mg_none_of X G hz_all,
    z_bool := PySem.W.mg_none_of X G hz_bool,
    z_enumerate := PySem.W.mg_none_of X G hz_enumerate,
    z_int := PySem.W.mg_none_of X G hz_int,
    z_isinstance := PySem.W.mg_none_of X G hz_isinstance,
    z_len := PySem.W.mg_none_of X G hz_len,
    z_list := PySem.W.mg_none_of X G hz_list,
    z_max := PySem.W.mg_none_of X G hz_max,
    z_min := PySem.W.mg_none_of X G hz_min,
    z_range := PySem.W.mg_none_of X G hz_range,
    z_tuple := PySem.W.mg_none_of X G hz_tuple }
  exact ⟨PySem.W.fnOf "law" "law" (defArgs s_law) (defBody s_law) (defScope s_law) .none kV_law dc_law pm_law an_law cd_law ct_law, fun s v => .of_eq rfl, fun base _ _ => ok_law T⟩
theorem walk {l : PySem.W.OpenLaw} {q : Program} {loose : List Str} {XP : (Str → Option Value) → Heap → Prop} {YP : World → Heap → Prop} {d : DefRec} {K : Params → PySem.W.Frag} (hn : l.most = some 63) (hdf : d.params.defaults = [])
    (hY : ∀ (w : World) (h : Heap), YP w h → (K w.params).In h)
    (F : ∀ (w : World) (mg : Str → Option Value) (fa : Addr) (h : Heap), (K w.params).In h → h.Ns mainGlobals mg → mg d.name = some (.ref fa) →
      ∃ fd : FuncData, (∀ (s : Shared) (u : Value), BindsTo s fd ⟨[u], []⟩ [("script", u)]) ∧ ∀ base : Heap, (K w.params).In base → base.Ns mainGlobals mg → FnOk l.prog w (K w.params) mg base CX0 7 fa fd ["script"] (spL (K w.params))) :
    PySem.W.WalkO q loose XP YP l.row.toRowW d [] (fun f vs => PySem.call f vs) :=
  L2.walk_of (n := 63) (k := 7) (x := "script") (CX := fun _ => CX0) (sp := fun w => spL (K w.params)) hn (by decide) hdf ⟨rfl, by decide, by decide⟩ hY F (fun _ _ a ns hl _ hS => ⟨a, ns, rfl, hS, hl, fun _ => rfl⟩) fun _ _ _ _ _ z => z
end LW
open PySem PySem.W PyProof.Rows in
set_option maxRecDepth 100000 in
set_option maxHeartbeats 0 in
theorem PySem.Challenge.cw_promiseplay_k17_accepts_holds : PySem.Challenge.rw_promiseplay_k17_accepts.Holds := by
  w_on; o_law; k_head; (case hw => w_witness2)
  k_fill
  refine LW.walk (l := PySem.Challenge.rw_promiseplay_k17_accepts) rfl rfl (fun w h Y => PySem.W.kIn_of Y) ?F
  case F =>
    intro w mg fa h KX G hmg
    refine' LW.all_mk KX G hmg ?ha_Search_init ?hi_Search_init ?hl_Search_init ?hc_Search_init ?hk_Search_init ?ha_Search_enter ?hi_Search_enter ?hl_Search_enter ?hc_Search_enter ?hk_Search_enter ?ha_Search_run ?hi_Search_run ?hl_Search_run ?hc_Search_run ?hk_Search_run ?ha_Search_leave ?hi_Search_leave ?hl_Search_leave ?hc_Search_leave ?hk_Search_leave ?ha_components ?hl_components ?hc_components ?hk_components ?ha_on_cycles ?hl_on_cycles ?hc_on_cycles ?hk_on_cycles ?ha_Places_init ?hi_Places_init ?hl_Places_init ?hc_Places_init ?hk_Places_init ?ha_Places_number_of ?hi_Places_number_of ?hl_Places_number_of ?hc_Places_number_of ?hk_Places_number_of ?ha_Places_waits ?hi_Places_waits ?hl_Places_waits ?hc_Places_waits ?hk_Places_waits ?ha_Places_first_without ?hi_Places_first_without ?hl_Places_first_without ?hc_Places_first_without ?hk_Places_first_without ?ha_ascends ?hl_ascends ?hc_ascends ?hk_ascends ?ha_check_letters ?hl_check_letters ?hc_check_letters ?hk_check_letters ?ha_Automaton_init ?hi_Automaton_init ?hl_Automaton_init ?hc_Automaton_init ?hk_Automaton_init ?ha_flags ?hl_flags ?hc_flags ?hk_flags ?ha_accepts ?hl_accepts ?hc_accepts ?hk_accepts ?ha_runs ?hl_runs ?hc_runs ?hk_runs ?ha__law_draws ?hl__law_draws ?hc__law_draws ?hk__law_draws ?ha__law_take ?hl__law_take ?hc__law_take ?hk__law_take ?ha__law_lasso ?hl__law_lasso ?hc__law_lasso ?hk__law_lasso ?ha__law_lives ?hl__law_lives ?hc__law_lives ?hk__law_lives ?ha__law_ascending ?hl__law_ascending ?hc__law_ascending ?hk__law_ascending ?ha__law_automaton ?hl__law_automaton ?hc__law_automaton ?hk__law_automaton ?ha__law_copy ?hl__law_copy ?hc__law_copy ?hk__law_copy ?ha__law_accepts ?hl__law_accepts ?hc__law_accepts ?hk__law_accepts ?ha__law_outcome ?hl__law_outcome ?hc__law_outcome ?hk__law_outcome ?ha_law ?hl_law ?hc_law ?hk_law ?hn_SynthError ?hn_InvalidLetter ?hn_InvalidAutomaton ?hn_Search ?hpg_Search ?hhd_Search ?hpo_Search ?hsa_Search ?hmk_Search ?hkc_Search ?hna_Search_edges ?hna_Search_entered ?hna_Search_low ?hna_Search_component ?hna_Search_total ?hna_Search_clock ?hna_Search_path ?hna_Search_open_nodes ?ht1_Search ?ht4_Search ?hn_Places ?hpg_Places ?hhd_Places ?hpo_Places ?hsa_Places ?hmk_Places ?hkc_Places ?hna_Places_order ?hna_Places_numbers ?ht1_Places ?ht4_Places ?hn_Automaton ?hpg_Automaton ?hhd_Automaton ?hpo_Automaton ?hsa_Automaton ?hmk_Automaton ?hkc_Automaton ?hna_Automaton_letters ?hna_Automaton_initial ?hna_Automaton_accepting ?hna_Automaton_rows ?ht1_Automaton ?ht4_Automaton ?ht2 ?ht3 ?hk_InvalidAutomaton ?hx_InvalidAutomaton ?hk_InvalidLetter ?hx_InvalidLetter ?hs_InvalidAutomaton ?ht_InvalidAutomaton ?hs_InvalidLetter ?ht_InvalidLetter ?hhd_InvalidLetter ?he_InvalidAutomaton_InvalidLetter ?he_InvalidLetter_InvalidLetter ?hz_all ?hz_bool ?hz_enumerate ?hz_int ?hz_isinstance ?hz_len ?hz_list ?hz_max ?hz_min ?hz_range ?hz_tuple
    (case hn_SynthError => k_is)
    (case hn_InvalidLetter => k_is)
    (case hn_InvalidAutomaton => k_is)
    (case hn_Search => k_is)
    (case hn_Places => k_is)
    (case hn_Automaton => k_is)
    (case ha_Search_init => k_is)
    (case ha_Search_enter => k_is)
    (case ha_Search_run => k_is)
    (case ha_Search_leave => k_is)
    (case ha_components => k_is)
    (case ha_on_cycles => k_is)
    (case ha_Places_init => k_is)
    (case ha_Places_number_of => k_is)
    (case ha_Places_waits => k_is)
    (case ha_Places_first_without => k_is)
    (case ha_ascends => k_is)
    (case ha_check_letters => k_is)
    (case ha_Automaton_init => k_is)
    (case ha_flags => k_is)
    (case ha_accepts => k_is)
    (case ha_runs => k_is)
    (case ha__law_draws => k_is)
    (case ha__law_take => k_is)
    (case ha__law_lasso => k_is)
    (case ha__law_lives => k_is)
    (case ha__law_ascending => k_is)
    (case ha__law_automaton => k_is)
    (case ha__law_copy => k_is)
    (case ha__law_accepts => k_is)
    (case ha__law_outcome => k_is)
    (case ha_law => k_is)
    (case hl_Search_init => k_is)
    (case hl_Search_enter => k_is)
    (case hl_Search_run => k_is)
    (case hl_Search_leave => k_is)
    (case hl_components => k_is)
    (case hl_on_cycles => k_is)
    (case hl_Places_init => k_is)
    (case hl_Places_number_of => k_is)
    (case hl_Places_waits => k_is)
    (case hl_Places_first_without => k_is)
    (case hl_ascends => k_is)
    (case hl_check_letters => k_is)
    (case hl_Automaton_init => k_is)
    (case hl_flags => k_is)
    (case hl_accepts => k_is)
    (case hl_runs => k_is)
    (case hl__law_draws => k_is)
    (case hl__law_take => k_is)
    (case hl__law_lasso => k_is)
    (case hl__law_lives => k_is)
    (case hl__law_ascending => k_is)
    (case hl__law_automaton => k_is)
    (case hl__law_copy => k_is)
    (case hl__law_accepts => k_is)
    (case hl__law_outcome => k_is)
    (case hl_law => k_is)
    (case hi_Search_init => k_is)
    (case hc_Search_init => k_is)
    (case hk_Search_init => k_is)
    (case hi_Search_enter => k_is)
    (case hc_Search_enter => k_is)
    (case hk_Search_enter => k_is)
    (case hi_Search_run => k_is)
    (case hc_Search_run => k_is)
    (case hk_Search_run => k_is)
    (case hi_Search_leave => k_is)
    (case hc_Search_leave => k_is)
    (case hk_Search_leave => k_is)
    (case hc_components => k_is)
    (case hk_components => k_is)
    (case hc_on_cycles => k_is)
    (case hk_on_cycles => k_is)
    (case hi_Places_init => k_is)
    (case hc_Places_init => k_is)
    (case hk_Places_init => k_is)
    (case hi_Places_number_of => k_is)
    (case hc_Places_number_of => k_is)
    (case hk_Places_number_of => k_is)
    (case hi_Places_waits => k_is)
    (case hc_Places_waits => k_is)
    (case hk_Places_waits => k_is)
    (case hi_Places_first_without => k_is)
    (case hc_Places_first_without => k_is)
    (case hk_Places_first_without => k_is)
    (case hc_ascends => k_is)
    (case hk_ascends => k_is)
    (case hc_check_letters => k_is)
    (case hk_check_letters => k_is)
    (case hi_Automaton_init => k_is)
    (case hc_Automaton_init => k_is)
    (case hk_Automaton_init => k_is)
    (case hc_flags => k_is)
    (case hk_flags => k_is)
    (case hc_accepts => k_is)
    (case hk_accepts => k_is)
    (case hc_runs => k_is)
    (case hk_runs => k_is)
    (case hc__law_draws => k_is)
    (case hk__law_draws => k_is)
    (case hc__law_take => k_is)
    (case hk__law_take => k_is)
    (case hc__law_lasso => k_is)
    (case hk__law_lasso => k_is)
    (case hc__law_lives => k_is)
    (case hk__law_lives => k_is)
    (case hc__law_ascending => k_is)
    (case hk__law_ascending => k_is)
    (case hc__law_automaton => k_is)
    (case hk__law_automaton => k_is)
    (case hc__law_copy => k_is)
    (case hk__law_copy => k_is)
    (case hc__law_accepts => k_is)
    (case hk__law_accepts => k_is)
    (case hc__law_outcome => k_is)
    (case hk__law_outcome => k_is)
    (case hc_law => k_is)
    (case hk_law => k_is)
    (case hpg_Search => k_is)
    (case hhd_Search => k_is)
    (case hpo_Search => k_is)
    (case hsa_Search => k_is)
    (case hmk_Search => k_is)
    (case hkc_Search => k_is)
    (case hna_Search_edges => k_is)
    (case hna_Search_entered => k_is)
    (case hna_Search_low => k_is)
    (case hna_Search_component => k_is)
    (case hna_Search_total => k_is)
    (case hna_Search_clock => k_is)
    (case hna_Search_path => k_is)
    (case hna_Search_open_nodes => k_is)
    (case ht1_Search => k_is)
    (case ht4_Search => k_is)
    (case hpg_Places => k_is)
    (case hhd_Places => k_is)
    (case hpo_Places => k_is)
    (case hsa_Places => k_is)
    (case hmk_Places => k_is)
    (case hkc_Places => k_is)
    (case hna_Places_order => k_is)
    (case hna_Places_numbers => k_is)
    (case ht1_Places => k_is)
    (case ht4_Places => k_is)
    (case hpg_Automaton => k_is)
    (case hhd_Automaton => k_is)
    (case hpo_Automaton => k_is)
    (case hsa_Automaton => k_is)
    (case hmk_Automaton => k_is)
    (case hkc_Automaton => k_is)
    (case hna_Automaton_letters => k_is)
    (case hna_Automaton_initial => k_is)
    (case hna_Automaton_accepting => k_is)
    (case hna_Automaton_rows => k_is)
    (case ht1_Automaton => k_is)
    (case ht4_Automaton => k_is)
    (case ht2 => k_is)
    (case ht3 => k_is)
    (case hk_InvalidAutomaton => k_is)
    (case hx_InvalidAutomaton => k_exc)
    (case hk_InvalidLetter => k_is)
    (case hx_InvalidLetter => k_exc)
    (case hs_InvalidAutomaton => k_is)
    (case ht_InvalidAutomaton => k_is)
    (case hs_InvalidLetter => k_is)
    (case ht_InvalidLetter => k_is)
    (case hhd_InvalidLetter => k_is)
    (case he_InvalidAutomaton_InvalidLetter => first | rfl | k_is)
    (case he_InvalidLetter_InvalidLetter => first | rfl | k_is)
    (case hz_all => k_is)
    (case hz_bool => k_is)
    (case hz_enumerate => k_is)
    (case hz_int => k_is)
    (case hz_isinstance => k_is)
    (case hz_len => k_is)
    (case hz_list => k_is)
    (case hz_max => k_is)
    (case hz_min => k_is)
    (case hz_range => k_is)
    (case hz_tuple => k_is)
