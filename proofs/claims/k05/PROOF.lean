import PyProof.Rows.All
import Wide.All
import OpenK.AllK
import Wide.FinOn
import HandS.ForMost
import HandS.ForExc
import HandS.Evl
import HandS.Steps
import HandS.Wide
import HandS.Walk
import HandS.Gcd
import HandS.IsInst
import HandS.ExcInit
import HandS.ExcField
import HandS.ExcIs
import KE.KExcIs
import HandS.TryMany
import HandS.Small
import PySem.Challenge.RW_meanhold_k05_gains_of_plays
set_option Elab.async false
set_option maxRecDepth 100000
set_option maxHeartbeats 2000000
/-! Data in the abstract heap: lists that are tracked, tuples; what an expression evaluates to, told as data. -/
namespace Md
open PySem L2 Evl

mutual
/-- the value v is the datum d: lists are tracked, tuples stand -/
inductive Dt (K : PySem.W.Frag) (H : Hp) : V → PyData → Prop
  | none : Dt K H V.non PyData.none
  | bool (b : Bool) : Dt K H (V.bl b) (PyData.bool b)
  | int (i : Int) : Dt K H (V.int i) (PyData.int i)
  | str (x : Str) : Dt K H (V.str x) (PyData.str x)
  | list {a : Addr} {xs : List V} {ds : List PyData} : H a = some (HO.lst xs) → DtA K H xs ds → Dt K H (V.ref a) (PyData.list ds)
  | tuple {a : Addr} {xs : List V} {ds : List PyData} : SqT K H a xs → DtA K H xs ds → Dt K H (V.ref a) (PyData.tuple ds)
inductive DtA (K : PySem.W.Frag) (H : Hp) : List V → List PyData → Prop
  | nil : DtA K H [] []
  | cons {v : V} {vs : List V} {d : PyData} {ds : List PyData} : Dt K H v d → DtA K H vs ds → DtA K H (v :: vs) (d :: ds)
end

section
variable {K : PySem.W.Frag} {H H' : Hp}
mutual
theorem Dt.mono (e : Ex H H') : ∀ (d : PyData) (v : V), Dt K H v d → Dt K H' v d
  | .none, _, h => by cases h; exact Dt.none
  | .bool b, _, h => by cases h; exact Dt.bool b
  | .int i, _, h => by cases h; exact Dt.int i
  | .str x, _, h => by cases h; exact Dt.str x
  | .list ds, _, h => by
    cases h with
    | list h1 h2 => exact Dt.list (e _ _ h1) (DtA.mono e ds _ h2)
  | .tuple ds, _, h => by
    cases h with
    | tuple h1 h2 => exact Dt.tuple (ex_t e h1) (DtA.mono e ds _ h2)
  | .dict _, _, h => by cases h
theorem DtA.mono (e : Ex H H') : ∀ (ds : List PyData) (vs : List V), DtA K H vs ds → DtA K H' vs ds
  | [], _, h => by cases h; exact DtA.nil
  | d :: ds, _, h => by
    cases h with
    | cons h1 h2 => exact DtA.cons (Dt.mono e d _ h1) (DtA.mono e ds _ h2)
end
theorem Dt.up {v : V} {d : PyData} (h : Dt K H v d) (e : Ex H H') : Dt K H' v d := Dt.mono e d v h
theorem DtA.up {vs : List V} {ds : List PyData} (h : DtA K H vs ds) (e : Ex H H') : DtA K H' vs ds := DtA.mono e ds vs h
mutual
theorem Dt.dp : ∀ (d : PyData) (v : V), Dt K H v d → Dp K H v d
  | .none, _, h => by cases h; exact Dp.non
  | .bool b, _, h => by cases h; exact Dp.bl b
  | .int i, _, h => by cases h; exact Dp.int i
  | .str x, _, h => by cases h; exact Dp.str x
  | .list ds, _, h => by
    cases h with
    | list h1 h2 => exact Dp.lst (SqL.of h1) (DtA.dp ds _ h2)
  | .tuple ds, _, h => by
    cases h with
    | tuple h1 h2 => exact Dp.tup h1 (DtA.dp ds _ h2)
  | .dict _, _, h => by cases h
theorem DtA.dp : ∀ (ds : List PyData) (vs : List V), DtA K H vs ds → DpAll K H vs ds
  | [], _, h => by cases h; exact DpAll.nil
  | d :: ds, _, h => by
    cases h with
    | cons h1 h2 => exact DpAll.cons (Dt.dp d _ h1) (DtA.dp ds _ h2)
end
theorem DtA.length : ∀ {ds : List PyData} {vs : List V}, DtA K H vs ds → vs.length = ds.length
  | [], _, h => by cases h; rfl
  | _ :: ds, _, h => by
    cases h with
    | cons _ h2 => exact congrArg Nat.succ (DtA.length h2)
theorem DtA.get : ∀ {ds : List PyData} {vs : List V} {i : Nat} {d : PyData}, DtA K H vs ds → ds[i]? = some d → ∃ v, vs[i]? = some v ∧ Dt K H v d
  | [], _, _, _, _, e => by simp at e
  | d :: ds, _, 0, _, h, e => by
    cases h with
    | cons h1 _ =>
      simp only [List.getElem?_cons_zero, Option.some.injEq] at e
      subst e
      exact ⟨_, rfl, h1⟩
  | _ :: ds, _, i + 1, _, h, e => by
    cases h with
    | cons _ h2 =>
      simp only [List.getElem?_cons_succ] at e
      obtain ⟨v, e1, h3⟩ := DtA.get h2 e
      exact ⟨v, by simpa using e1, h3⟩
theorem DtA.getV : ∀ {ds : List PyData} {vs : List V} {i : Nat} {v : V}, DtA K H vs ds → vs[i]? = some v → ∃ d, ds[i]? = some d ∧ Dt K H v d
  | [], _, _, _, h, e => by cases h; simp at e
  | d :: ds, _, 0, _, h, e => by
    cases h with
    | cons h1 _ =>
      simp only [List.getElem?_cons_zero, Option.some.injEq] at e
      subst e
      exact ⟨_, rfl, h1⟩
  | _ :: ds, _, i + 1, _, h, e => by
    cases h with
    | cons _ h2 =>
      simp only [List.getElem?_cons_succ] at e
      obtain ⟨d, e1, h3⟩ := DtA.getV h2 e
      exact ⟨d, by simpa using e1, h3⟩
theorem DtA.atI {ds : List PyData} {vs : List V} {i : Int} {d : PyData} (h : DtA K H vs ds) (e : L2.atI ds i = some d) : ∃ v, L2.atI vs i = some v ∧ Dt K H v d := by
  unfold L2.atI at e ⊢
  rw [h.length]
  cases q : ixN ds.length i with
  | none => rw [q] at e; cases e
  | some j =>
    rw [q] at e
    exact h.get e
theorem DtA.append : ∀ {ds es : List PyData} {vs us : List V}, DtA K H vs ds → DtA K H us es → DtA K H (vs ++ us) (ds ++ es)
  | [], _, _, _, h, g => by cases h; exact g
  | _ :: ds, _, _, _, h, g => by
    cases h with
    | cons h1 h2 => exact DtA.cons h1 (DtA.append h2 g)
theorem DtA.take : ∀ {ds : List PyData} {vs : List V} (n : Nat), DtA K H vs ds → DtA K H (vs.take n) (ds.take n)
  | _, _, 0, _ => DtA.nil
  | [], _, n + 1, h => by cases h; exact DtA.nil
  | _ :: ds, _, n + 1, h => by
    cases h with
    | cons h1 h2 => exact DtA.cons h1 (DtA.take n h2)
theorem DtA.drop : ∀ {ds : List PyData} {vs : List V} (n : Nat), DtA K H vs ds → DtA K H (vs.drop n) (ds.drop n)
  | _, _, 0, h => h
  | [], _, n + 1, h => by cases h; exact DtA.nil
  | _ :: ds, _, n + 1, h => by
    cases h with
    | cons _ h2 => exact DtA.drop n h2
theorem DtA.one {v : V} {d : PyData} (h : Dt K H v d) : DtA K H [v] [d] := DtA.cons h DtA.nil
theorem DtA.ints : ∀ ns : List Int, DtA K H (ns.map V.int) (ns.map PyData.int)
  | [] => DtA.nil
  | n :: ns => DtA.cons (Dt.int n) (DtA.ints ns)
def cutD (ds : List PyData) (lo hi : Option Int) : List PyData := (ds.drop (HT.sIx ds.length 0 lo)).take (HT.sIx ds.length ds.length hi - HT.sIx ds.length 0 lo)
theorem DtA.cut {ds : List PyData} {vs : List V} (h : DtA K H vs ds) (lo hi : Option Int) : DtA K H (cutV vs lo hi) (cutD ds lo hi) := by
  unfold cutV cutD
  rw [h.length]
  exact (h.drop _).take _
theorem Dt.listI {v : V} {ds : List PyData} (h : Dt K H v (.list ds)) : ∃ a xs, v = V.ref a ∧ H a = some (HO.lst xs) ∧ DtA K H xs ds := by
  cases h with
  | list h1 h2 => exact ⟨_, _, rfl, h1, h2⟩
theorem Dt.tupleI {v : V} {ds : List PyData} (h : Dt K H v (.tuple ds)) : ∃ a xs, v = V.ref a ∧ SqT K H a xs ∧ DtA K H xs ds := by
  cases h with
  | tuple h1 h2 => exact ⟨_, _, rfl, h1, h2⟩
theorem Dt.intI {v : V} {i : Int} (h : Dt K H v (.int i)) : v = V.int i := by cases h; rfl
theorem Dt.strI {v : V} {x : Str} (h : Dt K H v (.str x)) : v = V.str x := by cases h; rfl
theorem Dt.boolI {v : V} {b : Bool} (h : Dt K H v (.bool b)) : v = V.bl b := by cases h; rfl
theorem Dt.noneI {v : V} (h : Dt K H v .none) : v = V.non := by cases h; rfl
end

/-! ### what an expression evaluates to, as data. b: the part of the heap h that is spoken of -/
structure Gr (b h b' h' : Hp) : Prop where
  gb : Ex b b'
  gh : Ex h h'
  gi : Ex b' h'
  gf : ∀ a, b a = none → h a ≠ none → b' a = none
theorem Gr.refl {b h : Hp} (e : Ex b h) : Gr b h b h := ⟨Ex.refl b, Ex.refl h, e, fun _ q _ => q⟩
theorem Gr.trans {b h b1 h1 b2 h2 : Hp} (x : Gr b h b1 h1) (y : Gr b1 h1 b2 h2) : Gr b h b2 h2 := ⟨x.gb.trans y.gb, x.gh.trans y.gh, y.gi, fun a q n => y.gf a (x.gf a q n) fun z => by
  cases e : h a with
  | none => exact n e
  | some o =>
    rw [x.gh a o e] at z
    cases z⟩
theorem Gr.stay {b h h' : Hp} (e : Ex b h) (e' : Ex h h') : Gr b h b h' := ⟨Ex.refl b, e', e.trans e', fun _ q _ => q⟩
/-- a new object, spoken of -/
theorem Gr.new {b h : Hp} {p : Addr} {o : HO} (e : Ex b h) (n : h p = none) : Gr b h (upd b p o) (upd h p o) := by
  have nb : b p = none := by
    cases q : b p with
    | none => rfl
    | some u =>
      rw [e p u q] at n
      cases n
  refine ⟨Ex.new nb, Ex.new n, fun a u q => ?_, fun a q z => ?_⟩
  · by_cases ha : a = p
    · subst ha
      rw [upd_same] at q ⊢
      exact q
    · rw [upd_ne ha] at q ⊢
      exact e a u q
  · rw [upd_ne (fun ha => z (by rw [ha]; exact n))]
    exact q
/-- a new object, not spoken of (a list that will change) -/
theorem Gr.hid {b h : Hp} {p : Addr} {o : HO} (e : Ex b h) (n : h p = none) : Gr b h b (upd h p o) := Gr.stay e (Ex.new n)
/-- what is not spoken of is changed: it was not there at the start -/
theorem Gr.mut {b0 h0 b h : Hp} {p : Addr} {o : HO} (g : Gr b0 h0 b h) (n : h0 p = none) (nb : b p = none) : Gr b0 h0 b (upd h p o) := ⟨g.gb, Ex.mut g.gh n, Ex.mut g.gi nb, g.gf⟩
/-- from now on it is spoken of -/
theorem Gr.tell {b0 h0 b h : Hp} {p : Addr} {o : HO} (g : Gr b0 h0 b h) (n : h0 p = none) (nb : b p = none) (hp : h p = some o) : Gr b0 h0 (upd b p o) h := by
  refine ⟨g.gb.trans (Ex.new nb), g.gh, fun a u q => ?_, fun a q z => ?_⟩
  · by_cases ha : a = p
    · subst ha
      rw [upd_same] at q
      rw [hp]
      exact q
    · rw [upd_ne ha] at q
      exact g.gi a u q
  · rw [upd_ne (fun ha => z (by rw [ha]; exact n))]
    exact g.gf a q z
theorem none_of {b h : Hp} (e : Ex b h) {p : Addr} (n : h p = none) : b p = none := fresh_back e n
def ED (K : PySem.W.Frag) (te : TE) (σ : L2.St) (b : Hp) (d : PyData) : Prop := ∀ h, Ex b h → ∀ Q : VK, (∀ v b' h', Gr b h b' h' → Dt K b' v d → Q v h') → te σ h Q
def EDA (K : PySem.W.Frag) (ta : TA) (σ : L2.St) (b : Hp) (ds : List PyData) : Prop := ∀ h, Ex b h → ∀ Q : List V → Hp → Prop, (∀ vs b' h', Gr b h b' h' → DtA K b' vs ds → Q vs h') → ta σ h Q
section
variable {K : PySem.W.Frag} {σ : L2.St} {b b' h h' : Hp} {te ta tb : TE} {ts tr : TA} {d d' : PyData} {ds : List PyData} {v : V} {i : Int}
/-- the same of a greater part, where what is handed on is as before -/
theorem Gr.back {b1 b2 h1 : Hp} (e : Ex b b1) (g : Gr b h b2 h1) (e1 : Ex b1 h) : ∃ b3, Gr b1 h b3 h1 ∧ Ex b2 b3 ∧ ∀ a, b2 a = none → b1 a = none → b3 a = none := by
  refine ⟨fun a => match b2 a with | some o => some o | none => b1 a, ⟨fun a o q => ?_, g.gh, fun a o q => ?_, fun a q n => ?_⟩, fun a o q => ?_, fun a z1 z2 => by simp only [z1, z2]⟩
  · cases z : b2 a with
    | none => simpa [z] using q
    | some u =>
      have h1 := g.gi a u z
      have h2 := g.gh a o (e1 a o q)
      rw [h1] at h2
      simp [z, h2]
  · cases z : b2 a with
    | none =>
      simp only [z] at q
      exact g.gh a o (e1 a o q)
    | some u =>
      simp only [z] at q
      rw [← q]
      exact g.gi a u z
  · have z : b2 a = none := g.gf a (fresh_back e q) n
    simp only [z]
    exact q
  · simp only [q]
theorem ED.up (x : ED K te σ b d) (e : Ex b b') : ED K te σ b' d := fun h e1 _ q => x h (e.trans e1) _ fun v b2 h2 g hv => by
  obtain ⟨b3, g3, e3, _⟩ := g.back e e1
  exact q v b3 h2 g3 (hv.up e3)
theorem EDA.up (x : EDA K ts σ b ds) (e : Ex b b') : EDA K ts σ b' ds := fun h e1 _ q => x h (e.trans e1) _ fun v b2 h2 g hv => by
  obtain ⟨b3, g3, e3, _⟩ := g.back e e1
  exact q v b3 h2 g3 (hv.up e3)
theorem ed_var {k : Nat} (hs : σ[k]? = some (some v)) (hd : Dt K b v d) : ED K (tVar k) σ b d := fun h e _ q => ⟨v, hs, q v b h (Gr.refl e) hd⟩
theorem ed_val (hd : Dt K b v d) (he : Ev te σ b v) : ED K te σ b d := fun h e _ q => he h e _ fun h2 e2 => q v b h2 (Gr.stay e e2) hd
theorem ed_of (x : Ev te σ b v) (hd : ∀ H2, Dt K H2 v d) : ED K te σ b d := fun h e _ q => x h e _ fun h2 e2 => q v b h2 (Gr.stay e e2) (hd b)
theorem ed_int (x : Ev te σ b (.int i)) : ED K te σ b (.int i) := ed_of x fun _ => Dt.int i
theorem ed_str {z : Str} (x : Ev te σ b (.str z)) : ED K te σ b (.str z) := ed_of x fun _ => Dt.str z
theorem ed_none (x : Ev te σ b .non) : ED K te σ b .none := ed_of x fun _ => Dt.none
theorem ed_bool {k : Bool} (x : Ev te σ b (.bl k)) : ED K te σ b (.bool k) := ed_of x fun _ => Dt.bool k
theorem ev_int (x : ED K te σ b (.int i)) : Ev te σ b (.int i) := fun h e _ q => x h e _ fun v b2 h2 g hd => by
  rw [hd.intI]
  exact q h2 g.gh
theorem ev_str {z : Str} (x : ED K te σ b (.str z)) : Ev te σ b (.str z) := fun h e _ q => x h e _ fun v b2 h2 g hd => by
  rw [hd.strI]
  exact q h2 g.gh
theorem ev_bool {k : Bool} (x : ED K te σ b (.bool k)) : Ev te σ b (.bl k) := fun h e _ q => x h e _ fun v b2 h2 g hd => by
  rw [hd.boolI]
  exact q h2 g.gh
theorem ev_none (x : ED K te σ b .none) : Ev te σ b .non := fun h e _ q => x h e _ fun v b2 h2 g hd => by
  rw [hd.noneI]
  exact q h2 g.gh
theorem ed_ixL (ha : ED K ta σ b (.list ds)) (hb : Ev tb σ b (.int i)) (hi : L2.atI ds i = some d) : ED K (tOp (rIxL K) ta tb) σ b d := fun h e _ q => ha h e _ fun x b2 h2 g2 hx => hb h2 (e.trans g2.gh) _ fun h3 e3 => by
  obtain ⟨a, xs, rfl, k1, k2⟩ := hx.listI
  obtain ⟨v, hv, hd⟩ := k2.atI hi
  exact ⟨a, xs, i, v, rfl, rfl, sq_of (e3 _ _ (g2.gi _ _ k1)), hv, q v b2 h3 (g2.trans (Gr.stay g2.gi e3)) hd⟩
theorem ed_ixT (ha : ED K ta σ b (.tuple ds)) (hb : Ev tb σ b (.int i)) (hi : L2.atI ds i = some d) : ED K (tOp (rIxT K) ta tb) σ b d := fun h e _ q => ha h e _ fun x b2 h2 g2 hx => hb h2 (e.trans g2.gh) _ fun h3 e3 => by
  obtain ⟨a, xs, rfl, k1, k2⟩ := hx.tupleI
  obtain ⟨v, hv, hd⟩ := k2.atI hi
  exact ⟨a, xs, i, v, rfl, rfl, ex_t e3 (ex_t g2.gi k1), hv, q v b2 h3 (g2.trans (Gr.stay g2.gi e3)) hd⟩
theorem eda_nil : EDA K tNil σ b [] := fun h e _ q => q [] b h (Gr.refl e) DtA.nil
theorem eda_cons (x : ED K te σ b d) (hr : EDA K tr σ b ds) : EDA K (tCons te tr) σ b (d :: ds) := fun h e _ q => x h e _ fun v b2 h2 g2 hv => hr.up g2.gb h2 g2.gi _ fun vs b3 h3 g3 hvs =>
  q (v :: vs) b3 h3 (g2.trans g3) (DtA.cons (hv.up g3.gb) hvs)
theorem ed_tup (x : EDA K ts σ b ds) (hl : ds.length ≤ 100000) : ED K (tTup ts) σ b (.tuple ds) := fun h e _ q => x h e _ fun vs b2 h2 g2 hvs =>
  ⟨sz_of (by rw [hvs.length]; exact hl), fun p hp => q (.ref p) _ _ (g2.trans (Gr.new g2.gi hp)) (Dt.tuple (st_of upd_same) (hvs.up (Ex.new (none_of g2.gi hp))))⟩
theorem ev_lenL (ha : ED K te σ b (.list ds)) : Ev (tCB (rLenS K) (tCons te tNil)) σ b (.int (ds.length : Int)) := fun h e _ q => ha h e _ fun v b2 h2 g2 hv => by
  obtain ⟨a, xs, rfl, h1, k2⟩ := hv.listI
  refine ⟨a, xs, rfl, .inl (sq_of (g2.gi _ _ h1)), ?_⟩
  rw [k2.length]
  exact q h2 g2.gh
theorem ev_lenT (ha : ED K te σ b (.tuple ds)) : Ev (tCB (rLenS K) (tCons te tNil)) σ b (.int (ds.length : Int)) := fun h e _ q => ha h e _ fun v b2 h2 g2 hv => by
  obtain ⟨a, xs, rfl, h1, k2⟩ := hv.tupleI
  refine ⟨a, xs, rfl, .inr (ex_t g2.gi h1), ?_⟩
  rw [k2.length]
  exact q h2 g2.gh
/-- == of data -/
theorem ev_eqD (ha : ED K ta σ b d) (hb : ED K tb σ b d') (s1 : SeqAt.shaped d = true) (s2 : SeqAt.shaped d' = true) : Ev (tOp (rEqD K) ta tb) σ b (.bl (PyData.eqv d d')) := fun h e _ q =>
  ha h e _ fun x b2 h2 g2 hx => hb.up g2.gb h2 g2.gi _ fun y b3 h3 g3 hy => ⟨d, d', Dt.dp _ _ ((hx.up g3.gb).up g3.gi), Dt.dp _ _ (hy.up g3.gi), s1, s2, q h3 (g2.gh.trans g3.gh)⟩
theorem ev_neD (ha : ED K ta σ b d) (hb : ED K tb σ b d') (s1 : SeqAt.shaped d = true) (s2 : SeqAt.shaped d' = true) : Ev (tOp (rNeD K) ta tb) σ b (.bl (!PyData.eqv d d')) := fun h e _ q =>
  ha h e _ fun x b2 h2 g2 hx => hb.up g2.gb h2 g2.gi _ fun y b3 h3 g3 hy => ⟨d, d', Dt.dp _ _ ((hx.up g3.gb).up g3.gi), Dt.dp _ _ (hy.up g3.gi), s1, s2, q h3 (g2.gh.trans g3.gh)⟩
/-- what int(n), int(flag) ask -/
def rInt1 : List V → Hp → VK → Prop := fun xs H Q => (∃ i, xs = [V.int i] ∧ Q (V.int i) H) ∨ ∃ k, xs = [V.bl k] ∧ Q (V.int (if k then 1 else 0)) H
theorem cr_int1 {X : Cx} : CallR X (.type "int") rInt1 := call_int1
theorem ev_int1 (x : Ev te σ b (.int i)) : Ev (tCB rInt1 (tCons te tNil)) σ b (.int i) := fun h e _ q => x h e _ fun h2 e2 => .inl ⟨i, rfl, q h2 e2⟩
theorem ev_int1b {k : Bool} (x : Ev te σ b (.bl k)) : Ev (tCB rInt1 (tCons te tNil)) σ b (.int (if k then 1 else 0)) := fun h e _ q => x h e _ fun h2 e2 => .inr ⟨k, rfl, q h2 e2⟩
/-- a def's promise by data -/
def SpF (K : PySem.W.Frag) (n : Nat) (pre : List PyData → Prop) (f : List PyData → PyData → Prop) : Sp := fun vs h Q _ => ∃ b ds, Ex b h ∧ DtA K b vs ds ∧ ds.length = n ∧ pre ds ∧ ∀ v b' h' d, Gr b h b' h' → f ds d → Dt K b' v d → Q v h'
theorem SpF.len {n : Nat} {pre : List PyData → Prop} {f : List PyData → PyData → Prop} : ∀ vs H Q E, SpF K n pre f vs H Q E → vs.length = n := fun vs H Q E x => by
  obtain ⟨b, ds, _, h1, h2, _⟩ := x
  rw [h1.length, h2]
theorem ed_call {n : Nat} {pre : List PyData → Prop} {f : List PyData → PyData → Prop} {E : XK} (x : EDA K ts σ b ds) (hn : ds.length = n) (hp : pre ds) (he : ∀ e, f ds e → e = d) : ED K (tCall (SpF K n pre f) [] E ts) σ b d := fun h e _ q =>
  x h e _ fun vs b2 h2 g2 hvs => ⟨b2, ds, g2.gi, by rw [List.append_nil]; exact hvs, hn, hp, fun v b3 h3 d3 g3 hf hv => q v b3 h3 (g2.trans g3) (he d3 hf ▸ hv)⟩
/-- the same where only a relation is known of what comes back -/
def EX (K : PySem.W.Frag) (te : TE) (σ : L2.St) (b : Hp) (P : PyData → Prop) : Prop := ∀ h, Ex b h → ∀ Q : VK, (∀ v b' h' d, Gr b h b' h' → P d → Dt K b' v d → Q v h') → te σ h Q
theorem ex_call {n : Nat} {pre : List PyData → Prop} {f : List PyData → PyData → Prop} {E : XK} (x : EDA K ts σ b ds) (hn : ds.length = n) (hp : pre ds) : EX K (tCall (SpF K n pre f) [] E ts) σ b (f ds) := fun h e _ q =>
  x h e _ fun vs b2 h2 g2 hvs => ⟨b2, ds, g2.gi, by rw [List.append_nil]; exact hvs, hn, hp, fun v b3 h3 d3 g3 hf hv => q v b3 h3 d3 (g2.trans g3) hf hv⟩
theorem ED.ex (x : ED K te σ b d) : EX K te σ b (· = d) := fun h e _ q => x h e _ fun v b2 h2 g hv => q v b2 h2 d g rfl hv
end

/-! ### new lists -/
/-- a new list of data, not yet spoken of -/
def EN (K : PySem.W.Frag) (te : TE) (σ : L2.St) (b : Hp) (ds : List PyData) : Prop := ∀ h, Ex b h → ∀ Q : VK, (∀ p vs b' h', h p = none → b' p = none → Gr b h b' h' → h' p = some (.lst vs) → DtA K b' vs ds → Q (.ref p) h') → te σ h Q
section
variable {K : PySem.W.Frag} {σ : L2.St} {b b' : Hp} {te ta tb : TE} {ts tr : TA} {ds es : List PyData}
theorem EN.ed (x : EN K te σ b ds) : ED K te σ b (.list ds) := fun h e _ q => x h e _ fun p vs b2 h2 np nb g2 hp hv => q (.ref p) _ h2 (g2.tell np nb hp) (Dt.list upd_same (hv.up (Ex.new nb)))
theorem EN.up (x : EN K te σ b ds) (e : Ex b b') : EN K te σ b' ds := fun h e1 _ q => x h (e.trans e1) _ fun p us b2 h2 np nb g hp hv => by
  obtain ⟨b3, g3, e3, e4⟩ := g.back e e1
  exact q p us b3 h2 np (e4 p nb (none_of e1 np)) g3 hp (hv.up e3)
theorem gone {b h b1 h1 : Hp} (g : Gr b h b1 h1) {p : Addr} (n : h1 p = none) : h p = none := fresh_back g.gh n
theorem en_lst (x : EDA K ts σ b ds) (hl : ds.length ≤ 100000) : EN K (tLst ts) σ b ds := fun h e _ q => x h e _ fun vs b2 h2 g2 hvs =>
  ⟨sz_of (by rw [hvs.length]; exact hl), fun p hp => q p vs b2 _ (gone g2 hp) (none_of g2.gi hp) (g2.trans (Gr.hid g2.gi hp)) upd_same hvs⟩
theorem en_list (ha : ED K te σ b (.list ds)) : EN K (tCB (rListS K) (tCons te tNil)) σ b ds := fun h e _ q => ha h e _ fun v b2 h2 g2 hv => by
  obtain ⟨a, xs, rfl, k1, k2⟩ := hv.listI
  exact ⟨a, xs, rfl, .inl (sq_of (g2.gi _ _ k1)), fun l hl => q l xs b2 _ (gone g2 hl) (none_of g2.gi hl) (g2.trans (Gr.hid g2.gi hl)) upd_same k2⟩
theorem en_sl {tl th : TO} {lo hi : Option Int} (x : ED K te σ b (.list ds)) (h1 : EvO tl σ b lo) (h2 : EvO th σ b hi) : EN K (tSl (rSlL K) te tl th) σ b (cutD ds lo hi) := fun h e _ q =>
  x h e _ fun v b2 h2' g2 hv => h1 h2' (g2.gb.trans g2.gi) _ fun h3 e3 => h2 h3 ((g2.gb.trans g2.gi).trans e3) _ fun h4 e4 => by
    obtain ⟨a, xs, rfl, k1, k2⟩ := hv.listI
    have e24 := e3.trans e4
    have g4 := g2.trans (Gr.stay g2.gi e24)
    exact ⟨a, xs, rfl, sq_of (g4.gi _ _ k1), fun p hp => q p _ b2 _ (gone g4 hp) (none_of g4.gi hp) (g4.trans (Gr.hid g4.gi hp)) upd_same (k2.cut lo hi)⟩
theorem en_cat (ha : ED K ta σ b (.list ds)) (hb : ED K tb σ b (.list es)) (hl : ds.length + es.length ≤ 100000) : EN K (tOp rCat ta tb) σ b (ds ++ es) := fun h e _ q =>
  ha h e _ fun x b2 h2 g2 hx => hb.up g2.gb h2 g2.gi _ fun y b3 h3 g3 hy => by
    obtain ⟨a, xs, rfl, k1, k2⟩ := hx.listI
    obtain ⟨c, ys, rfl, l1, l2⟩ := hy.listI
    have g4 := g2.trans g3
    exact ⟨a, c, xs, ys, rfl, rfl, g3.gi _ _ (g3.gb _ _ k1), g3.gi _ _ l1, sz_of (by rw [k2.length, l2.length]; exact hl), fun p hp => q p _ b3 _ (gone g4 hp) (none_of g4.gi hp) (g4.trans (Gr.hid g4.gi hp)) upd_same ((k2.up g3.gb).append l2)⟩
end

/-! ### comprehensions -/
/-- what the turns below n give -/
def givenD (n : Nat) (f : Nat → Bool) (r : Nat → PyData) : List PyData := ((List.range n).filter f).map r
theorem givenD_yes {n : Nat} {f : Nat → Bool} {r : Nat → PyData} (h : f n = true) : givenD (n + 1) f r = givenD n f r ++ [r n] := by
  simp [givenD, List.range_succ, h]
theorem givenD_no {n : Nat} {f : Nat → Bool} {r : Nat → PyData} (h : f n = false) : givenD (n + 1) f r = givenD n f r := by
  simp [givenD, List.range_succ, h]
theorem givenD_len (n : Nat) (f : Nat → Bool) (r : Nat → PyData) : (givenD n f r).length ≤ n := by
  have h := List.length_filter_le f (List.range n)
  simpa [givenD] using h
theorem givenD_all (n : Nat) (r : Nat → PyData) : givenD n (fun _ => true) r = (List.range n).map r := by
  unfold givenD
  rw [List.filter_eq_self.mpr fun _ _ => rfl]
section
variable {K : PySem.W.Frag} {σ : L2.St} {b h1 : Hp} {te : TE} {t : TT} {g : TG} {vs : List Nat}
theorem et_yes : EvT tYes σ b true := fun h _ _ q => q h (Ex.refl h)
theorem lc_data {J : It} {n : Nat} {G : Hp → Prop} {Y : Nat → Hp → V → Hp → Prop} (w : Walk J n G Y) {Dl : Addr} {Qd : Hp → Prop} (f : Nat → Bool) (r : Nat → PyData) (eb : Ex b h1) (hD : h1 Dl = none) (hn : n ≤ 40000) (hG : ∀ h, Ex h1 h → G h)
    (hs : ∀ i x b2 h h', i < n → Ex h1 h → Gr b h1 b2 h → Y i h x h' → ∃ b3, Gr b2 h b3 h' ∧ ∀ Q : L2.St → Hp → Prop, (∀ σ2, wipe σ2 vs = wipe σ vs → EvT t σ2 b3 (f i) → (f i = true → ED K te σ2 b3 (r i)) → Q σ2 h') → g x (wipe σ vs) h' Q)
    (hd : ∀ b2 h us, Gr b h1 b2 h → b2 Dl = none → h Dl = some (.lst us) → DtA K b2 us (givenD n f r) → Qd h) :
    ∃ W : Nat → Nat → Hp → Prop, (∃ m, W 0 m (upd h1 Dl (.lst []))) ∧ ∀ i m H, W i m H →
      (J.stop i H ∧ Qd H) ∨ (J.go i H ∧ ∃ Nx : Hp → Prop, (∀ H', Nx H' → ∃ m', m' < m ∧ W (i + 1) m' H') ∧ ∀ x H', J.yld i H x H' → g x (wipe σ vs) H' fun σ2 H2 => wipe σ2 vs = wipe σ vs ∧ t σ2 H2 fun k H3 =>
        if k = true then te σ2 H3 fun y H4 => ∃ acc, H4 Dl = some (.lst acc) ∧ acc.length < sizeLine ∧ Nx (upd H4 Dl (.lst (acc ++ [y]))) else Nx H3) := by
  refine lc_it w (fun i h => ∃ b2 us, Gr b h1 b2 h ∧ b2 Dl = none ∧ h Dl = some (.lst us) ∧ DtA K b2 us (givenD i f r)) ?_ (fun i h _ p => ?_) ?_ ?_
  · exact ⟨b, [], Gr.hid eb hD, none_of eb hD, upd_same, DtA.nil⟩
  · obtain ⟨b2, us, g2, _⟩ := p
    exact hG h g2.gh
  · rintro i x h2 h3 hi ⟨b2, us, g2, nb, hu, hA⟩ hy
    obtain ⟨b3, g3, hq⟩ := hs i x b2 h2 h3 hi g2.gh g2 hy
    have nb3 : b3 Dl = none := g3.gf Dl nb (by rw [hu]; intro z; cases z)
    refine hq _ fun σ2 hw ht he => ⟨hw, ht h3 g3.gi _ fun h4 e4 => ?_⟩
    have g4 : Gr b3 h3 b3 h4 := Gr.stay g3.gi e4
    have hu4 : h4 Dl = some (.lst us) := e4 _ _ (g3.gh _ _ hu)
    cases hf : f i with
    | true =>
      show te σ2 h4 _
      refine he hf h4 g4.gi _ fun y b5 h5 g5 hy5 => ⟨us, g5.gh _ _ hu4, sz_lt (by have := givenD_len i f r; rw [hA.length]; omega), ?_⟩
      have nb5 : b5 Dl = none := g5.gf Dl nb3 (by rw [hu4]; intro z; cases z)
      refine ⟨b5, us ++ [y], ((g2.trans g3).trans (g4.trans g5)).mut hD nb5, nb5, upd_same, ?_⟩
      rw [givenD_yes hf]
      exact ((hA.up g3.gb).up g5.gb).append (DtA.one hy5)
    | false =>
      show ∃ b2 us, _
      refine ⟨b3, us, (g2.trans g3).trans g4, nb3, hu4, ?_⟩
      rw [givenD_no hf]
      exact hA.up g3.gb
  · rintro h ⟨b2, us, g2, nb, hu, hA⟩
    exact hd b2 h us g2 nb hu hA
end
end Md


set_option Elab.async false
set_option linter.all false
set_option maxRecDepth 100000
set_option maxHeartbeats 2000000
namespace Md
open PySem L2 Evl
section
variable {K : PySem.W.Frag} {σ : L2.St} {b h h0 : Hp} {te tl ta tb : TE} {t : TT} {g : TG} {vs : List Nat} {ds es : List PyData} {d d1 d2 d3 : PyData} {v : V} {Q : L2.St → Hp → Prop}
theorem g_two {i j : Nat} (x : Dt K b v (.tuple [d1, d2])) (e : Ex b h) (k : ∀ v1 v2, Dt K b v1 d1 → Dt K b v2 d2 → Q ((σ.set i (some v1)).set j (some v2)) h) : gTup K 2 (gCons (gName i) (gCons (gName j) gNil)) v σ h Q := by
  obtain ⟨a, xs, rfl, h1, h2⟩ := x.tupleI
  cases h2 with
  | cons q1 h2 =>
    cases h2 with
    | cons q2 h2 =>
      cases h2
      exact ⟨a, _, rfl, ex_t e h1, rfl, _, _, rfl, _, _, rfl, rfl, k _ _ q1 q2⟩
theorem g_three {i j l : Nat} (x : Dt K b v (.tuple [d1, d2, d3])) (e : Ex b h) (k : ∀ v1 v2 v3, Dt K b v1 d1 → Dt K b v2 d2 → Dt K b v3 d3 → Q (((σ.set i (some v1)).set j (some v2)).set l (some v3)) h) :
    gTup K 3 (gCons (gName i) (gCons (gName j) (gCons (gName l) gNil))) v σ h Q := by
  obtain ⟨a, xs, rfl, h1, h2⟩ := x.tupleI
  cases h2 with
  | cons q1 h2 =>
    cases h2 with
    | cons q2 h2 =>
      cases h2 with
      | cons q3 h2 =>
        cases h2
        exact ⟨a, _, rfl, ex_t e h1, rfl, _, _, rfl, _, _, rfl, _, _, rfl, rfl, k _ _ _ q1 q2 q3⟩
/-- [te for g in tl if t] -/
theorem en_lcG (x : ED K tl σ b (.list ds)) (hz : ds.length ≤ 40000) (f : Nat → Bool) (r : Nat → PyData)
    (hs : ∀ i d x b2 h2, Ex b b2 → Ex b2 h2 → ds[i]? = some d → Dt K b2 x d → ∀ Q : L2.St → Hp → Prop, (∀ σ2, wipe σ2 vs = wipe σ vs → EvT t σ2 b2 (f i) → (f i = true → ED K te σ2 b2 (r i)) → Q σ2 h2) → g x (wipe σ vs) h2 Q) :
    EN K (tLc (iList K tl) g t te vs) σ b (givenD ds.length f r) := fun h e _ q => x h e _ fun v b1 h1 g1 hv => by
  obtain ⟨a, xs, rfl, k1, k2⟩ := hv.listI
  refine ⟨a, rfl, ⟨xs, sq_of (g1.gi _ _ k1)⟩, fun Dl hD => ?_⟩
  rw [← k2.length] at hz q
  refine lc_data (walk_list (xs := xs)) f r g1.gi hD hz (fun h' e' => sq_of (e' _ _ (g1.gi _ _ k1))) (fun i y b2 h2 h3 hi e2 g2 hy => ?_) (fun b2 h2 us g2 nb hu hA => q Dl us b2 h2 (gone g1 hD) nb (g1.trans g2) hu hA)
  obtain ⟨rfl, hy⟩ := hy
  obtain ⟨dd, hdd, hx⟩ := k2.getV hy
  exact ⟨b2, Gr.refl g2.gi, fun Q k => hs i dd y b2 _ (g1.gb.trans g2.gb) g2.gi hdd (hx.up g2.gb) Q k⟩
theorem en_lcL {j : Nat} (x : ED K tl σ b (.list ds)) (hz : ds.length ≤ 40000) (f : Nat → Bool) (r : Nat → PyData) (hw : ∀ x, wipe ((wipe σ vs).set j (some x)) vs = wipe σ vs)
    (hs : ∀ i d x b2, Ex b b2 → ds[i]? = some d → Dt K b2 x d → EvT t ((wipe σ vs).set j (some x)) b2 (f i) ∧ (f i = true → ED K te ((wipe σ vs).set j (some x)) b2 (r i))) :
    EN K (tLc (iList K tl) (gName j) t te vs) σ b (givenD ds.length f r) :=
  en_lcG x hz f r fun i d x b2 h2 e _ hd hx Q k => k _ (hw x) (hs i d x b2 e hd hx).1 (hs i d x b2 e hd hx).2
/-- [te for j in range(n) if t] -/
theorem en_lcR {ts : TA} {j : Nat} {n : Int} (x : EvA ts σ b [.int n]) (hn : 0 ≤ n ∧ n ≤ 40000) (f : Nat → Bool) (r : Nat → PyData) (hw : ∀ x, wipe ((wipe σ vs).set j (some x)) vs = wipe σ vs)
    (hs : ∀ (i : Nat) b2, Ex b b2 → (i : Int) < n → EvT t ((wipe σ vs).set j (some (.int (i : Int)))) b2 (f i) ∧ (f i = true → ED K te ((wipe σ vs).set j (some (.int (i : Int)))) b2 (r i))) :
    EN K (tLc (iRng1 ts) (gName j) t te vs) σ b (givenD n.toNat f r) := fun h e _ q => x h e _ fun h1 e1 => by
  have g1 : Gr b h b h1 := Gr.stay e e1
  refine ⟨n, rfl, by omega, by omega, fun Dl hD => ?_⟩
  refine lc_data (walk_range (lo := 0) (n := n.toNat)) f r g1.gi hD (by omega) (fun _ _ => trivial) (fun i y b2 h2 h3 hi e2 g2 hy => ?_) (fun b2 h2 us g2 nb hu hA => q Dl us b2 h2 (gone g1 hD) nb (g1.trans g2) hu hA)
  obtain ⟨rfl, hy⟩ := hy
  have e0 : (0 : Int) + (i : Int) = (i : Int) := Int.zero_add _
  have hy' : y = V.int (i : Int) := by
    rw [hy]
    show V.int ((0 : Int) + (i : Int)) = V.int (i : Int)
    rw [e0]
  subst hy'
  refine ⟨b2, Gr.refl g2.gi, fun Q k => ?_⟩
  have z := hs i b2 g2.gb (by omega)
  exact k _ (hw _) z.1 z.2
/-- [te for j in range(n)], of what comes only a relation is known -/
theorem en_lcRX {ts : TA} {j : Nat} {n : Int} (x : EvA ts σ b [.int n]) (hn : 0 ≤ n ∧ n ≤ 40000) (R : Nat → PyData → Prop) (hw : ∀ x, wipe ((wipe σ vs).set j (some x)) vs = wipe σ vs)
    (hs : ∀ (i : Nat) b2, Ex b b2 → (i : Int) < n → EX K te ((wipe σ vs).set j (some (.int (i : Int)))) b2 (R i)) :
    EX K (tLc (iRng1 ts) (gName j) tYes te vs) σ b (fun d => ∃ acc, d = .list acc ∧ acc.length = n.toNat ∧ ∀ i e, acc[i]? = some e → R i e) := fun h e _ q => x h e _ fun h1 e1 => by
  have g1 : Gr b h b h1 := Gr.stay e e1
  refine ⟨n, rfl, by omega, by omega, fun Dl hD => ?_⟩
  refine lc_it (walk_range (lo := 0) (n := n.toNat)) (fun i h => ∃ b2 us acc, Gr b h1 b2 h ∧ b2 Dl = none ∧ h Dl = some (.lst us) ∧ DtA K b2 us acc ∧ acc.length = i ∧ ∀ k e, acc[k]? = some e → R k e) ?_ (fun _ _ _ _ => trivial) ?_ ?_
  · exact ⟨b, [], [], Gr.hid g1.gi hD, none_of g1.gi hD, upd_same, DtA.nil, rfl, fun k e z => by simp at z⟩
  · rintro i y h2 h3 hi ⟨b2, us, acc, g2, nb, hu, hA, hl, hR⟩ hy
    obtain ⟨rfl, hy⟩ := hy
    have e0 : (0 : Int) + (i : Int) = (i : Int) := Int.zero_add _
    have hy' : y = V.int (i : Int) := by
      rw [hy]
      show V.int ((0 : Int) + (i : Int)) = V.int (i : Int)
      rw [e0]
    subst hy'
    refine ⟨hw _, ?_⟩
    show te _ h3 _
    refine hs i b2 g2.gb (by omega) h3 g2.gi _ fun y b5 h5 d g5 hd hy5 => ⟨us, g5.gh _ _ hu, sz_lt (by rw [hA.length]; omega), ?_⟩
    have nb5 : b5 Dl = none := g5.gf Dl nb (by rw [hu]; intro z; cases z)
    refine ⟨b5, us ++ [y], acc ++ [d], (g2.trans g5).mut hD nb5, nb5, upd_same, (hA.up g5.gb).append (DtA.one hy5), by rw [List.length_append, hl]; rfl, fun k e hk => ?_⟩
    rcases Nat.lt_or_ge k acc.length with z | z
    · rw [List.getElem?_append_left z] at hk
      exact hR k e hk
    · rw [List.getElem?_append_right z] at hk
      have : k - acc.length = 0 := by
        rcases Nat.eq_zero_or_pos (k - acc.length) with w | w
        · exact w
        · rw [List.getElem?_eq_none (by rw [List.length_singleton]; omega)] at hk
          cases hk
      rw [this] at hk
      cases hk
      have : k = i := by omega
      rw [this]
      exact hd
  · rintro h2 ⟨b2, us, acc, g2, nb, hu, hA, hl, hR⟩
    exact q (.ref Dl) (upd b2 Dl (.lst us)) h2 (.list acc) ((g1.trans g2).tell (gone g1 hD) nb hu) ⟨acc, rfl, hl, hR⟩ (Dt.list upd_same (hA.up (Ex.new nb)))
/-- for over a list of data -/
theorem r_forL {D : Ends} {tu : TS} (x : ED K tl σ b (.list ds)) (e : Ex b h0)
    (k : ∀ a xs b1 h1, Gr b h0 b1 h1 → b1 a = some (.lst xs) → DtA K b1 xs ds → ∃ Pv : Nat → L2.St → Hp → Prop, Pv 0 σ h1 ∧ (∀ i σ' h', Pv i σ' h' → Ex b1 h') ∧
      (∀ i d x σ' h', ds[i]? = some d → Dt K b1 x d → Pv i σ' h' → g x σ' h' fun σ2 h2 => tu { D with nx := Pv (i + 1), ct := Pv (i + 1), bk := D.nx } σ2 h2) ∧ ∀ σ' h', Pv ds.length σ' h' → D.nx σ' h') :
    tFor (iList K tl) g tu D σ h0 := x h0 e _ fun v b1 h1 g1 hv => by
  obtain ⟨a, xs, rfl, k1, k2⟩ := hv.listI
  obtain ⟨Pv, p0, pe, ps, pd⟩ := k a xs b1 h1 g1 k1 k2
  refine ⟨a, rfl, ⟨xs, sq_of (g1.gi _ _ k1)⟩, for_list Pv p0 (fun i σ' h' _ p => sq_of (pe i σ' h' p _ _ k1)) (fun i y σ' h' hy p => ?_) (fun σ' h' p => pd σ' h' (by rw [← k2.length]; exact p))⟩
  obtain ⟨dd, hdd, hx⟩ := k2.getV hy
  exact ps i dd y σ' h' hdd hx p
/-! statements: what follows is told at the new pair of heaps -/
variable {D : Ends} {tz tu tw : TS}
theorem r_set {i : Nat} (x : ED K te σ b d) (e : Ex b h) (k : ∀ v b' h', Gr b h b' h' → Dt K b' v d → tz D (σ.set i (some v)) h') : tSeq (tAsg te (gName i)) tz D σ h := x h e _ fun v b' h' g hv => k v b' h' g hv
theorem r_set1 {i : Nat} (x : ED K te σ b d) (e : Ex b h) (k : ∀ v b' h', Gr b h b' h' → Dt K b' v d → D.nx (σ.set i (some v)) h') : tAsg te (gName i) D σ h := x h e _ fun v b' h' g hv => k v b' h' g hv
theorem r_asg (x : ED K te σ b d) (e : Ex b h) (k : ∀ v b' h', Gr b h b' h' → Dt K b' v d → g v σ h' (tz D)) : tSeq (tAsg te g) tz D σ h := x h e _ fun v b' h' g hv => k v b' h' g hv
theorem r_setX {i : Nat} {P : PyData → Prop} (x : EX K te σ b P) (e : Ex b h) (k : ∀ v b' h' d, Gr b h b' h' → P d → Dt K b' v d → tz D (σ.set i (some v)) h') : tSeq (tAsg te (gName i)) tz D σ h := x h e _ fun v b' h' d g hp hv => k v b' h' d g hp hv
theorem r_setN {i : Nat} (x : EN K te σ b ds) (e : Ex b h) (k : ∀ p us b' h', h p = none → b' p = none → Gr b h b' h' → h' p = some (.lst us) → DtA K b' us ds → tz D (σ.set i (some (.ref p))) h') : tSeq (tAsg te (gName i)) tz D σ h := x h e _ fun p us b' h' np nb g hp hu => k p us b' h' np nb g hp hu
theorem r_sc {i : Nat} (x : Ev te σ b v) (e : Ex b h) (k : ∀ h', Gr b h b h' → tz D (σ.set i (some v)) h') : tSeq (tAsg te (gName i)) tz D σ h := x h e _ fun h' e' => k h' (Gr.stay e e')
theorem r_ret (x : ED K te σ b d) (e : Ex b h) (k : ∀ v b' h', Gr b h b' h' → Dt K b' v d → D.rt v h') : tRet te D σ h := x h e _ fun v b' h' g hv => k v b' h' g hv
theorem r_retX {P : PyData → Prop} (x : EX K te σ b P) (e : Ex b h) (k : ∀ v b' h' d, Gr b h b' h' → P d → Dt K b' v d → D.rt v h') : tRet te D σ h := x h e _ fun v b' h' d g hp hv => k v b' h' d g hp hv
theorem r_if {c : Bool} (x : EvT t σ b c) (e : Ex b h) (h1 : c = true → ∀ h', Gr b h b h' → tu { D with nx := tz D } σ h') (h2 : c = false → ∀ h', Gr b h b h' → tw { D with nx := tz D } σ h') : tSeq (tIfS t tu tw) tz D σ h :=
  q_if (x.mono e) (fun hc h' e' => h1 hc h' (Gr.stay e e')) (fun hc h' e' => h2 hc h' (Gr.stay e e'))
theorem r_if1 {c : Bool} (x : EvT t σ b c) (e : Ex b h) (h1 : c = true → ∀ h', Gr b h b h' → tu D σ h') (h2 : c = false → ∀ h', Gr b h b h' → tw D σ h') : tIfS t tu tw D σ h :=
  s_if (x.mono e) (fun hc h' e' => h1 hc h' (Gr.stay e e')) (fun hc h' e' => h2 hc h' (Gr.stay e e'))
end

/-! ### repr of data -/
section
variable {X : Cx}
def rRepr (K : PySem.W.Frag) : List V → Hp → VK → Prop := fun xs H Q => ∃ p d, xs = [.ref p] ∧ Dp K H (.ref p) d ∧ d.showable = true ∧ d.hasDict = false ∧ d.depth ≤ 60 ∧ d.shown.length ≤ sizeLine ∧ Q (.str d.shown) H
theorem cr_repr (hg : X.A.guards = some []) (hu : X.A.units + 64 < cLine) : CallR X (.builtin "repr") (rRepr X.K) := by
  intro pins s σ H xs us Q I r x
  obtain ⟨p, d, rfl, hd, h1, h2, h3, h4, q⟩ := x
  obtain ⟨u, rfl, ru⟩ := vals1 r
  obtain rfl : u = Value.ref p := ru
  obtain ⟨as, hr⟩ := Dp.reads I d _ _ hd rfl
  exact PySem.repr_of_reads' hr h1 (PySem.PyData.noDict_hsm h2) hg (by omega) (fun _ _ e => e) (fun h' u tk hk => ⟨.str _, H, I.kept (t' := tk) hk, ⟨_, rfl⟩, q⟩) h4
end
theorem ev_repr {K : PySem.W.Frag} {σ : L2.St} {b : Hp} {te : TE} {d : PyData} (x : ED K te σ b d) (hl : ∀ v H, Dt K H v d → ∃ p, v = .ref p) (h1 : d.showable = true) (h2 : d.hasDict = false) (h3 : d.depth ≤ 60) (h4 : d.shown.length ≤ sizeLine) :
    Ev (tCB (rRepr K) (tCons te tNil)) σ b (.str d.shown) := fun h e _ q => x h e _ fun v b2 h2' g2 hv => by
  obtain ⟨p, rfl⟩ := hl v _ hv
  exact ⟨p, d, rfl, Dt.dp _ _ (hv.up g2.gi), h1, h2, h3, h4, q h2' g2.gh⟩

/-! ### the rules with the written part named -/
section
variable {X : Cx} {K : PySem.W.Frag} {tg e e2 : Expr} {te tl ta : TE} {ts : TA} {pos p tpos : Pos}
theorem ix_listK (h : X.K = K) : IxR X (rIxL K) := h ▸ ix_list
theorem ix_tupK (h : X.K = K) : IxR X (rIxT K) := h ▸ ix_tup
theorem sl_listK (h : X.K = K) : SlR X (rSlL K) := h ▸ sl_list
theorem len_K (h : X.K = K) : CallR X (.builtin "len") (rLenS K) := h ▸ call_len_seq
theorem list_K (h : X.K = K) : CallR X (.type "list") (rListS K) := h ▸ call_list_of
theorem sum_K (hc : X.calm = true) (h : X.K = K) : CallR X (.builtin "sum") (rSum K) := h ▸ cr_sum hc
theorem all_K (hc : X.calm = true) (h : X.K = K) : CallR X (.builtin "all") (rAll K) := h ▸ cr_all hc
theorem any_K (hc : X.calm = true) (h : X.K = K) : CallR X (.builtin "any") (rAny K) := h ▸ cr_any hc
theorem min_K (hc : X.calm = true) (h : X.K = K) : CallR X (.builtin "min") (rMin K) := h ▸ cr_min hc
theorem max_K (hc : X.calm = true) (h : X.K = K) : CallR X (.builtin "max") (rMax K) := h ▸ cr_max hc
theorem isi_K (h : X.K = K) : CallR X (.builtin "isinstance") (rIsi K) := h ▸ call_isi
theorem isiT_K (h : X.K = K) : CallR X (.builtin "isinstance") (rIsiT K) := h ▸ call_isiT
theorem repr_K (hg : X.A.guards = some []) (hu : X.A.units + 64 < cLine) (h : X.K = K) : CallR X (.builtin "repr") (rRepr K) := h ▸ cr_repr hg hu
theorem eqD_K (hu : X.A.units + 64 < cLine) (h : X.K = K) : OpR X (compareOp .Eq) (rEqD K) := h ▸ op_eqD hu
theorem neD_K (hu : X.A.units + 64 < cLine) (h : X.K = K) : OpR X (compareOp .NotEq) (rNeD K) := h ▸ op_neD hu
theorem inS_K (h : X.K = K) : OpR X (compareOp .In) (rIn K false) := h ▸ op_in_seq
theorem niS_K (h : X.K = K) : OpR X (compareOp .NotIn) (rIn K true) := h ▸ op_notIn_seq
theorem pi_listK (h : X.K = K) (hl : PE X e tl) : PI X tg e (iList K tl) := h ▸ pi_list hl
theorem pg_tupK {es : List Expr} {k : Nat} {t : TGs} {n : Nat} (h : X.K = K) (hc : X.calm = true) (ht : PGs X es t) (hn : (assignEach es X.env).length = n := by rfl) (hst : (assignEach es X.env).findIdx? (·.1) = none := by rfl) :
    PG X (.Tuple es k pos) (gTup K n t) := h ▸ pg_tup hc ht hn hst
theorem pi_zipK {elts : List Expr} {kk : Nat} (h : X.K = K) (hg : Gl X "zip") (hm : X.mg "zip" = none) (ha : PA X [e, e2] ts) (hs : starEach [e, e2] X.env = (false, eval e X.env) :: starEach [e2] X.env := by rfl) (hpl : (backTo pos (starEach [e2] X.env)).any (·.1) = false := by rfl) :
    PI X (.Tuple elts kk tpos) (.Call (.Name "zip" p) [e, e2] [] pos) (iZip K ts) := h ▸ pi_zip hg hm ha hs hpl
theorem pi_enumK {elts : List Expr} {kk : Nat} (h : X.K = K) (hg : Gl X "enumerate") (hm : X.mg "enumerate" = none) (ha : PA X [e] ts) (hs : starEach [e] X.env = [(false, eval e X.env)] := by rfl) :
    PI X (.Tuple elts kk tpos) (.Call (.Name "enumerate" p) [e] [] pos) (iEnum K ts) := h ▸ pi_enum hg hm ha hs
theorem pe_appK {o : Expr} {to : TE} {apos cpos : Pos} (h : X.K = K) (ho : PE X o to) (ha : PA X [e] ts) (hbase : attributeBase o "append" X.env (eval o X.env) = eval o X.env := by rfl)
    (hfew : ((backTo cpos (starEach [e] X.env)).all (fun x => !x.1) && (backToKw cpos (keywordEach [] X.env)).all (fun x => x.1.isSome) && decide ([e].length + ([] : List Keyword).length + (if ([] : List Keyword).isEmpty then 0 else 1) < 30)) = true := by rfl)
    (hline : (apos.endLine == cpos.line) = true := by rfl) (hs : starEach [e] X.env = (false, eval e X.env) :: starEach [] X.env := by rfl) (hp : (backTo cpos (starEach [] X.env)).any (·.1) = false := by rfl) :
    PE X (.Call (.Attribute o "append" apos) [e] [] cpos) (tBM K "list" rAppend to ts) :=
  h ▸ pe_bm PySem.F.plainAttrs_list PySem.F.slot_list_append PySem.F.type_list_append mt_append ho ha hbase hfew hline hs hp
end
end Md


set_option Elab.async false
set_option linter.all false
set_option maxRecDepth 100000
set_option maxHeartbeats 2000000
namespace Md
open PySem L2 Evl
/-! ### the numbers -/
theorem mod_twice {x y : Nat} (h : y ≤ x) (h0 : 0 < y) : x % y * 2 ≤ x := by
  have h1 := Nat.mod_lt x h0
  have h2 := Nat.div_add_mod x y
  have h3 : 1 ≤ x / y := (Nat.le_div_iff_mul_le h0).mpr (by omega)
  have h4 : y * 1 ≤ y * (x / y) := Nat.mul_le_mul_left y h3
  omega
/-- behind i turns of Euclid's way: x and y -/
def Euc (g : Nat) (i x y : Nat) : Prop := Nat.gcd x y = g ∧ (if i = 0 then y < 2 ^ 1900 else y < x ∧ x * y * 2 ^ (i - 1) < 2 ^ 3800)
theorem euc_turn {g i x y : Nat} (h : Euc g i x y) (h0 : 0 < y) : Euc g (i + 1) y (x % y) := by
  obtain ⟨h1, h2⟩ := h
  refine ⟨by rw [← h1, Nat.gcd_comm x y, Nat.gcd_rec y x, Nat.gcd_comm], ?_⟩
  have hm := Nat.mod_lt x h0
  rw [if_neg (by omega)]
  refine ⟨hm, ?_⟩
  by_cases hi : i = 0
  · rw [if_pos hi] at h2
    subst hi
    show y * (x % y) * 2 ^ 0 < 2 ^ 3800
    rw [Nat.pow_zero, Nat.mul_one, show (3800 : Nat) = 1900 + 1900 from rfl, Nat.pow_add]
    exact Nat.mul_lt_mul'' h2 (Nat.lt_trans hm h2)
  · rw [if_neg hi] at h2
    obtain ⟨h3, h4⟩ := h2
    obtain ⟨j, rfl⟩ : ∃ j, i = j + 1 := ⟨i - 1, by omega⟩
    show y * (x % y) * 2 ^ (j + 1) < 2 ^ 3800
    refine Nat.lt_of_le_of_lt ?_ h4
    show y * (x % y) * 2 ^ (j + 1) ≤ x * y * 2 ^ j
    have h5 : x % y * 2 ≤ x := mod_twice (Nat.le_of_lt h3) h0
    calc y * (x % y) * 2 ^ (j + 1) = y * (x % y * 2) * 2 ^ j := by rw [Nat.pow_succ]; simp [Nat.mul_comm, Nat.mul_left_comm, Nat.mul_assoc]
      _ ≤ y * x * 2 ^ j := Nat.mul_le_mul_right _ (Nat.mul_le_mul_left _ h5)
      _ = x * y * 2 ^ j := by rw [Nat.mul_comm y x]
theorem euc_end {g x y : Nat} (h : Euc g 4000 x y) : y = 0 := by
  obtain ⟨_, h2⟩ := h
  rw [if_neg (by decide)] at h2
  obtain ⟨h3, h4⟩ := h2
  cases y with
  | zero => rfl
  | succ y =>
    exfalso
    have h5 : 1 ≤ x * (y + 1) := Nat.mul_pos (by omega) (by omega)
    have h6 : 1 * 2 ^ (4000 - 1) ≤ x * (y + 1) * 2 ^ (4000 - 1) := Nat.mul_le_mul_right _ h5
    have h7 : (2 : Nat) ^ 3800 ≤ 2 ^ (4000 - 1) := Nat.pow_le_pow_right (by decide) (by decide)
    rw [Nat.one_mul] at h6
    exact absurd (Nat.lt_of_lt_of_le h4 (Nat.le_trans h7 h6)) (Nat.lt_irrefl _)
theorem euc_zero {g i x : Nat} (h : Euc g i x 0) : x = g := by
  have := h.1
  rwa [Nat.gcd_zero_right] at this
/-- a number in lowest terms -/
def num (n d : Int) : Int × Int := ((if d < 0 then -n else n) / ((Nat.gcd n.natAbs d.natAbs : Nat) : Int), (if d < 0 then -d else d) / ((Nat.gcd n.natAbs d.natAbs : Nat) : Int))
def nD (p : Int × Int) : PyData := .tuple [.int p.1, .int p.2]
section
variable {K : PySem.W.Frag} {σ : L2.St} {b h : Hp} {te : TE} {i : Int}
def rAbs : List V → Hp → VK → Prop := fun xs H Q => ∃ i, xs = [V.int i] ∧ Q (V.int (if i < 0 then -i else i)) H
theorem cr_abs {X : Cx} : CallR X (.builtin "abs") rAbs := call_abs
theorem ev_abs (x : Ev te σ b (.int i)) : Ev (tCB rAbs (tCons te tNil)) σ b (.int (i.natAbs : Int)) := fun h e _ q => x h e _ fun h2 e2 => ⟨i, rfl, by
  have e3 : (if i < 0 then -i else i) = (i.natAbs : Int) := by split <;> omega
  rw [e3]
  exact q h2 e2⟩
end
/-! ### what stands behind the top -/
structure Bt (mg : Str → Option Value) : Prop where
  len : mg "len" = none
  int : mg "int" = none
  range : mg "range" = none
  abs : mg "abs" = none
  repr : mg "repr" = none
  list : mg "list" = none
  isinstance : mg "isinstance" = none
  sum : mg "sum" = none
  zip : mg "zip" = none
  bool : mg "bool" = none
  enumerate : mg "enumerate" = none
  tuple : mg "tuple" = none
  str : mg "str" = none
  all : mg "all" = none
  any : mg "any" = none
  min : mg "min" = none
  max : mg "max" = none
/-- a def stands behind its name -/
def IsDef (K : PySem.W.Frag) (mg : Str → Option Value) (x : Str) (st : Stmt) (ps : List Str) : Prop := ∃ f fd, Fun K x x st f fd ∧ mg x = some (.ref f) ∧ Binds K fd ps []
/-- it keeps its promise -/
def Has (P : Program) (w : World) (K : PySem.W.Frag) (mg : Str → Option Value) (base : Heap) (k : Nat) (x : Str) (ps : List Str) (sp : Sp) : Prop :=
  ∃ f fd, FnOk P w K mg base CX0 k f fd ps sp ∧ mg x = some (.ref f) ∧ PySem.W.keepIn K (.ref f) = true ∧ Binds K fd ps []
/-- the draws: n numbers from 0 to 999 -/
def spDraws (K : PySem.W.Frag) : Sp := fun vs h Q _ => ∃ (b : Hp) (a : Addr) (ns : List Int) (n : Nat), vs = [.ref a, .int (n : Int)] ∧ Ex b h ∧ SqL K b a (ns.map V.int) ∧ ns.length ≤ 63 ∧ n ≤ 1000 ∧
  ∀ v b' h' (ds : List Int), Gr b h b' h' → ds.length = n → (∀ d ∈ ds, 0 ≤ d ∧ d < 1000) → Dt K b' v (.list (ds.map PyData.int)) → Q v h'
def spGcd (K : PySem.W.Frag) : Sp := SpF K 2 (fun ds => ∃ a b : Int, ds = [.int a, .int b] ∧ b.natAbs < 2 ^ 1900) (fun ds d => ∀ a b : Int, ds = [.int a, .int b] → d = .int ((Nat.gcd a.natAbs b.natAbs : Nat) : Int))
/-- n / d in lowest terms: d is not 0 -/
def spNumber (K : PySem.W.Frag) : Sp := SpF K 2 (fun ds => ∃ n d : Int, ds = [.int n, .int d] ∧ d ≠ 0 ∧ n.natAbs < 2 ^ 1900 ∧ d.natAbs < 2 ^ 1900) (fun ds r => ∀ n d : Int, ds = [.int n, .int d] → r = nD (num n d))
section
variable {K : PySem.W.Frag} {b : Hp} {vs : List V}
theorem DtA.i1 {x : Int} (h : DtA K b vs [.int x]) : vs = [.int x] := by
  cases h with
  | cons h1 h2 =>
    cases h2
    rw [h1.intI]
theorem DtA.i2 {x y : Int} (h : DtA K b vs [.int x, .int y]) : vs = [.int x, .int y] := by
  cases h with
  | cons h1 h2 =>
    rw [h1.intI, h2.i1]
end

/-! ### lists of ints -/
section
variable {K : PySem.W.Frag} {σ : L2.St} {b h : Hp} {te ta tb : TE}
theorem DtA.intsI : ∀ {ns : List Int} {vs : List V}, DtA K b vs (ns.map PyData.int) → vs = ns.map V.int
  | [], _, h => by cases h; rfl
  | n :: ns, _, h => by
    cases h with
    | cons h1 h2 => rw [h1.intI, h2.intsI]; rfl
theorem at_ints {ns : List Int} {j : Nat} {z : Int} (e : z = (j : Int)) (h : j < ns.length) : L2.atI (ns.map PyData.int) z = some (.int (ns.getD j 0)) := by
  subst e
  refine atI_nat ?_
  rw [List.getElem?_map, List.getD_eq_getElem?_getD, List.getElem?_eq_getElem h]
  rfl
theorem at_pick (ns : List Int) {z : Int} (h0 : 0 ≤ z) (h : z < (ns.length : Int)) : ∃ x ∈ ns, L2.atI (ns.map PyData.int) z = some (.int x) := by
  have hj : z.toNat < ns.length := by omega
  refine ⟨ns.getD z.toNat 0, ?_, at_ints (by omega) hj⟩
  rw [List.getD_eq_getElem?_getD, List.getElem?_eq_getElem hj]
  exact List.getElem_mem hj
theorem ev_ixI {ns : List Int} {z : Int} (j : Nat) (x : ED K ta σ b (.list (ns.map PyData.int))) (y : Ev tb σ b (.int z)) (e : z = (j : Int)) (hj : j < ns.length) : Ev (tOp (rIxL K) ta tb) σ b (.int (ns.getD j 0)) := ev_int (ed_ixL x y (at_ints e hj))
theorem ev_sum {ns : List Int} (x : ED K te σ b (.list (ns.map PyData.int))) : Ev (tCB (rSum K) (tCons te tNil)) σ b (.int ns.sum) := fun h e _ q => x h e _ fun v b2 h2 g2 hv => by
  obtain ⟨a, xs, rfl, k1, k2⟩ := hv.listI
  rw [k2.intsI] at k1
  exact ⟨a, ns, rfl, sq_of (g2.gi _ _ k1), q h2 g2.gh⟩
theorem ds_get {ns : List Int} {j : Nat} (h : ∀ d ∈ ns, 0 ≤ d ∧ d < 1000) : 0 ≤ ns.getD j 0 ∧ ns.getD j 0 < 1000 := by
  rw [List.getD_eq_getElem?_getD]
  cases e : ns[j]? with
  | none => decide
  | some x => exact h x (List.mem_of_getElem? e)
end
theorem map_range_ints (n : Nat) (r : Nat → Int) : (List.range n).map (fun i => PyData.int (r i)) = ((List.range n).map r).map PyData.int := by
  rw [List.map_map]
  rfl

/-- a part of a list of draws -/
theorem sIx_of {n : Nat} (d : Nat) {j : Nat} (h : j ≤ n) : HT.sIx n d (some (j : Int)) = j := by
  rw [HT.sIx_nat, Nat.min_eq_left h]
theorem cut_ints {ds : List Int} {lo n : Nat} (hl : lo + n ≤ ds.length) (hd : ∀ d ∈ ds, 0 ≤ d ∧ d < 1000) : ∃ es : List Int, cutD (ds.map PyData.int) (some (lo : Int)) (some ((lo + n : Nat) : Int)) = es.map PyData.int ∧ es.length = n ∧ ∀ d ∈ es, 0 ≤ d ∧ d < 1000 := by
  refine ⟨(ds.drop lo).take n, ?_, by rw [List.length_take, List.length_drop]; omega, fun d h => hd d (List.mem_of_mem_drop (List.mem_of_mem_take h))⟩
  unfold cutD
  rw [List.length_map, sIx_of 0 (show lo ≤ ds.length by omega), sIx_of _ hl, ← List.map_drop, ← List.map_take, show lo + n - lo = n by omega]
/-! ### games -/
inductive Pl where
  | draw (g : Int × Int) (bs : List ((Int × Int) × Int))
  | side (g : Int × Int) (o : Bool) (ts : List Int)
def brD (p : (Int × Int) × Int) : PyData := .tuple [nD p.1, .int p.2]
def Pl.gain : Pl → Int × Int
  | .draw g _ => g
  | .side g _ _ => g
def Pl.kind : Pl → Str
  | .draw _ _ => "draw"
  | .side _ o _ => if o then "ours" else "theirs"
def Pl.bd : Pl → List PyData
  | .draw _ bs => bs.map brD
  | .side _ _ ts => ts.map PyData.int
def Pl.D (p : Pl) : PyData := .tuple [nD p.gain, .str p.kind, .list p.bd]
def gameD (G : List Pl) : PyData := .list (G.map Pl.D)
/-- a number with small parts, in lowest terms -/
def SmallN (p : Int × Int) : Prop := 1 ≤ p.2 ∧ p.2 < 1000 ∧ p.1.natAbs < 1000 ∧ Nat.gcd p.1.natAbs p.2.natAbs = 1
def WfP (many : Int) : Pl → Prop
  | .draw g bs => SmallN g ∧ 1 ≤ bs.length ∧ bs.length ≤ 6 ∧ (∀ p ∈ bs, 0 ≤ p.2 ∧ p.2 < many) ∧ ∃ ws : List Int, ws.length = bs.length ∧ (∀ w ∈ ws, 1 ≤ w ∧ w ≤ 5) ∧ bs.map (·.1) = ws.map (fun w => num w ws.sum)
  | .side g _ ts => SmallN g ∧ 1 ≤ ts.length ∧ ts.length ≤ 6 ∧ ∀ t ∈ ts, 0 ≤ t ∧ t < many
def WfG (G : List Pl) : Prop := 1 ≤ G.length ∧ G.length ≤ 12 ∧ ∀ p ∈ G, WfP (G.length : Int) p
theorem num_small {n d : Int} (hn : n.natAbs < 1000) (h0 : d ≠ 0) (hd : d.natAbs < 1000) : SmallN (num n d) := by
  unfold num SmallN
  simp only
  generalize hg : Nat.gcd n.natAbs d.natAbs = g
  have g0 : 0 < g := by rw [← hg]; exact Nat.gcd_pos_of_pos_right _ (by omega)
  generalize hN : (if d < 0 then -n else n) = N
  generalize hDd : (if d < 0 then -d else d) = Dd
  have eN : N.natAbs = n.natAbs := by rw [← hN]; split <;> omega
  have eD : Dd = (d.natAbs : Int) := by rw [← hDd]; split <;> omega
  obtain ⟨a, ha⟩ : g ∣ n.natAbs := by rw [← hg]; exact Nat.gcd_dvd_left _ _
  obtain ⟨c, hc⟩ : g ∣ d.natAbs := by rw [← hg]; exact Nat.gcd_dvd_right _ _
  have hab : Nat.gcd a c = 1 := by
    have := Nat.gcd_mul_left g a c
    rw [← ha, ← hc, hg] at this
    exact Nat.eq_of_mul_eq_mul_left g0 (by omega)
  have hc0 : 0 < c := by
    rcases Nat.eq_zero_or_pos c with z | z
    · subst z; omega
    · exact z
  have gi : (0 : Int) < (g : Int) := by omega
  have e1 : Dd / (g : Int) = (c : Int) := by
    rw [eD, hc]
    rw [Int.natCast_mul]
    exact Int.mul_ediv_cancel_left _ (by omega)
  have e2 : (N / (g : Int)).natAbs = a := by
    rcases Int.natAbs_eq N with z | z
    · rw [z, eN, ha, Int.natCast_mul, Int.mul_ediv_cancel_left _ (by omega)]
      rfl
    · rw [z, eN, ha, Int.natCast_mul, ← Int.mul_neg, Int.mul_ediv_cancel_left _ (by omega), Int.natAbs_neg]
      rfl
  have hcl : c ≤ g * c := Nat.le_mul_of_pos_left c g0
  have hal : a ≤ g * a := Nat.le_mul_of_pos_left a g0
  rw [e1, e2]
  refine ⟨by omega, by omega, by omega, ?_⟩
  rw [Int.natAbs_natCast]
  exact hab
theorem map_getD {α : Type} (ws : List Int) (f : Int → α) : (List.range ws.length).map (fun i => f (ws.getD i 0)) = ws.map f := by
  refine List.ext_getElem? fun i => ?_
  rw [List.getElem?_map, List.getElem?_map]
  by_cases h : i < ws.length
  · rw [List.getElem?_range h, List.getElem?_eq_getElem h]
    show some (f (ws.getD i 0)) = some (f ws[i])
    rw [List.getD_eq_getElem?_getD, List.getElem?_eq_getElem h]
    rfl
  · rw [List.getElem?_eq_none (by rw [List.length_range]; omega), List.getElem?_eq_none (by omega)]
    rfl
theorem sum_small : ∀ {ws : List Int}, (∀ w ∈ ws, 1 ≤ w ∧ w ≤ 5) → ws.sum ≤ 5 * ws.length
  | [], _ => by simp
  | x :: ws, h => by
    have h1 := h x List.mem_cons_self
    have h2 := sum_small fun w hw => h w (List.mem_cons_of_mem _ hw)
    rw [List.sum_cons, List.length_cons]
    omega
theorem sum_pos : ∀ {ws : List Int}, (∀ w ∈ ws, 1 ≤ w ∧ w ≤ 5) → (ws.length : Int) ≤ ws.sum
  | [], _ => by simp
  | x :: ws, h => by
    have h1 := h x List.mem_cons_self
    have h2 := sum_pos fun w hw => h w (List.mem_cons_of_mem _ hw)
    rw [List.sum_cons, List.length_cons]
    omega
theorem wf_bd {many : Int} {p : Pl} (h : WfP many p) : 1 ≤ p.bd.length ∧ p.bd.length ≤ 6 := by
  cases p with
  | draw g bs =>
    obtain ⟨_, h1, h2, _⟩ := h
    have e : (Pl.draw g bs).bd.length = bs.length := List.length_map _
    omega
  | side g o ts =>
    obtain ⟨_, h1, h2, _⟩ := h
    have e : (Pl.side g o ts).bd.length = ts.length := List.length_map _
    omega
/-- a place drawn from fifteen draws -/
def spPlace (K : PySem.W.Frag) : Sp := fun vs h Q _ => ∃ (b : Hp) (ds : List Int) (many : Int), Ex b h ∧ DtA K b vs [.list (ds.map PyData.int), .int many] ∧ ds.length = 15 ∧ (∀ d ∈ ds, 0 ≤ d ∧ d < 1000) ∧ 1 ≤ many ∧
  ∀ v b' h' p, Gr b h b' h' → WfP many p → Dt K b' v p.D → Q v h'
/-- a game of at most `most` places -/
def spGame (K : PySem.W.Frag) : Sp := fun vs h Q _ => ∃ (b : Hp) (ds : List Int) (most : Int), Ex b h ∧ DtA K b vs [.list (ds.map PyData.int), .int most] ∧ 1 ≤ most ∧ most ≤ 12 ∧ 1 + 15 * most ≤ (ds.length : Int) ∧ (∀ d ∈ ds, 0 ≤ d ∧ d < 1000) ∧
  ∀ v b' h' G, Gr b h b' h' → WfG G → (G.length : Int) ≤ most → Dt K b' v (gameD G) → Q v h'
theorem all_some {α : Type} {W : α → Prop} {D : α → PyData} : ∀ {acc : List PyData}, (∀ e ∈ acc, ∃ p, W p ∧ e = D p) → ∃ G : List α, acc = G.map D ∧ ∀ p ∈ G, W p
  | [], _ => ⟨[], rfl, fun _ h => by cases h⟩
  | e :: acc, h => by
    obtain ⟨p, hp, rfl⟩ := h e List.mem_cons_self
    obtain ⟨G, rfl, hG⟩ := all_some fun x hx => h x (List.mem_cons_of_mem _ hx)
    exact ⟨p :: G, rfl, fun q hq => by
      rcases List.mem_cons.mp hq with rfl | hq
      · exact hp
      · exact hG q hq⟩
/-- a strategy of a side of a game: what it tells at each place -/
def stD (S : List (Option Nat)) : PyData := .list (S.map fun o => match o with | some j => .int (j : Int) | none => .none)
def WfS (x : Str) (G : List Pl) (S : List (Option Nat)) : Prop := S.length = G.length ∧ ∀ (i : Nat) (p : Pl), G[i]? = some p → (p.kind = x → ∃ j, S[i]? = some (some j) ∧ j < p.bd.length) ∧ (p.kind ≠ x → S[i]? = some none)
def spStrategy (K : PySem.W.Frag) : Sp := fun vs h Q _ => ∃ (b : Hp) (G : List Pl) (x : Str) (ds : List Int), Ex b h ∧ DtA K b vs [gameD G, .str x, .list (ds.map PyData.int)] ∧ WfG G ∧ G.length ≤ ds.length ∧ (∀ d ∈ ds, 0 ≤ d ∧ d < 1000) ∧
  ∀ v b' h' S, Gr b h b' h' → WfS x G S → Dt K b' v (stD S) → Q v h'
/-- the target that a place's branch j tells -/
def Pl.at (p : Pl) (j : Nat) : Int := match p with
  | .draw _ bs => (bs.getD j ((0, 1), 0)).2
  | .side _ _ ts => ts.getD j 0
/-- the strategy put in -/
def putP (x : Str) (p : Pl) (o : Option Nat) : Pl := if p.kind = x then .draw p.gain [((1, 1), p.at (o.getD 0))] else p
def putG (x : Str) : List Pl → List (Option Nat) → List Pl
  | p :: G, o :: S => putP x p o :: putG x G S
  | _, _ => []
theorem putG_len (x : Str) : ∀ (G : List Pl) (S : List (Option Nat)), S.length = G.length → (putG x G S).length = G.length
  | [], _, _ => by cases ‹List (Option Nat)› <;> rfl
  | p :: G, o :: S, h => congrArg Nat.succ (putG_len x G S (Nat.succ.inj h))
theorem putG_get (x : Str) : ∀ (G : List Pl) (S : List (Option Nat)) (i : Nat) (p : Pl) (o : Option Nat), G[i]? = some p → S[i]? = some o → (putG x G S)[i]? = some (putP x p o)
  | [], _, _, _, _, h, _ => by simp at h
  | q :: G, [], _, _, _, _, h => by simp at h
  | q :: G, r :: S, 0, p, o, h1, h2 => by
    simp only [List.getElem?_cons_zero, Option.some.injEq] at h1 h2
    subst h1 h2
    rfl
  | q :: G, r :: S, i + 1, p, o, h1, h2 => by
    simp only [List.getElem?_cons_succ] at h1 h2
    exact putG_get x G S i p o h1 h2
theorem putG_more (x : Str) (G : List Pl) (S : List (Option Nat)) (i : Nat) (p : Pl) (o : Option Nat) (h1 : G[i]? = some p) (h2 : S[i]? = some o) : putG x (G.take (i + 1)) (S.take (i + 1)) = putG x (G.take i) (S.take i) ++ [putP x p o] := by
  induction G generalizing S i with
  | nil => simp at h1
  | cons q G ih =>
    cases S with
    | nil => simp at h2
    | cons r S =>
      cases i with
      | zero =>
        simp only [List.getElem?_cons_zero, Option.some.injEq] at h1 h2
        subst h1 h2
        simp [putG]
      | succ i =>
        simp only [List.getElem?_cons_succ] at h1 h2
        simp only [List.take_succ_cons, putG, List.cons_append]
        rw [ih S i h1 h2]
def Side (x : Str) : Prop := x = "ours" ∨ x = "theirs"
def SmG (G : List Pl) : Prop := G.length ≤ 12 ∧ ∀ p ∈ G, p.bd.length ≤ 6
def spPut (K : PySem.W.Frag) : Sp := fun vs h Q _ => ∃ (b : Hp) (G : List Pl) (x : Str) (S : List (Option Nat)), Ex b h ∧ DtA K b vs [gameD G, .str x, stD S] ∧ SmG G ∧ Side x ∧ WfS x G S ∧
  ∀ v b' h', Gr b h b' h' → Dt K b' v (gameD (putG x G S)) → Q v h'
theorem kind_draw {g : Int × Int} {bs : List ((Int × Int) × Int)} {x : Str} (h : Side x) : (Pl.draw g bs).kind ≠ x := by
  rcases h with rfl | rfl
  · exact (by decide +kernel : ("draw" : Str) ≠ "ours")
  · exact (by decide +kernel : ("draw" : Str) ≠ "theirs")
theorem at_bd {p : Pl} {x : Str} {j : Nat} (h : Side x) (hk : p.kind = x) (hj : j < p.bd.length) : p.bd[j]? = some (.int (p.at j)) := by
  cases p with
  | draw g bs => exact absurd hk (kind_draw h)
  | side g o ts =>
    have hj' : j < ts.length := by
      have : (ts.map PyData.int).length = ts.length := List.length_map _
      have h2 : j < (ts.map PyData.int).length := hj
      omega
    show (ts.map PyData.int)[j]? = some (.int (ts.getD j 0))
    rw [List.getElem?_map, List.getElem?_eq_getElem hj', List.getD_eq_getElem?_getD, List.getElem?_eq_getElem hj']
    rfl
section
variable {K : PySem.W.Frag} {σ : L2.St} {b h : Hp} {te ta : TE} {d : PyData} {q : Addr} {us : List V} {D : Ends} {tz : TS}
/-- found.append(e), found a list that is not spoken of -/
theorem r_app1 (hq : h q = some (.lst us)) (ha : Ev ta σ h (.ref q)) (x : ED K te σ b d) (e : Ex b h) (nb : b q = none) (hz : us.length < 100000)
    (k : ∀ v b' h', Gr b h b' h' → b' q = none → h' q = some (.lst us) → Dt K b' v d → D.nx σ (upd h' q (.lst (us ++ [v])))) : tDrop (tBM K "list" rAppend ta (tCons te tNil)) D σ h :=
  ha h (Ex.refl h) _ fun h1 e1 => ⟨Or.inl ⟨rfl, us, sq_of (e1 _ _ hq)⟩, x h1 (e.trans e1) _ fun v b2 h2 g2 hv =>
    ⟨q, us, v, rfl, rfl, g2.gh _ _ (e1 _ _ hq), sz_lt hz, k v b2 h2 ((Gr.stay e e1).trans g2) (g2.gf q nb (by rw [e1 _ _ hq]; intro z; cases z)) (g2.gh _ _ (e1 _ _ hq)) hv⟩⟩
end
def svV : Option Nat → V
  | some j => .int (j : Int)
  | none => .non
def svD : Option Nat → PyData
  | some j => .int (j : Int)
  | none => .none
theorem stD_eq (S : List (Option Nat)) : stD S = .list (S.map svD) := by
  unfold stD svD
  rfl
theorem DtA.sv {K : PySem.W.Frag} {b : Hp} : ∀ S : List (Option Nat), DtA K b (S.map svV) (S.map svD)
  | [] => DtA.nil
  | some j :: S => DtA.cons (Dt.int _) (DtA.sv S)
  | none :: S => DtA.cons Dt.none (DtA.sv S)
theorem game_at {G : List Pl} {i : Nat} {p : Pl} (h : G[i]? = some p) : L2.atI (G.map Pl.D) (i : Int) = some p.D := atI_nat (by rw [List.getElem?_map, h] <;> rfl)
end Md


set_option Elab.async false
set_option linter.all false
set_option maxRecDepth 100000
set_option maxHeartbeats 2000000
namespace Md
open PySem L2 Evl
/-! ### data that repr and == take: how deep, how long its text -/
structure Nice (k L : Nat) (d : PyData) : Prop where
  show_ : d.showable = true
  nd : d.hasDict = false
  dep : d.depth ≤ k
  lay : d.canLay0 = true
  len : d.shown.length ≤ L
theorem Nice.mono {k L k' L' : Nat} {d : PyData} (h : Nice k L d) (hk : k ≤ k') (hl : L ≤ L') : Nice k' L' d := ⟨h.show_, h.nd, Nat.le_trans h.dep hk, h.lay, Nat.le_trans h.len hl⟩
theorem nice_none : Nice 0 4 .none := ⟨rfl, rfl, Nat.le_refl _, rfl, by decide +kernel⟩
theorem nice_int {i : Int} (h : i.natAbs < 10 ^ 18) : Nice 0 19 (.int i) := by
  refine ⟨?_, rfl, Nat.le_refl _, rfl, ?_⟩
  · show decide (i.natAbs.log2 < 1920) = true
    refine decide_eq_true ?_
    by_cases h0 : i.natAbs = 0
    · rw [h0]; decide
    · rw [Nat.log2_lt h0]
      exact Nat.lt_trans h (by decide +kernel)
  · have := PySem.int_text_length_le10 (k := 18) (by decide) h
    show (Str.ofString (toString i)).length ≤ 19
    rw [ofString_length]
    exact this
theorem nice_str {z : Str} {L : Nat} (h : (PyData.str z).shown.length ≤ L) (h2 : (PyData.str z).canLay0 = true) : Nice 0 L (.str z) := ⟨rfl, rfl, Nat.le_refl _, h2, h⟩
theorem nice_all {k L : Nat} : ∀ {ds : List PyData}, (∀ d ∈ ds, Nice k L d) → PyData.showableAll ds = true ∧ PyData.hasDictAll ds = false ∧ PyData.depthAll ds ≤ k ∧ PyData.canLayAll0 ds = true ∧ piled (PyData.shownAll ds) ≤ ds.length * (L + 2)
  | [], _ => ⟨rfl, rfl, Nat.zero_le _, rfl, by rw [List.length_nil, Nat.zero_mul]; exact Nat.le_refl _⟩
  | d :: ds, h => by
    obtain ⟨h1, h2, h3, h4, h5⟩ := nice_all fun x hx => h x (List.mem_cons_of_mem _ hx)
    have hd := h d List.mem_cons_self
    refine ⟨?_, ?_, ?_, ?_, ?_⟩
    · show (d.showable && PyData.showableAll ds) = true
      rw [hd.show_, h1] <;> rfl
    · show (d.hasDict || PyData.hasDictAll ds) = false
      rw [hd.nd, h2] <;> rfl
    · show max d.depth (PyData.depthAll ds) ≤ k
      exact Nat.max_le.mpr ⟨hd.dep, h3⟩
    · show (d.canLay0 && PyData.canLayAll0 ds) = true
      rw [hd.lay, h4] <;> rfl
    · show piled (d.shown :: PyData.shownAll ds) ≤ _
      rw [piled_cons, List.length_cons, Nat.add_mul, Nat.one_mul]
      have := hd.len
      omega
theorem textFrom_le : ∀ (ts : List Str) (k : Nat) (acc : Str), (textFrom k acc ts).length ≤ acc.length + piled ts
  | [], k, acc => by show acc.length ≤ acc.length + piled []; omega
  | t :: r, k, acc => by
    have h := textFrom_le r (k + 1) (acc ++ (if k > 0 then ", " else "" : String) ++ t)
    have e : (acc ++ (if k > 0 then ", " else "" : String) ++ t).length ≤ acc.length + 2 + t.length := by
      rw [strLen_append, strLen_append]
      split
      · exact Nat.le_refl _
      · show acc.length + 0 + t.length ≤ _
        omega
    rw [piled_cons]
    show (textFrom (k + 1) _ r).length ≤ _
    omega
theorem listText_le (ts : List Str) : (listText ts).length ≤ piled ts + 2 := by
  unfold listText
  rw [strLen_append]
  have := textFrom_le ts 0 "["
  have e1 : (("[" : String) : Str).length = 1 := by decide +kernel
  have e2 : (("]" : String) : Str).length = 1 := by decide +kernel
  omega
theorem tupleText_le (ts : List Str) : (tupleText ts).length ≤ piled ts + 4 := by
  unfold tupleText
  rw [strLen_append, strLen_append]
  have e1 : (("(" : Str)).length = 1 := by decide +kernel
  have e3 : ((if ts.length == 1 then ",)" else ")" : String) : Str).length ≤ 2 := by
    split
    · decide +kernel
    · decide +kernel
  by_cases h : ts = []
  · subst h
    have e2 : (Str.join ", " []).length = 0 := by decide +kernel
    omega
  · have := join_length_add ts h
    omega
theorem nice_list {k L n : Nat} {ds : List PyData} (h : ∀ d ∈ ds, Nice k L d) (hn : ds.length ≤ n) : Nice (k + 1) (n * (L + 2) + 4) (.list ds) := by
  obtain ⟨h1, h2, h3, h4, h5⟩ := nice_all h
  refine ⟨h1, h2, Nat.succ_le_succ h3, h4, ?_⟩
  show (listText (PyData.shownAll ds)).length ≤ _
  have := listText_le (PyData.shownAll ds)
  have e : ds.length * (L + 2) ≤ n * (L + 2) := Nat.mul_le_mul_right _ hn
  omega
theorem nice_tup {k L n : Nat} {ds : List PyData} (h : ∀ d ∈ ds, Nice k L d) (hn : ds.length ≤ n) : Nice (k + 1) (n * (L + 2) + 4) (.tuple ds) := by
  obtain ⟨h1, h2, h3, h4, h5⟩ := nice_all h
  refine ⟨h1, h2, Nat.succ_le_succ h3, h4, ?_⟩
  show (tupleText (PyData.shownAll ds)).length ≤ _
  have := tupleText_le (PyData.shownAll ds)
  have e : ds.length * (L + 2) ≤ n * (L + 2) := Nat.mul_le_mul_right _ hn
  omega
theorem nice_kind (p : Pl) : Nice 0 20 (.str p.kind) := by
  cases p with
  | draw g bs => exact nice_str (z := "draw") (L := 20) (by decide +kernel) (by decide +kernel)
  | side g o ts =>
    cases o with
    | true => exact nice_str (z := "ours") (L := 20) (by decide +kernel) (by decide +kernel)
    | false => exact nice_str (z := "theirs") (L := 20) (by decide +kernel) (by decide +kernel)
/-- numbers of a game or a strategy -/
def NumOk (p : Int × Int) : Prop := p.1.natAbs < 10 ^ 18 ∧ p.2.natAbs < 10 ^ 18
theorem nice_num {p : Int × Int} (h : NumOk p) : Nice 1 46 (nD p) := nice_tup (L := 19) (n := 2) (fun d hd => by
  simp only [List.mem_cons, List.not_mem_nil, or_false] at hd
  rcases hd with rfl | rfl
  · exact nice_int h.1
  · exact nice_int h.2) (by show 2 ≤ 2; decide)
def OkP : Pl → Prop
  | .draw g bs => NumOk g ∧ bs.length ≤ 6 ∧ ∀ p ∈ bs, NumOk p.1 ∧ p.2.natAbs < 10 ^ 18
  | .side g _ ts => NumOk g ∧ ts.length ≤ 6 ∧ ∀ t ∈ ts, t.natAbs < 10 ^ 18
def OkG (G : List Pl) : Prop := G.length ≤ 12 ∧ ∀ p ∈ G, OkP p
theorem Nice.shaped {k L : Nat} {d : PyData} (h : Nice k L d) (hk : k ≤ 64) : SeqAt.shaped d = true := by
  unfold SeqAt.shaped
  rw [h.lay, decide_eq_true (Nat.le_trans h.dep hk)] <;> rfl
theorem Nice.eqv {k L : Nat} {d : PyData} (h : Nice k L d) : PyData.eqv d d = true := PySem.SeqAt.eqv_refl d h.lay
theorem nice_place {p : Pl} (h : OkP p) : Nice 4 2000 p.D := by
  have hl : Nice 3 616 (.list p.bd) := by
    cases p with
    | draw g bs =>
      refine (nice_list (k := 2) (L := 100) (n := 6) (fun d hd => ?_) (by show (bs.map brD).length ≤ 6; rw [List.length_map]; exact h.2.1)).mono (by decide) (by decide)
      obtain ⟨q, hq, rfl⟩ := List.mem_map.mp hd
      have hq2 := h.2.2 q hq
      refine (nice_tup (k := 1) (L := 46) (n := 2) (fun d hd => ?_) (by show 2 ≤ 2; decide)).mono (by decide) (by decide)
      simp only [List.mem_cons, List.not_mem_nil, or_false] at hd
      rcases hd with rfl | rfl
      · exact nice_num hq2.1
      · exact (nice_int hq2.2).mono (by decide) (by decide)
    | side g o ts =>
      refine (nice_list (k := 0) (L := 19) (n := 6) (fun d hd => ?_) (by show (ts.map PyData.int).length ≤ 6; rw [List.length_map]; exact h.2.1)).mono (by decide) (by decide)
      obtain ⟨q, hq, rfl⟩ := List.mem_map.mp hd
      exact nice_int (h.2.2 q hq)
  have hg : NumOk p.gain := by
    cases p with
    | draw g bs => exact h.1
    | side g o ts => exact h.1
  refine (nice_tup (k := 3) (L := 616) (n := 3) (fun d hd => ?_) (by show 3 ≤ 3; decide)).mono (by decide) (by decide)
  simp only [List.mem_cons, List.not_mem_nil, or_false] at hd
  rcases hd with rfl | rfl | rfl
  · exact (nice_num hg).mono (by decide) (by decide)
  · exact (nice_kind p).mono (by decide) (by decide)
  · exact hl
theorem nice_game {G : List Pl} (h : OkG G) : Nice 5 25000 (gameD G) := by
  refine (nice_list (k := 4) (L := 2000) (n := 12) (fun d hd => ?_) (by rw [List.length_map]; exact h.1)).mono (by decide) (by decide)
  obtain ⟨q, hq, rfl⟩ := List.mem_map.mp hd
  exact nice_place (h.2 q hq)
theorem nice_st {S : List (Option Nat)} (h : S.length ≤ 12) (hs : ∀ o ∈ S, ∀ j, o = some j → j < 1000) : Nice 1 300 (stD S) := by
  rw [stD_eq]
  refine (nice_list (k := 0) (L := 19) (n := 12) (fun d hd => ?_) (by rw [List.length_map]; exact h)).mono (by decide) (by decide)
  obtain ⟨q, hq, rfl⟩ := List.mem_map.mp hd
  cases q with
  | none => exact nice_none.mono (by decide) (by decide)
  | some j =>
    have := hs _ hq j rfl
    refine nice_int ?_
    have : ((j : Int)).natAbs < 1000 := by omega
    exact Nat.lt_trans this (by decide)
theorem ok_small {p : Int × Int} (h : SmallN p) : NumOk p := ⟨Nat.lt_trans h.2.2.1 (by decide), Nat.lt_trans (show p.2.natAbs < 1000 by have := h.1; have := h.2.1; omega) (by decide)⟩
theorem num_le {n d : Int} (h : d ≠ 0) : (num n d).1.natAbs ≤ n.natAbs ∧ (num n d).2.natAbs ≤ d.natAbs := by
  unfold num
  simp only
  have hg : 0 < Nat.gcd n.natAbs d.natAbs := Nat.gcd_pos_of_pos_right _ (by omega)
  generalize Nat.gcd n.natAbs d.natAbs = g at hg
  have key : ∀ z : Int, (z / (g : Int)).natAbs ≤ z.natAbs := fun z => by
    have := Int.natAbs_ediv_le_natAbs z (g : Int)
    exact this
  have e1 : (if d < 0 then -n else n).natAbs = n.natAbs := by split <;> omega
  have e2 : (if d < 0 then -d else d).natAbs = d.natAbs := by split <;> omega
  exact ⟨e1 ▸ key _, e2 ▸ key _⟩
theorem wf_okP {many : Int} {p : Pl} (h : WfP many p) (hm : many ≤ 12) : OkP p := by
  cases p with
  | draw g bs =>
    obtain ⟨h1, h2, h3, h4, ws, h5, h6, h7⟩ := h
    refine ⟨ok_small h1, h3, fun p hp => ⟨?_, ?_⟩⟩
    · have hm1 : p.1 ∈ bs.map (·.1) := List.mem_map.mpr ⟨p, hp, rfl⟩
      rw [h7] at hm1
      obtain ⟨w, hw, e⟩ := List.mem_map.mp hm1
      rw [← e]
      have h8 := h6 w hw
      have h9 := sum_small h6
      have h10 := sum_pos h6
      have h11 : ws.sum ≠ 0 := by omega
      have h12 := num_le (n := w) h11
      exact ⟨Nat.lt_of_le_of_lt h12.1 (Nat.lt_trans (show w.natAbs < 1000 by omega) (by decide)), Nat.lt_of_le_of_lt h12.2 (Nat.lt_trans (show ws.sum.natAbs < 1000 by omega) (by decide))⟩
    · have := h4 p hp
      exact Nat.lt_trans (show p.2.natAbs < 1000 by omega) (by decide)
  | side g o ts =>
    obtain ⟨h1, h2, h3, h4⟩ := h
    refine ⟨ok_small h1, h3, fun t ht => ?_⟩
    have := h4 t ht
    exact Nat.lt_trans (show t.natAbs < 1000 by omega) (by decide)
theorem wf_okG {G : List Pl} (h : WfG G) : OkG G := ⟨h.2.1, fun p hp => wf_okP (h.2.2 p hp) (by have := h.2.1; omega)⟩
theorem ok_put {x : Str} {p : Pl} {o : Option Nat} (h : OkP p) : OkP (putP x p o) := by
  unfold putP
  split
  · have hg : NumOk p.gain := by
      cases p with
      | draw g bs => exact h.1
      | side g o ts => exact h.1
    refine ⟨hg, by show 1 ≤ 6; decide, fun q hq => ?_⟩
    rw [List.mem_singleton] at hq
    subst hq
    refine ⟨⟨by show (1 : Int).natAbs < 10 ^ 18; decide, by show (1 : Int).natAbs < 10 ^ 18; decide⟩, ?_⟩
    cases p with
    | draw g bs =>
      show ((bs.getD (o.getD 0) ((0, 1), 0)).2).natAbs < 10 ^ 18
      rw [List.getD_eq_getElem?_getD]
      cases e : bs[o.getD 0]? with
      | none => decide
      | some q => exact (h.2.2 q (List.mem_of_getElem? e)).2
    | side g oo ts =>
      show (ts.getD (o.getD 0) 0).natAbs < 10 ^ 18
      rw [List.getD_eq_getElem?_getD]
      cases e : ts[o.getD 0]? with
      | none => decide
      | some q => exact h.2.2 q (List.mem_of_getElem? e)
  · exact h
theorem ok_putG (x : Str) : ∀ (G : List Pl) (S : List (Option Nat)), (∀ p ∈ G, OkP p) → ∀ p ∈ putG x G S, OkP p
  | [], _, _, p, hp => by cases ‹List (Option Nat)› <;> cases hp
  | q :: G, [], _, p, hp => by cases hp
  | q :: G, o :: S, h, p, hp => by
    rcases List.mem_cons.mp hp with rfl | hp
    · exact ok_put (h q List.mem_cons_self)
    · exact ok_putG x G S (fun y hy => h y (List.mem_cons_of_mem _ hy)) p hp
theorem ok_bd {p : Pl} (h : OkP p) : p.bd.length ≤ 6 := by
  cases p with
  | draw g bs => exact (List.length_map (as := bs) brD).symm ▸ h.2.1
  | side g o ts => exact (List.length_map (as := ts) PyData.int).symm ▸ h.2.1
/-! ### places with a list of their own -/
def ConstT (K : PySem.W.Frag) (mg : Str → Option Value) (x : Str) (d : PyData) : Prop := ∃ a, mg x = some (.ref a) ∧ ∀ H, Dt K H (.ref a) d
/-- u is a tuple whose third item is a list that was not there in h -/
def OwnL (K : PySem.W.Frag) (h b' : Hp) (u : V) : Prop := ∃ t g kd l bs, u = .ref t ∧ SqT K b' t [g, kd, .ref l] ∧ h l = none ∧ b' l = some (.lst bs) ∧ bs.length ≤ 6
theorem OwnL.up {K : PySem.W.Frag} {h b b' : Hp} {u : V} (x : OwnL K h b u) (e : Ex b b') : OwnL K h b' u := by
  obtain ⟨t, g, kd, l, bs, h1, h2, h3, h4, h5⟩ := x
  exact ⟨t, g, kd, l, bs, h1, ex_t e h2, h3, e _ _ h4, h5⟩
theorem OwnL.of {K : PySem.W.Frag} {h h' b : Hp} {u : V} (x : OwnL K h' b u) (e : Ex h h') : OwnL K h b u := by
  obtain ⟨t, g, kd, l, bs, h1, h2, h3, h4, h5⟩ := x
  exact ⟨t, g, kd, l, bs, h1, h2, fresh_back e h3, h4, h5⟩
def OwnQ (K : PySem.W.Frag) (h : Hp) (p : Addr) (b' : Hp) (u : V) : Prop := ∃ t g kd l bs, u = .ref t ∧ SqT K b' t [g, kd, .ref l] ∧ h l = none ∧ l ≠ p ∧ b' l = some (.lst bs) ∧ bs.length ≤ 6
theorem OwnL.q {K : PySem.W.Frag} {h b : Hp} {u : V} {p : Addr} (x : OwnL K h b u) (n : b p = none) : OwnQ K h p b u := by
  obtain ⟨t, g, kd, l, bs, h1, h2, h3, h4, h5⟩ := x
  exact ⟨t, g, kd, l, bs, h1, h2, h3, ne_of_none h4 n, h4, h5⟩
theorem OwnQ.up {K : PySem.W.Frag} {h b b' : Hp} {u : V} {p : Addr} (x : OwnQ K h p b u) (e : Ex b b') : OwnQ K h p b' u := by
  obtain ⟨t, g, kd, l, bs, h1, h2, h3, h4, h5, h6⟩ := x
  exact ⟨t, g, kd, l, bs, h1, ex_t e h2, h3, h4, e _ _ h5, h6⟩
def spTold (K : PySem.W.Frag) : Sp := fun vs h Q _ => ∃ (b : Hp) (p : Pl) (x : Str) (o : Option Nat), Ex b h ∧ DtA K b vs [p.D, .str x, svD o] ∧ Side x ∧ (p.kind = x → ∃ j, o = some j ∧ j < p.bd.length) ∧ p.bd.length ≤ 6 ∧
  ∀ v b' h', Gr b h b' h' → Dt K b' v (putP x p o).D → OwnL K h b' v → Q v h'
def spWith (K : PySem.W.Frag) : Sp := fun vs h Q _ => ∃ (b : Hp) (G : List Pl) (x : Str) (S : List (Option Nat)), Ex b h ∧ DtA K b vs [gameD G, .str x, stD S] ∧ SmG G ∧ Side x ∧ WfS x G S ∧
  ∀ p us b' h', Gr b h b' h' → h p = none → Dt K b' (.ref p) (gameD (putG x G S)) → b' p = some (.lst us) → (∀ u ∈ us, OwnQ K h p b' u) → Q (.ref p) h'
theorem tup3N {K : PySem.W.Frag} {σ : L2.St} {b h : Hp} {t1 t2 t3 : TE} {d1 d2 : PyData} {ds : List PyData} {Q : VK} (x1 : ED K t1 σ b d1) (x2 : ED K t2 σ b d2) (x3 : EN K t3 σ b ds) (e : Ex b h) (hl : ds.length ≤ 6)
    (k : ∀ v b' h', Gr b h b' h' → Dt K b' v (.tuple [d1, d2, .list ds]) → OwnL K h b' v → Q v h') : tTup (tCons t1 (tCons t2 (tCons t3 tNil))) σ h Q :=
  x1 h e _ fun v1 b1 h1 g1 k1 => x2.up g1.gb h1 g1.gi _ fun v2 b2 h2 g2 k2 => x3.up (g1.gb.trans g2.gb) h2 g2.gi _ fun l us b3 h3 nl nb g3 hl3 hus => ⟨by show 3 ≤ sizeLine; decide, fun t ht => by
    have G := (g1.trans g2).trans g3
    have hl0 : h l = none := fresh_back (g1.gh.trans g2.gh) nl
    have G' := G.tell hl0 nb hl3
    have G2 := G'.trans (Gr.new (o := .tup [v1, v2, .ref l]) G'.gi ht)
    have nt : (upd b3 l (.lst us)) t = none := none_of G'.gi ht
    have e1 : Ex b3 (upd (upd b3 l (.lst us)) t (.tup [v1, v2, .ref l])) := (Ex.new nb).trans (Ex.new nt)
    have nlt : l ≠ t := ne_of_none hl3 ht
    have hul : (upd (upd b3 l (.lst us)) t (.tup [v1, v2, .ref l])) l = some (.lst us) := by rw [upd_ne nlt, upd_same]
    have hut : SqT K (upd (upd b3 l (.lst us)) t (.tup [v1, v2, .ref l])) t [v1, v2, .ref l] := st_of upd_same
    exact k (.ref t) _ _ G2 (Dt.tuple hut (DtA.cons (((k1.up g2.gb).up g3.gb).up e1) (DtA.cons ((k2.up g3.gb).up e1) (DtA.one (Dt.list hul (hus.up e1)))))) ⟨t, v1, v2, l, us, rfl, hut, hl0, hul, by rw [hus.length]; exact hl⟩⟩
theorem tyes_of {A B : Hp → Prop} {σ : L2.St} {H : Hp} (h : A H) : tYes σ H (fun k H' => if k = true then A H' else B H') := by
  show (if true = true then A H else B H)
  rw [if_pos rfl]
  exact h
theorem sqT_upd {K : PySem.W.Frag} {h : Hp} {t l : Addr} {xs bs cs : List V} (x : SqT K h t xs) (hl : h l = some (.lst bs)) : SqT K (upd h l (.lst cs)) t xs := by
  rcases x with (x | ⟨o, x⟩) | x
  · exact .inl (.inl (by rw [upd_ne (ne_of x hl (by intro z; cases z))]; exact x))
  · exact .inl (.inr ⟨o, by rw [upd_ne (ne_of x hl (by intro z; cases z))]; exact x⟩)
  · exact .inr x
theorem kd_ou : ¬ (("ours" : Str) = "theirs") := by decide +kernel
theorem kd_to : ¬ (("theirs" : Str) = "ours") := by decide +kernel
theorem put_comm (p : Pl) (o t : Option Nat) : putP "theirs" (putP "ours" p o) t = putP "ours" (putP "theirs" p t) o := by
  have hd : ∀ (g : Int × Int) (bs : List ((Int × Int) × Int)) (x : Str) (z : Option Nat), Side x → putP x (.draw g bs) z = .draw g bs := fun g bs x z hx => by
    unfold putP
    rw [if_neg (kind_draw hx)]
  by_cases h1 : p.kind = "ours"
  · have e1 : putP "ours" p o = .draw p.gain [((1, 1), p.at (o.getD 0))] := by unfold putP; rw [if_pos h1]
    have e2 : putP "theirs" p t = p := by unfold putP; rw [if_neg (by rw [h1]; exact kd_ou)]
    rw [e2, e1, hd _ _ _ _ (.inr rfl)]
  · have e1 : putP "ours" p o = p := by unfold putP; rw [if_neg h1]
    rw [e1]
    by_cases h2 : p.kind = "theirs"
    · have e2 : putP "theirs" p t = .draw p.gain [((1, 1), p.at (t.getD 0))] := by unfold putP; rw [if_pos h2]
      rw [e2, hd _ _ _ _ (.inl rfl)]
    · have e2 : putP "theirs" p t = p := by unfold putP; rw [if_neg h2]
      rw [e2, e1]
theorem putG_comm : ∀ (G : List Pl) (S T : List (Option Nat)), S.length = G.length → T.length = G.length → putG "theirs" (putG "ours" G S) T = putG "ours" (putG "theirs" G T) S
  | [], S, T, hS, hT => by
    cases S with
    | nil => cases T with
      | nil => rfl
      | cons _ _ => cases hT
    | cons _ _ => cases hS
  | p :: G, o :: S, t :: T, hS, hT => by
    show putP "theirs" (putP "ours" p o) t :: putG "theirs" (putG "ours" G S) T = putP "ours" (putP "theirs" p t) o :: putG "ours" (putG "theirs" G T) S
    rw [put_comm, putG_comm G S T (Nat.succ.inj hS) (Nat.succ.inj hT)]
theorem wfS_put {x y : Str} {G : List Pl} {S T : List (Option Nat)} (hx : Side x) (hy : Side y) (hxy : x ≠ y) (hS : WfS x G S) (hT : WfS y G T) : WfS y (putG x G S) T := by
  have hl := putG_len x G S hS.1
  refine ⟨by rw [hl]; exact hT.1, fun i q hq => ?_⟩
  have hi : i < G.length := by
    have := (List.getElem?_eq_some_iff.mp hq).1
    omega
  obtain ⟨p, hp⟩ : ∃ p, G[i]? = some p := ⟨_, List.getElem?_eq_getElem hi⟩
  obtain ⟨o, ho⟩ : ∃ o, S[i]? = some o := ⟨_, List.getElem?_eq_getElem (by rw [hS.1]; exact hi)⟩
  have e := putG_get x G S i p o hp ho
  rw [hq] at e
  have e' : q = putP x p o := Option.some.inj e
  have hTi := hT.2 i p hp
  by_cases hk : p.kind = x
  · have e2 : q = .draw p.gain [((1, 1), p.at (o.getD 0))] := by rw [e']; unfold putP; rw [if_pos hk]
    refine ⟨fun z => absurd z (by rw [e2]; exact kind_draw hy), fun _ => hTi.2 (by rw [hk]; exact hxy)⟩
  · have e2 : q = p := by rw [e']; unfold putP; rw [if_neg hk]
    rw [e2]
    exact hTi
theorem smG_of {G : List Pl} (h : OkG G) : SmG G := ⟨h.1, fun p hp => ok_bd (h.2 p hp)⟩
theorem okG_put {x : Str} {G : List Pl} {S : List (Option Nat)} (h : OkG G) (hl : S.length = G.length) : OkG (putG x G S) := ⟨by rw [putG_len x G S hl]; exact h.1, ok_putG x G S h.2⟩
theorem wfS_small {x : Str} {G : List Pl} {S : List (Option Nat)} (h : OkG G) (hS : WfS x G S) : ∀ o ∈ S, ∀ j, o = some j → j < 1000 := by
  intro o ho j hj
  obtain ⟨i, hi, rfl⟩ := List.mem_iff_getElem.mp ho
  have hiG : i < G.length := by rw [← hS.1]; exact hi
  have hp : G[i]? = some G[i] := List.getElem?_eq_getElem hiG
  have hSi := hS.2 i _ hp
  have e : S[i]? = some S[i] := List.getElem?_eq_getElem hi
  by_cases hk : G[i].kind = x
  · obtain ⟨n, hn, hb⟩ := hSi.1 hk
    rw [e, hj] at hn
    have hjn : j = n := Option.some.inj (Option.some.inj hn)
    have := ok_bd (h.2 _ (List.getElem_mem hiG))
    omega
  · have hn := hSi.2 hk
    rw [e, hj] at hn
    cases hn
section
variable {K : PySem.W.Frag} {σ : L2.St} {b h : Hp} {te : TE} {ts : TA} {ds : List PyData} {D : Ends} {tz : TS} {sp : Sp} {E : XK}
theorem r_call {i : Nat} (x : EDA K ts σ b ds) (e : Ex b h) (k : ∀ vs b' h', Gr b h b' h' → DtA K b' vs ds → sp vs h' (fun v h2 => tz D (σ.set i (some v)) h2) E) : tSeq (tAsg (tCall sp [] E ts) (gName i)) tz D σ h :=
  x h e _ fun vs b' h' g hv => by
    rw [List.append_nil]
    exact k vs b' h' g hv
theorem ed_put {G : List Pl} {x : Str} {S : List (Option Nat)} (y : EDA K ts σ b [gameD G, .str x, stD S]) (h1 : SmG G) (h2 : Side x) (h3 : WfS x G S) : ED K (tCall (spPut K) [] E ts) σ b (gameD (putG x G S)) := fun h e _ q =>
  y h e _ fun vs b2 h2' g2 hv => ⟨b2, G, x, S, g2.gi, by rw [List.append_nil]; exact hv, h1, h2, h3, fun v b3 h3 g3 hv3 => q v b3 h3 (g2.trans g3) hv3⟩
theorem ed_with {G : List Pl} {x : Str} {S : List (Option Nat)} (y : EDA K ts σ b [gameD G, .str x, stD S]) (h1 : SmG G) (h2 : Side x) (h3 : WfS x G S) : ED K (tCall (spWith K) [] E ts) σ b (gameD (putG x G S)) := fun h e _ q =>
  y h e _ fun vs b2 h2' g2 hv => ⟨b2, G, x, S, g2.gi, by rw [List.append_nil]; exact hv, h1, h2, h3, fun p us b3 h3 g3 hn hv3 _ _ => q (.ref p) b3 h3 (g2.trans g3) hv3⟩
theorem ev_isiL (x : ED K te σ b (.list ds)) : Ev (tCB (rIsi K) (tCons te (tCons (tC (.ty "list")) tNil))) σ b (.bl true) := fun h e _ q => x h e _ fun v b2 h2 g2 hv => by
  obtain ⟨a, xs, rfl, k1, k2⟩ := hv.listI
  exact ⟨.ref a, .ty "list", .type "list", .type "list", true, rfl, .ty _, .base (.lst (g2.gi _ _ k1)), kit_ty (by decide +kernel), q h2 g2.gh⟩
theorem ref_list {v : V} {H : Hp} (x : Dt K H v (.list ds)) : ∃ p, v = .ref p := by
  obtain ⟨a, _, e, _⟩ := x.listI
  exact ⟨a, e⟩
theorem ref_tup {v : V} {H : Hp} (x : Dt K H v (.tuple ds)) : ∃ p, v = .ref p := by
  obtain ⟨a, _, e, _⟩ := x.tupleI
  exact ⟨a, e⟩
theorem ev_reprN {k L : Nat} {d : PyData} (x : ED K te σ b d) (n : Nice k L d) (hl : ∀ v H, Dt K H v d → ∃ p, v = .ref p) (hk : k ≤ 60) (hL : L ≤ 16000000) : Ev (tCB (rRepr K) (tCons te tNil)) σ b (.str d.shown) :=
  ev_repr x hl n.show_ n.nd (Nat.le_trans n.dep hk) (Nat.le_trans n.len (Nat.le_trans hL (by decide)))
theorem ev_same {ta tb : TE} {k L : Nat} {d : PyData} (x : ED K ta σ b d) (y : ED K tb σ b d) (n : Nice k L d) (hk : k ≤ 64) : Ev (tOp (rEqD K) ta tb) σ b (.bl true) := by
  have := ev_eqD x y (n.shaped hk) (n.shaped hk)
  rwa [n.eqv] at this
theorem ev_differ {ta tb : TE} {k L : Nat} {d : PyData} (x : ED K ta σ b d) (y : ED K tb σ b d) (n : Nice k L d) (hk : k ≤ 64) : Ev (tOp (rNeD K) ta tb) σ b (.bl false) := by
  have := ev_neD x y (n.shaped hk) (n.shaped hk)
  rwa [n.eqv] at this
theorem ev_eqS {ta tb : TE} {v : V} (x : Ev ta σ b v) (y : Ev tb σ b v) (hs : scal v v = true) : Ev (tOp rEq ta tb) σ b (.bl true) := by
  have := ev_op x y (rv_eq hs)
  rwa [decide_eq_true rfl] at this
theorem ev_neS {ta tb : TE} {v : V} (x : Ev ta σ b v) (y : Ev tb σ b v) (hs : scal v v = true) : Ev (tOp rNe ta tb) σ b (.bl false) := by
  have := ev_op x y (rv_ne hs)
  rwa [decide_eq_true rfl] at this
end
end Md


set_option Elab.async false
set_option linter.all false
set_option maxRecDepth 100000
set_option maxHeartbeats 2000000
namespace Md
open PySem PySem.Spec PyProof.Rows L2 Evl
/-! ### the law's own call: it stands at the caller's place, where no repr runs -/
def LawOk (P : Program) (w : World) (K : PySem.W.Frag) (mg : Str → Option Value) (base : Heap) (k : Nat) (f : Addr) (fd : FuncData) (ps : List Str) (sp : Sp) : Prop :=
  ∀ (s : Shared) (H : Hp) (ar : Args) (us : List Value) (vs : List V) (Q : VK), Room k callerA → Env0 P w K mg base callerA [] s H →
    BindsTo s fd ar (ps.zip us) → Vals vs us → sp vs H Q E0 → codeAny (model P w) callerA (.call (.ref f) ar) (CR CX0 [] P w H s Q E0) s
theorem law_ok {P : Program} {w : World} {K : PySem.W.Frag} {mg : Str → Option Value} {base : Heap} {x qual : Str} {st : Stmt} {f : Addr} {fd : FuncData} {N ps : List Str} {k : Nat} {sp : Sp} (F : Fun K x qual st f fd)
    (S : FnScope N ps (defScope st)) (len : ∀ vs H Q E, sp vs H Q E → vs.length = ps.length)
    (body : ∀ (cd : Value) (s : Shared) (H : Hp) (vs : List V) (Q : VK), Room k (callerA.deeper (envOfC qual (defScope st) s.heap.objs.size f cd)) → sp vs H Q E0 →
      ∃ t, PSs (cxOf CX0 P w K mg base N qual (defScope st) f cd callerA [] s H E0).nox (defBody st) t ∧ t { nx := fun _ H' => Q .non H', rt := Q } (start N vs) H) : LawOk P w K mg base (k + 1) f fd ps sp := by
  obtain ⟨oc, od, kV, dc, pm, an, cd, ct, sl, rfl, lk, hcd⟩ := F.ex
  intro s H ar us vs Q room e0 hb rv hs
  have hlen := len _ _ _ _ hs
  have old : ∀ c o, base.get? c = some o → s.heap.get? c = some o := fun c o e => (e0.bs c o e).1
  have kin : K.In s.heap := e0.mod.kin.keeps old
  have nolim : s.heap.NoLimit := e0.mod.nolimit.keeps old
  have kinds : ∀ y ∈ ps.zip us, (defScope st).names.lookup y.1 = some .local ∨ ((defScope st).names.lookup y.1 = some .cell ∧ ((cellsFrom (s.heap.objs.size + 1) (defScope st).names []).lookup y.1).isSome = true) := by
    rintro ⟨n, v⟩ hy
    rcases S.par n (List.of_mem_zip hy).1 with z | z
    · exact .inl z
    · exact .inr ⟨z, PySem.W.cellsFrom_some _ _ _ (.inl z)⟩
  refine codeAny_call_function room.depth (kin _ _ lk) rfl S.co S.gen rfl (PySem.W.codeRec_of kin hcd) (hb _ _ _ _ (wpAny_newFunctionEnv_cells S.kind kinds ?_))
  rintro env rfl s1 call
  refine ⟨nolim.keeps call.toInCall.keep, codeAny_func ?_⟩
  obtain ⟨t, ht, hq⟩ := body cd s H vs Q (room.deeper _) hs
  have start_ : Inv (cxOf CX0 P w K mg base N qual (defScope st) f cd callerA [] s H E0) [] (start N vs) H s1 := inv_start S room.hd e0 hlen rv call
  refine wpAny_mono (ht.nox.run [] s1 (start N vs) H _ start_ hq) ?_ (fun _ _ z => z)
  intro fl s2 z
  cases fl with
  | next =>
    obtain ⟨σ2, H2, J, q⟩ := z
    exact ⟨V.non, H2, J.os, J.bare, J.base, J.hok, rfl, q⟩
  | ret u =>
    obtain ⟨v, σ2, H2, J, r, q⟩ := z
    exact ⟨v, H2, J.os, J.bare, J.base, J.hok, r, q⟩
  | brk =>
    obtain ⟨_, _, _, q⟩ := z
    cases q
  | cont =>
    obtain ⟨_, _, _, q⟩ := z
    cases q
/-- the law's call on the script, from its promise -/
theorem law_run {P : Program} {w : World} {K : PySem.W.Frag} {mg mb : Str → Option Value} {k : Nat} {f a : Addr} {fd : FuncData} {x : Str} {sp : Sp} {s1 : Shared} {us : List Value} {ns : List Int}
    (kx : K.In s1.heap) (gl : s1.heap.Ns mainGlobals mg) (bl : s1.heap.Ns builtinsNs mb) (bb : ∀ y : Str, y ≠ "__name__" → mb y = bootBuiltins y) (nl : s1.heap.NoLimit) (gn : s1.gens = #[])
    (ha : s1.heap.get? a = some { cls := .type "list", data := .seq us.toArray }) (hi : IntsAre us ns) (hz : ns.length ≤ sizeLine) (room : Room k callerA)
    (F : ∀ B : Heap, K.In B → B.Ns mainGlobals mg → LawOk P w K mg B k f fd [x] sp) (hb : ∀ (s : Shared) (u : Value), BindsTo s fd ⟨[u], []⟩ [(x, u)])
    (hsp : ∀ H : Hp, Only H → SqL K H a (ns.map V.int) → sp [.ref a] H (fun v _ => v = .bl true) E0) :
    codeAny (model P w) callerA (.call (.ref f) ⟨[.ref a], []⟩) (fun r s2 => r = .ok (.ret (.bool true)) ∧ OldK s1.heap s2.heap ∧ s2.os = s1.os ∧ AllBare s2.gens) s1 := by
  have rv := vals_ints hi
  have hlen := hi.length
  have key : ∀ H : Hp, Only H → SqL K H a (ns.map V.int) → HOk P w H s1.heap → (∀ c, H c ≠ none → c = a) → (H a ≠ none → K.lookup a = none) →
      codeAny (model P w) callerA (.call (.ref f) ⟨[.ref a], []⟩) (fun r s2 => r = .ok (.ret (.bool true)) ∧ OldK s1.heap s2.heap ∧ s2.os = s1.os ∧ AllBare s2.gens) s1 := by
    intro H only sq ok one out
    have nodict : ∀ {c : Addr} {o : Obj} {es : Array DictEntry} {n : Nat}, s1.heap.get? c = some o → o.data = .dict es n → H c = none := by
      intro c o es n e d
      cases q : H c with
      | none => rfl
      | some u =>
        obtain rfl : c = a := one c (by rw [q]; simp)
        rw [ha] at e
        cases e
        cases d
    have ns_ : ∀ {c : Addr} {m : Str → Option Value}, s1.heap.Ns c m → (hidT s1.heap H).Ns c m := by
      rintro c m ⟨o, es, n, e, d, r⟩
      exact ⟨o, es, n, hidT_get e (nodict e d), d, r⟩
    have kB : K.In (hidT s1.heap H) := fun c o e => hidT_get (kx c o e) (by
      cases q : H c with
      | none => rfl
      | some u =>
        obtain rfl : c = a := one c (by rw [q]; simp)
        rw [out (by rw [q]; simp)] at e
        cases e)
    have lim : (hidT s1.heap H).NoLimit := by
      obtain ⟨mc, h1, h2⟩ := nl
      exact ⟨mc, ns_ h1, h2⟩
    have e0 : Env0 P w K mg (hidT s1.heap H) callerA [] s1 H := ⟨rfl, ⟨kB, ns_ gl, ⟨mb, ns_ bl, bb⟩, lim⟩, fun c o e => of_hidT e, Nat.le_of_eq (hidT_size _ _), trivial, (fun c hc => absurd (show c ∈ ([] : List Addr) from hc) (by simp)), ok, .of_eq gn⟩
    refine codeAny_mono (F _ kB (ns_ gl) s1 H ⟨[.ref a], []⟩ [.ref a] [.ref a] _ room e0 (hb s1 (.ref a)) (.cons rfl .nil) (hsp H only sq)) ?_
    intro r s2 z
    cases r with
    | error e => cases z
    | ok fl =>
      cases fl with
      | next => cases z
      | brk => cases z
      | cont => cases z
      | ret u =>
        obtain ⟨v, H2, os, bare, un, ok2, ru, q⟩ := z
        obtain rfl : v = .bl true := q
        obtain rfl : u = Value.bool true := ru
        refine ⟨rfl, OldK.of_keep (fun c o e => ?_), os, bare⟩
        cases q : H c with
        | none => exact un.keep c o e q (fun z => absurd (show c ∈ ([] : List Addr) from z) (by simp)) (by simp)
        | some u =>
          rcases only c with z | ⟨ob, xs, z⟩
          · rw [q] at z
            cases z
          · obtain ⟨e1, _⟩ := ok c _ z
            obtain ⟨e2, _⟩ := ok2 c _ (un.frzs c ob _ z)
            rw [e] at e1
            cases e1
            exact e2
  cases hk : K.lookup a with
  | some o =>
    have e := kx a o hk
    rw [ha] at e
    cases e
    refine key (fun _ => none) (fun _ => .inl rfl) (.inr ⟨_, us.toArray, _, hk, rfl, rfl, rfl, by rw [List.size_toArray, hlen]; exact hz, by simpa using rv⟩) (fun c u z => ?_) (fun c z => absurd rfl z) (fun z => absurd rfl z)
    cases (show (none : Option HO) = some u from z)
  | none =>
    let O : Obj := { cls := .type "list", data := .seq us.toArray }
    let H0 : Hp := fun c => if c = a then some (.frz O (.lst (ns.map V.int))) else none
    have at_a : H0 a = some (.frz O (.lst (ns.map V.int))) := if_pos rfl
    have off : ∀ c, c ≠ a → H0 c = none := fun c hc => if_neg hc
    refine key H0 (fun c => ?_) (.inl (.inr ⟨O, at_a⟩)) (fun c u z => ?_) (fun c z => ?_) (fun _ => hk)
    · by_cases hc : c = a
      · exact .inr ⟨O, ns.map V.int, by rw [hc]; exact at_a⟩
      · exact .inl (off c hc)
    · by_cases hc : c = a
      · subst hc
        rw [at_a] at z
        cases z
        exact ⟨ha, by rw [List.length_map]; exact hz, us, _, rv, ha⟩
      · rw [off c hc] at z
        cases z
    · by_cases hc : c = a
      · exact hc
      · exact absurd (off c hc) z
/-- what k_head leaves, from the law's promise -/
theorem law_walk {l : PySem.W.OpenLaw} {k : Nat} {q : Program} {loose : List Str} {XP : (Str → Option Value) → Heap → Prop} {YP : World → Heap → Prop} {d : DefRec} {K : Params → PySem.W.Frag} {sp : PySem.W.Frag → Sp} {x : Str}
    (hn : l.most = some 63) (hdf : d.params.defaults = []) (room : Room k callerA) (hY : ∀ (w : World) (h : Heap), YP w h → (K w.params).In h)
    (F : ∀ (w : World) (mg : Str → Option Value) (fa : Addr) (h : Heap), (K w.params).In h → h.Ns mainGlobals mg → mg d.name = some (.ref fa) →
      ∃ fd : FuncData, (∀ (s : Shared) (u : Value), BindsTo s fd ⟨[u], []⟩ [(x, u)]) ∧ ∀ B : Heap, (K w.params).In B → B.Ns mainGlobals mg → LawOk l.prog w (K w.params) mg B k fa fd [x] (sp (K w.params)))
    (hsp : ∀ (K : PySem.W.Frag) (H : Hp) (a : Addr) (ns : List Int), ns.length ≤ 63 → Only H → SqL K H a (ns.map V.int) → sp K [.ref a] H (fun v _ => v = .bl true) E0) :
    PySem.W.WalkO q loose XP YP l.row.toRowW d [] (fun f vs => PySem.call f vs) := by
  refine Att.attach_call hn hdf fun w s₀ s₁ mg mb fa o pm cd doc a vs ns G Y ho hd hcd hmg hobj hints hlen hg => ?_
  have kx := hY w _ Y
  obtain ⟨fd, hb, hF⟩ := F w mg fa _ kx G.T.g hmg
  exact law_run kx G.T.g G.T.b G.T.builtins G.T.nolimit hg hobj hints (Nat.le_trans hlen (by decide)) room hF hb fun H only sq => hsp _ H a ns hlen only sq
/-- the law gives True of any script of at most 63 ints -/
def spLaw (K : PySem.W.Frag) : Sp := fun vs H Q _ => ∃ (a : Addr) (ns : List Int), vs = [.ref a] ∧ SqL K H a (ns.map V.int) ∧ ns.length ≤ 63 ∧ ∀ H', Q (.bl true) H'
end Md


set_option Elab.async false
set_option linter.all false
set_option maxRecDepth 100000
set_option maxHeartbeats 2000000
namespace Md
open PySem L2 Evl
/-! ### calls by keywords that may raise -/
def tCallKS (sp : Sp) (gV : List V → List V → List V) (E : L2.St → XK) (t tk : TA) : TE := fun σ H Q => t σ H fun vs H1 => tk σ H1 fun zs H2 => sp (gV vs zs) H2 Q (E σ)
section
variable {X : Cx} {CX : CXT} {k : Nat} {f : Addr} {fd : FuncData} {ps ks : List Str} {sp : Sp} {E : L2.St → XK} {x : Str} {p pos : Pos} {e : Expr} {es : List Expr} {kws : List Keyword} {t tk : TA} {g : List Value → List Value → List Value} {gV : List V → List V → List V}
theorem pe_callKS (F : FnOk X.prog X.w X.K X.mg X.base CX k f fd ps sp) (hr : Room k X.A) (hg : Gl X x) (hm : X.mg x = some (.ref f)) (hk : PySem.W.keepIn X.K (.ref f) = true) (hb : KBinds X.K fd ps ks g gV) (hx : ∀ σ, PassesAt CX X σ (E σ))
    (ha : PA X (e :: es) t) (hkw : PK X kws tk) (h1 : (backToKw pos (keywordEach kws X.env)).all (·.1.isSome) = true := by rfl) (h2 : (backToKw pos (keywordEach kws X.env)).filterMap (·.1) = ks := by rfl)
    (h3 : (x == ("__debug__" : Str)) = false := by decide) (h4 : starEach (e :: es) X.env = (false, eval e X.env) :: starEach es X.env := by rfl)
    (h5 : ((backTo pos (starEach (e :: es) X.env)).any (·.1) || (backToKw pos (keywordEach kws X.env)).any (·.1.isNone)) = false := by rfl) :
    PE X (.Call (.Name x p) (e :: es) kws pos) (tCallKS sp gV E t tk) := by
  refine ⟨fun pins s σ H Q I z => ?_⟩
  refine wpAny_Call_Name_kw (ld_glob I hg hm ?_ h3)
  refine PySem.W.callWith_KW (h₀ := X.base) I.ok.mod.kin hk h1 (thn (ha.run pos pins s σ H _ I z) fun us s1 ⟨vs, H1, I1, r, q⟩ => ?_) h5 h4
  refine thn (hkw.run pos pins s1 σ H1 _ I1 q) fun ws s2 ⟨zs, H2, I2, rz, q2⟩ => ⟨I2.kIn, ?_⟩
  rw [h2]
  have rr := hb.rel r rz
  have hl : (g us ws).length = ps.length := by rw [← rr.length]; exact F.len _ _ _ _ q2
  refine wpAny_call (codeAny_mono (F.run X.A X.stack s2 H2 ⟨us, ks.zip ws⟩ (g us ws) (gV vs zs) Q (E σ) hr I2.env0 (hb.to s2 us ws I2.kIn hl) rr q2) ?_)
  intro res s3 hres
  cases res with
  | error er => exact hx σ pins H2 s2 er s3 I2 hres
  | ok fl =>
    cases fl with
    | ret u => exact I2.after hres
    | next => cases hres
    | brk => cases hres
    | cont => cases hres
end
/-- nothing is raised by a call that may raise, where its promise says so -/
theorem passX0 {X : Cx} : Passes (L2.CX X.prog X.w) X E0 := fun _ _ _ _ _ _ _ h => by
  obtain ⟨a, B, H', cls, d, _, _, _, _, _, _, _, z⟩ := h
  cases z
/-! ### the error with a place -/
def NBAt (H : Hp) (C : Addr) (n : Int) (E : XK) : Prop := ∀ d h', Ex H h' → H d = none → h' d = some (.xd [(("at" : Str), .int n)]) → E (.ref C) (some d) h'
theorem NBAt.up {H H' : Hp} {C : Addr} {n : Int} {E : XK} (x : NBAt H C n E) (e : Ex H H') : NBAt H' C n E := fun d h' e' nd hd => x d h' (e.trans e') (fresh_back e nd) hd
/-- NoBranch.__init__ -/
def spNB (C : Addr) : Sp := fun vs H Q _ => ∃ a n, vs = [.ref a, .int n] ∧ H a = some (exo a C none) ∧ ∀ dx, H dx = none → dx ≠ a → Q .non (upd (upd H dx (exd dx [(("at" : Str), .int n)])) a (exo a C (some dx)))
theorem nb_made {C : Addr} {n : Int} {ta : TA} {σ : L2.St} {h : Hp} {Q : XK} (x : EvA ta σ h [.int n]) (q : NBAt h C n Q) : tMkO C (spNB C) [] ta σ h Q := x h (Ex.refl h) _ fun h1 e1 => by
  refine ⟨by show 1 ≤ 1000; decide, fun a ha => ?_⟩
  refine ⟨a, n, rfl, upd_same, fun dx hdx hne => ⟨rfl, dx, [(("at" : Str), .int n)], upd_same, ?_, ?_, ?_⟩⟩
  · rw [upd_ne hne, upd_same]
  · rw [upd_ne hne] at hdx
    exact hdx
  · have hdx' : h1 dx = none := by
      rw [upd_ne hne] at hdx
      exact hdx
    refine q dx _ (fun b o hb => ?_) (fresh_back e1 hdx') upd_same
    have hb1 := e1 b o hb
    have n1 : b ≠ a := ne_of_none hb1 ha
    have n2 : b ≠ dx := ne_of_none hb1 hdx'
    rw [upd_ne n2, del_ne n1, upd_ne n1, upd_ne n2, upd_ne n1]
    exact hb1
/-! ### ways -/
def Pl.tg : Pl → List Int
  | .draw _ bs => bs.map (·.2)
  | .side _ _ ts => ts
theorem tg_len (p : Pl) : p.tg.length = p.bd.length := by
  cases p with
  | draw g bs =>
    show (bs.map (·.2)).length = (bs.map brD).length
    rw [List.length_map, List.length_map]
  | side g o ts =>
    show ts.length = (ts.map PyData.int).length
    rw [List.length_map]
def plAt (G : List Pl) (x : Nat) : Pl := G.getD x (.side (0, 1) true [])
theorem plAt_get {G : List Pl} {x : Nat} (h : x < G.length) : G[x]? = some (plAt G x) := by
  unfold plAt
  rw [List.getD_eq_getElem?_getD, List.getElem?_eq_getElem h]
  rfl
def stepT (G : List Pl) (x : Nat) (n : Int) : Nat := ((plAt G x).tg.getD n.toNat 0).toNat
def okB (G : List Pl) (x : Nat) (n : Int) : Prop := 0 ≤ n ∧ n < ((plAt G x).tg.length : Int)
instance (G : List Pl) (x : Nat) (n : Int) : Decidable (okB G x n) := by unfold okB; exact inferInstance
def lastF (G : List Pl) : Nat → List Int → Nat
  | x, [] => x
  | x, n :: r => lastF G (stepT G x n) r
def pathF (G : List Pl) : Nat → List Int → List Nat
  | x, [] => [x]
  | x, n :: r => x :: pathF G (stepT G x n) r
theorem lastF_app (G : List Pl) : ∀ (r : List Int) (x : Nat) (n : Int), lastF G x (r ++ [n]) = stepT G (lastF G x r) n
  | [], x, n => rfl
  | m :: r, x, n => lastF_app G r (stepT G x m) n
theorem pathF_app (G : List Pl) : ∀ (r : List Int) (x : Nat) (n : Int), pathF G x (r ++ [n]) = pathF G x r ++ [stepT G (lastF G x r) n]
  | [], x, n => rfl
  | m :: r, x, n => by
    show x :: pathF G (stepT G x m) (r ++ [n]) = x :: (pathF G (stepT G x m) r ++ [stepT G (lastF G (stepT G x m) r) n])
    rw [pathF_app G r]
theorem pathF_len (G : List Pl) : ∀ (r : List Int) (x : Nat), (pathF G x r).length = r.length + 1
  | [], x => rfl
  | m :: r, x => congrArg Nat.succ (pathF_len G r (stepT G x m))
theorem pathF_get (G : List Pl) : ∀ (r : List Int) (x j : Nat), j ≤ r.length → (pathF G x r)[j]? = some (lastF G x (r.take j))
  | [], x, 0, _ => rfl
  | [], x, j + 1, h => by simp at h
  | m :: r, x, 0, _ => rfl
  | m :: r, x, j + 1, h => by
    show (pathF G (stepT G x m) r)[j]? = some (lastF G (stepT G x m) (r.take j))
    exact pathF_get G r (stepT G x m) j (by simpa using h)
theorem pathF_last (G : List Pl) : ∀ (r : List Int) (x : Nat), ∃ l, pathF G x r = l ++ [lastF G x r]
  | [], x => ⟨[], rfl⟩
  | m :: r, x => by
    obtain ⟨l, hl⟩ := pathF_last G r (stepT G x m)
    exact ⟨x :: l, by show x :: pathF G (stepT G x m) r = _; rw [hl]; rfl⟩
/-- targets are places -/
def WfT (G : List Pl) : Prop := G.length ≤ 12 ∧ ∀ p ∈ G, ∀ t ∈ p.tg, 0 ≤ t ∧ t < (G.length : Int)
theorem wfT_of {G : List Pl} (h : WfG G) : WfT G := ⟨h.2.1, fun p hp t ht => by
  have hw := h.2.2 p hp
  cases p with
  | draw g bs =>
    obtain ⟨q, hq, rfl⟩ := List.mem_map.mp ht
    exact hw.2.2.2.1 q hq
  | side g o ts => exact hw.2.2.2 t ht⟩
theorem stepT_lt {G : List Pl} {x : Nat} {n : Int} (h : WfT G) (hx : x < G.length) (hn : okB G x n) : stepT G x n < G.length ∧ ((stepT G x n : Nat) : Int) = (plAt G x).tg.getD n.toNat 0 := by
  unfold stepT
  have hl : n.toNat < (plAt G x).tg.length := by have := hn.1; have := hn.2; omega
  have hm : (plAt G x).tg.getD n.toNat 0 ∈ (plAt G x).tg := by
    rw [List.getD_eq_getElem?_getD, List.getElem?_eq_getElem hl]
    exact List.getElem_mem hl
  have := h.2 _ (List.mem_of_getElem? (plAt_get hx)) _ hm
  omega
/-- each number up to the i-th is a branch -/
def OkTo (G : List Pl) (x : Nat) (r : List Int) (i : Nat) : Prop := ∀ j n, j < i → r[j]? = some n → okB G (lastF G x (r.take j)) n
theorem lastF_lt {G : List Pl} (h : WfT G) : ∀ (r : List Int) (x : Nat), x < G.length → OkTo G x r r.length → lastF G x r < G.length
  | [], x, hx, _ => hx
  | n :: r, x, hx, ho => by
    have h0 : okB G x n := ho 0 n (Nat.zero_lt_succ _) rfl
    exact lastF_lt h r (stepT G x n) (stepT_lt h hx h0).1 fun j m hj hm => ho (j + 1) m (Nat.succ_lt_succ hj) (by simpa using hm)
theorem OkTo.take {G : List Pl} {x : Nat} {r : List Int} {i : Nat} (h : OkTo G x r i) (hi : i ≤ r.length) : OkTo G x (r.take i) (r.take i).length := fun j n hj hn => by
  rw [List.length_take, Nat.min_eq_left hi] at hj
  rw [List.getElem?_take_of_lt hj] at hn
  rw [List.take_take, Nat.min_eq_left (Nat.le_of_lt hj)]
  exact h j n hj hn
theorem at_lt {G : List Pl} (h : WfT G) {x : Nat} {r : List Int} {i : Nat} (hx : x < G.length) (ho : OkTo G x r i) (hi : i ≤ r.length) : lastF G x (r.take i) < G.length := lastF_lt h _ _ hx (ho.take hi)
def intsD (l : List Int) : PyData := .list (l.map PyData.int)
def natsD (l : List Nat) : PyData := .list (l.map fun x : Nat => PyData.int (x : Int))
/-- targets_of -/
def spTargets (K : PySem.W.Frag) : Sp := fun vs h Q _ => ∃ (b : Hp) (p : Pl), Ex b h ∧ DtA K b vs [p.D] ∧ p.bd.length ≤ 6 ∧ ∀ v b' h', Gr b h b' h' → Dt K b' v (intsD p.tg) → Q v h'
/-- has_branch -/
def spHas (K : PySem.W.Frag) : Sp := fun vs h Q _ => ∃ (b : Hp) (p : Pl) (n : Int), Ex b h ∧ DtA K b vs [p.D, .int n] ∧ ∀ h', Ex h h' → Q (.bl (decide (0 ≤ n ∧ n < (p.tg.length : Int)))) h'
def spWhole : Sp := fun vs h Q _ => ∃ n : Int, vs = [.int n] ∧ Q (.bl true) h
/-- places_on: C is NoBranch -/
def spPlaces (K : PySem.W.Frag) (C : Addr) : Sp := fun vs h Q E => ∃ (b : Hp) (G : List Pl) (x : Nat) (r : List Int), Ex b h ∧ DtA K b vs [gameD G, .int (x : Int), intsD r] ∧ WfT G ∧ SmG G ∧ x < G.length ∧ r.length ≤ 1000 ∧
  (OkTo G x r r.length → ∀ v b' h', Gr b h b' h' → Dt K b' v (natsD (pathF G x r)) → Q v h') ∧
  (∀ j n, r[j]? = some n → OkTo G x r j → ¬ okB G (lastF G x (r.take j)) n → NBAt h C (j : Int) E)
section
variable {K : PySem.W.Frag} {σ : L2.St} {b h : Hp} {te ta tb tc : TE} {ts : TA} {ds : List PyData} {E : XK}
theorem ed_targets {p : Pl} (y : EDA K ts σ b [p.D]) (hl : p.bd.length ≤ 6) : ED K (tCall (spTargets K) [] E ts) σ b (intsD p.tg) := fun h e _ q =>
  y h e _ fun vs b2 h2 g2 hv => ⟨b2, p, g2.gi, by rw [List.append_nil]; exact hv, hl, fun v b3 h3 g3 hv3 => q v b3 h3 (g2.trans g3) hv3⟩
theorem ev_has {p : Pl} {n : Int} (y : EDA K ts σ b [p.D, .int n]) : Ev (tCall (spHas K) [] E ts) σ b (.bl (decide (0 ≤ n ∧ n < (p.tg.length : Int)))) := fun h e _ q =>
  y h e _ fun vs b2 h2 g2 hv => ⟨b2, p, n, g2.gi, by rw [List.append_nil]; exact hv, fun h3 e3 => q h3 (g2.gh.trans e3)⟩
theorem ev_whole {n : Int} (y : Ev te σ b (.int n)) : Ev (tCall spWhole [] E (tCons te tNil)) σ b (.bl true) := fun h e _ q => y h e _ fun h2 e2 => ⟨n, rfl, q h2 e2⟩
theorem ev_isiI {i : Int} {T : String} {r : Bool} (x : Ev te σ b (.int i)) (hk : kitB "int" T = some r) : Ev (tCB (rIsi K) (tCons te (tCons (tC (.ty T)) tNil))) σ b (.bl r) := fun h e _ q => x h e _ fun h2 e2 =>
  ⟨.int i, .ty T, .type "int", .type T, r, rfl, .ty _, .base (.int i), kit_ty hk, q h2 e2⟩
theorem ev_isiB {i : Bool} {T : String} {r : Bool} (x : Ev te σ b (.bl i)) (hk : kitB "bool" T = some r) : Ev (tCB (rIsi K) (tCons te (tCons (tC (.ty T)) tNil))) σ b (.bl r) := fun h e _ q => x h e _ fun h2 e2 =>
  ⟨.bl i, .ty T, .type "bool", .type T, r, rfl, .ty _, .base (.bl i), kit_ty hk, q h2 e2⟩
theorem ev_chain {f g : Int → Int → Bool} {i j k : Int} (x : Ev ta σ b (.int i)) (y : Ev tb σ b (.int j)) (z : Ev tc σ b (.int k)) : Ev (tChain (rI0 fun i j => .bl (f i j)) (rI0 fun i j => .bl (g i j)) ta tb tc) σ b (.bl (f i j && g j k)) := fun h e Q q =>
  x h e _ fun h2 e2 => y h2 (e.trans e2) _ fun h3 e3 => ⟨i, j, rfl, rfl, f i j, rfl, by
    cases hf : f i j with
    | false =>
      rw [if_neg Bool.false_ne_true]
      have q' := q h3 (e2.trans e3)
      rwa [hf, Bool.false_and] at q'
    | true =>
      rw [if_pos rfl]
      refine z h3 ((e.trans e2).trans e3) _ fun h4 e4 => ⟨j, k, rfl, rfl, ?_⟩
      have q' := q h4 ((e2.trans e3).trans e4)
      rwa [hf, Bool.true_and] at q'⟩
theorem at_pre (l : List V) (v : V) : L2.atI (l ++ [v]) (-1) = some v := atI_last l v
theorem nats_at {l : List Nat} {j x : Nat} {z : Int} (e : z = (j : Int)) (h : l[j]? = some x) : L2.atI (l.map fun x : Nat => PyData.int (x : Int)) z = some (.int (x : Int)) := by
  subst e
  exact atI_nat (by rw [List.getElem?_map, h] <;> rfl)
end
theorem kind_is_draw {p : Pl} (h : p.kind = "draw") : ∃ g bs, p = .draw g bs := by
  cases p with
  | draw g bs => exact ⟨g, bs, rfl⟩
  | side g o ts =>
    exfalso
    cases o with
    | true => exact absurd h (by show ¬ (("ours" : Str) = "draw"); decide +kernel)
    | false => exact absurd h (by show ¬ (("theirs" : Str) = "draw"); decide +kernel)
theorem not_draw {p : Pl} (h : ¬ p.kind = "draw") : p.bd = p.tg.map PyData.int := by
  cases p with
  | draw g bs => exact absurd rfl h
  | side g o ts => rfl
/-- it keeps its promise; it may raise -/
def HasX (P : Program) (w : World) (K : PySem.W.Frag) (mg : Str → Option Value) (base : Heap) (k : Nat) (x : Str) (ps : List Str) (sp : Sp) : Prop :=
  ∃ f fd, FnOk P w K mg base (L2.CX P w) k f fd ps sp ∧ mg x = some (.ref f) ∧ PySem.W.keepIn K (.ref f) = true ∧ Binds K fd ps []
theorem take_more1 {α : Type} {l : List α} {i : Nat} {x : α} (h : l[i]? = some x) : l.take (i + 1) = l.take i ++ [x] := by
  rw [List.take_succ, h]
  rfl
theorem DtA.nats {K : PySem.W.Frag} {b : Hp} : ∀ l : List Nat, DtA K b (l.map fun x : Nat => V.int (x : Int)) (l.map fun x : Nat => PyData.int (x : Int))
  | [] => DtA.nil
  | x :: l => DtA.cons (Dt.int _) (DtA.nats l)
/-- the second items of a list of branches -/
theorem ed_lcTg {K : PySem.W.Frag} {σ : L2.St} {b : Hp} {tl : TE} {g : Int × Int} {bs : List ((Int × Int) × Int)} {vs : List Nat} {i j : Nat} (x : ED K tl σ b (.list (Pl.draw g bs).bd)) (hl : (Pl.draw g bs).bd.length ≤ 6)
    (hw : ∀ x y, wipe (((wipe σ vs).set i (some x)).set j (some y)) vs = wipe σ vs) (hj : ∀ x y, (((wipe σ vs).set i (some x)).set j (some y))[j]? = some (some y) := by intros; rfl) :
    ED K (tLc (iList K tl) (gTup K 2 (gCons (gName i) (gCons (gName j) gNil))) tYes (tVar j) vs) σ b (intsD (Pl.draw g bs).tg) := by
  have hbl : (bs.map brD).length ≤ 6 := hl
  have e : givenD (bs.map brD).length (fun _ => true) (fun i => PyData.int ((bs.getD i ((0, 1), 0)).2)) = (bs.map (·.2)).map PyData.int := by
    rw [givenD_all, List.length_map]
    refine List.ext_getElem? fun i => ?_
    rw [List.getElem?_map, List.getElem?_map, List.getElem?_map]
    by_cases h : i < bs.length
    · rw [List.getElem?_range h, List.getElem?_eq_getElem h]
      show some (PyData.int ((bs.getD i ((0, 1), 0)).2)) = some (PyData.int (bs[i].2))
      rw [List.getD_eq_getElem?_getD, List.getElem?_eq_getElem h]
      rfl
    · rw [List.getElem?_eq_none (by rw [List.length_range]; omega), List.getElem?_eq_none (by omega)]
      rfl
  unfold intsD
  rw [show (Pl.draw g bs).tg = bs.map (·.2) from rfl, ← e]
  refine EN.ed (en_lcG x (Nat.le_trans hbl (by decide)) (fun _ => true) _ fun n d y b2 h2 e2 e3 hd hx Q q => ?_)
  have hd' : (bs.map brD)[n]? = some d := hd
  rw [List.getElem?_map] at hd'
  cases z : bs[n]? with
  | none =>
    rw [z] at hd'
    cases hd'
  | some bb =>
    rw [z] at hd'
    cases hd'
    refine g_two (d1 := nD bb.1) (d2 := .int bb.2) hx e3 fun w1 w2 q1 q2 => ?_
    refine q _ (hw w1 w2) et_yes fun _ => ?_
    have e5 : PyData.int ((bs.getD n ((0, 1), 0)).2) = .int bb.2 := by
      rw [List.getD_eq_getElem?_getD, z] <;> rfl
    rw [e5]
    exact ed_var (hj w1 w2) q2
/-- the places of a way -/
def spPath (K : PySem.W.Frag) : Sp := fun vs h Q _ => ∃ (b : Hp) (G : List Pl) (x : Nat) (r : List Int), Ex b h ∧ DtA K b vs [gameD G, .int (x : Int), intsD r] ∧ WfT G ∧ SmG G ∧ x < G.length ∧ r.length ≤ 1000 ∧ OkTo G x r r.length ∧
  ∀ v b' h', Gr b h b' h' → Dt K b' v (natsD (pathF G x r)) → Q v h'
/-- zip of two lists of data, walked by a comprehension -/
theorem en_lcZ {K : PySem.W.Frag} {σ : L2.St} {b : Hp} {ta tb te : TE} {t : TT} {vs : List Nat} {i j n : Nat} {ds es : List PyData} (x : ED K ta σ b (.list ds)) (y : ED K tb σ b (.list es)) (hn : n = min ds.length es.length) (hz : n ≤ 40000) (f : Nat → Bool) (r : Nat → PyData)
    (hw : ∀ x y, wipe (((wipe σ vs).set i (some x)).set j (some y)) vs = wipe σ vs)
    (hs : ∀ k d1 d2 v1 v2 b2, Ex b b2 → ds[k]? = some d1 → es[k]? = some d2 → Dt K b2 v1 d1 → Dt K b2 v2 d2 →
      EvT t (((wipe σ vs).set i (some v1)).set j (some v2)) b2 (f k) ∧ (f k = true → ED K te (((wipe σ vs).set i (some v1)).set j (some v2)) b2 (r k))) :
    EN K (tLc (iZip K (tCons ta (tCons tb tNil))) (gTup K 2 (gCons (gName i) (gCons (gName j) gNil))) t te vs) σ b (givenD n f r) := fun h e _ q =>
  x h e _ fun v1 b1 h1 g1 hv1 => y.up g1.gb h1 g1.gi _ fun v2 b2 h2 g2 hv2 => by
    obtain ⟨a1, xs, rfl, k1, k2⟩ := hv1.listI
    obtain ⟨a2, ys, rfl, l1, l2⟩ := hv2.listI
    have G2 := g1.trans g2
    have s1 : ∀ h, Ex h2 h → SqL K h a1 xs := fun h e => sq_of (e _ _ (g2.gi _ _ (g2.gb _ _ k1)))
    have s2 : ∀ h, Ex h2 h → SqL K h a2 ys := fun h e => sq_of (e _ _ (g2.gi _ _ l1))
    refine ⟨a1, a2, xs, ys, rfl, s1 h2 (Ex.refl _), s2 h2 (Ex.refl _), fun Dl hD => ?_⟩
    refine lc_data (walk_zip (xs := xs) (ys := ys) (n := n) (by rw [k2.length, l2.length]; exact hn)) f r g2.gi hD hz (fun h' e' => ⟨s1 h' e', s2 h' e'⟩) (fun k z b3 h3 h4 hk e3 g3 hy => ?_) (fun b3 h3 us g3 nb hu hA => q Dl us b3 h3 (gone G2 hD) nb (G2.trans g3) hu hA)
    obtain ⟨T, w1, w2, rfl, nT, rfl, hw1, hw2⟩ := hy
    obtain ⟨d1, hd1, q1⟩ := k2.getV hw1
    obtain ⟨d2, hd2, q2⟩ := l2.getV hw2
    have g4 := Gr.new (o := .tup [w1, w2]) g3.gi nT
    have q1' := ((q1.up g2.gb).up g3.gb).up g4.gb
    have q2' := (q2.up g3.gb).up g4.gb
    refine ⟨_, g4, fun Q kk => ?_⟩
    refine g_two (Dt.tuple (st_of upd_same) (DtA.cons q1' (DtA.one q2'))) g4.gi fun u1 u2 p1 p2 => ?_
    have z := hs k d1 d2 u1 u2 _ (((g1.gb.trans g2.gb).trans g3.gb).trans g4.gb) hd1 hd2 p1 p2
    exact kk _ (hw u1 u2) z.1 z.2
theorem DtA.boolsI {K : PySem.W.Frag} {b : Hp} : ∀ {bs : List Bool} {vs : List V}, DtA K b vs (bs.map PyData.bool) → vs = bs.map V.bl
  | [], _, h => by cases h; rfl
  | n :: ns, _, h => by
    cases h with
    | cons h1 h2 => rw [h1.boolI, h2.boolsI]; rfl
theorem ev_all {K : PySem.W.Frag} {σ : L2.St} {b : Hp} {te : TE} {bs : List Bool} (x : ED K te σ b (.list (bs.map PyData.bool))) : Ev (tCB (rAll K) (tCons te tNil)) σ b (.bl (bs.all id)) := fun h e _ q => x h e _ fun v b2 h2 g2 hv => by
  obtain ⟨a, xs, rfl, k1, k2⟩ := hv.listI
  rw [k2.boolsI] at k1
  exact ⟨a, bs, rfl, sq_of (g2.gi _ _ k1), q h2 g2.gh⟩
theorem all_filter (f e : Nat → Bool) : ∀ l : List Nat, ((l.filter f).map e).all id = l.all (fun j => !(f j && !e j))
  | [] => rfl
  | x :: l => by
    have ih := all_filter f e l
    rw [List.filter_cons, List.all_cons]
    cases hf : f x with
    | true =>
      rw [if_pos rfl, List.map_cons, List.all_cons, ih]
      cases e x <;> rfl
    | false =>
      rw [if_neg Bool.false_ne_true, ih]
      rfl
theorem kind_side {p : Pl} (h : p.kind ≠ "draw") (h2 : ¬ p.kind = "theirs") : p.kind = "ours" := by
  cases p with
  | draw g bs => exact absurd rfl h
  | side g o ts =>
    cases o with
    | true => rfl
    | false => exact absurd rfl h2
/-- a way that takes some told branches -/
def spToldWay (K : PySem.W.Frag) : Sp := fun vs h Q _ => ∃ (b : Hp) (G : List Pl) (x : Nat) (So St : List (Option Nat)) (ds : List Int), Ex b h ∧ DtA K b vs [gameD G, .int (x : Int), stD So, stD St, .list (ds.map PyData.int)] ∧ WfG G ∧ x < G.length ∧
  WfS "ours" G So ∧ WfS "theirs" G St ∧ (∀ d ∈ ds, 0 ≤ d ∧ d < 1000) ∧ ds.length ≤ 1000 ∧ ∀ v b' h' r, Gr b h b' h' → r.length = ds.length → OkTo G x r r.length → Dt K b' v (intsD r) → Q v h'
/-- does the way follow: at the k-th step -/
def fK (G : List Pl) (y : Str) (x : Nat) (r : List Int) (k : Nat) : Bool := decide (V.str (plAt G (lastF G x (r.take k))).kind = V.str y)
def eK (G : List Pl) (S : List (Option Nat)) (x : Nat) (r : List Int) (k : Nat) : Bool := decide (V.int (r.getD k 0) = svV (S.getD (lastF G x (r.take k)) none))
def folF (G : List Pl) (y : Str) (S : List (Option Nat)) (x : Nat) (r : List Int) : Bool := (List.range r.length).all fun k => !(fK G y x r k && !eK G S x r k)
def spFollows (K : PySem.W.Frag) (C : Addr) : Sp := fun vs h Q E => ∃ (b : Hp) (G : List Pl) (x : Nat) (r : List Int) (y : Str) (S : List (Option Nat)), Ex b h ∧ DtA K b vs [gameD G, .int (x : Int), intsD r, .str y, stD S] ∧ WfT G ∧ SmG G ∧ x < G.length ∧ r.length ≤ 1000 ∧ WfS y G S ∧
  (OkTo G x r r.length → ∀ h', Ex h h' → Q (.bl (folF G y S x r)) h') ∧ (∀ j n, r[j]? = some n → OkTo G x r j → ¬ okB G (lastF G x (r.take j)) n → NBAt h C (j : Int) E)
def spRefused (K : PySem.W.Frag) : Sp := fun vs h Q _ => ∃ (b : Hp) (G : List Pl) (x : Nat) (r : List Int) (S : List (Option Nat)), Ex b h ∧ DtA K b vs [gameD G, .int (x : Int), intsD r, stD S] ∧ WfT G ∧ SmG G ∧ x < G.length ∧ r.length ≤ 1000 ∧ WfS "ours" G S ∧
  (OkTo G x r r.length → ∀ h', Ex h h' → Q .non h') ∧ (∀ j n, r[j]? = some n → OkTo G x r j → ¬ okB G (lastF G x (r.take j)) n → ∀ h', Ex h h' → Q (.int (j : Int)) h')
theorem ev_refused {K : PySem.W.Frag} {σ : L2.St} {b : Hp} {ts : TA} {E : XK} {G : List Pl} {x : Nat} {r : List Int} {S : List (Option Nat)} {j : Nat} {n : Int} (y : EDA K ts σ b [gameD G, .int (x : Int), intsD r, stD S]) (hW : WfT G) (hsm : SmG G) (hx : x < G.length) (hr : r.length ≤ 1000) (hS : WfS "ours" G S)
    (hj : r[j]? = some n) (ho : OkTo G x r j) (hb : ¬ okB G (lastF G x (r.take j)) n) : Ev (tCall (spRefused K) [] E ts) σ b (.int (j : Int)) := fun h e _ q =>
  y h e _ fun vs b2 h2 g2 hv => ⟨b2, G, x, r, S, g2.gi, by rw [List.append_nil]; exact hv, hW, hsm, hx, hr, hS, (fun hok => absurd (hok j n ((List.getElem?_eq_some_iff.mp hj).1) hj) hb), fun j' n' hj' ho' hb' h3 e3 => by
    have : j' = j := by
      rcases Nat.lt_trichotomy j' j with z | z | z
      · exact absurd (ho j' n' z hj') hb'
      · exact z
      · exact absurd (ho' j n z hj) hb
    rw [this]
    exact q h3 (g2.gh.trans e3)⟩
/-- positional arguments, then keywords, of fixed numbers -/
def gK (n m : Nat) {α : Type} (us ws : List α) : List α := if us.length = n ∧ ws.length = m then us ++ ws else []
theorem kb_of {K : PySem.W.Frag} {x : Str} {st : Stmt} {f : Addr} {fd : FuncData} {ps ks : List Str} {n m : Nat} (F : Fun K x x st f fd) (hp : 0 < ps.length)
    (h : ∀ (kV doc pm : Value) (an : Option Addr) (cdv ct : Value) (us ws : List Value), us.length = n → ws.length = m → bindArgs (PySem.W.fnOf x x (defArgs st) (defBody st) (defScope st) .none kV doc pm an cdv ct) ⟨us, ks.zip ws⟩ = pure (ps.zip (us ++ ws))) :
    KBinds K fd ps ks (gK n m) (gK n m) := by
  obtain ⟨oc, od, kV, doc, pm, an, cdv, ct, osl, rfl, lk, hcd⟩ := F.ex
  refine ⟨fun s us ws kin hl => ?_, fun {vs us zs ws} r1 r2 => ?_⟩
  · by_cases z : us.length = n ∧ ws.length = m
    · have e : gK n m us ws = us ++ ws := if_pos z
      rw [e]
      exact .of_eq (h kV doc pm an cdv ct us ws z.1 z.2)
    · have e : gK n m us ws = [] := if_neg z
      rw [e] at hl
      have hl' : 0 = ps.length := hl
      omega
  · unfold gK
    rw [r1.length, r2.length]
    split
    · exact r1.append r2
    · exact .nil
section
variable {K : PySem.W.Frag} {σ : L2.St} {b b' h : Hp} {te t1 t2 : TE} {ts tk : TA} {E : XK} {P P1 P2 : PyData → Prop}
theorem EX.up (x : EX K te σ b P) (e : Ex b b') : EX K te σ b' P := fun h e1 _ q => x h (e.trans e1) _ fun v b2 h2 d g hp hv => by
  obtain ⟨b3, g3, e3, _⟩ := g.back e e1
  exact q v b3 h2 d g3 hp (hv.up e3)
theorem ex_lst2 (x1 : EX K t1 σ b P1) (x2 : EX K t2 σ b P2) : EX K (tLst (tCons t1 (tCons t2 tNil))) σ b (fun d => ∃ d1 d2, d = .list [d1, d2] ∧ P1 d1 ∧ P2 d2) := fun h e _ q =>
  x1 h e _ fun v1 b1 h1 d1 g1 p1 k1 => x2.up g1.gb h1 g1.gi _ fun v2 b2 h2 d2 g2 p2 k2 => ⟨by show 2 ≤ sizeLine; decide, fun p hp =>
    have G := (g1.trans g2).trans (Gr.new (o := .lst [v1, v2]) g2.gi hp)
    have e3 : Ex b2 (upd b2 p (.lst [v1, v2])) := Ex.new (none_of g2.gi hp)
    q (.ref p) _ _ (.list [d1, d2]) G ⟨d1, d2, rfl, p1, p2⟩ (Dt.list upd_same (DtA.cons ((k1.up g2.gb).up e3) (DtA.one (k2.up e3))))⟩
theorem ex_strategy {G : List Pl} {x : Str} {es : List Int} (y : EDA K ts σ b [gameD G, .str x, .list (es.map PyData.int)]) (h1 : WfG G) (h2 : G.length ≤ es.length) (h3 : ∀ d ∈ es, 0 ≤ d ∧ d < 1000) :
    EX K (tCall (spStrategy K) [] E ts) σ b (fun d => ∃ S, WfS x G S ∧ d = stD S) := fun h e _ q =>
  y h e _ fun vs b2 h2' g2 hv => ⟨b2, G, x, es, g2.gi, by rw [List.append_nil]; exact hv, h1, h2, h3, fun v b3 h3 S g3 hS hv3 => q v b3 h3 (stD S) (g2.trans g3) ⟨S, hS, rfl⟩ hv3⟩
theorem ed_path {G : List Pl} {x : Nat} {r : List Int} (y : EDA K ts σ b [gameD G, .int (x : Int), intsD r]) (h1 : WfT G) (h2 : SmG G) (h3 : x < G.length) (h4 : r.length ≤ 1000) (h5 : OkTo G x r r.length) : ED K (tCall (spPath K) [] E ts) σ b (natsD (pathF G x r)) := fun h e _ q =>
  y h e _ fun vs b2 h2' g2 hv => ⟨b2, G, x, r, g2.gi, by rw [List.append_nil]; exact hv, h1, h2, h3, h4, h5, fun v b3 h3 g3 hv3 => q v b3 h3 (g2.trans g3) hv3⟩
theorem gK_app {b : Hp} {n m : Nat} {vs zs : List V} {ds : List PyData} (h1 : vs.length = n) (h2 : zs.length = m) (h : DtA K b (vs ++ zs) ds) : DtA K b (gK n m vs zs) ds := by
  unfold gK
  rw [if_pos ⟨h1, h2⟩]
  exact h
/-- follows, called by keywords on a way whose numbers are all branches -/
theorem ev_follows {C : Addr} {G : List Pl} {x : Nat} {r : List Int} {y : Str} {S : List (Option Nat)} (a : EDA K ts σ b [gameD G, .int (x : Int), intsD r]) (c : EDA K tk σ b [.str y, stD S]) (h1 : WfT G) (h2 : SmG G) (h3 : x < G.length) (h4 : r.length ≤ 1000) (h5 : WfS y G S) (h6 : OkTo G x r r.length) :
    Ev (L2.tCallK (spFollows K C) (gK 3 2) E0 ts tk) σ b (.bl (folF G y S x r)) := fun h e _ q =>
  a h e _ fun vs b2 h2' g2 hv => c.up g2.gb h2' g2.gi _ fun zs b3 h3' g3 hz => ⟨b3, G, x, r, y, S, g3.gi, gK_app hv.length hz.length ((hv.up g3.gb).append hz), h1, h2, h3, h4, h5, fun _ h4' e4 => q h4' ((g2.gh.trans g3.gh).trans e4), fun j n hj _ hb => absurd (h6 j n (List.getElem?_eq_some_iff.mp hj).1 hj) hb⟩
end
theorem cut_take {ds : List Int} {a : Nat} (h : a ≤ ds.length) : cutD (ds.map PyData.int) none (some (a : Int)) = (ds.take a).map PyData.int := by
  unfold cutD
  rw [List.length_map, HT.sIx_none, sIx_of _ h, List.drop_zero, Nat.sub_zero, List.map_take]
theorem cut_drop {ds : List Int} {a : Nat} (h : a ≤ ds.length) : cutD (ds.map PyData.int) (some (a : Int)) none = (ds.drop a).map PyData.int := by
  unfold cutD
  rw [List.length_map, HT.sIx_none, sIx_of _ h, ← List.map_drop, ← List.map_take, List.take_of_length_le (by rw [List.length_drop]; exact Nat.le_refl _)]
theorem okTo_pre {G : List Pl} {x : Nat} {r r' : List Int} {a : Nat} (h : OkTo G x r r.length) (ha : a ≤ r.length) (hr : r'.take a = r.take a) : OkTo G x r' a := fun j n hj hn => by
  have e1 : r'[j]? = r[j]? := by
    have := congrArg (fun l : List Int => l[j]?) hr
    rwa [List.getElem?_take_of_lt hj, List.getElem?_take_of_lt hj] at this
  have e2 : r'.take j = r.take j := by
    have := congrArg (List.take j) hr
    rwa [List.take_take, List.take_take, Nat.min_eq_left (Nat.le_of_lt hj)] at this
  rw [e2]
  exact h j n (by omega) (by rw [← e1]; exact hn)
theorem ok_ints {G : List Pl} {x : Nat} {r : List Int} (hsm : SmG G) (hW : WfT G) (hx : x < G.length) (h : OkTo G x r r.length) : ∀ n ∈ r, 0 ≤ n ∧ n < 7 := fun n hn => by
  obtain ⟨j, hj, e⟩ := List.mem_iff_getElem.mp hn
  have e' : r[j]? = some n := by rw [List.getElem?_eq_getElem hj, e]
  have hk := h j n hj e'
  have hcl := at_lt hW hx (fun i m hi hm => h i m (by omega) hm) (Nat.le_of_lt hj)
  have := hsm.2 _ (List.mem_of_getElem? (plAt_get hcl))
  have t := tg_len (plAt G (lastF G x (r.take j)))
  have := hk.1
  have := hk.2
  omega
theorem nice_ints {r : List Int} (h : ∀ n ∈ r, 0 ≤ n ∧ n < 7) (hl : r.length ≤ 1000) : Nice 1 22000 (intsD r) := by
  refine (nice_list (k := 0) (L := 19) (n := 1000) (fun d hd => ?_) (by rw [List.length_map]; exact hl)).mono (by decide) (by decide)
  obtain ⟨q, hq, rfl⟩ := List.mem_map.mp hd
  have := h q hq
  exact nice_int (Nat.lt_trans (show q.natAbs < 1000 by omega) (by decide))
def IsDef0 (K : PySem.W.Frag) (mg : Str → Option Value) (x : Str) (st : Stmt) : Prop := ∃ f fd, Fun K x x st f fd ∧ mg x = some (.ref f)
/-- with keywords alone behind n arguments; it may raise -/
def HasXK (P : Program) (w : World) (K : PySem.W.Frag) (mg : Str → Option Value) (base : Heap) (k : Nat) (x : Str) (ps ks : List Str) (n m : Nat) (sp : Sp) : Prop :=
  ∃ f fd, FnOk P w K mg base (L2.CX P w) k f fd ps sp ∧ mg x = some (.ref f) ∧ PySem.W.keepIn K (.ref f) = true ∧ KBinds K fd ps ks (gK n m) (gK n m)
end Md


set_option Elab.async false
set_option linter.all false
set_option maxRecDepth 100000
set_option maxHeartbeats 2000000
namespace Md
open PySem L2 Evl
/-! ### numbers in lowest terms -/
theorem cast_dvd {g : Nat} {n : Int} (h : g ∣ n.natAbs) : (g : Int) ∣ n := Int.natAbs_dvd_natAbs.mp (by rw [Int.natAbs_natCast]; exact h)
def Red (p : Int × Int) : Prop := 1 ≤ p.2 ∧ Nat.gcd p.1.natAbs p.2.natAbs = 1
theorem red_small {p : Int × Int} (h : SmallN p) : Red p := ⟨h.1, h.2.2.2⟩
theorem num_pos {n d : Int} (h : 0 < d) : num n d = (n / ((Nat.gcd n.natAbs d.natAbs : Nat) : Int), d / ((Nat.gcd n.natAbs d.natAbs : Nat) : Int)) := by
  unfold num
  rw [if_neg (by omega), if_neg (by omega)]
theorem num_cross {n d : Int} (h : 0 < d) : (num n d).1 * d = n * (num n d).2 := by
  rw [num_pos h]
  show n / ((Nat.gcd n.natAbs d.natAbs : Nat) : Int) * d = n * (d / ((Nat.gcd n.natAbs d.natAbs : Nat) : Int))
  have h1 : ((Nat.gcd n.natAbs d.natAbs : Nat) : Int) ∣ n := cast_dvd (Nat.gcd_dvd_left _ _)
  have h2 : ((Nat.gcd n.natAbs d.natAbs : Nat) : Int) ∣ d := cast_dvd (Nat.gcd_dvd_right _ _)
  have g0 : ((Nat.gcd n.natAbs d.natAbs : Nat) : Int) ≠ 0 := by
    have := Nat.gcd_pos_of_pos_right n.natAbs (show 0 < d.natAbs by omega)
    omega
  generalize ((Nat.gcd n.natAbs d.natAbs : Nat) : Int) = g at h1 h2 g0
  obtain ⟨a, rfl⟩ := h1
  obtain ⟨c, rfl⟩ := h2
  rw [Int.mul_ediv_cancel_left _ g0, Int.mul_ediv_cancel_left _ g0]
  rw [Int.mul_left_comm, Int.mul_assoc]
theorem num_red {n d : Int} (h : 0 < d) : Red (num n d) := by
  rw [num_pos h]
  have hg := Nat.gcd_pos_of_pos_right n.natAbs (show 0 < d.natAbs by omega)
  obtain ⟨a, ha⟩ := Nat.gcd_dvd_left n.natAbs d.natAbs
  obtain ⟨c, hc⟩ := Nat.gcd_dvd_right n.natAbs d.natAbs
  generalize hgg : Nat.gcd n.natAbs d.natAbs = g at *
  have hac : Nat.gcd a c = 1 := by
    have := Nat.gcd_mul_left g a c
    rw [← ha, ← hc, hgg] at this
    exact Nat.eq_of_mul_eq_mul_left hg (by omega)
  have e1 : (n / (g : Int)).natAbs = a := by
    rcases Int.natAbs_eq n with z | z
    · rw [z, ha, Int.natCast_mul, Int.mul_ediv_cancel_left _ (by omega), Int.natAbs_natCast]
    · rw [z, ha, Int.natCast_mul, ← Int.mul_neg, Int.mul_ediv_cancel_left _ (by omega), Int.natAbs_neg, Int.natAbs_natCast]
  have e2 : d / (g : Int) = (c : Int) := by
    have z : d = ((d.natAbs : Nat) : Int) := by omega
    rw [z, hc, Int.natCast_mul, Int.mul_ediv_cancel_left _ (by omega)]
  have hc0 : 0 < c := by
    rcases Nat.eq_zero_or_pos c with z | z
    · subst z; omega
    · exact z
  refine ⟨?_, ?_⟩
  · show 1 ≤ d / (g : Int)
    rw [e2]
    omega
  · show Nat.gcd (n / (g : Int)).natAbs (d / (g : Int)).natAbs = 1
    rw [e1, e2, Int.natAbs_natCast]
    exact hac
theorem red_ext {p q : Int × Int} (hp : Red p) (hq : Red q) (h : p.1 * q.2 = q.1 * p.2) : p = q := by
  obtain ⟨p1, p2⟩ := hp
  obtain ⟨q1, q2⟩ := hq
  have hn : p.1.natAbs * q.2.natAbs = q.1.natAbs * p.2.natAbs := by rw [← Int.natAbs_mul, ← Int.natAbs_mul, h]
  have d1 : p.2.natAbs ∣ q.2.natAbs := by
    have c : Nat.Coprime p.2.natAbs p.1.natAbs := by rw [Nat.coprime_comm]; exact p2
    exact c.dvd_of_dvd_mul_left ⟨q.1.natAbs, by rw [hn, Nat.mul_comm]⟩
  have d2 : q.2.natAbs ∣ p.2.natAbs := by
    have c : Nat.Coprime q.2.natAbs q.1.natAbs := by rw [Nat.coprime_comm]; exact q2
    exact c.dvd_of_dvd_mul_left ⟨p.1.natAbs, by rw [← hn, Nat.mul_comm]⟩
  have e : p.2.natAbs = q.2.natAbs := Nat.dvd_antisymm d1 d2
  have e2 : p.2 = q.2 := by omega
  rw [e2] at h
  have e1 : p.1 = q.1 := Int.eq_of_mul_eq_mul_right (by omega) h
  exact Prod.ext e1 e2
theorem num_of_red {p : Int × Int} {n d : Int} (hp : Red p) (hd : 0 < d) (h : p.1 * d = n * p.2) : num n d = p := by
  refine red_ext (num_red hd) hp ?_
  have hc := num_cross (n := n) hd
  have hd' : d ≠ 0 := by omega
  refine Int.eq_of_mul_eq_mul_right hd' ?_
  calc (num n d).1 * p.2 * d = (num n d).1 * d * p.2 := by rw [Int.mul_right_comm]
    _ = n * (num n d).2 * p.2 := by rw [hc]
    _ = n * p.2 * (num n d).2 := by rw [Int.mul_right_comm]
    _ = p.1 * d * (num n d).2 := by rw [h]
    _ = p.1 * (num n d).2 * d := by rw [Int.mul_right_comm]
def plusN (a b : Int × Int) : Int × Int := num (a.1 * b.2 + b.1 * a.2) (a.2 * b.2)
def timesN (a b : Int × Int) : Int × Int := num (a.1 * b.1) (a.2 * b.2)
def sumN (l : List (Int × Int)) : Int × Int := l.foldl plusN (0, 1)
theorem mul_pos' {a b : Int} (ha : 1 ≤ a) (hb : 1 ≤ b) : 0 < a * b := Int.mul_pos (by omega) (by omega)
theorem plusN_red {a b : Int × Int} (ha : Red a) (hb : Red b) : Red (plusN a b) := num_red (mul_pos' ha.1 hb.1)
theorem timesN_red {a b : Int × Int} (ha : Red a) (hb : Red b) : Red (timesN a b) := num_red (mul_pos' ha.1 hb.1)
/-- reduced crosswise -/
def crossN (a b : Int × Int) : Int × Int :=
  (a.1 / ((Nat.gcd a.1.natAbs b.2.natAbs : Nat) : Int) * (b.1 / ((Nat.gcd b.1.natAbs a.2.natAbs : Nat) : Int)), a.2 / ((Nat.gcd b.1.natAbs a.2.natAbs : Nat) : Int) * (b.2 / ((Nat.gcd a.1.natAbs b.2.natAbs : Nat) : Int)))
theorem cop_mul {a b c d : Nat} (h1 : Nat.gcd a c = 1) (h2 : Nat.gcd a d = 1) (h3 : Nat.gcd b c = 1) (h4 : Nat.gcd b d = 1) : Nat.gcd (a * b) (c * d) = 1 := by
  have k1 : Nat.Coprime a (c * d) := Nat.Coprime.mul_right h1 h2
  have k2 : Nat.Coprime b (c * d) := Nat.Coprime.mul_right h3 h4
  exact Nat.Coprime.mul_left k1 k2
theorem cross_eq {a b : Int × Int} (ha : Red a) (hb : Red b) : crossN a b = timesN a b := by
  obtain ⟨a1, a2⟩ := a
  obtain ⟨b1, b2⟩ := b
  obtain ⟨pa, ca⟩ := ha
  obtain ⟨pb, cb⟩ := hb
  simp only at pa ca pb cb
  have l0 : 0 < Nat.gcd a1.natAbs b2.natAbs := Nat.gcd_pos_of_pos_right _ (by omega)
  have r0 : 0 < Nat.gcd b1.natAbs a2.natAbs := Nat.gcd_pos_of_pos_right _ (by omega)
  obtain ⟨x, hx⟩ : ((Nat.gcd a1.natAbs b2.natAbs : Nat) : Int) ∣ a1 := cast_dvd (Nat.gcd_dvd_left _ _)
  obtain ⟨y, hy⟩ : ((Nat.gcd a1.natAbs b2.natAbs : Nat) : Int) ∣ b2 := cast_dvd (Nat.gcd_dvd_right _ _)
  obtain ⟨u, hu⟩ : ((Nat.gcd b1.natAbs a2.natAbs : Nat) : Int) ∣ b1 := cast_dvd (Nat.gcd_dvd_left _ _)
  obtain ⟨v, hv⟩ : ((Nat.gcd b1.natAbs a2.natAbs : Nat) : Int) ∣ a2 := cast_dvd (Nat.gcd_dvd_right _ _)
  generalize hl : Nat.gcd a1.natAbs b2.natAbs = l at *
  generalize hr : Nat.gcd b1.natAbs a2.natAbs = r at *
  have li : (l : Int) ≠ 0 := by omega
  have ri : (r : Int) ≠ 0 := by omega
  have nx : a1.natAbs = l * x.natAbs := by rw [hx, Int.natAbs_mul, Int.natAbs_natCast]
  have ny : b2.natAbs = l * y.natAbs := by rw [hy, Int.natAbs_mul, Int.natAbs_natCast]
  have nu : b1.natAbs = r * u.natAbs := by rw [hu, Int.natAbs_mul, Int.natAbs_natCast]
  have nv : a2.natAbs = r * v.natAbs := by rw [hv, Int.natAbs_mul, Int.natAbs_natCast]
  have cxy : Nat.gcd x.natAbs y.natAbs = 1 := by
    have := Nat.gcd_mul_left l x.natAbs y.natAbs
    rw [← nx, ← ny, hl] at this
    exact Nat.eq_of_mul_eq_mul_left l0 (by omega)
  have cuv : Nat.gcd u.natAbs v.natAbs = 1 := by
    have := Nat.gcd_mul_left r u.natAbs v.natAbs
    rw [← nu, ← nv, hr] at this
    exact Nat.eq_of_mul_eq_mul_left r0 (by omega)
  have cxv : Nat.gcd x.natAbs v.natAbs = 1 := by
    have h1 : x.natAbs ∣ a1.natAbs := ⟨l, by rw [nx, Nat.mul_comm]⟩
    have h2 : v.natAbs ∣ a2.natAbs := ⟨r, by rw [nv, Nat.mul_comm]⟩
    exact Nat.Coprime.coprime_dvd_left h1 (Nat.Coprime.coprime_dvd_right h2 ca)
  have cuy : Nat.gcd u.natAbs y.natAbs = 1 := by
    have h1 : u.natAbs ∣ b1.natAbs := ⟨r, by rw [nu, Nat.mul_comm]⟩
    have h2 : y.natAbs ∣ b2.natAbs := ⟨l, by rw [ny, Nat.mul_comm]⟩
    exact Nat.Coprime.coprime_dvd_left h1 (Nat.Coprime.coprime_dvd_right h2 cb)
  have hv1 : 1 ≤ v := by
    rcases (show 0 < v ∨ v ≤ 0 by omega) with z | z
    · omega
    · exfalso
      have : (r : Int) * v ≤ 0 := Int.mul_nonpos_of_nonneg_of_nonpos (by omega) z
      omega
  have hy1 : 1 ≤ y := by
    rcases (show 0 < y ∨ y ≤ 0 by omega) with z | z
    · omega
    · exfalso
      have : (l : Int) * y ≤ 0 := Int.mul_nonpos_of_nonneg_of_nonpos (by omega) z
      omega
  have e : crossN (a1, a2) (b1, b2) = (x * u, v * y) := by
    unfold crossN
    simp only [hl, hr]
    rw [hx, hy, hu, hv, Int.mul_ediv_cancel_left _ li, Int.mul_ediv_cancel_left _ li, Int.mul_ediv_cancel_left _ ri, Int.mul_ediv_cancel_left _ ri]
  rw [e]
  symm
  refine num_of_red ⟨?_, ?_⟩ (mul_pos' pa pb) ?_
  · have := mul_pos' hv1 hy1
    show 1 ≤ v * y
    omega
  · show Nat.gcd (x * u).natAbs (v * y).natAbs = 1
    rw [Int.natAbs_mul, Int.natAbs_mul]
    exact cop_mul cxv cxy cuv cuy
  · show x * u * (a2 * b2) = a1 * b1 * (v * y)
    rw [hx, hy, hu, hv]
    simp only [Int.mul_assoc, Int.mul_left_comm, Int.mul_comm]
/-! ### how great they are -/
def Big (k : Nat) (p : Int × Int) : Prop := p.1.natAbs < 2 ^ k ∧ p.2.natAbs < 2 ^ k
theorem Big.mono {j k : Nat} {p : Int × Int} (h : Big j p) (hk : j ≤ k) : Big k p := ⟨Nat.lt_of_lt_of_le h.1 (Nat.pow_le_pow_right (by decide) hk), Nat.lt_of_lt_of_le h.2 (Nat.pow_le_pow_right (by decide) hk)⟩
theorem big_small {p : Int × Int} (h : SmallN p) : Big 10 p := ⟨Nat.lt_trans h.2.2.1 (by decide), Nat.lt_trans (show p.2.natAbs < 1000 by have := h.1; have := h.2.1; omega) (by decide)⟩
theorem pow_mul_lt {a b j k : Nat} (ha : a < 2 ^ j) (hb : b < 2 ^ k) : a * b < 2 ^ (j + k) := by
  rw [Nat.pow_add]
  exact Nat.mul_lt_mul'' ha hb
theorem big_plus_raw {j k : Nat} {a b : Int × Int} (ha : Big j a) (hb : Big k b) : (a.1 * b.2 + b.1 * a.2).natAbs < 2 ^ (j + k + 1) ∧ (a.2 * b.2).natAbs < 2 ^ (j + k) := by
  have h1 : (a.1 * b.2).natAbs < 2 ^ (j + k) := by rw [Int.natAbs_mul]; exact pow_mul_lt ha.1 hb.2
  have h2 : (b.1 * a.2).natAbs < 2 ^ (j + k) := by rw [Int.natAbs_mul, Nat.mul_comm]; exact pow_mul_lt ha.2 hb.1
  have h3 : (a.2 * b.2).natAbs < 2 ^ (j + k) := by rw [Int.natAbs_mul]; exact pow_mul_lt ha.2 hb.2
  refine ⟨?_, h3⟩
  rw [Nat.pow_succ]
  have := Int.natAbs_add_le (a.1 * b.2) (b.1 * a.2)
  omega
theorem big_num {k : Nat} {n d : Int} (h0 : d ≠ 0) (h1 : n.natAbs < 2 ^ k) (h2 : d.natAbs < 2 ^ k) : Big k (num n d) := ⟨Nat.lt_of_le_of_lt (num_le h0).1 h1, Nat.lt_of_le_of_lt (num_le h0).2 h2⟩
theorem big_plus {j k : Nat} {a b : Int × Int} (ra : Red a) (rb : Red b) (ha : Big j a) (hb : Big k b) : Big (j + k + 1) (plusN a b) := by
  have h := big_plus_raw ha hb
  have hp := mul_pos' ra.1 rb.1
  exact big_num (by omega) h.1 (Nat.lt_of_lt_of_le h.2 (Nat.pow_le_pow_right (by decide) (by omega)))
theorem big_times {j k : Nat} {a b : Int × Int} (ra : Red a) (rb : Red b) (ha : Big j a) (hb : Big k b) : Big (j + k) (timesN a b) := by
  have hp := mul_pos' ra.1 rb.1
  exact big_num (by omega) (by rw [Int.natAbs_mul]; exact pow_mul_lt ha.1 hb.1) (by rw [Int.natAbs_mul]; exact pow_mul_lt ha.2 hb.2)
/-! ### promises of the defs that reckon -/
def spLowest (K : PySem.W.Frag) : Sp := fun vs h Q _ => ∃ (b : Hp) (n d : Int), Ex b h ∧ DtA K b vs [.int n, .int d] ∧ 0 < d ∧ d.natAbs < 2 ^ 8000 ∧ ∀ v b' h', Gr b h b' h' → Dt K b' v (nD (num n d)) → Q v h'
def spNum2 (K : PySem.W.Frag) (g : Int × Int → Int × Int → Int × Int) : Sp := fun vs h Q _ => ∃ (b : Hp) (p q : Int × Int), Ex b h ∧ DtA K b vs [nD p, nD q] ∧ Red p ∧ Red q ∧ Big 900 p ∧ Big 900 q ∧ ∀ v b' h', Gr b h b' h' → Dt K b' v (nD (g p q)) → Q v h'
def numsD (l : List (Int × Int)) : PyData := .list (l.map nD)
def SmL (l : List (Int × Int)) : Prop := l.length ≤ 60 ∧ ∀ p ∈ l, Red p ∧ Big 10 p
def spTotal (K : PySem.W.Frag) : Sp := fun vs h Q _ => ∃ (b : Hp) (l : List (Int × Int)), Ex b h ∧ DtA K b vs [numsD l] ∧ SmL l ∧ ∀ v b' h', Gr b h b' h' → Dt K b' v (nD (sumN l)) → Q v h'
section
variable {K : PySem.W.Frag} {σ : L2.St} {b h : Hp} {te ta tb : TE} {ts : TA} {E : XK} {p q : Int × Int} {l : List (Int × Int)}
theorem ed_lowest {n d : Int} (x : Ev ta σ b (.int n)) (y : Ev tb σ b (.int d)) (h0 : 0 < d) (h1 : d.natAbs < 2 ^ 8000) : ED K (tCall (spLowest K) [] E (tCons ta (tCons tb tNil))) σ b (nD (num n d)) := fun h e _ qq =>
  eda_cons (ed_int x) (eda_cons (ed_int y) eda_nil) h e _ fun vs b2 h2 g2 hv => ⟨b2, n, d, g2.gi, by rw [List.append_nil]; exact hv, h0, h1, fun v b3 h3 g3 hv3 => qq v b3 h3 (g2.trans g3) hv3⟩
theorem ed_num2 {g : Int × Int → Int × Int → Int × Int} (y : EDA K ts σ b [nD p, nD q]) (h1 : Red p) (h2 : Red q) (h3 : Big 900 p) (h4 : Big 900 q) : ED K (tCall (spNum2 K g) [] E ts) σ b (nD (g p q)) := fun h e _ qq =>
  y h e _ fun vs b2 h2' g2 hv => ⟨b2, p, q, g2.gi, by rw [List.append_nil]; exact hv, h1, h2, h3, h4, fun v b3 h3 g3 hv3 => qq v b3 h3 (g2.trans g3) hv3⟩
theorem ed_total (y : EDA K ts σ b [numsD l]) (h1 : SmL l) : ED K (tCall (spTotal K) [] E ts) σ b (nD (sumN l)) := fun h e _ qq =>
  y h e _ fun vs b2 h2' g2 hv => ⟨b2, l, g2.gi, by rw [List.append_nil]; exact hv, h1, fun v b3 h3 g3 hv3 => qq v b3 h3 (g2.trans g3) hv3⟩
theorem ev_num0 (x : ED K te σ b (nD p)) : Ev (tOp (rIxT K) te (tC (V.int 0))) σ b (.int p.1) := ev_int (ed_ixT x ev_c (by rfl))
theorem ev_num1 (x : ED K te σ b (nD p)) : Ev (tOp (rIxT K) te (tC (V.int 1))) σ b (.int p.2) := ev_int (ed_ixT x ev_c (by rfl))
theorem cmulW {i j : Int} (hi : i.natAbs < 2 ^ 2000) (hj : j.natAbs < 2 ^ 2000) : CMulW i j := wide_mul (a := 2000) (b := 2000) hi hj (by decide) (by decide) (by decide)
theorem rGcd_ev {i j : Int} (x : Ev ta σ b (.int i)) (y : Ev tb σ b (.int j)) : Ev (tCB rGcd (tCons ta (tCons tb tNil))) σ b (.int ((Nat.gcd i.natAbs j.natAbs : Nat) : Int)) := fun h e _ q => x h e _ fun h2 e2 => y h2 (e.trans e2) _ fun h3 e3 => ⟨i, j, rfl, q h3 (e2.trans e3)⟩
end
theorem one_red : Red (0, 1) := ⟨by decide, by decide⟩
theorem sumN_take {l : List (Int × Int)} {i : Nat} {p : Int × Int} (h : l[i]? = some p) : sumN (l.take (i + 1)) = plusN (sumN (l.take i)) p := by
  unfold sumN
  rw [take_more1 h, List.foldl_append]
  rfl
theorem sumN_ok {l : List (Int × Int)} (h : ∀ p ∈ l, Red p ∧ Big 10 p) : ∀ i, i ≤ l.length → Red (sumN (l.take i)) ∧ Big (11 * i + 1) (sumN (l.take i))
  | 0, _ => by
    rw [List.take_zero]
    exact ⟨one_red, by show (0 : Int).natAbs < 2 ^ 1; decide, by show (1 : Int).natAbs < 2 ^ 1; decide⟩
  | i + 1, hi => by
    obtain ⟨p, hp⟩ : ∃ p, l[i]? = some p := ⟨_, List.getElem?_eq_getElem hi⟩
    have ih := sumN_ok h i (Nat.le_of_succ_le hi)
    have hq := h p (List.mem_of_getElem? hp)
    rw [sumN_take hp]
    exact ⟨plusN_red ih.1 hq.1, (big_plus ih.1 hq.1 ih.2 hq.2).mono (by omega)⟩
end Md


set_option Elab.async false
set_option linter.all false
set_option maxRecDepth 100000
set_option maxHeartbeats 2000000
namespace Md
open PySem L2 Evl
/-! ### isinstance of data -/
def kindD : PyData → String
  | .none => "NoneType" | .bool _ => "bool" | .int _ => "int" | .str _ => "str" | .list _ => "list" | .tuple _ => "tuple" | .dict _ => "dict"
def isNo : PyData → Bool
  | .none => true
  | _ => false
theorem Dt.ty {K : PySem.W.Frag} {H : Hp} : ∀ {d : PyData} {v : V}, Dt K H v d → TyX K H v (.type (kindD d))
  | .none, _, h => by cases h; exact .base .non
  | .bool b, _, h => by cases h; exact .base (.bl b)
  | .int i, _, h => by cases h; exact .base (.int i)
  | .str x, _, h => by cases h; exact .base (.str x)
  | .list ds, _, h => by
    cases h with
    | list h1 h2 => exact .base (.lst h1)
  | .tuple ds, _, h => by
    cases h with
    | tuple h1 h2 =>
      rcases h1 with (h1 | ⟨o, h1⟩) | ⟨o, its, n, h1, h3, _⟩
      · exact .base (.tup h1)
      · exact .fTuple h1
      · exact .kTuple h1 h3
  | .dict _, _, h => by cases h
section
variable {K : PySem.W.Frag} {σ : L2.St} {b h : Hp} {te ta tb : TE} {d : PyData} {ds : List PyData} {E : XK} {ts : TA}
theorem ev_isiD {T : String} {r : Bool} (x : ED K te σ b d) (hk : kitB (kindD d) T = some r) : Ev (tCB (rIsi K) (tCons te (tCons (tC (.ty T)) tNil))) σ b (.bl r) := fun h e _ q => x h e _ fun v b2 h2 g2 hv =>
  ⟨v, .ty T, .type (kindD d), .type T, r, rfl, .ty _, (hv.up g2.gi).ty, kit_ty hk, q h2 g2.gh⟩
theorem ev_isN (x : ED K te σ b d) {r : Bool} (hr : isNo d = r) : Ev (tOp rIsN te (tC .non)) σ b (.bl r) := fun h e _ q => x h e _ fun v b2 h2 g2 hv => by
  refine ⟨rfl, ?_⟩
  have e1 : decide (v = V.non) = r := by
    rw [← hr]
    cases d with
    | none => rw [hv.noneI] <;> rfl
    | bool k => rw [hv.boolI] <;> rfl
    | int k => rw [hv.intI] <;> rfl
    | str k => rw [hv.strI] <;> rfl
    | list k => obtain ⟨a, xs, rfl, _⟩ := hv.listI; rfl
    | tuple k => obtain ⟨a, xs, rfl, _⟩ := hv.tupleI; rfl
    | dict k => cases hv
  rw [e1]
  exact q h2 g2.gh
/-! ### the same data are found the same -/
/-- of depth below n, with lists that are short enough -/
def Dep : Nat → PyData → Prop
  | 0, _ => False
  | n + 1, .list ds => ds.length ≤ 30000 ∧ ∀ d ∈ ds, Dep n d
  | n + 1, .tuple ds => ds.length ≤ 30000 ∧ ∀ d ∈ ds, Dep n d
  | _ + 1, .dict _ => False
  | _ + 1, _ => True
def spSame (K : PySem.W.Frag) (n : Nat) : Sp := fun vs h Q _ => ∃ (b : Hp) (d : PyData), Ex b h ∧ DtA K b vs [d, d] ∧ Dep n d ∧ ∀ h', Ex h h' → Q (.bl true) h'
theorem ev_sameD {n : Nat} (y : EDA K ts σ b [d, d]) (hd : Dep n d) : Ev (tCall (spSame K n) [] E ts) σ b (.bl true) := fun h e _ q =>
  y h e _ fun vs b2 h2 g2 hv => ⟨b2, d, g2.gi, by rw [List.append_nil]; exact hv, hd, fun h3 e3 => q h3 (g2.gh.trans e3)⟩
theorem all_true (n : Nat) : ((List.range n).map fun _ => true).all id = true := by
  rw [List.all_eq_true]
  intro x hx
  obtain ⟨_, _, rfl⟩ := List.mem_map.mp hx
  rfl
theorem givenD_true (n : Nat) : givenD n (fun _ => true) (fun _ => PyData.bool true) = ((List.range n).map fun _ => true).map PyData.bool := by
  rw [givenD_all, List.map_map]
  rfl
end
/-- no level is needed for a promise that is never asked -/
theorem fn_never {P : Program} {w : World} {K : PySem.W.Frag} {mg : Str → Option Value} {base : Heap} {CX : CXT} {k : Nat} {f : Addr} {fd : FuncData} {ps : List Str} {sp : Sp} (h : ∀ vs H Q E, ¬ sp vs H Q E) : FnOk P w K mg base CX k f fd ps sp :=
  ⟨fun vs H Q E x => absurd x (h vs H Q E), fun A outer s H args us vs Q E _ _ _ _ x => absurd x (h vs H Q E)⟩
/-! ### a def behind an expression is called -/
def HeldX (P : Program) (w : World) (K : PySem.W.Frag) (mg : Str → Option Value) (base : Heap) (kk : Nat) (f : Addr) (sp : Sp) : Prop :=
  ∃ k fd ps, k ≤ kk ∧ FnOk P w K mg base (L2.CX P w) k f fd ps sp ∧ PySem.W.keepIn K (.ref f) = true ∧ Binds K fd ps []
def tCallF (M : Addr → Sp → Prop) (E : L2.St → XK) (tf : TE) (t : TA) : TE := fun σ H Q => tf σ H fun y H1 => ∃ f sp, y = V.ref f ∧ M f sp ∧ t σ H1 fun vs H2 => sp vs H2 Q (E σ)
theorem pe_callF {X : Cx} {kk : Nat} {E : L2.St → XK} {fe e : Expr} {es : List Expr} {pos : Pos} {tf : TE} {t : TA} (hr : Room kk X.A) (hx : ∀ σ, PassesAt (L2.CX X.prog X.w) X σ (E σ)) (hf : PE X fe tf) (ha : PA X (e :: es) t)
    (ht : eval (.Call fe (e :: es) [] pos) X.env = (do callWith pos (← eval fe X.env) [] (backTo pos (starEach (e :: es) X.env)) (backToKw pos (keywordEach [] X.env))) := by rfl)
    (he : starEach (e :: es) X.env = (false, eval e X.env) :: starEach es X.env := by rfl) (hpl : (backTo pos (starEach es X.env)).any (·.1) = false := by rfl) :
    PE X (.Call fe (e :: es) [] pos) (tCallF (HeldX X.prog X.w X.K X.mg X.base kk) E tf t) := by
  refine ⟨fun pins s σ H Q I h => ?_⟩
  refine PyProof.Rows.Call_ (thn (hf.run pins s σ H _ I h) fun u s1 ⟨y, H1, I1, ry, f, sp, ey, ⟨k, fd, ps, hk, F, hkp, hb⟩, q⟩ => ?_) ht
  subst ey
  obtain rfl : u = Value.ref f := ry
  exact PySem.W.callWith_K (h₀ := X.base) I1.ok.mod.kin hkp (thn (ha.run pos pins s1 σ H1 _ I1 q) fun us s2 ⟨vs, H2, I2, r, q2⟩ => ⟨I2.kIn, run_fnS F (hr.mono hk) hb (hx σ) I2 r q2⟩) he hpl
/-! ### isinstance of a caught error that has fields -/
def rIsX (K : PySem.W.Frag) (D a : Addr) (cls : Value) (d : Option Addr) : List V → Hp → VK → Prop := fun xs H Q => ∃ (c : V) (cv : Value) (b : Bool) (dd : Addr) (fs : List (Str × V)), xs = [.ref a, c] ∧ (∀ u, RelV c u → u = cv) ∧ cls = .ref D ∧ d = some dd ∧ H dd = some (.xd fs) ∧
  PySem.W.kitOne K (.ref D) cv = some b ∧ Q (.bl b) H
theorem call_isX {X : Cx} {a D : Addr} {oe : Obj} {cls : Value} {d : Option Addr} {pn : List (Addr × Obj)} (C : ExcC X.K D) (hz : Zc cls d oe) (hf : ∃ vs, oe.data = .fields vs) : CallR (X.suite a ((a, oe) :: pn)) (.builtin "isinstance") (rIsX X.K D a cls d) := by
  intro pins s σ H xs us Q I r h
  obtain ⟨c, cv, b, dd, fs, rfl, hcv, rfl, rfl, hx, e, q⟩ := h
  obtain ⟨u1, u2, rfl, r1, r2⟩ := vals2 r
  obtain rfl : u1 = Value.ref a := r1
  obtain rfl := hcv _ r2
  obtain ⟨ha, _⟩ := I.pin (a, oe) (List.mem_append_left _ List.mem_cons_self)
  obtain ⟨vs, hd⟩ := hf
  obtain ⟨mA, hns, _⟩ := I.hok dd _ hx
  obtain ⟨od, ho, _⟩ := lookIn_ns hns
  have J : PySem.W.InstAt s.heap a oe D (some od) := ⟨ha, hz.1, by unfold PySem.W.notCls; rw [hd], by rw [hz.2]; exact ho⟩
  have hcl : (PySem.W.clsIn X.K D).isSome = true := by
    obtain ⟨cd, hc, _⟩ := PySem.W.any_some C.hd
    rw [hc]
    rfl
  exact PySem.W.kia_one (PySem.W.kitx_exc hcl C.hg C.hk C.hs C.ha C.hn C.ht C.hm) I.kIn J e (fun z => nomatch z) fun tk => ⟨.bl b, H, I.kept (t' := tk) fun _ _ z => z, rfl, q⟩
theorem isX_K {X : Cx} {K : PySem.W.Frag} {a D : Addr} {oe : Obj} {cls : Value} {d : Option Addr} {pn : List (Addr × Obj)} (h : X.K = K) (C : ExcC K D) (hz : Zc cls d oe) (hf : ∃ vs, oe.data = .fields vs) : CallR (X.suite a ((a, oe) :: pn)) (.builtin "isinstance") (rIsX K D a cls d) := by
  subst h
  exact call_isX C hz hf
/-! ### a list without its last item -/
theorem cut_last {ds : List PyData} : cutD ds none (some (-1)) = ds.take (ds.length - 1) := by
  unfold cutD
  have e : HT.sIx ds.length ds.length (some (-1)) = ds.length - 1 := by
    show (if (-1 : Int) < 0 then ((-1 : Int) + (ds.length : Int)).toNat else min (-1 : Int).toNat ds.length) = _
    rw [if_pos (by decide)]
    omega
  rw [e, HT.sIx_none, List.drop_zero, Nat.sub_zero]
/-! ### gains and chances on a way -/
def gainsF (G : List Pl) (x : Nat) (r : List Int) : List (Int × Int) := ((pathF G x r).take r.length).map fun y => (plAt G y).gain
def chN : Pl → Int → Option (Int × Int)
  | .draw _ bs, n => some (bs.getD n.toNat ((1, 1), 0)).1
  | .side _ _ _, _ => none
def chStep (p : Pl) (n : Int) (c : Int × Int) : Int × Int := match chN p n with
  | some q => timesN c q
  | none => c
def chanceF (G : List Pl) (x : Nat) (r : List Int) : Nat → Int × Int
  | 0 => (1, 1)
  | i + 1 => chStep (plAt G (lastF G x (r.take i))) (r.getD i 0) (chanceF G x r i)
theorem wf_gain {many : Int} {p : Pl} (h : WfP many p) : SmallN p.gain := by
  cases p with
  | draw g bs => exact h.1
  | side g o ts => exact h.1
theorem plAt_wf {G : List Pl} (h : WfG G) {x : Nat} (hx : x < G.length) : WfP (G.length : Int) (plAt G x) := h.2.2 _ (List.mem_of_getElem? (plAt_get hx))
theorem wf_chance {many : Int} {g : Int × Int} {bs : List ((Int × Int) × Int)} (h : WfP many (.draw g bs)) {q : (Int × Int) × Int} (hq : q ∈ bs) : SmallN q.1 := by
  obtain ⟨_, h1, h2, _, ws, hw, hr, he⟩ := h
  have : q.1 ∈ bs.map (·.1) := List.mem_map.mpr ⟨q, hq, rfl⟩
  rw [he] at this
  obtain ⟨w, hw2, e⟩ := List.mem_map.mp this
  rw [← e]
  have s1 := sum_small hr
  have s2 := sum_pos hr
  have := hr w hw2
  exact num_small (by omega) (by omega) (by omega)
theorem one_one : Red (1, 1) := ⟨by decide, by decide⟩
theorem chN_ok {many : Int} {p : Pl} (h : WfP many p) {n : Int} (hn : 0 ≤ n ∧ n < (p.tg.length : Int)) {q : Int × Int} (e : chN p n = some q) : SmallN q := by
  cases p with
  | side g o ts => cases e
  | draw g bs =>
    have hl : n.toNat < bs.length := by
      have : (bs.map (·.2)).length = bs.length := List.length_map _
      have h2 : n < ((bs.map (·.2)).length : Int) := hn.2
      omega
    have e' : (bs.getD n.toNat ((1, 1), 0)).1 = q := Option.some.inj e
    rw [List.getD_eq_getElem?_getD, List.getElem?_eq_getElem hl] at e'
    rw [← e']
    exact wf_chance h (List.getElem_mem hl)
theorem chance_ok {G : List Pl} (h : WfG G) {x : Nat} {r : List Int} (hx : x < G.length) : ∀ i, i ≤ r.length → OkTo G x r i → Red (chanceF G x r i) ∧ Big (10 * i + 1) (chanceF G x r i)
  | 0, _, _ => ⟨one_one, by show (1 : Int).natAbs < 2 ^ 1; decide, by show (1 : Int).natAbs < 2 ^ 1; decide⟩
  | i + 1, hi, ho => by
    have ih := chance_ok h hx i (Nat.le_of_succ_le hi) fun j n hj hn => ho j n (by omega) hn
    have hcl := at_lt (wfT_of h) hx (i := i) (r := r) (fun j n hj hn => ho j n (by omega) hn) (Nat.le_of_succ_le hi)
    have hn : r[i]? = some (r.getD i 0) := by rw [List.getD_eq_getElem?_getD, List.getElem?_eq_getElem hi]; rfl
    have hk := ho i _ (Nat.lt_succ_self i) hn
    show Red (chStep _ _ _) ∧ Big (10 * (i + 1) + 1) (chStep _ _ _)
    unfold chStep
    cases e : chN (plAt G (lastF G x (r.take i))) (r.getD i 0) with
    | none => exact ⟨ih.1, ih.2.mono (by omega)⟩
    | some q =>
      have hq := chN_ok (plAt_wf h hcl) hk e
      exact ⟨timesN_red ih.1 (red_small hq), (big_times ih.1 (red_small hq) ih.2 (big_small hq)).mono (by omega)⟩
theorem gains_ok {G : List Pl} (h : WfG G) {x : Nat} {r : List Int} (hx : x < G.length) (ho : OkTo G x r r.length) (hl : r.length ≤ 60) : SmL (gainsF G x r) := by
  refine ⟨by unfold gainsF; rw [List.length_map, List.length_take]; omega, fun p hp => ?_⟩
  obtain ⟨y, hy, rfl⟩ := List.mem_map.mp hp
  obtain ⟨j, hj, e⟩ := List.mem_iff_getElem.mp (List.mem_of_mem_take hy)
  rw [pathF_len] at hj
  have e2 : (pathF G x r)[j]? = some y := by rw [List.getElem?_eq_getElem (by rw [pathF_len]; exact hj), e]
  rw [pathF_get G r x j (by omega)] at e2
  have := at_lt (wfT_of h) hx (i := j) (r := r) (fun k n hk hn => ho k n (by omega) hn) (by omega)
  rw [Option.some.inj e2] at this
  have w := wf_gain (plAt_wf h this)
  exact ⟨red_small w, big_small w⟩
/-! ### promises -/
/-- a drawn way -/
def spWay (K : PySem.W.Frag) : Sp := fun vs h Q _ => ∃ (b : Hp) (G : List Pl) (x : Nat) (ds : List Int), Ex b h ∧ DtA K b vs [gameD G, .int (x : Int), .list (ds.map PyData.int)] ∧ WfG G ∧ x < G.length ∧ (∀ d ∈ ds, 0 ≤ d ∧ d < 1000) ∧ ds.length ≤ 1000 ∧
  ∀ v b' h' r, Gr b h b' h' → r.length = ds.length → OkTo G x r r.length → Dt K b' v (intsD r) → Q v h'
/-- something about a way, or NoBranch -/
def spOnWay (K : PySem.W.Frag) (C : Addr) (F : List Pl → Nat → List Int → PyData) : Sp := fun vs h Q E => ∃ (b : Hp) (G : List Pl) (x : Nat) (r : List Int), Ex b h ∧ DtA K b vs [gameD G, .int (x : Int), intsD r] ∧ WfG G ∧ x < G.length ∧ r.length ≤ 60 ∧
  (OkTo G x r r.length → ∀ v b' h', Gr b h b' h' → Dt K b' v (F G x r) → Q v h') ∧
  (∀ j n, r[j]? = some n → OkTo G x r j → ¬ okB G (lastF G x (r.take j)) n → NBAt h C (j : Int) E)
def wayD (G : List Pl) (x : Nat) (r : List Int) : PyData := natsD (pathF G x r)
def sumD (G : List Pl) (x : Nat) (r : List Int) : PyData := nD (sumN (gainsF G x r))
def chanceD (G : List Pl) (x : Nat) (r : List Int) : PyData := nD (chanceF G x r r.length)
def toldD (n : Nat) : List Pl → Nat → List Int → PyData := if n = 0 then wayD else if n = 1 then sumD else chanceD
def refusedD (j : Nat) : PyData := .list [.str "refused", .int (j : Int), .bool true]
def spTold4 (K : PySem.W.Frag) : Sp := fun vs h Q _ => ∃ (b : Hp) (m : Nat) (G : List Pl) (x : Nat) (r : List Int), Ex b h ∧ DtA K b vs [.int (m : Int), gameD G, .int (x : Int), intsD r] ∧ m < 3 ∧ WfG G ∧ x < G.length ∧ r.length ≤ 60 ∧
  (OkTo G x r r.length → ∀ v b' h', Gr b h b' h' → Dt K b' v (toldD m G x r) → Q v h') ∧
  (∀ j n, r[j]? = some n → OkTo G x r j → ¬ okB G (lastF G x (r.take j)) n → ∀ v b' h', Gr b h b' h' → Dt K b' v (refusedD j) → Q v h')
end Md
namespace Md
open PySem L2 Evl
theorem map_getDn {α β : Type} (l : List α) (d : α) (f : α → β) : (List.range l.length).map (fun i => f (l.getD i d)) = l.map f := by
  refine List.ext_getElem? fun i => ?_
  rw [List.getElem?_map, List.getElem?_map]
  by_cases h : i < l.length
  · rw [List.getElem?_range h, List.getElem?_eq_getElem h]
    show some (f (l.getD i d)) = some (f l[i])
    rw [List.getD_eq_getElem?_getD, List.getElem?_eq_getElem h]
    rfl
  · rw [List.getElem?_eq_none (by rw [List.length_range]; omega), List.getElem?_eq_none (by omega)]
    rfl
/-- [te for j in a list of data] -/
theorem en_mapD {K : PySem.W.Frag} {σ : L2.St} {b : Hp} {tl te : TE} {j : Nat} {vs : List Nat} {α : Type} {D f : α → PyData} {l : List α} (x : ED K tl σ b (.list (l.map D))) (hz : l.length ≤ 40000) (hw : ∀ x, wipe ((wipe σ vs).set j (some x)) vs = wipe σ vs)
    (hs : ∀ y ∈ l, ∀ v b2, Ex b b2 → Dt K b2 v (D y) → ED K te ((wipe σ vs).set j (some v)) b2 (f y)) : EN K (tLc (iList K tl) (gName j) tYes te vs) σ b (l.map f) := by
  by_cases hl : l = []
  · subst hl
    exact en_lcL x hz (fun _ => true) (fun _ => .none) hw fun i d v b2 e hd _ => by
      rw [List.map_nil] at hd
      simp at hd
  · obtain ⟨a0, ha0⟩ : ∃ a0, a0 ∈ l := List.exists_mem_of_ne_nil l hl
    have e : givenD (l.map D).length (fun _ => true) (fun i => f (l.getD i a0)) = l.map f := by
      rw [givenD_all, List.length_map, map_getDn]
    rw [← e]
    refine en_lcL x (by rw [List.length_map]; exact hz) (fun _ => true) _ hw fun i d v b2 e hd hv => ⟨et_yes, fun _ => ?_⟩
    rw [List.getElem?_map] at hd
    cases z : l[i]? with
    | none => rw [z] at hd; cases hd
    | some y =>
      rw [z] at hd
      cases hd
      have e2 : l.getD i a0 = y := by rw [List.getD_eq_getElem?_getD, z] <;> rfl
      rw [e2]
      exact hs y (List.mem_of_getElem? z) v b2 e hv
theorem natsD_map (l : List Nat) : natsD l = .list (l.map fun x : Nat => PyData.int (x : Int)) := rfl
theorem cut_nats (l : List Nat) : cutD (l.map fun x : Nat => PyData.int (x : Int)) none (some (-1)) = (l.take (l.length - 1)).map fun x : Nat => PyData.int (x : Int) := by
  rw [cut_last, List.length_map, List.map_take]
theorem path_mem_lt {G : List Pl} (h : WfT G) {x : Nat} {r : List Int} (hx : x < G.length) (ho : OkTo G x r r.length) : ∀ y ∈ pathF G x r, y < G.length := fun y hy => by
  obtain ⟨j, hj, e⟩ := List.mem_iff_getElem.mp hy
  rw [pathF_len] at hj
  have e2 : (pathF G x r)[j]? = some y := by rw [List.getElem?_eq_getElem (by rw [pathF_len]; exact hj), e]
  rw [pathF_get G r x j (by omega)] at e2
  have := at_lt h hx (i := j) (r := r) (fun k n hk hn => ho k n (by omega) hn) (by omega)
  rw [Option.some.inj e2] at this
  exact this
/-- [game[x][0] for x in places[:-1]] -/
theorem ed_gains {K : PySem.W.Frag} {σ : L2.St} {b : Hp} {tg tp : TE} {j : Nat} {vs : List Nat} {G : List Pl} {x : Nat} {r : List Int} (h : WfT G) (hx : x < G.length) (ho : OkTo G x r r.length) (hl : r.length ≤ 1000) (hp : ED K tp σ b (natsD (pathF G x r)))
    (hg : ∀ v b2, Ex b b2 → ED K tg ((wipe σ vs).set j (some v)) b2 (gameD G)) (hw : ∀ x, wipe ((wipe σ vs).set j (some x)) vs = wipe σ vs) (hj : ∀ v, ((wipe σ vs).set j (some v))[j]? = some (some v)) :
    ED K (tLc (iList K (tSl (rSlL K) tp tNoPart (tPart (tUn (rU fun i => V.int (-i)) (tC (V.int 1)))))) (gName j) tYes (tOp (rIxT K) (tOp (rIxL K) tg (tVar j)) (tC (V.int 0))) vs) σ b (numsD (gainsF G x r)) := by
  have hs := EN.ed (en_sl (th := tPart (tUn (rU fun i => V.int (-i)) (tC (V.int 1)))) (hi := some (-1)) hp eo_none (eo_some (ev_un ev_c ru_neg)))
  rw [cut_nats, pathF_len, Nat.add_sub_cancel] at hs
  have e : (gainsF G x r).map nD = ((pathF G x r).take r.length).map fun y => nD (plAt G y).gain := by
    unfold gainsF
    rw [List.map_map]
    rfl
  unfold numsD
  rw [e]
  refine EN.ed (en_mapD (D := fun x : Nat => PyData.int (x : Int)) hs (by rw [List.length_take]; omega) hw fun y hy v b2 e2 hv => ?_)
  have hyl := path_mem_lt h hx ho y (List.mem_of_mem_take hy)
  obtain rfl := hv.intI
  exact ed_ixT (ed_ixL (hg _ b2 e2) (ev_var (hj _)) (game_at (plAt_get hyl))) ev_c (by rfl)
theorem ed_wayV {K : PySem.W.Frag} {σ : L2.St} {b : Hp} {ts : TA} {E : XK} {C : Addr} {F : List Pl → Nat → List Int → PyData} {G : List Pl} {x : Nat} {r : List Int} (y : EDA K ts σ b [gameD G, .int (x : Int), intsD r]) (h1 : WfG G) (h3 : x < G.length) (h4 : r.length ≤ 60) (h5 : OkTo G x r r.length) :
    ED K (tCall (spOnWay K C F) [] E ts) σ b (F G x r) := fun h e _ q =>
  y h e _ fun vs b2 h2' g2 hv => ⟨b2, G, x, r, g2.gi, by rw [List.append_nil]; exact hv, h1, h3, h4, fun _ v b3 h3 g3 hv3 => q v b3 h3 (g2.trans g3) hv3, fun j n hj _ hb => absurd (h5 j n (List.getElem?_eq_some_iff.mp hj).1 hj) hb⟩
theorem ex_way {K : PySem.W.Frag} {σ : L2.St} {b : Hp} {ts : TA} {E : XK} {G : List Pl} {x : Nat} {ds : List Int} (y : EDA K ts σ b [gameD G, .int (x : Int), .list (ds.map PyData.int)]) (h1 : WfG G) (h3 : x < G.length) (h4 : ∀ d ∈ ds, 0 ≤ d ∧ d < 1000) (h5 : ds.length ≤ 1000) :
    EX K (tCall (spWay K) [] E ts) σ b (fun d => ∃ r, r.length = ds.length ∧ OkTo G x r r.length ∧ d = intsD r) := fun h e _ q =>
  y h e _ fun vs b2 h2' g2 hv => ⟨b2, G, x, ds, g2.gi, by rw [List.append_nil]; exact hv, h1, h3, h4, h5, fun v b3 h3 r g3 hl ho hv3 => q v b3 h3 (intsD r) (g2.trans g3) ⟨r, hl, ho, rfl⟩ hv3⟩
end Md
namespace Md
open PySem L2 Evl
/-- what is asked of a caught NoBranch -/
structure NBIs (K : PySem.W.Frag) (mg : Str → Option Value) (C cg : Addr) : Prop where
  mG : mg "GainError" = some (.ref cg)
  mV : mg "ValueError" = none
  ec : ExcC K C
  kG : PySem.W.kitOne K (.ref C) (.ref cg) = some true
  kV : PySem.W.kitOne K (.ref C) (.type "ValueError") = some true
section
variable {K : PySem.W.Frag} {σ : L2.St} {b h : Hp} {te ta : TE} {C cg a : Addr} {cls : Value} {d : Option Addr} {dd : Addr} {fs : List (Str × V)}
theorem ev_xf {f : Str} {v : V} (x : Ev te σ b (.ref a)) (hc : cls = .ref C) (hd : d = some dd) (hb : b dd = some (.xd fs)) (hl : fs.lookup f = some v) : Ev (tXf a cls d C f te) σ b v := fun h e _ q => x h e _ fun h2 e2 => ⟨rfl, hc, dd, fs, v, hd, (e.trans e2) _ _ hb, hl, q h2 e2⟩
theorem ev_isX {c : V} {cv : Value} (x : Ev te σ b (.ref a)) (hcv : ∀ u, RelV c u → u = cv) (hc : cls = .ref C) (hd : d = some dd) (hb : b dd = some (.xd fs)) {r : Bool} (hk : PySem.W.kitOne K (.ref C) cv = some r) : Ev (tCB (rIsX K C a cls d) (tCons te (tCons (tC c) tNil))) σ b (.bl r) :=
  fun h e _ q => x h e _ fun h2 e2 => ⟨c, cv, r, dd, fs, rfl, hcv, hc, hd, (e.trans e2) _ _ hb, hk, q h2 e2⟩
/-- ['refused', e.at, isinstance(e, GainError) and isinstance(e, ValueError)] -/
def tRefused (K : PySem.W.Frag) (C cg : Addr) (i : Nat) (a : Addr) (cls : Value) (d : Option Addr) : TS := tRet (tLst (tCons (tC (V.str "refused")) (tCons (tXf a cls d C "at" (tVar i)) (tCons (tAndV (tCB (rIsX K C a cls d) (tCons (tVar i) (tCons (tC (.ref cg)) tNil))) (tCB (rIsX K C a cls d) (tCons (tVar i) (tCons (tC (.ty "ValueError")) tNil)))) tNil))))
theorem s_refused {mg : Str → Option Value} {i j : Nat} {D : Ends} {h0 : Hp} (NI : NBIs K mg C cg) (eb : Ex b h0) (e : Ex h0 h) (hs : σ[i]? = some (some (.ref a))) (hc : cls = .ref C) (hd : d = some dd) (n0 : h0 dd = none) (hx : h dd = some (.xd [(("at" : Str), .int (j : Int))]))
    (k : ∀ v b' h', Gr b h0 b' h' → Dt K b' v (refusedD j) → D.rt v h') : tRefused K C cg i a cls d D σ h := by
  have g : Gr b h0 (upd b dd (.xd [(("at" : Str), .int (j : Int))])) h := (Gr.stay eb e).tell n0 (none_of eb n0) hx
  refine r_ret (K := K) (d := refusedD j) (EN.ed (en_lst (eda_cons (ed_str ev_c) (eda_cons (ed_int (ev_xf (v := .int (j : Int)) (ev_var hs) hc hd upd_same rfl)) (eda_cons (ed_bool (k := true) (ev_andV (b := true) (ev_isX (c := .ref cg) (cv := .ref cg) (r := true) (ev_var hs) (fun u hu => hu) hc hd upd_same NI.kG) fun _ => ev_isX (c := .ty "ValueError") (cv := .type "ValueError") (r := true) (ev_var hs) (fun u hu => hu) hc hd upd_same NI.kV)) eda_nil))) (by show 3 ≤ 100000; decide))) g.gi fun v b' h' g2 hv => k v b' h' (g.trans g2) hv
end
end Md
namespace Md
open PySem L2 Evl
section
variable {K : PySem.W.Frag} {σ : L2.St} {b : Hp} {ts : TA} {E : XK} {G : List Pl} {x m : Nat} {r : List Int}
theorem ed_told4 (y : EDA K ts σ b [.int (m : Int), gameD G, .int (x : Int), intsD r]) (h0 : m < 3) (h1 : WfG G) (h3 : x < G.length) (h4 : r.length ≤ 60) (h5 : OkTo G x r r.length) : ED K (tCall (spTold4 K) [] E ts) σ b (toldD m G x r) := fun h e _ q =>
  y h e _ fun vs b2 h2' g2 hv => ⟨b2, m, G, x, r, g2.gi, by rw [List.append_nil]; exact hv, h0, h1, h3, h4, fun _ v b3 h3 g3 hv3 => q v b3 h3 (g2.trans g3) hv3, fun j n hj _ hb => absurd (h5 j n (List.getElem?_eq_some_iff.mp hj).1 hj) hb⟩
theorem ed_told4R {j : Nat} {n : Int} (y : EDA K ts σ b [.int (m : Int), gameD G, .int (x : Int), intsD r]) (h0 : m < 3) (h1 : WfG G) (h3 : x < G.length) (h4 : r.length ≤ 60) (hj : r[j]? = some n) (ho : OkTo G x r j) (hb : ¬ okB G (lastF G x (r.take j)) n) :
    ED K (tCall (spTold4 K) [] E ts) σ b (refusedD j) := fun h e _ q =>
  y h e _ fun vs b2 h2' g2 hv => ⟨b2, m, G, x, r, g2.gi, by rw [List.append_nil]; exact hv, h0, h1, h3, h4, fun hok => absurd (hok j n (List.getElem?_eq_some_iff.mp hj).1 hj) hb, fun j' n' hj' ho' hb' v b3 h3 g3 hv3 => by
    have : j' = j := by
      rcases Nat.lt_trichotomy j' j with z | z | z
      · exact absurd (ho j' n' z hj') hb'
      · exact z
      · exact absurd (ho' j n z hj) hb
    rw [this] at hv3
    exact q v b3 h3 (g2.trans g3) hv3⟩
end
theorem dep_int (n : Nat) (i : Int) : Dep (n + 1) (.int i) := trivial
theorem dep_str (n : Nat) (i : Str) : Dep (n + 1) (.str i) := trivial
theorem dep_bool (n : Nat) (i : Bool) : Dep (n + 1) (.bool i) := trivial
theorem dep_nats (n : Nat) {l : List Nat} (h : l.length ≤ 30000) : Dep (n + 2) (natsD l) := ⟨by rw [List.length_map]; exact h, fun d hd => by
  obtain ⟨y, _, rfl⟩ := List.mem_map.mp hd
  exact dep_int _ _⟩
theorem dep_ints (n : Nat) {l : List Int} (h : l.length ≤ 30000) : Dep (n + 2) (intsD l) := ⟨by rw [List.length_map]; exact h, fun d hd => by
  obtain ⟨y, _, rfl⟩ := List.mem_map.mp hd
  exact dep_int _ _⟩
theorem dep_num (n : Nat) (p : Int × Int) : Dep (n + 2) (nD p) := ⟨by show 2 ≤ 30000; decide, fun d hd => by
  simp only [List.mem_cons, List.not_mem_nil, or_false] at hd
  rcases hd with rfl | rfl
  · exact dep_int _ _
  · exact dep_int _ _⟩
theorem dep_refused (n : Nat) (j : Nat) : Dep (n + 2) (refusedD j) := ⟨by show 3 ≤ 30000; decide, fun d hd => by
  simp only [List.mem_cons, List.not_mem_nil, or_false] at hd
  rcases hd with rfl | rfl | rfl
  · exact dep_str _ _
  · exact dep_int _ _
  · exact dep_bool _ _⟩
theorem dep_told (m : Nat) {G : List Pl} {x : Nat} {r : List Int} (h : r.length ≤ 60) : Dep 2 (toldD m G x r) := by
  unfold toldD
  split
  · exact dep_nats 0 (by rw [pathF_len]; omega)
  · split
    · exact dep_num 0 _
    · exact dep_num 0 _
end Md
namespace Md
open PySem L2 Evl
theorem kit_sub {K : PySem.W.Frag} {C G : Addr} (hd : PySem.W.hasDictIn K G = true) (ht : PySem.W.typeIn K (.ref G) = some (.type "type")) (hs : PySem.W.subIn K (.ref C) (.ref G) = some true) : PySem.W.kitOne K (.ref C) (.ref G) = some true := by
  unfold PySem.W.kitOne
  split
  · rfl
  · obtain ⟨cd, hc, _⟩ := PySem.W.any_some hd
    show (if ((PySem.W.clsIn K G).isSome && PySem.W.typeIn K (.ref G) == some (.type "type")) = true then PySem.W.subIn K (.ref C) (.ref G) else none) = some true
    rw [hc, ht, hs]
    rfl
theorem kit_subT {K : PySem.W.Frag} {C : Addr} {T : String} (hm : PySem.W.kitMeta T = true) (hs : PySem.W.subIn K (.ref C) (.type T) = some true) : PySem.W.kitOne K (.ref C) (.type T) = some true := by
  unfold PySem.W.kitOne
  split
  · rfl
  · show (if PySem.W.kitMeta T = true then PySem.W.subIn K (.ref C) (.type T) else none) = some true
    rw [if_pos hm, hs]
end Md


set_option Elab.async false
set_option linter.all false
set_option maxRecDepth 100000
set_option maxHeartbeats 2000000
namespace Md
open PySem L2 Evl
/-! ### numbers as rationals -/
def qN (p : Int × Int) : Rat := (p.1 : Rat) / (p.2 : Rat)
theorem cast_ne {z : Int} (h : z ≠ 0) : (z : Rat) ≠ 0 := fun e => h (Rat.intCast_inj.mp (by rw [e]; rfl))
theorem red_ne {p : Int × Int} (h : Red p) : (p.2 : Rat) ≠ 0 := cast_ne (by have := h.1; omega)
theorem div_eq_of {a b c d : Rat} (hb : b ≠ 0) (hd : d ≠ 0) (h : a * d = c * b) : a / b = c / d := by grind
theorem cross_of_div {a b c d : Rat} (hb : b ≠ 0) (hd : d ≠ 0) (h : a / b = c / d) : a * d = c * b := by grind
theorem q_inj {p r : Int × Int} (hp : Red p) (hr : Red r) (h : qN p = qN r) : p = r := by
  refine red_ext hp hr ?_
  have h1 := cross_of_div (red_ne hp) (red_ne hr) h
  rw [← Rat.intCast_mul, ← Rat.intCast_mul] at h1
  exact Rat.intCast_inj.mp h1
theorem q_num {n d : Int} (h : 0 < d) : qN (num n d) = (n : Rat) / (d : Rat) := by
  refine div_eq_of (red_ne (num_red h)) (cast_ne (by omega)) ?_
  rw [← Rat.intCast_mul, ← Rat.intCast_mul, num_cross h]
theorem q_plus {a b : Int × Int} (ha : Red a) (hb : Red b) : qN (plusN a b) = qN a + qN b := by
  unfold plusN
  rw [q_num (mul_pos' ha.1 hb.1), Rat.intCast_add, Rat.intCast_mul, Rat.intCast_mul, Rat.intCast_mul]
  have h1 := red_ne ha
  have h2 := red_ne hb
  unfold qN
  grind
theorem q_times {a b : Int × Int} (ha : Red a) (hb : Red b) : qN (timesN a b) = qN a * qN b := by
  unfold timesN
  rw [q_num (mul_pos' ha.1 hb.1), Rat.intCast_mul, Rat.intCast_mul]
  have h1 := red_ne ha
  have h2 := red_ne hb
  unfold qN
  grind
theorem q_zero : qN (0, 1) = 0 := by
  unfold qN
  rw [Rat.div_def]
  exact Rat.zero_mul _
theorem sumN_from : ∀ (l : List (Int × Int)) (a : Int × Int), Red a → (∀ p ∈ l, Red p) → Red (l.foldl plusN a) ∧ qN (l.foldl plusN a) = qN a + (l.map qN).sum
  | [], a, ha, _ => ⟨ha, by rw [List.map_nil, List.sum_nil, Rat.add_zero] <;> rfl⟩
  | p :: l, a, ha, h => by
    have hp := h p List.mem_cons_self
    have ih := sumN_from l (plusN a p) (plusN_red ha hp) fun q hq => h q (List.mem_cons_of_mem _ hq)
    refine ⟨ih.1, ?_⟩
    show qN (l.foldl plusN (plusN a p)) = _
    rw [ih.2, q_plus ha hp, List.map_cons, List.sum_cons, Rat.add_assoc]
theorem q_sum {l : List (Int × Int)} (h : ∀ p ∈ l, Red p) : qN (sumN l) = (l.map qN).sum := by
  have := (sumN_from l (0, 1) one_red h).2
  rw [q_zero, Rat.zero_add] at this
  exact this
theorem sumN_red {l : List (Int × Int)} (h : ∀ p ∈ l, Red p) : Red (sumN l) := (sumN_from l (0, 1) one_red h).1
/-- divided -/
def divN (a b : Int × Int) : Int × Int := num (a.1 * b.2) (a.2 * b.1)
theorem divN_red {a b : Int × Int} (ha : Red a) (hb : 0 < b.1) : Red (divN a b) := num_red (Int.mul_pos (by have := ha.1; omega) hb)
theorem q_div {a b : Int × Int} (ha : Red a) (hb : 0 < b.1) (hb2 : Red b) : qN (divN a b) = qN a / qN b := by
  unfold divN
  rw [q_num (Int.mul_pos (by have := ha.1; omega) hb), Rat.intCast_mul, Rat.intCast_mul]
  have h1 := red_ne ha
  have h2 := red_ne hb2
  have h3 : (b.1 : Rat) ≠ 0 := cast_ne (by omega)
  unfold qN
  grind
theorem sum_dup (l : List Rat) : (l ++ l).sum = 2 * l.sum := by
  rw [List.sum_append]
  grind
end Md


set_option Elab.async false
set_option linter.all false
set_option maxRecDepth 100000
set_option maxHeartbeats 4000000
namespace Md
open PySem PySem.Spec PyProof.Rows L2 Evl
/-! ### an own plain error, made without arguments -/
theorem pmk_own0 {X : Cx} {C : Addr} {ms : List Value} {B ni ii : String} {x : Str} {p pos : Pos} (F : ExcBaseFacts B ni ii ms) (ex : PySem.W.excIn X.K C ms ni = true) (hm : X.mg x = some (.ref C)) (hk : PySem.W.keepIn X.K (.ref C) = true)
    (hr : Raises X (.ref C)) (hg : Gl X x) (hd : (x == ("__debug__" : Str)) = false := by decide) : PMk X (.Call (.Name x p) [] [] pos) (fun _ H Q => Q (.ref C) none H) := fun pins s σ H Q I h => by
  refine wpAny_Call_Name_kw (ld_glob I hg hm (PySem.W.callWith_K0 I.kIn hk ?_) hd)
  obtain ⟨_, _, _, _, _, _, _, _, _, _, _, _, _, _, _, _, _, g1, g2, g3⟩ := exc_obj I.kIn ex
  exact wpAny_call_exc_subT F g3.2 g1 g2 g3.1 (fun _ _ made => mk_of I made hr h (I.hok.gone made.new)) (Nat.zero_le _)
/-! ### try, with a clause that names the error and one that does not -/
/-- what the second clause wishes -/
def wSnd (K : PySem.W.Frag) (c : Value) (ts : Addr → Value → Option Addr → TS) (D : Ends) : WX := fun cls d σ H => PySem.W.exmOne K cls c = some true ∧ ∀ a, H a = none → ts a cls d D σ H
theorem ps_try_two {X : Cx} {x1 x2 n : Str} {c1 c2 : Value} {i : Nat} {body r1 r2 : List Stmt} {s1 s2 : Stmt} {p1 p2 q1 q2 pos : Pos} {tb : WX → TS} {t1 t2 : Addr → Value → Option Addr → TS} (hs : X.stack = X.env :: X.outer) (hf : X.env.frame = some X.env.locals)
    (hN : X.N.Nodup) (hi : X.N[i]? = some n) (hl : X.env.kindOf n = some .local) (n1 : Names X x1 c1) (n2 : Names X x2 c2)
    (hb : ∀ (W : WX) (pn : List (Addr × Obj)) (xe : Value → Shared → Prop), Takes (X.tr pn xe) W → PassesOwn (model X.prog X.w) X.A X.env xe → PSs (X.tr pn xe) body (tb W))
    (k1 : ∀ (a : Addr) (oe : Obj) (cls : Value) (d : Option Addr) (pn : List (Addr × Obj)), Zc cls d oe → (∃ vs, oe.data = .fields vs) → PSs (X.suite a ((a, oe) :: pn)) (s1 :: r1) (t1 a cls d))
    (k2 : ∀ (a : Addr) (oe : Obj) (cls : Value) (d : Option Addr) (pn : List (Addr × Obj)), Zc cls d oe → (∃ vs, oe.data = .fields vs) → PSs (X.suite a ((a, oe) :: pn)) (s2 :: r2) (t2 a cls d)) :
    PS X (.Try body [.ExceptHandler (some (.Name x1 p1)) (some n) (s1 :: r1) q1, .ExceptHandler (some (.Name x2 p2)) none (s2 :: r2) q2] [] [] pos) (fun D σ H => tb (wAs X.K c1 i t1 (wSnd X.K c2 t2 D) D) D σ H) := by
  refine ⟨fun pins s σ H D I h => wpAny_Try_except ?_⟩
  have ok := I.ok
  have fr : X.A.frames = some (X.env :: X.outer) := by rw [ok.frames, hs]
  let land : Value → Shared → Prop := fun e z1 => wpAny (model X.prog X.w) X.A (noteFrame e X.env) (fun _ z2 => wpAny (model X.prog X.w) X.A (setFlight e none) (fun _ z3 =>
    wpAny (model X.prog X.w) X.A (handleBy e X.env [.ExceptHandler (some (.Name x1 p1)) (some n) (s1 :: r1) q1, .ExceptHandler (some (.Name x2 p2)) none (s2 :: r2) q2]) (SP X pins D) X.xe z3) X.xe z2) X.xe z1
  refine wpAny_mono ((hb (wAs X.K c1 i t1 (wSnd X.K c2 t2 D) D) (X.pn ++ pins) land (fun u s' got => ?_) PassesOwn.looking).run [] s σ H D (I.toTry _) h) (fun f z sp => ?_) (fun _ _ he => he)
  · obtain ⟨a, B, sI, pn', σ', H', cls, d, rfl, JT, nb, up, sky, na, os, ag, bo, hb1, yes, no⟩ := got
    have J : Inv X pins σ' H' sI := JT.ofTry ok
    have sk : Sky B (X.env :: X.outer) a (Zc cls d) X.env.locals s'.heap := by rw [← hs]; exact sky
    show wpAny (model X.prog X.w) X.A (noteFrame (.ref a) X.env) _ _ _
    refine Sky.land Zc.steady fr hf sk fun hA fl upA => ?_
    have JA : Inv X pins σ' H' { s' with heap := hA } := J.landed nb fl.1 (up.trans upA) os ag
    obtain ⟨oA, vA, gA, zA, dA⟩ := fl.there
    have off : ∀ {hh : Heap} {o : Obj} {vs : Array Value}, hh.FunFrames B (X.env :: X.outer) → hh.get? a = some o → o.data = .fields vs → a ∉ frs (X.env :: X.outer) := fun ff e dd m => by
      obtain ⟨_, o2, e2, bad⟩ := ff.mem m
      rw [e] at e2
      cases e2
      exact bad _ dd
    have nf := off fl.2.2.1 gA dA
    have nL : a ≠ X.env.locals := fun z => nf (List.mem_filterMap.mpr ⟨X.env, List.mem_cons_self, by rw [hf, z]⟩)
    have nF : a ∉ X.fs := fun m => by
      obtain ⟨e, he, q⟩ := List.mem_filterMap.mp m
      exact nf (List.mem_filterMap.mpr ⟨e, List.mem_cons_of_mem _ he, q⟩)
    have SA := JA.suite gA dA na nL nF
    have cl : PySem.W.Looks (model X.prog X.w) hA (typeOf (.ref a)) cls := fun _ _ _ _ k q => wpAny_typeOf_ref (k _ _ gA) (by rw [zA.1]; exact q)
    have ask : ∀ {x : Str} {c : Value} {np : Pos} {Q E : Value → Shared → Prop}, Names X x c → Q c { s' with heap := hA } → wpAny (model X.prog X.w) (X.A.mark (some (.ref a))) (eval (.Name x np) X.env) Q E { s' with heap := hA } := fun nm q => by
      obtain ⟨g, dbg, m | ⟨m, v, nn⟩⟩ := nm
      · exact ld_glob (X := X.suite a ((a, oA) :: (X.pn ++ pins))) SA g m q dbg
      · exact ld_blt (X := X.suite a ((a, oA) :: (X.pn ++ pins))) SA g m v q nn dbg
    refine wpAny_handleBy_cons (codeAny_handlers_test (ask n1 ((PySem.W.exm_one JA.kIn cl hb1).here ?_))) (by intro q; cases q)
    cases bo with
    | true =>
      refine codeAny_handlers_suite_as (HandSPX.lands_againZ fl fun hB flB upB => ?_)
      have JB : Inv X pins σ' H' { s' with heap := hB } := J.landed nb flB.1 ((up.trans upA).trans upB) os ag
      obtain ⟨oB, vB, gB, zB, dB⟩ := flB.there
      have SB := JB.suite gB dB na nL nF
      refine store_ok (X := X.suite a ((a, oB) :: (X.pn ++ pins))) (v := .ref a) SB hN hi (.inl hl) rfl (fun sC SC => ?_) (.inr hl)
      refine wpAny_mono ((k1 a oB cls d (X.pn ++ pins) zB ⟨_, dB⟩).run [] sC _ H' _ SC (yes rfl a na)) (fun f sD sp => ?_) (fun _ _ z => z.elim)
      have fin : ∀ {σD : L2.St} {HD : Hp} {Q : Shared → Prop}, Inv (X.suite a ((a, oB) :: (X.pn ++ pins))) [] σD HD sD → (∀ z, Inv X pins (σD.set i none) HD z → Q z) →
          wpAny (model X.prog X.w) X.A (do bindName X.env n .none; unbindBehindTheSuite X.env n q1) (fun _ z => Q z) X.xe sD := fun SD hq => gone_ok (SD.unsuite ok) hN hi hl hq
      cases f with
      | next => obtain ⟨σD, HD, SD, q⟩ := sp; exact fin SD fun z JZ => ⟨_, _, JZ, q⟩
      | brk => obtain ⟨σD, HD, SD, q⟩ := sp; exact fin SD fun z JZ => ⟨_, _, JZ, q⟩
      | cont => obtain ⟨σD, HD, SD, q⟩ := sp; exact fin SD fun z JZ => ⟨_, _, JZ, q⟩
      | ret u => obtain ⟨v, σD, HD, SD, r, q⟩ := sp; exact fin SD fun z JZ => ⟨_, _, _, JZ, r, q⟩
    | false =>
      obtain ⟨hb2, yes2⟩ := no rfl
      refine wpAny_handleBy_cons (codeAny_handlers_test (ask n2 ((PySem.W.exm_one JA.kIn cl hb2).here ?_))) (by intro q; cases q)
      refine codeAny_handlers_suite (HandSPX.lands_againZ fl fun hB flB upB => ?_)
      have JB : Inv X pins σ' H' { s' with heap := hB } := J.landed nb flB.1 ((up.trans upA).trans upB) os ag
      obtain ⟨oB, vB, gB, zB, dB⟩ := flB.there
      refine wpAny_mono ((k2 a oB cls d (X.pn ++ pins) zB ⟨_, dB⟩).run [] _ _ H' _ (JB.suite gB dB na nL nF) (yes2 a na)) (fun f sD sp => ?_) (fun _ _ z => z.elim)
      cases f with
      | next => obtain ⟨σD, HD, SD, q⟩ := sp; exact ⟨_, _, SD.unsuite ok, q⟩
      | brk => obtain ⟨σD, HD, SD, q⟩ := sp; exact ⟨_, _, SD.unsuite ok, q⟩
      | cont => obtain ⟨σD, HD, SD, q⟩ := sp; exact ⟨_, _, SD.unsuite ok, q⟩
      | ret u => obtain ⟨v, σD, HD, SD, r, q⟩ := sp; exact ⟨_, _, _, SD.unsuite ok, r, q⟩
  · cases f with
    | next => obtain ⟨σ', H', J', q⟩ := sp; exact wpAny_execs_nil ⟨σ', H', J'.ofTry ok, q⟩
    | brk => obtain ⟨σ', H', J', q⟩ := sp; exact ⟨σ', H', J'.ofTry ok, q⟩
    | cont => obtain ⟨σ', H', J', q⟩ := sp; exact ⟨σ', H', J'.ofTry ok, q⟩
    | ret u => obtain ⟨v, σ', H', J', r, q⟩ := sp; exact ⟨v, σ', H', J'.ofTry ok, r, q⟩
end Md


set_option Elab.async false
set_option linter.all false
set_option maxRecDepth 100000
set_option maxHeartbeats 2000000
namespace Md
open PySem L2 Evl
/-! ### ways, put together -/
def okA (G : List Pl) : Nat → List Int → Prop
  | _, [] => True
  | x, n :: r => okB G x n ∧ okA G (stepT G x n) r
def gainsR (G : List Pl) : Nat → List Int → List (Int × Int)
  | _, [] => []
  | x, n :: r => (plAt G x).gain :: gainsR G (stepT G x n) r
theorem lastF_append (G : List Pl) : ∀ (r s : List Int) (x : Nat), lastF G x (r ++ s) = lastF G (lastF G x r) s
  | [], s, x => rfl
  | n :: r, s, x => lastF_append G r s (stepT G x n)
theorem okA_of {G : List Pl} : ∀ {r : List Int} {x : Nat}, OkTo G x r r.length → okA G x r
  | [], _, _ => trivial
  | n :: r, x, h => ⟨h 0 n (Nat.zero_lt_succ _) rfl, okA_of fun j m hj hm => h (j + 1) m (Nat.succ_lt_succ hj) (by simpa using hm)⟩
theorem okTo_of {G : List Pl} : ∀ {r : List Int} {x : Nat}, okA G x r → OkTo G x r r.length
  | [], _, _ => fun j n hj => absurd hj (Nat.not_lt_zero _)
  | n :: r, x, h => fun j m hj hm => by
    cases j with
    | zero =>
      simp only [List.getElem?_cons_zero, Option.some.injEq] at hm
      subst hm
      exact h.1
    | succ j =>
      simp only [List.getElem?_cons_succ] at hm
      exact okTo_of h.2 j m (Nat.lt_of_succ_lt_succ hj) hm
theorem okA_append {G : List Pl} : ∀ {r s : List Int} {x : Nat}, okA G x (r ++ s) ↔ okA G x r ∧ okA G (lastF G x r) s
  | [], s, x => ⟨fun h => ⟨trivial, h⟩, fun h => h.2⟩
  | n :: r, s, x => ⟨fun h => ⟨⟨h.1, (okA_append.mp h.2).1⟩, (okA_append.mp h.2).2⟩, fun h => ⟨h.1.1, okA_append.mpr ⟨h.1.2, h.2⟩⟩⟩
theorem gainsF_eq (G : List Pl) : ∀ (r : List Int) (x : Nat), gainsF G x r = gainsR G x r
  | [], x => rfl
  | n :: r, x => by
    show List.map (fun y => (plAt G y).gain) (List.take (r.length + 1) (x :: pathF G (stepT G x n) r)) = _
    rw [List.take_succ_cons, List.map_cons]
    exact congrArg _ (gainsF_eq G r (stepT G x n))
theorem gainsR_append (G : List Pl) : ∀ (r s : List Int) (x : Nat), gainsR G x (r ++ s) = gainsR G x r ++ gainsR G (lastF G x r) s
  | [], s, x => rfl
  | n :: r, s, x => congrArg ((plAt G x).gain :: ·) (gainsR_append G r s (stepT G x n))
theorem gainsR_red {G : List Pl} (h : WfG G) : ∀ {r : List Int} {x : Nat}, x < G.length → okA G x r → ∀ p ∈ gainsR G x r, Red p
  | [], _, _, _ => fun p hp => by cases hp
  | n :: r, x, hx, ho => fun p hp => by
    rcases List.mem_cons.mp hp with rfl | hp
    · exact red_small (wf_gain (plAt_wf h hx))
    · exact gainsR_red h (stepT_lt (wfT_of h) hx ho.1).1 ho.2 p hp
theorem lastA_lt {G : List Pl} (h : WfT G) {r : List Int} {x : Nat} (hx : x < G.length) (ho : okA G x r) : lastF G x r < G.length := lastF_lt h r x hx (okTo_of ho)
/-! ### the gain per step -/
def gainAns (G : List Pl) (y : Nat) (s : List Int) : Int × Int := divN (sumN (gainsF G y s)) ((s.length : Int), 1)
def qSum (G : List Pl) (y : Nat) (s : List Int) : Rat := ((gainsR G y s).map qN).sum
theorem len_pos {s : List Int} (h : s ≠ []) : 0 < (s.length : Int) := by
  cases s with
  | nil => exact absurd rfl h
  | cons a l => rw [List.length_cons]; omega
theorem len_red (n : Nat) : Red ((n : Int), 1) := ⟨by show (1 : Int) ≤ 1; decide, Nat.gcd_one_right _⟩
theorem gainAns_red {G : List Pl} (h : WfG G) {y : Nat} {s : List Int} (hy : y < G.length) (ho : okA G y s) (hs : s ≠ []) : Red (gainAns G y s) := by
  refine divN_red (sumN_red ?_) (len_pos hs)
  rw [gainsF_eq]
  exact gainsR_red h hy ho
theorem q_gainAns {G : List Pl} (h : WfG G) {y : Nat} {s : List Int} (hy : y < G.length) (ho : okA G y s) (hs : s ≠ []) : qN (gainAns G y s) = qSum G y s / (s.length : Rat) := by
  have hr := gainsR_red h hy ho
  unfold gainAns
  rw [gainsF_eq, q_div (sumN_red hr) (len_pos hs) (len_red _), q_sum hr]
  have : qN ((s.length : Int), 1) = (s.length : Rat) := by
    unfold qN
    show ((s.length : Int) : Rat) / ((1 : Int) : Rat) = _
    have e1 : ((1 : Int) : Rat) = 1 := rfl
    have e2 : ((s.length : Int) : Rat) = (s.length : Rat) := rfl
    rw [e1, e2]
    grind
  rw [this]
  rfl
theorem gain_same {G : List Pl} (h : WfG G) {y z : Nat} {s t : List Int} (hy : y < G.length) (ho : okA G y s) (hs : s ≠ []) (hz : z < G.length) (ho2 : okA G z t) (ht : t ≠ []) (e : qSum G y s * (t.length : Rat) = qSum G z t * (s.length : Rat)) : gainAns G y s = gainAns G z t := by
  refine q_inj (gainAns_red h hy ho hs) (gainAns_red h hz ho2 ht) ?_
  rw [q_gainAns h hy ho hs, q_gainAns h hz ho2 ht]
  have n1 : (s.length : Rat) ≠ 0 := by
    have := cast_ne (z := (s.length : Int)) (by have := len_pos hs; omega)
    exact this
  have n2 : (t.length : Rat) ≠ 0 := by
    have := cast_ne (z := (t.length : Int)) (by have := len_pos ht; omega)
    exact this
  exact div_eq_of n1 n2 e
theorem qSum_append (G : List Pl) (y : Nat) (s t : List Int) : qSum G y (s ++ t) = qSum G y s + qSum G (lastF G y s) t := by
  unfold qSum
  rw [gainsR_append, List.map_append, List.sum_append]
/-- a circle gone round twice -/
theorem gain_twice {G : List Pl} (h : WfG G) {y : Nat} {s : List Int} (hy : y < G.length) (ho : okA G y s) (hs : s ≠ []) (hc : lastF G y s = y) : okA G y (s ++ s) ∧ lastF G y (s ++ s) = y ∧ gainAns G y (s ++ s) = gainAns G y s := by
  have o2 : okA G y (s ++ s) := okA_append.mpr ⟨ho, by rw [hc]; exact ho⟩
  refine ⟨o2, by rw [lastF_append, hc, hc], gain_same h hy o2 (by intro z; exact hs (List.append_eq_nil_iff.mp z).1) hy ho hs ?_⟩
  rw [qSum_append, hc, List.length_append]
  push_cast
  grind
/-- begun at another of its places -/
theorem gain_turned {G : List Pl} (h : WfG G) {y : Nat} {s t : List Int} (hy : y < G.length) (ho : okA G y (s ++ t)) (hs : s ++ t ≠ []) (hc : lastF G y (s ++ t) = y) : okA G (lastF G y s) (t ++ s) ∧ lastF G (lastF G y s) (t ++ s) = lastF G y s ∧ gainAns G (lastF G y s) (t ++ s) = gainAns G y (s ++ t) := by
  obtain ⟨o1, o2⟩ := okA_append.mp ho
  have hc' : lastF G (lastF G y s) t = y := by rw [← lastF_append]; exact hc
  have o3 : okA G (lastF G y s) (t ++ s) := okA_append.mpr ⟨o2, by rw [hc']; exact o1⟩
  refine ⟨o3, by rw [lastF_append, hc'], gain_same h (lastA_lt (wfT_of h) hy o1) o3 ?_ hy ho hs ?_⟩
  · intro z
    obtain ⟨z1, z2⟩ := List.append_eq_nil_iff.mp z
    exact hs (by rw [z1, z2] <;> rfl)
  · rw [qSum_append, qSum_append, hc', List.length_append, List.length_append]
    push_cast
    grind
end Md
namespace Md
open PySem L2 Evl
/-! ### truth of a list -/
def tTru (K : PySem.W.Frag) (ta : TE) : TT := fun σ H Q => ta σ H fun x H' => ∃ k, TruV K x H' k ∧ Q k H'
theorem pt_tru {X : Cx} {K : PySem.W.Frag} {a : Expr} {ta : TE} (h : X.K = K) (ha : PE X a ta) (he : ∀ whole, isTrue a X.env whole = (do let v ← whole; standAt a.pos; holding [v] (truthy v)) := by intro _; rfl) : PT X a (tTru K ta) := h ▸ pt_truth ha he
theorem et_tru {K : PySem.W.Frag} {σ : L2.St} {b : Hp} {te : TE} {ds : List PyData} (x : ED K te σ b (.list ds)) : EvT (tTru K te) σ b (!ds.isEmpty) := fun h e _ q => x h e _ fun v b2 h2 g2 hv => by
  obtain ⟨a, xs, rfl, h1, k2⟩ := hv.listI
  refine ⟨_, .inl ⟨xs, sq_of (g2.gi _ _ h1), rfl⟩, ?_⟩
  have : xs.isEmpty = ds.isEmpty := by
    cases k2 with
    | nil => rfl
    | cons _ _ => rfl
  rw [this]
  exact q h2 g2.gh
/-! ### NoCircle -/
structure NCs (K : PySem.W.Frag) (mg : Str → Option Value) (N C : Addr) : Prop where
  mN : mg "NoCircle" = some (.ref N)
  ex : PySem.W.excIn K N [.type "ValueError", .type "Exception", .type "BaseException", .type "object"] "ValueError.__new__" = true
  kp : PySem.W.keepIn K (.ref N) = true
  sb : PySem.W.subIn K (.ref N) (.type "BaseException") = some true
  ty : PySem.W.typeIn K (.ref N) = some (.type "type")
def NCAt (h : Hp) (N : Addr) (E : XK) : Prop := ∀ h', Ex h h' → E (.ref N) none h'
theorem NCAt.up {H H' : Hp} {N : Addr} {E : XK} (x : NCAt H N E) (e : Ex H H') : NCAt H' N E := fun h' e' => x h' (e.trans e')
/-! ### promises -/
def spDiv (K : PySem.W.Frag) : Sp := fun vs h Q _ => ∃ (b : Hp) (p q : Int × Int), Ex b h ∧ DtA K b vs [nD p, nD q] ∧ Red p ∧ Red q ∧ 0 < q.1 ∧ Big 900 p ∧ Big 900 q ∧ ∀ v b' h', Gr b h b' h' → Dt K b' v (nD (divN p q)) → Q v h'
inductive ResG (G : List Pl) (x : Nat) (r s : List Int) : PyData → Prop
  | good : okA G x (r ++ s) → s ≠ [] → lastF G x (r ++ s) = lastF G x r → ResG G x r s (nD (gainAns G (lastF G x r) s))
def NoC (G : List Pl) (x : Nat) (r s : List Int) : Prop := okA G x (r ++ s) ∧ (s = [] ∨ lastF G x (r ++ s) ≠ lastF G x r)
def BadAt (G : List Pl) (x : Nat) (r : List Int) (j : Nat) : Prop := ∃ n, r[j]? = some n ∧ OkTo G x r j ∧ ¬ okB G (lastF G x (r.take j)) n
theorem bad_ok {G : List Pl} {x : Nat} {r : List Int} {j : Nat} (h : BadAt G x r j) (ho : okA G x r) : False := by
  obtain ⟨n, hj, _, hb⟩ := h
  exact hb (okTo_of ho j n (List.getElem?_eq_some_iff.mp hj).1 hj)
theorem bad_det {G : List Pl} {x : Nat} {r : List Int} {i j : Nat} (h : BadAt G x r i) (h2 : BadAt G x r j) : i = j := by
  obtain ⟨n, hj, ho, hb⟩ := h
  obtain ⟨m, hj2, ho2, hb2⟩ := h2
  rcases Nat.lt_trichotomy i j with z | z | z
  · exact absurd (ho2 i n z hj) hb
  · exact z
  · exact absurd (ho j m z hj2) hb2
def spGain (K : PySem.W.Frag) (C N : Addr) : Sp := fun vs h Q E => ∃ (b : Hp) (G : List Pl) (x : Nat) (r s : List Int), Ex b h ∧ DtA K b vs [gameD G, .int (x : Int), intsD r, intsD s] ∧ WfG G ∧ x < G.length ∧ r.length + s.length ≤ 60 ∧
  (okA G x (r ++ s) → s ≠ [] → lastF G x (r ++ s) = lastF G x r → ∀ v b' h', Gr b h b' h' → Dt K b' v (nD (gainAns G (lastF G x r) s)) → Q v h') ∧ (NoC G x r s → NCAt h N E) ∧ (∀ j, BadAt G x (r ++ s) j → NBAt h C (j : Int) E)
inductive Res5 (G : List Pl) (x : Nat) (r s : List Int) : PyData → Prop
  | good : okA G x (r ++ s) → s ≠ [] → lastF G x (r ++ s) = lastF G x r → Res5 G x r s (nD (gainAns G (lastF G x r) s))
  | circle : NoC G x r s → Res5 G x r s (.tuple [.str "raised", .str "circle"])
  | branch (j : Nat) : BadAt G x (r ++ s) j → Res5 G x r s (.tuple [.str "raised", .str "branch", .int (j : Int)])
theorem Res5.det {G : List Pl} {x : Nat} {r s : List Int} {d e : PyData} (h : Res5 G x r s d) (h2 : Res5 G x r s e) : d = e := by
  cases h with
  | good a1 a2 a3 =>
    cases h2 with
    | good _ _ _ => rfl
    | circle c => rcases c.2 with z | z
                  · exact absurd z a2
                  · exact absurd a3 z
    | branch j c => exact (bad_ok c a1).elim
  | circle a =>
    cases h2 with
    | good b1 b2 b3 => rcases a.2 with z | z
                       · exact absurd z b2
                       · exact absurd b3 z
    | circle _ => rfl
    | branch j c => exact (bad_ok c a.1).elim
  | branch i a =>
    cases h2 with
    | good b1 _ _ => exact (bad_ok a b1).elim
    | circle c => exact (bad_ok a c.1).elim
    | branch j c => rw [bad_det a c]
def spTold5 (K : PySem.W.Frag) : Sp := fun vs h Q _ => ∃ (b : Hp) (G : List Pl) (x : Nat) (r s : List Int), Ex b h ∧ DtA K b vs [gameD G, .int (x : Int), intsD r, intsD s] ∧ WfG G ∧ x < G.length ∧ r.length + s.length ≤ 60 ∧ ∀ d, Res5 G x r s d → ∀ v b' h', Gr b h b' h' → Dt K b' v d → Q v h'
section
variable {K : PySem.W.Frag} {σ : L2.St} {b : Hp} {ts : TA} {E : XK} {G : List Pl} {x : Nat} {r s : List Int} {d : PyData} {p q : Int × Int}
theorem ed_div (y : EDA K ts σ b [nD p, nD q]) (h1 : Red p) (h2 : Red q) (h0 : 0 < q.1) (h3 : Big 900 p) (h4 : Big 900 q) : ED K (tCall (spDiv K) [] E ts) σ b (nD (divN p q)) := fun h e _ qq =>
  y h e _ fun vs b2 h2' g2 hv => ⟨b2, p, q, g2.gi, by rw [List.append_nil]; exact hv, h1, h2, h0, h3, h4, fun v b3 h3 g3 hv3 => qq v b3 h3 (g2.trans g3) hv3⟩
theorem ed_told5 (y : EDA K ts σ b [gameD G, .int (x : Int), intsD r, intsD s]) (h1 : WfG G) (h3 : x < G.length) (h4 : r.length + s.length ≤ 60) (h5 : Res5 G x r s d) : ED K (tCall (spTold5 K) [] E ts) σ b d := fun h e _ q =>
  y h e _ fun vs b2 h2' g2 hv => ⟨b2, G, x, r, s, g2.gi, by rw [List.append_nil]; exact hv, h1, h3, h4, fun d2 hd v b3 h3 g3 hv3 => q v b3 h3 (g2.trans g3) (hd.det h5 ▸ hv3)⟩
end
theorem path_at {G : List Pl} {x : Nat} (r s : List Int) : (pathF G x (r ++ s))[r.length]? = some (lastF G x r) := by
  rw [pathF_get G (r ++ s) x r.length (by rw [List.length_append]; omega), List.take_append_of_le_length (Nat.le_refl _), List.take_length]
theorem path_last {G : List Pl} {x : Nat} (r : List Int) : L2.atI ((pathF G x r).map fun x : Nat => PyData.int (x : Int)) (-1) = some (.int ((lastF G x r : Nat) : Int)) := by
  obtain ⟨l, hl⟩ := pathF_last G r x
  rw [hl, List.map_append]
  exact atI_last _ _
end Md
namespace Md
open PySem L2 Evl
theorem r_retS {K : PySem.W.Frag} {σ : L2.St} {b h : Hp} {ts : TA} {ds : List PyData} {sp : Sp} {E : L2.St → XK} {D : Ends} (y : EDA K ts σ b ds) (e : Ex b h) (k : ∀ vs b' h', Gr b h b' h' → DtA K b' vs ds → sp vs h' (fun v h2 => D.rt v h2) (E σ)) : tRet (tCallS sp E ts) D σ h := y h e _ fun vs b' h' g hv => k vs b' h' g hv
end Md


set_option Elab.async false
set_option linter.all false
set_option maxRecDepth 100000
set_option maxHeartbeats 2000000
namespace Md
open PySem L2 Evl
theorem pigeon : ∀ (n N : Nat) (p : Nat → Nat), (∀ i, i < N → p i < n) → (∀ i j, i < j → j < N → p i ≠ p j) → N ≤ n
  | 0, N, p, h, _ => by
    rcases Nat.eq_zero_or_pos N with z | z
    · omega
    · exact absurd (h 0 z) (Nat.not_lt_zero _)
  | n + 1, N, p, h, d => by
    by_cases hx : ∃ i, i < N ∧ p i = n
    · obtain ⟨i0, h0, e0⟩ := hx
      have ih := pigeon n (N - 1) (fun j => if j < i0 then p j else p (j + 1)) (fun j hj => ?_) (fun i j hij hj => ?_)
      · omega
      · show (if j < i0 then p j else p (j + 1)) < n
        split
        · rename_i z
          have h1 := h j (by omega)
          have h2 := d j i0 z h0
          omega
        · rename_i z
          have h1 := h (j + 1) (by omega)
          have h2 := d i0 (j + 1) (by omega) (by omega)
          omega
      · show (if i < i0 then p i else p (i + 1)) ≠ (if j < i0 then p j else p (j + 1))
        split
        · split
          · exact d i j hij (by omega)
          · exact d i (j + 1) (by omega) (by omega)
        · rw [if_neg (by omega)]
          exact d (i + 1) (j + 1) (by omega) (by omega)
    · have ih := pigeon n N p (fun i hi => ?_) d
      · omega
      · have h1 := h i hi
        have h2 : p i ≠ n := fun z => hx ⟨i, hi, z⟩
        omega
theorem least_of {P : Nat → Prop} : ∀ n, P n → ∃ m, m ≤ n ∧ P m ∧ ∀ k, k < m → ¬ P k := by
  intro n
  induction n using Nat.strongRecOn with
  | ind n ih =>
    intro h
    by_cases hx : ∃ k, k < n ∧ P k
    · obtain ⟨k, hk, pk⟩ := hx
      obtain ⟨m, hm, pm, hl⟩ := ih k hk pk
      exact ⟨m, by omega, pm, hl⟩
    · exact ⟨n, Nat.le_refl _, h, fun k hk pk => hx ⟨k, hk, pk⟩⟩
/-- the place behind k steps -/
def atK (G : List Pl) (x : Nat) (r : List Int) (k : Nat) : Nat := lastF G x (r.take k)
theorem atK_lt {G : List Pl} (h : WfT G) {x : Nat} {r : List Int} (hx : x < G.length) (ho : okA G x r) (k : Nat) : atK G x r k < G.length := by
  have e := List.take_append_drop k r
  have ho' : okA G x (r.take k ++ r.drop k) := by rw [e]; exact ho
  exact lastA_lt h hx (okA_append.mp ho').1
theorem path_loop {G : List Pl} (h : WfT G) {x : Nat} {r : List Int} (hx : x < G.length) (ho : okA G x r) (hl : G.length ≤ r.length) :
    ∃ m f, f < m ∧ m ≤ r.length ∧ atK G x r f = atK G x r m ∧ ∀ i k, i < k → k < m → atK G x r i ≠ atK G x r k := by
  have ex : ∃ n, n ≤ r.length ∧ ∃ i, i < n ∧ atK G x r i = atK G x r n := by
    apply Classical.byContradiction
    intro no
    have := pigeon G.length (r.length + 1) (atK G x r) (fun i _ => atK_lt h hx ho i) (fun i j hij hj e => no ⟨j, by omega, i, hij, e⟩)
    omega
  obtain ⟨n, hn, pn⟩ := ex
  obtain ⟨m, hm, ⟨f, hf, e⟩, hmin⟩ := least_of (P := fun n => ∃ i, i < n ∧ atK G x r i = atK G x r n) n pn
  exact ⟨m, f, hf, by omega, e, fun i k hik hk e2 => hmin k hk ⟨i, hik, e2⟩⟩
theorem path_getK {G : List Pl} {x : Nat} {r : List Int} {k : Nat} (h : k ≤ r.length) : (pathF G x r)[k]? = some (atK G x r k) := pathF_get G r x k h
theorem mem_takeK {G : List Pl} {x : Nat} {r : List Int} {k v : Nat} (h : k ≤ r.length) : v ∈ (pathF G x r).take k ↔ ∃ i, i < k ∧ atK G x r i = v := by
  constructor
  · intro hv
    obtain ⟨i, hi, e⟩ := List.mem_iff_getElem.mp hv
    rw [List.length_take] at hi
    refine ⟨i, by omega, ?_⟩
    have e2 : ((pathF G x r).take k)[i]? = some v := by rw [List.getElem?_eq_getElem (by rw [List.length_take]; exact hi), e]
    rw [List.getElem?_take_of_lt (by omega), path_getK (by omega)] at e2
    exact Option.some.inj e2
  · rintro ⟨i, hi, rfl⟩
    have e2 : ((pathF G x r).take k)[i]? = some (atK G x r i) := by rw [List.getElem?_take_of_lt hi, path_getK (by omega)]
    exact List.mem_of_getElem? e2
theorem take_split {α : Type} (r : List α) {f m : Nat} (h : f ≤ m) : r.take m = r.take f ++ (r.drop f).take (m - f) := by
  have e : m = f + (m - f) := by omega
  conv => lhs; rw [e]
  exact List.take_add ..
theorem okA_take {G : List Pl} {x : Nat} {r : List Int} (ho : okA G x r) (k : Nat) : okA G x (r.take k) := by
  have ho' : okA G x (r.take k ++ r.drop k) := by rw [List.take_append_drop]; exact ho
  exact (okA_append.mp ho').1
/-- the places of a part of a way -/
theorem path_part {G : List Pl} {x : Nat} {r : List Int} {f m : Nat} (hf : f ≤ m) (hm : m ≤ r.length) : ((pathF G x r).drop f).take (m - f) = (pathF G (atK G x r f) ((r.drop f).take (m - f))).take ((r.drop f).take (m - f)).length := by
  have hlen : ((r.drop f).take (m - f)).length = m - f := by rw [List.length_take, List.length_drop]; omega
  refine List.ext_getElem? fun j => ?_
  by_cases hj : j < m - f
  · rw [List.getElem?_take_of_lt hj, List.getElem?_drop, path_getK (by omega), List.getElem?_take_of_lt (by omega), path_getK (by omega)]
    unfold atK
    rw [← lastF_append, List.take_take, Nat.min_eq_left (by omega)]
    have := take_split r (show f ≤ f + j by omega)
    rw [this, Nat.add_sub_cancel_left]
  · rw [List.getElem?_eq_none (by rw [List.length_take, List.length_drop, pathF_len]; omega), List.getElem?_eq_none (by rw [List.length_take, hlen]; omega)]
/-! ### reading lists of places -/
section
variable {K : PySem.W.Frag} {σ : L2.St} {b : Hp} {te ta tb : TE} {l : List Nat} {x : Nat}
theorem eqV_nat (i j : Nat) : eqV (V.int (i : Int)) (V.int (j : Int)) = decide (i = j) := by
  show ((i : Int) == (j : Int)) = decide (i = j)
  rw [Bool.eq_iff_iff, beq_iff_eq, decide_eq_true_iff]
  omega
theorem DtA.natsI {vs : List V} (h : DtA K b vs (l.map fun x : Nat => PyData.int (x : Int))) : vs = l.map fun x : Nat => V.int (x : Int) := by
  have e : (l.map fun x : Nat => PyData.int (x : Int)) = (l.map fun x : Nat => (x : Int)).map PyData.int := by
    rw [List.map_map]
    rfl
  rw [e] at h
  rw [h.intsI, List.map_map]
  rfl
theorem inV_nat : inV (V.int (x : Int)) (l.map fun x : Nat => V.int (x : Int)) = decide (x ∈ l) := by
  unfold inV
  rw [List.any_map, Bool.eq_iff_iff, List.any_eq_true, decide_eq_true_iff]
  constructor
  · rintro ⟨y, hy, e⟩
    have e' : eqV (V.int (y : Int)) (V.int (x : Int)) = true := e
    rw [eqV_nat, decide_eq_true_iff] at e'
    rw [← e']
    exact hy
  · intro hx
    refine ⟨x, hx, ?_⟩
    show eqV (V.int (x : Int)) (V.int (x : Int)) = true
    rw [eqV_nat, decide_eq_true_iff]
theorem flat_nats : (l.map fun x : Nat => V.int (x : Int)).all flatV = true := by
  rw [List.all_map, List.all_eq_true]
  intro y _
  rfl
theorem ev_inN {neg : Bool} (h : Ev ta σ b (.int (x : Int))) (hl : ED K tb σ b (natsD l)) : Ev (tOp (rIn K neg) ta tb) σ b (.bl (if neg then !decide (x ∈ l) else decide (x ∈ l))) := fun hh e _ q => h hh e _ fun h1 e1 => hl h1 (e.trans e1) _ fun v b2 h2 g2 hv => by
  obtain ⟨a, xs, rfl, k1, k2⟩ := hv.listI
  have hxs := k2.natsI
  subst hxs
  refine ⟨a, _, rfl, .inl (sq_of (g2.gi _ _ k1)), rfl, flat_nats, ?_⟩
  rw [inV_nat]
  exact q h2 (e1.trans g2.gh)
theorem pe_indexK {X : Cx} {o e : Expr} {to : TE} {ts : TA} {apos cpos : Pos} (h : X.K = K) (ho : PE X o to) (ha : PA X [e] ts) (hbase : attributeBase o "index" X.env (eval o X.env) = eval o X.env := by rfl)
    (hfew : ((backTo cpos (starEach [e] X.env)).all (fun x => !x.1) && (backToKw cpos (keywordEach [] X.env)).all (fun x => x.1.isSome) && decide ([e].length + ([] : List Keyword).length + (if ([] : List Keyword).isEmpty then 0 else 1) < 30)) = true := by rfl)
    (hline : (apos.endLine == cpos.line) = true := by rfl) (hs : starEach [e] X.env = (false, eval e X.env) :: starEach [] X.env := by rfl) (hp : (backTo cpos (starEach [] X.env)).any (·.1) = false := by rfl) :
    PE X (.Call (.Attribute o "index" apos) [e] [] cpos) (tBM K "list" (rIndex K) to ts) :=
  h ▸ pe_bm PySem.F.plainAttrs_list PySem.F.slot_list_index PySem.F.type_list_index mt_index ho ha hbase hfew hline hs hp
theorem ev_indexN {j : Nat} (hl : ED K te σ b (natsD l)) (h : Ev ta σ b (.int (x : Int))) (hj : l[j]? = some x) (hno : ∀ m, m < j → l[m]? ≠ some x) : Ev (tBM K "list" (rIndex K) te (tCons ta tNil)) σ b (.int (j : Int)) := fun hh e _ q => hl hh e _ fun v b2 h2 g2 hv => by
  obtain ⟨a, xs, rfl, k1, k2⟩ := hv.listI
  have hxs := k2.natsI
  subst hxs
  refine ⟨Or.inl ⟨rfl, _, sq_of (g2.gi _ _ k1)⟩, h h2 (e.trans g2.gh) _ fun h3 e3 => ?_⟩
  refine ⟨a, _, .int (x : Int), j, .int (x : Int), rfl, rfl, sq_of (e3 _ _ (g2.gi _ _ k1)), rfl, flat_nats, by rw [List.getElem?_map, hj] <;> rfl, by rw [eqV_nat, decide_eq_true_iff], fun m z hm hz => ?_, q h3 (g2.gh.trans e3)⟩
  rw [List.getElem?_map] at hz
  cases hq : l[m]? with
  | none => rw [hq] at hz; cases hz
  | some y =>
    rw [hq] at hz
    cases hz
    rw [eqV_nat, decide_eq_false_iff_not]
    intro z
    rw [z] at hq
    exact hno m hm hq
theorem ev_min {ns : List Int} {m : Int} (hl : ED K te σ b (.list (ns.map PyData.int))) (hm : m ∈ ns) (hle : ∀ y ∈ ns, m ≤ y) : Ev (tCB (rMin K) (tCons te tNil)) σ b (.int m) := fun hh e _ q => hl hh e _ fun v b2 h2 g2 hv => by
  obtain ⟨a, xs, rfl, k1, k2⟩ := hv.listI
  have hxs := k2.intsI
  subst hxs
  refine ⟨a, ns, rfl, sq_of (g2.gi _ _ k1), List.length_pos_of_mem hm, fun m' hm' hle' => ?_⟩
  have e1 := hle m' hm'
  have e2 := hle' m hm
  have : m' = m := by omega
  rw [this]
  exact q h2 g2.gh
end
theorem cut_takeN {l : List Nat} {a : Nat} (h : a ≤ l.length) : cutD (l.map fun x : Nat => PyData.int (x : Int)) none (some (a : Int)) = (l.take a).map fun x : Nat => PyData.int (x : Int) := by
  unfold cutD
  rw [List.length_map, HT.sIx_none, sIx_of _ h, List.drop_zero, Nat.sub_zero, List.map_take]
theorem cut_midN {l : List Nat} {a c : Nat} (h1 : a ≤ c) (h : c ≤ l.length) : cutD (l.map fun x : Nat => PyData.int (x : Int)) (some (a : Int)) (some (c : Int)) = ((l.drop a).take (c - a)).map fun x : Nat => PyData.int (x : Int) := by
  unfold cutD
  rw [List.length_map, sIx_of _ (Nat.le_trans h1 h), sIx_of _ h, ← List.map_drop, ← List.map_take]
theorem cut_mid {l : List Int} {a c : Nat} (h1 : a ≤ c) (h : c ≤ l.length) : cutD (l.map PyData.int) (some (a : Int)) (some (c : Int)) = ((l.drop a).take (c - a)).map PyData.int := by
  unfold cutD
  rw [List.length_map, sIx_of _ (Nat.le_trans h1 h), sIx_of _ h, ← List.map_drop, ← List.map_take]
end Md
namespace Md
open PySem L2 Evl
section
variable {K : PySem.W.Frag} {σ : L2.St} {b h : Hp} {te ta tb : TE} {ts : TA} {E : XK} {D : Ends} {tz : TS} {d1 d2 : PyData}
theorem r_par {i j : Nat} (x : EDA K ts σ b [d1, d2]) (e : Ex b h) (k : ∀ v1 v2 b' h', Gr b h b' h' → Dt K b' v1 d1 → Dt K b' v2 d2 → tz D ((σ.set i (some v1)).set j (some v2)) h') : tSeq (tPar i j ts) tz D σ h := x h e _ fun vs b' h' g hv => by
  cases hv with
  | cons q1 hv =>
    cases hv with
    | cons q2 hv =>
      cases hv
      exact ⟨_, _, rfl, k _ _ b' h' g q1 q2⟩
theorem ed_number {n d : Int} (x : Ev ta σ b (.int n)) (y : Ev tb σ b (.int d)) (h0 : d ≠ 0) (h1 : n.natAbs < 2 ^ 1900) (h2 : d.natAbs < 2 ^ 1900) : ED K (tCall (spNumber K) [] E (tCons ta (tCons tb tNil))) σ b (nD (num n d)) :=
  ed_call (eda_cons (ed_int x) (eda_cons (ed_int y) eda_nil)) rfl ⟨n, d, rfl, h0, h1, h2⟩ fun e he => he n d rfl
/-- [game[x][0] for x in some places] -/
theorem ed_gainsL {tg tl : TE} {j : Nat} {vs : List Nat} {G : List Pl} {l : List Nat} (hl : ED K tl σ b (natsD l)) (hz : l.length ≤ 40000) (hlt : ∀ y ∈ l, y < G.length) (hg : ∀ v b2, Ex b b2 → ED K tg ((wipe σ vs).set j (some v)) b2 (gameD G)) (hw : ∀ x, wipe ((wipe σ vs).set j (some x)) vs = wipe σ vs) (hj : ∀ v, ((wipe σ vs).set j (some v))[j]? = some (some v)) :
    ED K (tLc (iList K tl) (gName j) tYes (tOp (rIxT K) (tOp (rIxL K) tg (tVar j)) (tC (V.int 0))) vs) σ b (numsD (l.map fun y => (plAt G y).gain)) := by
  have e : (l.map fun y => (plAt G y).gain).map nD = l.map fun y => nD (plAt G y).gain := by
    rw [List.map_map]
    rfl
  unfold numsD
  rw [e]
  refine EN.ed (en_mapD (D := fun x : Nat => PyData.int (x : Int)) hl hz hw fun y hy v b2 e2 hv => ?_)
  obtain rfl := hv.intI
  exact ed_ixT (ed_ixL (hg _ b2 e2) (ev_var (hj _)) (game_at (plAt_get (hlt y hy)))) ev_c (by rfl)
end
def circleT : PyData := .tuple [.str "raised", .str "circle"]
def branchT (j : Nat) : PyData := .tuple [.str "raised", .str "branch", .int (j : Int)]
theorem dep_branch (n j : Nat) : Dep (n + 2) (branchT j) := ⟨by show 3 ≤ 30000; decide, fun d hd => by
  simp only [List.mem_cons, List.not_mem_nil, or_false] at hd
  rcases hd with rfl | rfl | rfl
  · exact dep_str _ _
  · exact dep_str _ _
  · exact dep_int _ _⟩
theorem nice_circle : Nice 1 1000 circleT := (nice_tup (k := 0) (L := 20) (n := 2) (fun d hd => by
  simp only [List.mem_cons, List.not_mem_nil, or_false] at hd
  rcases hd with rfl | rfl
  · exact nice_str (by decide +kernel) (by decide +kernel)
  · exact nice_str (by decide +kernel) (by decide +kernel)) (by show 2 ≤ 2; decide)).mono (by decide) (by decide)
theorem bad_set {G : List Pl} {x a : Nat} {n : Int} {s : List Int} (ho : okA G x s) (ha : a < s.length) (hb : ¬ okB G (lastF G x (s.take a)) n) : BadAt G x (s.set a n) a := by
  have e : (s.set a n).take a = s.take a := by
    rw [List.take_set_of_le (Nat.le_refl _)]
  refine ⟨n, by rw [List.getElem?_set_self ha], okTo_pre (okTo_of ho) (Nat.le_of_lt ha) e, ?_⟩
  rw [e]
  exact hb
theorem bad_take {G : List Pl} {x a f : Nat} {s : List Int} (h : BadAt G x s a) (ha : a < f) : BadAt G x (s.take f) a := by
  obtain ⟨n, hj, ho, hb⟩ := h
  have e : (s.take f).take a = s.take a := by rw [List.take_take, Nat.min_eq_left (Nat.le_of_lt ha)]
  refine ⟨n, by rw [List.getElem?_take_of_lt ha]; exact hj, fun j m hjj hm => ?_, by rw [e]; exact hb⟩
  rw [List.getElem?_take_of_lt (by omega)] at hm
  have := ho j m hjj hm
  rwa [List.take_take, Nat.min_eq_left (by omega)]
end Md


set_option Elab.async false
set_option linter.all false
set_option maxRecDepth 100000
set_option maxHeartbeats 2000000
namespace Md
open PySem L2 Evl
def top (i : Nat) : Stmt := PySem.Challenge.pw_meanhold_k05_gains_of_plays.main.body.getD i (.Pass ⟨0, 0, 0, 0⟩)
section
variable {P : Program} {w : World} {K : PySem.W.Frag} {mg : Str → Option Value} {base : Heap}
abbrev s_gcd : Stmt := top 21
theorem sc_gcd : FnScope ["a", "b", "step", "rest"] ["a", "b"] (defScope s_gcd) := ⟨rfl, rfl, rfl, by decide +kernel, rfl, by decide +kernel, by decide +kernel⟩
theorem has_gcd (T : Bt mg) (D : IsDef K mg "_law_gcd" s_gcd ["a", "b"]) : Has P w K mg base 1 "_law_gcd" ["a", "b"] (spGcd K) := by
  obtain ⟨f, fd, F, hm, hb⟩ := D
  have sc := sc_gcd
  refine ⟨f, fd, F.ok sc SpF.len (fun cdv A outer s h0 vs Q E hr hs => ?_), hm, F.kp, hb⟩
  obtain ⟨b, ds, eb, hA, hn, ⟨x, y, rfl, hy⟩, k⟩ := hs
  obtain rfl := hA.i2
  refine ⟨_, (pss_cons (ps_set (i := 0) sc.nd rfl (by first | exact Or.inl rfl | exact Or.inr rfl) (pe_callB cr_abs (by rfl) T.abs (by decide +kernel) (pa_cons (pv 0) pa_nil))) (pss_cons (ps_set (i := 1) sc.nd rfl (by first | exact Or.inl rfl | exact Or.inr rfl) (pe_callB cr_abs (by rfl) T.abs (by decide +kernel) (pa_cons (pv 1) pa_nil))) (pss_cons (ps_for PassesOwn.never rfl (pi_range1 (by rfl) T.range (pa_cons pe_int pa_nil)) (pg_name (i := 2) sc.nd rfl (by first | exact Or.inl rfl | exact Or.inr rfl)) (pss_cons (ps_if (pt_cmpR op_eq (pv 1) pe_int (nomark _)) (pss_one ps_break) pss_nil) (pss_cons (ps_set (i := 3) sc.nd rfl (by first | exact Or.inl rfl | exact Or.inr rfl) (pe_op op_mod (pe_callTy cr_int1 (by rfl) T.int (by decide +kernel) (pa_cons (pv 0) pa_nil)) (pv 1))) (pss_cons (ps_set (i := 0) sc.nd rfl (by first | exact Or.inl rfl | exact Or.inr rfl) (pv 1)) (pss_one (ps_set (i := 1) sc.nd rfl (by first | exact Or.inl rfl | exact Or.inr rfl) (pv 3))))))) (pss_one (ps_ret (pv 0)))))), ?_⟩
  refine r_sc (ev_abs (ev_var rfl)) eb fun h1 g1 => ?_
  refine r_sc (ev_abs (ev_var rfl)) g1.gi fun h2 g2 => ?_
  have G2 := g1.trans g2
  have fin : ∀ (σ' : L2.St) (h' : Hp) (z : Nat), σ'[0]? = some (some (.int (z : Int))) → z = Nat.gcd x.natAbs y.natAbs → Gr b h0 b h' → tRet (tVar 0) { nx := fun _ H' => Q .non H', rt := Q, bk := fun _ _ => False, ct := fun _ _ => False } σ' h' := fun σ' h' z e1 e2 G => by
    subst e2
    exact ⟨_, e1, k _ b h' _ G (fun a c e => by cases e; rfl) (Dt.int _)⟩
  refine s_forR1 (n := 4000) ((ea_cons ev_c ea_nil)) (by omega) (fun i σ' h' => ∃ (p q : Nat) (u v : Option V), σ' = [some (.int (p : Int)), some (.int (q : Int)), u, v] ∧ Euc (Nat.gcd x.natAbs y.natAbs) i p q ∧ Gr b h0 b h')
    (fun h3 e3 => ⟨x.natAbs, y.natAbs, none, none, rfl, ⟨rfl, by rw [if_pos rfl]; exact hy⟩, G2.trans (Gr.stay G2.gi e3)⟩) ?_ ?_
  · rintro i σ' h' hi ⟨p, q, u, v, rfl, hE, G⟩
    refine r_if (b := b) (c := decide (V.int (q : Int) = V.int 0)) (et_test (ev_op (ev_var rfl) ev_c (rv_eq rfl))) G.gi (fun hc h3 g3 => ?_) (fun hc h3 g3 => ?_)
    · have e0 : (q : Int) = 0 := by
        have := of_decide_eq_true hc
        injection this
      obtain rfl : q = 0 := by omega
      exact fin _ _ p rfl (euc_zero hE) (G.trans g3)
    · have e0 : ¬ (q : Int) = 0 := fun z => by
        have := of_decide_eq_false hc
        exact this (by rw [z])
      refine r_sc (v := .int ((p % q : Nat) : Int)) (ev_op (ev_int1 (ev_var rfl)) (ev_var rfl) ?_) (G.trans g3).gi fun h4 g4 => ?_
      · have e1 : V.int ((p % q : Nat) : Int) = V.int ((p : Int) % (q : Int)) := by rw [Int.natCast_emod]
        rw [e1]
        exact rv_I (by omega)
      refine r_sc (ev_var rfl) g4.gi fun h5 g5 => ?_
      exact ⟨_, rfl, q, p % q, _, _, rfl, euc_turn hE (by omega), ((G.trans g3).trans g4).trans g5⟩
  · rintro σ' h' ⟨p, q, u, v, rfl, hE, G⟩
    have e0 := euc_end hE
    subst e0
    exact fin _ _ p rfl (euc_zero hE) G

abbrev s_number : Stmt := top 22
theorem sc_number : FnScope ["n", "d", "common"] ["n", "d"] (defScope s_number) := ⟨rfl, rfl, rfl, by decide +kernel, rfl, by decide +kernel, by decide +kernel⟩
theorem has_number (D : IsDef K mg "_law_number" s_number ["n", "d"]) (U : Has P w K mg base 1 "_law_gcd" ["a", "b"] (spGcd K)) : Has P w K mg base 2 "_law_number" ["n", "d"] (spNumber K) := by
  obtain ⟨f, fd, F, hm, hb⟩ := D
  obtain ⟨f_gcd, fd_gcd, G_gcd, m_gcd, k_gcd, b_gcd⟩ := U
  have sc := sc_number
  refine ⟨f, fd, F.ok sc SpF.len (fun cdv A outer s h0 vs Q E hr hs => ?_), hm, F.kp, hb⟩
  obtain ⟨b, ds, eb, hA, hn, ⟨x, y, rfl, hy, hx1, hy1⟩, k⟩ := hs
  obtain rfl := hA.i2
  refine ⟨_, (Evl.pss_cut (ps_if (pt_cmpR op_lt (pv 1) pe_int (nomark _)) (pss_cons (ps_set (i := 0) sc.nd rfl (by first | exact Or.inl rfl | exact Or.inr rfl) (pe_un un_neg (pv 0))) (pss_one (ps_set (i := 1) sc.nd rfl (by first | exact Or.inl rfl | exact Or.inr rfl) (pe_un un_neg (pv 1))))) pss_nil) (pss_cons (ps_set (i := 2) sc.nd rfl (by first | exact Or.inl rfl | exact Or.inr rfl) (pe_call G_gcd (hr.mono (by decide)) rfl m_gcd k_gcd b_gcd .nil pass0 (pa_cons (pv 0) (pa_cons (pv 1) pa_nil)))) (pss_one (ps_ret (pe_tup (pa_cons (pe_op op_fdivW (pv 0) (pv 2)) (pa_cons (pe_op op_fdivW (pv 1) (pv 2)) pa_nil))))))), ?_⟩
  refine ⟨fun σ' h' => σ' = [some (.int (if y < 0 then -x else x)), some (.int (if y < 0 then -y else y)), none] ∧ Gr b h0 b h', ?_, ?_⟩
  · refine r_if1 (b := b) (c := decide (y < 0)) (et_test (ev_op (ev_var rfl) ev_c rv_I0)) eb (fun hc h3 g3 => ?_) (fun hc h3 g3 => ?_)
    · have e0 : y < 0 := of_decide_eq_true hc
      refine r_sc (ev_un (ev_var rfl) ru_neg) g3.gi fun h4 g4 => ?_
      refine ⟨_, rfl, _, rfl, ?_, g3.trans g4⟩
      rw [if_pos e0, if_pos e0]
      rfl
    · have e0 : ¬ y < 0 := of_decide_eq_false hc
      refine ⟨?_, g3⟩
      rw [if_neg e0, if_neg e0]
      rfl
  · rintro σ' h' ⟨rfl, G⟩
    have hyy : (if y < 0 then -y else y).natAbs = y.natAbs := by split <;> omega
    have hxx : (if y < 0 then -x else x).natAbs = x.natAbs := by split <;> omega
    refine r_sc (b := b) (v := .int ((Nat.gcd x.natAbs y.natAbs : Nat) : Int)) (ev_int (ed_call (eda_cons (ed_int (ev_var rfl)) (eda_cons (ed_int (ev_var rfl)) eda_nil)) rfl ⟨_, _, rfl, by rw [hyy]; exact hy1⟩ fun e he => ?_)) G.gi fun h4 g4 => ?_
    · rw [he _ _ rfl, hxx, hyy]
    have hg : 0 < Nat.gcd x.natAbs y.natAbs := Nat.gcd_pos_of_pos_right _ (by omega)
    have hg2 : Nat.gcd x.natAbs y.natAbs < 2 ^ 1900 := Nat.lt_of_le_of_lt (Nat.gcd_le_right _ (by omega)) hy1
    have hw : CDivW 0 ((Nat.gcd x.natAbs y.natAbs : Nat) : Int) := wide_div (b := 1900) (by omega) (by simpa using hg2) (by decide) (by decide)
    refine r_ret (K := K) (d := nD (num x y)) (ed_tup (eda_cons (ed_int (ev_op (ev_var rfl) (ev_var rfl) (rv_I hw))) (eda_cons (ed_int (ev_op (ev_var rfl) (ev_var rfl) (rv_I hw))) eda_nil)) (by show 2 ≤ 100000; decide)) g4.gi fun v b' h5 g5 hv => ?_
    exact k v b' h5 _ ((G.trans g4).trans g5) (fun n d e => by cases e; rfl) hv

abbrev s_draws : Stmt := top 20
theorem sc_draws : FnScope ["script", "count", "rests", "draws", "k", "value", "cell", "at", "mixed"] ["script", "count"] (defScope s_draws) := ⟨rfl, rfl, rfl, by decide +kernel, rfl, by decide +kernel, by decide +kernel⟩
theorem has_draws (T : Bt mg) (D : IsDef K mg "_law_draws" s_draws ["script", "count"]) : Has P w K mg base 1 "_law_draws" ["script", "count"] (spDraws K) := by
  obtain ⟨f, fd, F, hm, hb⟩ := D
  have sc := sc_draws
  refine ⟨f, fd, F.ok sc (fun vs H Q E x => ?_) (fun cdv A outer s h0 vs Q E hr hs => ?_), hm, F.kp, hb⟩
  · obtain ⟨_, _, _, _, rfl, _⟩ := x
    rfl
  obtain ⟨b, a, ns, n, rfl, eb, hS, hl, hn, k⟩ := hs
  refine ⟨_, (pss_cons (ps_setLc (i := 2) (own := [("cell", 6)]) (tt := tYes) rfl sc.nd rfl rfl (sw_true rfl rfl rfl (by decide +kernel)) (pi_listK (K := K) rfl (pv 0)) (blkOk_by (N := ["script", "count", "rests", "draws", "k", "value", "cell", "at", "mixed"]) (sc := defScope s_draws) (by decide +kernel)) (fun _ _ _ _ _ => (pg_name (i := 6) sc.nd rfl (by first | exact Or.inl rfl | exact Or.inr rfl))) (fun _ _ _ _ _ => pts_nil) (fun _ _ _ _ _ => (pv 6))) (pss_cons (ps_set (i := 3) sc.nd rfl (by first | exact Or.inl rfl | exact Or.inr rfl) (pe_lst pa_nil)) (pss_cons (ps_for PassesOwn.never rfl (pi_range1 (by rfl) T.range (pa_cons (pv 1) pa_nil)) (pg_name (i := 4) sc.nd rfl (by first | exact Or.inl rfl | exact Or.inr rfl)) (pss_cons (ps_set (i := 5) sc.nd rfl (by first | exact Or.inl rfl | exact Or.inr rfl) pe_int) (Evl.pss_cut (ps_if (pt_cmpR op_gt (pe_callB (len_K (K := K) rfl) (by rfl) T.len PySem.boot_len (pa_cons (pv 2) pa_nil)) pe_int (nomark _)) (pss_cons (ps_set (i := 7) sc.nd rfl (by first | exact Or.inl rfl | exact Or.inr rfl) (pe_op op_mod (pe_callTy cr_int1 (by rfl) T.int (by decide +kernel) (pa_cons (pv 4) pa_nil)) (pe_callB (len_K (K := K) rfl) (by rfl) T.len PySem.boot_len (pa_cons (pv 2) pa_nil)))) (pss_one (ps_if (pt_cmpR op_ge (pe_ix (ix_listK (K := K) rfl) (pv 2) (pv 7) (fun _ _ => rfl)) (pe_op op_pow pe_int pe_int) (nomark _)) (pss_cons (ps_set (i := 5) sc.nd rfl (by first | exact Or.inl rfl | exact Or.inr rfl) (pe_op op_mod (pe_callTy cr_int1 (by rfl) T.int (by decide +kernel) (pa_cons (pe_ix (ix_listK (K := K) rfl) (pv 2) (pv 7) (fun _ _ => rfl)) pa_nil)) pe_int)) (pss_one (ps_asg (pe_op op_fdivW (pe_ix (ix_listK (K := K) rfl) (pv 2) (pv 7) (fun _ _ => rfl)) pe_int) (pg_sub (pv 2) (pv 7) set_list)))) (pss_cons (ps_set (i := 8) sc.nd rfl (by first | exact Or.inl rfl | exact Or.inr rfl) (pe_op op_mod (pe_callTy cr_int1 (by rfl) T.int (by decide +kernel) (pa_cons (pe_op op_add (pe_op op_add (pe_op op_mul (pe_ix (ix_listK (K := K) rfl) (pv 2) (pv 7) (fun _ _ => rfl)) pe_int) (pe_op op_mul (pv 4) pe_int)) pe_int) pa_nil)) pe_int)) (pss_cons (ps_set (i := 8) sc.nd rfl (by first | exact Or.inl rfl | exact Or.inr rfl) (pe_op op_mod (pe_callTy cr_int1 (by rfl) T.int (by decide +kernel) (pa_cons (pe_op op_add (pe_op op_mul (pv 8) pe_int) (pv 7)) pa_nil)) pe_int)) (pss_one (ps_set (i := 5) sc.nd rfl (by first | exact Or.inl rfl | exact Or.inr rfl) (pe_op op_mod (pe_callTy cr_int1 (by rfl) T.int (by decide +kernel) (pa_cons (pe_op op_fdivW (pv 8) pe_int) pa_nil)) pe_int)))))))) pss_nil) (pss_one (ps_expr (pe_appK (K := K) rfl (pv 3) (pa_cons (pv 5) pa_nil))))))) (pss_one (ps_ret (pv 3)))))), ?_⟩
  have hlc : EvL (tLc (iList K (tVar 0)) (gName 6) tYes (tVar 6) [6]) (start ["script", "count", "rests", "draws", "k", "value", "cell", "at", "mixed"] [V.ref a, V.int (n : Int)]) b (given (ns.map V.int).length (fun _ => true) (fun i => V.int (ns.getD i 0))) := by
    refine el_lcL (fun _ => true) (fun i => V.int (ns.getD i 0)) (ev_var rfl) hS (by rw [List.length_map]; omega) (fun x => rfl) (fun i x H1 e hx => et_yes) (fun i x H1 e hx _ => ?_)
    refine ev_is (ev_var rfl) ?_
    rw [List.getElem?_map] at hx
    cases z : ns[i]? with
    | none =>
      rw [z] at hx
      cases hx
    | some y =>
      rw [z] at hx
      cases hx
      rw [List.getD_eq_getElem?_getD, z]
      rfl
  refine q_asgL (hlc.mono eb) fun p h1 hp e1 h1p => ?_
  obtain ⟨rs, hrl, hrs⟩ : ∃ rs : List Int, rs.length = ns.length ∧ given (ns.map V.int).length (fun _ => true) (fun i => V.int (ns.getD i 0)) = rs.map V.int := by
    refine ⟨(List.range ns.length).map fun i => ns.getD i 0, by simp, ?_⟩
    unfold given
    rw [List.filter_eq_self.mpr fun _ _ => rfl, List.length_map, List.map_map]
    rfl
  rw [hrs] at h1p
  have bp : b p = none := none_of eb hp
  have g1 : Gr b h0 b h1 := Gr.stay eb e1
  refine q_asgL (el_lst ea_nil (by decide)) fun q h2 hq e2 h2q => ?_
  have npq : p ≠ q := ne_of_none h1p hq
  have hq0 : h0 q = none := fresh_back e1 hq
  have bq : b q = none := none_of eb hq0
  refine s_forR1 (n := (n : Int)) (ea_cons (ev_var rfl) ea_nil) (by omega) (fun i σ' h' => ∃ (rs ds : List Int) (u v x y z : Option V), σ' = [some (.ref a), some (.int (n : Int)), some (.ref p), some (.ref q), u, v, x, y, z] ∧
      rs.length = ns.length ∧ ds.length = i ∧ (∀ d ∈ ds, 0 ≤ d ∧ d < 1000) ∧ Gr b h0 b h' ∧ h' p = some (.lst (rs.map V.int)) ∧ h' q = some (.lst (ds.map V.int))) ?_ ?_ ?_
  · intro H1 e
    refine ⟨rs, [], none, none, none, none, none, rfl, hrl, rfl, (fun d hd => by cases hd), g1.trans (Gr.stay g1.gi (e2.trans e)), e _ _ (e2 _ _ h1p), e _ _ h2q⟩
  · rintro i σ' h' hi ⟨rs, ds, u, v, x, y, z, rfl, hrl, hdl, hds, G, hp', hq'⟩
    refine q_asg ev_c fun h2 e2 => ?_
    have hp2 := e2 _ _ hp'
    have hq2 := e2 _ _ hq'
    have G2 := G.trans (Gr.stay G.gi e2)
    refine ⟨fun σ' h' => ∃ (rs : List Int) (d : Int) (x y z : Option V), σ' = [some (.ref a), some (.int (n : Int)), some (.ref p), some (.ref q), some (.int (i : Int)), some (.int d), x, y, z] ∧
      rs.length = ns.length ∧ (0 ≤ d ∧ d < 1000) ∧ Gr b h0 b h' ∧ h' p = some (.lst (rs.map V.int)) ∧ h' q = some (.lst (ds.map V.int)), ?_, ?_⟩
    · refine s_if (b := decide (((0 : Nat) : Int) < ((rs.map V.int).length : Int))) (et_test (ev_op (ev_len (ev_var rfl) (sq_of hp2)) ev_c rv_I0)) (fun hc h3 e3 => ?_) (fun hc h3 e3 => ?_)
      · have hpos : 0 < rs.length := by
          have := of_decide_eq_true hc
          rw [List.length_map] at this
          omega
        have hp3 := e3 _ _ hp2
        have hq3 := e3 _ _ hq2
        have G3 := G2.trans (Gr.stay G2.gi e3)
        have hj : i % rs.length < rs.length := Nat.mod_lt _ hpos
        refine q_asg (v := .int ((i % rs.length : Nat) : Int)) (ev_op (ev_int1 (ev_var rfl)) (ev_len (ev_var rfl) (sq_of hp3)) ?_) fun h4 e4 => ?_
        · have e1 : V.int ((i % rs.length : Nat) : Int) = V.int ((i : Int) % ((rs.map V.int).length : Int)) := by rw [List.length_map, Int.natCast_emod]
          rw [e1]
          exact rv_I (by rw [List.length_map]; omega)
        have hp4 := e4 _ _ hp3
        have hq4 := e4 _ _ hq3
        have G4 := G3.trans (Gr.stay G3.gi e4)
        obtain ⟨r, hr0⟩ : ∃ r, rs[i % rs.length]? = some r := ⟨_, List.getElem?_eq_getElem hj⟩
        have hr1 : (rs.map V.int)[i % rs.length]? = some (V.int r) := by rw [List.getElem?_map, hr0] <;> rfl
        have hix : ∀ {σ : L2.St} {h : Hp}, Ex h4 h → σ[2]? = some (some (.ref p)) → σ[7]? = some (some (.int ((i % rs.length : Nat) : Int))) → Ev (tOp (rIxL K) (tVar 2) (tVar 7)) σ h (.int r) := fun {σ h} e s1 s2 =>
          ev_op (ev_var s1) (ev_var s2) (rv_ixL (sq_of (e _ _ hp4)) (at_of rfl hr1))
        refine s_if (b := decide ((10 : Int) ^ (18 : Int).toNat ≤ r)) (et_test (ev_op (hix (Ex.refl _) rfl rfl) (ev_op ev_c ev_c (rv_I ⟨by decide, by decide, by decide⟩)) rv_I0)) (fun hc2 h5 e5 => ?_) (fun hc2 h5 e5 => ?_)
        · refine q_asg (ev_op (ev_int1 (hix e5 rfl rfl)) ev_c (rv_I (by decide))) fun h6 e6 => ?_
          have e46 := e5.trans e6
          refine s_setL (e46 _ _ hp4) (ev_op (hix e46 rfl rfl) ev_c (rv_I ⟨by decide, by decide⟩)) (ev_var rfl) (ev_var rfl) (by rw [List.length_map]; exact hj) fun h7 e7 => ?_
          refine ⟨rs.set (i % rs.length) (r / 1000), r % 1000, _, _, _, rfl, by rw [List.length_set, hrl], ⟨Int.emod_nonneg _ (by decide), Int.emod_lt_of_pos _ (by decide)⟩, (G4.trans (Gr.stay G4.gi (e46.trans e7))).mut hp bp, ?_, ?_⟩
          · rw [upd_same, ← List.map_set]
          · rw [upd_ne npq.symm]
            exact e7 _ _ (e46 _ _ hq4)
        · refine q_asg (ev_op (ev_int1 (ev_op (ev_op (ev_op (hix e5 rfl rfl) ev_c (rv_I (.inr ⟨by decide, by decide⟩))) (ev_op (ev_var rfl) ev_c (rv_I (.inr ⟨by decide, by decide⟩))) rv_I0) ev_c rv_I0)) ev_c (rv_I (by decide))) fun h6 e6 => ?_
          refine q_asg (ev_op (ev_int1 (ev_op (ev_op (ev_var rfl) ev_c (rv_I (.inr ⟨by decide, by decide⟩))) (ev_var rfl) rv_I0)) ev_c (rv_I (by decide))) fun h7 e7 => ?_
          refine s_asg (ev_op (ev_int1 (ev_op (ev_var rfl) ev_c (rv_I ⟨by decide, by decide⟩))) ev_c (rv_I (by decide))) fun h8 e8 => ?_
          have e48 := ((e5.trans e6).trans e7).trans e8
          exact ⟨rs, _, _, _, _, rfl, hrl, ⟨Int.emod_nonneg _ (by decide), Int.emod_lt_of_pos _ (by decide)⟩, G4.trans (Gr.stay G4.gi e48), e48 _ _ hp4, e48 _ _ hq4⟩
      · exact ⟨rs, 0, _, _, _, rfl, hrl, by decide, G2.trans (Gr.stay G2.gi e3), e3 _ _ hp2, e3 _ _ hq2⟩
    · rintro σ' h3 ⟨rs, d, x, y, z, rfl, hrl, hd, G3, hp3, hq3⟩
      refine s_app hq3 (ev_var rfl) (ev_var rfl) (by rw [List.length_map]; omega) fun h4 e4 => ?_
      refine ⟨rs, ds ++ [d], _, _, _, _, _, rfl, hrl, by rw [List.length_append, hdl]; rfl, fun t ht => ?_, (G3.trans (Gr.stay G3.gi e4)).mut hq0 bq, ?_, ?_⟩
      · rcases List.mem_append.mp ht with ht | ht
        · exact hds t ht
        · rw [List.mem_singleton.mp ht]
          exact hd
      · rw [upd_ne npq]
        exact e4 _ _ hp3
      · rw [upd_same, List.map_append]
        rfl
  · rintro σ' h' ⟨rs, ds, u, v, x, y, z, rfl, hrl, hdl, hds, G, hp', hq'⟩
    refine ⟨_, rfl, k _ (upd b q (.lst (ds.map V.int))) h' ds (G.tell hq0 bq hq') (by rw [hdl]; omega) hds (Dt.list upd_same (DtA.ints ds))⟩

abbrev s_place : Stmt := top 26
theorem sc_place : FnScope ["draws", "many", "kind", "gain", "size", "places", "weights", "k"] ["draws", "many"] (defScope s_place) := ⟨rfl, rfl, rfl, by decide +kernel, rfl, by decide +kernel, by decide +kernel⟩
theorem has_place (T : Bt mg) (D : IsDef K mg "_law_place" s_place ["draws", "many"]) (U : Has P w K mg base 2 "_law_number" ["n", "d"] (spNumber K)) : Has P w K mg base 3 "_law_place" ["draws", "many"] (spPlace K) := by
  obtain ⟨f, fd, F, hm, hb⟩ := D
  obtain ⟨f_number, fd_number, G_number, m_number, k_number, b_number⟩ := U
  have sc := sc_place
  refine ⟨f, fd, F.ok sc (fun vs H Q E x => ?_) (fun cdv A outer s h0 vs Q E hr hs => ?_), hm, F.kp, hb⟩
  · obtain ⟨b, ds, most, _, hA, _⟩ := x
    exact hA.length
  obtain ⟨b, ds, many, eb, hA, hl, hd, hmany, k⟩ := hs
  refine ⟨_, (pss_cons (ps_set (i := 2) sc.nd rfl (by first | exact Or.inl rfl | exact Or.inr rfl) (pe_op op_mod (pe_callTy cr_int1 (by rfl) T.int (by decide +kernel) (pa_cons (pe_ix (ix_listK (K := K) rfl) (pv 0) pe_int (fun _ _ => rfl)) pa_nil)) pe_int)) (pss_cons (ps_set (i := 3) sc.nd rfl (by first | exact Or.inl rfl | exact Or.inr rfl) (pe_call G_number (hr.mono (by decide)) rfl m_number k_number b_number .nil pass0 (pa_cons (pe_op op_sub (pe_op op_mod (pe_callTy cr_int1 (by rfl) T.int (by decide +kernel) (pa_cons (pe_ix (ix_listK (K := K) rfl) (pv 0) pe_int (fun _ _ => rfl)) pa_nil)) pe_int) pe_int) (pa_cons (pe_ix (ix_listK (K := K) rfl) (pe_lst (pa_cons pe_int (pa_cons pe_int (pa_cons pe_int (pa_cons pe_int pa_nil))))) (pe_op op_mod (pe_callTy cr_int1 (by rfl) T.int (by decide +kernel) (pa_cons (pe_ix (ix_listK (K := K) rfl) (pv 0) pe_int (fun _ _ => rfl)) pa_nil)) pe_int) (fun _ _ => rfl)) pa_nil)))) (Evl.pss_cut (ps_if (pt_cmpR op_eq (pe_op op_mod (pe_op op_fdivW (pe_callTy cr_int1 (by rfl) T.int (by decide +kernel) (pa_cons (pe_ix (ix_listK (K := K) rfl) (pv 0) pe_int (fun _ _ => rfl)) pa_nil)) pe_int) pe_int) pe_int (nomark _)) (pss_one (ps_set (i := 3) sc.nd rfl (by first | exact Or.inl rfl | exact Or.inr rfl) (pe_call G_number (hr.mono (by decide)) rfl m_number k_number b_number .nil pass0 (pa_cons (pe_op op_sub (pe_callTy cr_int1 (by rfl) T.int (by decide +kernel) (pa_cons (pe_ix (ix_listK (K := K) rfl) (pv 0) pe_int (fun _ _ => rfl)) pa_nil)) pe_int) (pa_cons (pe_op op_add pe_int (pe_op op_mod (pe_callTy cr_int1 (by rfl) T.int (by decide +kernel) (pa_cons (pe_ix (ix_listK (K := K) rfl) (pv 0) pe_int (fun _ _ => rfl)) pa_nil)) pe_int)) pa_nil))))) pss_nil) (pss_cons (ps_set (i := 4) sc.nd rfl (by first | exact Or.inl rfl | exact Or.inr rfl) (pe_ix (ix_listK (K := K) rfl) (pe_lst (pa_cons pe_int (pa_cons pe_int (pa_cons pe_int (pa_cons pe_int (pa_cons pe_int (pa_cons pe_int (pa_cons pe_int (pa_cons pe_int (pa_cons pe_int pa_nil)))))))))) (pe_op op_mod (pe_callTy cr_int1 (by rfl) T.int (by decide +kernel) (pa_cons (pe_ix (ix_listK (K := K) rfl) (pv 0) pe_int (fun _ _ => rfl)) pa_nil)) pe_int) (fun _ _ => rfl))) (pss_cons (ps_set (i := 5) sc.nd rfl (by first | exact Or.inl rfl | exact Or.inr rfl) (pe_lc (own := [("k", 7)]) (tt := tYes) rfl sc.nd (pi_range1 (by rfl) T.range (pa_cons (pv 4) pa_nil)) (blkOk_by (N := ["draws", "many", "kind", "gain", "size", "places", "weights", "k"]) (sc := defScope s_place) (by decide +kernel)) (fun _ _ _ _ _ => (pg_name (i := 7) sc.nd rfl (by first | exact Or.inl rfl | exact Or.inr rfl))) (fun _ _ _ _ _ => pts_nil) (fun _ _ _ _ _ => (pe_op op_mod (pe_callTy cr_int1 (by rfl) T.int (by decide +kernel) (pa_cons (pe_ix (ix_listK (K := K) rfl) (pv 0) (pe_op op_add pe_int (pv 7)) (fun _ _ => rfl)) pa_nil)) (pv 1))))) (pss_cons (ps_if (pt_cmpR op_lt (pv 2) pe_int (nomark _)) (pss_cons (ps_set (i := 6) sc.nd rfl (by first | exact Or.inl rfl | exact Or.inr rfl) (pe_lc (own := [("k", 7)]) (tt := tYes) rfl sc.nd (pi_range1 (by rfl) T.range (pa_cons (pv 4) pa_nil)) (blkOk_by (N := ["draws", "many", "kind", "gain", "size", "places", "weights", "k"]) (sc := defScope s_place) (by decide +kernel)) (fun _ _ _ _ _ => (pg_name (i := 7) sc.nd rfl (by first | exact Or.inl rfl | exact Or.inr rfl))) (fun _ _ _ _ _ => pts_nil) (fun _ _ _ _ _ => (pe_op op_add pe_int (pe_op op_mod (pe_callTy cr_int1 (by rfl) T.int (by decide +kernel) (pa_cons (pe_ix (ix_listK (K := K) rfl) (pv 0) (pe_op op_add pe_int (pe_op op_mod (pv 7) pe_int)) (fun _ _ => rfl)) pa_nil)) pe_int))))) (pss_one (ps_ret (pe_tup (pa_cons (pv 3) (pa_cons pe_str (pa_cons (pe_lc (own := [("k", 7)]) (tt := tYes) rfl sc.nd (pi_range1 (by rfl) T.range (pa_cons (pv 4) pa_nil)) (blkOk_by (N := ["draws", "many", "kind", "gain", "size", "places", "weights", "k"]) (sc := defScope s_place) (by decide +kernel)) (fun _ _ _ _ _ => (pg_name (i := 7) sc.nd rfl (by first | exact Or.inl rfl | exact Or.inr rfl))) (fun _ _ _ _ _ => pts_nil) (fun _ _ _ _ _ => (pe_tup (pa_cons (pe_call G_number (hr.mono (by decide)) rfl m_number k_number b_number .nil pass0 (pa_cons (pe_ix (ix_listK (K := K) rfl) (pv 6) (pv 7) (fun _ _ => rfl)) (pa_cons (pe_callB (sum_K (K := K) rfl rfl) (by rfl) T.sum (by decide +kernel) (pa_cons (pv 6) pa_nil)) pa_nil))) (pa_cons (pe_ix (ix_listK (K := K) rfl) (pv 5) (pv 7) (fun _ _ => rfl)) pa_nil))))) pa_nil))))))) pss_nil) (pss_one (ps_ret (pe_tup (pa_cons (pv 3) (pa_cons (pe_ix (ix_listK (K := K) rfl) (pe_lst (pa_cons pe_str (pa_cons pe_str pa_nil))) (pe_op op_mod (pv 2) pe_int) (fun _ _ => rfl)) (pa_cons (pv 5) pa_nil)))))))))))), ?_⟩
  obtain ⟨vD, rfl, hD⟩ : ∃ vD, vs = [vD, .int many] ∧ Dt K b vD (.list (ds.map PyData.int)) := by
    cases hA with
    | cons h1 h2 => exact ⟨_, by rw [h2.i1], h1⟩
  have hix : ∀ {σ : L2.St} {b' : Hp} {tb : TE} {z : Int} (j : Nat), Ex b b' → σ[0]? = some (some vD) → Ev tb σ b' (.int z) → z = (j : Int) → j < 15 → Ev (tCB rInt1 (tCons (tOp (rIxL K) (tVar 0) tb) tNil)) σ b' (.int (ds.getD j 0)) := fun {σ b' tb z} j e s1 y e2 hj =>
    ev_int1 (ev_ixI j (ed_var s1 (hD.up e)) y e2 (by omega))
  have hnum : ∀ {σ : L2.St} {b' : Hp} {ta tb : TE} {n d : Int}, Ev ta σ b' (.int n) → Ev tb σ b' (.int d) → n.natAbs < 1000 → d ≠ 0 → d.natAbs < 1000 → ED K (tCall (spNumber K) [] E0 (tCons ta (tCons tb tNil))) σ b' (nD (num n d)) := fun {σ b' ta tb n d} x y h1 h2 h3 =>
    ed_call (eda_cons (ed_int x) (eda_cons (ed_int y) eda_nil)) rfl ⟨n, d, rfl, h2, Nat.lt_trans h1 (by decide +kernel), Nat.lt_trans h3 (by decide +kernel)⟩ fun e he => he n d rfl
  have d0 := ds_get (j := 0) hd
  have d1 := ds_get (j := 1) hd
  have d2 := ds_get (j := 2) hd
  have d14 := ds_get (j := 14) hd
  refine r_sc (ev_op (hix 0 (Ex.refl _) rfl ev_c rfl (by decide)) ev_c (rv_I (by decide))) eb fun h1 g1 => ?_
  obtain ⟨x1, hx1, hat1⟩ := at_pick [1, 1, 2, 3] (z := ds.getD 14 0 % 4) (by omega) (by show _ < (4 : Int); omega)
  have hx1' : 1 ≤ x1 ∧ x1 ≤ 3 := by
    simp only [List.mem_cons, List.not_mem_nil, or_false] at hx1
    omega
  refine r_set (K := K) (hnum (ev_op (ev_op (hix 1 (Ex.refl _) rfl ev_c rfl (by decide)) ev_c (rv_I (by decide))) ev_c rv_I0) (ev_int (ed_ixL (K := K) (ds := [1, 1, 2, 3].map PyData.int) (en_lst (eda_cons (ed_int ev_c) (eda_cons (ed_int ev_c) (eda_cons (ed_int ev_c) (eda_cons (ed_int ev_c) eda_nil)))) (by decide)).ed (ev_op (hix 14 (Ex.refl _) rfl ev_c rfl (by decide)) ev_c (rv_I (by decide))) hat1)) (by omega) (by omega) (by omega)) g1.gi fun vg b2 h2 g2 hg => ?_
  have hS : SmallN (num (ds.getD 1 0 % 15 - 5) x1) := num_small (by omega) (by omega) (by omega)
  generalize num (ds.getD 1 0 % 15 - 5) x1 = gn at hg hS
  have G2 := g1.trans g2
  refine ⟨fun σ' h' => ∃ (gn : Int × Int) (vg : V) (b' : Hp), σ' = [some vD, some (.int many), some (.int (ds.getD 0 0 % 7)), some vg, none, none, none, none] ∧ Gr b h0 b' h' ∧ SmallN gn ∧ Dt K b' vg (nD gn), ?_, ?_⟩
  · refine r_if1 (b := b2) (c := decide (V.int (ds.getD 14 0 / 4 % 8) = V.int 7)) (et_test (ev_op (ev_op (ev_op (hix 14 G2.gb rfl ev_c rfl (by decide)) ev_c (rv_I ⟨by decide, by decide⟩)) ev_c (rv_I (by decide))) ev_c (rv_eq rfl))) G2.gi (fun _ h3 g3 => ?_) (fun _ h3 g3 => ?_)
    · have hS2 : SmallN (num (ds.getD 1 0 - 500) (1 + ds.getD 14 0 % 7)) := num_small (by omega) (by omega) (by omega)
      refine r_set1 (K := K) (hnum (ev_op (hix 1 G2.gb rfl ev_c rfl (by decide)) ev_c rv_I0) (ev_op ev_c (ev_op (hix 14 G2.gb rfl ev_c rfl (by decide)) ev_c (rv_I (by decide))) rv_I0) (by omega) (by omega) (by omega)) g3.gi fun v b' h' g4 hv => ?_
      exact ⟨_, v, b', rfl, (G2.trans g3).trans g4, hS2, hv⟩
    · exact ⟨_, vg, b2, rfl, G2.trans g3, hS, hg⟩
  clear hg hS G2 g2 gn
  rintro σ' h2 ⟨gn, vg, b2, rfl, G2, hS, hg⟩
  obtain ⟨x2, hx2, hat2⟩ := at_pick [1, 2, 3, 1, 2, 3, 4, 5, 6] (z := ds.getD 2 0 % 9) (by omega) (by show _ < (9 : Int); omega)
  have hx2' : 1 ≤ x2 ∧ x2 ≤ 6 := by
    simp only [List.mem_cons, List.not_mem_nil, or_false] at hx2
    omega
  refine r_sc (ev_int (ed_ixL (K := K) (ds := [1, 2, 3, 1, 2, 3, 4, 5, 6].map PyData.int) (en_lst (eda_cons (ed_int ev_c) (eda_cons (ed_int ev_c) (eda_cons (ed_int ev_c) (eda_cons (ed_int ev_c) (eda_cons (ed_int ev_c) (eda_cons (ed_int ev_c) (eda_cons (ed_int ev_c) (eda_cons (ed_int ev_c) (eda_cons (ed_int ev_c) eda_nil))))))))) (by decide)).ed (ev_op (hix 2 G2.gb rfl ev_c rfl (by decide)) ev_c (rv_I (by decide))) hat2)) G2.gi fun h3 g3 => ?_
  have G3 := G2.trans g3
  refine r_set (K := K) (EN.ed (en_lcR (ea_cons (ev_var rfl) ea_nil) (by omega) (fun _ => true) (fun i => .int (ds.getD (3 + i) 0 % many)) (fun x => rfl) fun i b4 e4 hi => ⟨et_yes, fun _ => ed_int (ev_op (hix (3 + i) (G3.gb.trans e4) rfl (ev_op ev_c (ev_var rfl) rv_I0) (by omega) (by omega)) (ev_var rfl) (rv_I (by omega)))⟩)) G3.gi fun vp b4 h4 g4 hp => ?_
  have G4 := G3.trans g4
  rw [givenD_all, map_range_ints] at hp
  generalize hps : (List.range x2.toNat).map (fun i => ds.getD (3 + i) 0 % many) = ps at hp
  have hpl : ps.length = x2.toNat := by rw [← hps]; simp
  have hpm : ∀ t ∈ ps, 0 ≤ t ∧ t < many := fun t ht => by
    rw [← hps] at ht
    obtain ⟨i, _, rfl⟩ := List.mem_map.mp ht
    exact ⟨Int.emod_nonneg _ (by omega), Int.emod_lt_of_pos _ (by omega)⟩
  refine r_if (b := b4) (c := decide (ds.getD 0 0 % 7 < 3)) (et_test (ev_op (ev_var rfl) ev_c rv_I0)) G4.gi (fun hc h5 g5 => ?_) (fun hc h5 g5 => ?_)
  · have G5 := G4.trans g5
    refine r_set (K := K) (EN.ed (en_lcR (ea_cons (ev_var rfl) ea_nil) (by omega) (fun _ => true) (fun i => .int (1 + ds.getD (9 + i % 5) 0 % 5)) (fun x => rfl) fun i b6 e6 hi => ⟨et_yes, fun _ => ed_int (ev_op ev_c (ev_op (hix (9 + i % 5) (G5.gb.trans e6) rfl (ev_op ev_c (ev_op (ev_var rfl) ev_c (rv_I (by decide))) rv_I0) (by omega) (by omega)) ev_c (rv_I (by decide))) rv_I0)⟩)) G5.gi fun vw b6 h6 g6 hw => ?_
    have G6 := G5.trans g6
    rw [givenD_all, map_range_ints] at hw
    generalize hws : (List.range x2.toNat).map (fun i => 1 + ds.getD (9 + i % 5) 0 % 5) = ws at hw
    have hwl : ws.length = x2.toNat := by rw [← hws]; simp
    have hwm : ∀ t ∈ ws, 1 ≤ t ∧ t ≤ 5 := fun t ht => by
      rw [← hws] at ht
      obtain ⟨i, _, rfl⟩ := List.mem_map.mp ht
      omega
    have hsum := sum_small hwm
    have hsum1 : 1 ≤ ws.sum := by
      have := sum_pos hwm
      omega
    have hgw : ∀ i, i < ws.length → 1 ≤ ws.getD i 0 ∧ ws.getD i 0 ≤ 5 := fun i hi => by
      rw [List.getD_eq_getElem?_getD, List.getElem?_eq_getElem hi]
      exact hwm _ (List.getElem_mem hi)
    let bs : List ((Int × Int) × Int) := (List.range x2.toNat).map fun i => (num (ws.getD i 0) ws.sum, ps.getD i 0)
    have hp6 := hp.up g6.gb
    have hbs : givenD x2.toNat (fun _ => true) (fun i => brD (num (ws.getD i 0) ws.sum, ps.getD i 0)) = bs.map brD := by
      rw [givenD_all, List.map_map]
      rfl
    refine r_ret (K := K) (d := (Pl.draw gn bs).D) (ed_tup (eda_cons (ed_var rfl ((hg.up g4.gb).up g6.gb)) (eda_cons (ed_str ev_c) (eda_cons (d := .list (bs.map brD)) (hbs ▸ EN.ed (en_lcR (n := x2) (ea_cons (ev_var rfl) ea_nil) (by omega) (fun _ => true) (fun i => brD (num (ws.getD i 0) ws.sum, ps.getD i 0)) (fun x => rfl) fun i b7 e7 hi => ⟨et_yes, fun _ => ?_⟩)) eda_nil))) (by show 3 ≤ 100000; decide)) G6.gi fun v b' h7 g7 hv => ?_
    · have hw1 := hgw i (by omega)
      refine ed_tup (eda_cons (hnum (ev_ixI i (ed_var rfl (hw.up e7)) (ev_var rfl) rfl (by omega)) (ev_sum (ed_var rfl (hw.up e7))) (by omega) (by omega) (by omega)) (eda_cons (ed_int (ev_ixI i (ed_var rfl (hp6.up e7)) (ev_var rfl) rfl (by omega))) eda_nil)) (by show 2 ≤ 100000; decide)
    · refine k v b' h7 (Pl.draw gn bs) (G6.trans g7) ⟨hS, ?_, ?_, ?_, ws, ?_, hwm, ?_⟩ hv
      · show 1 ≤ bs.length
        simp only [bs, List.length_map, List.length_range]
        omega
      · show bs.length ≤ 6
        simp only [bs, List.length_map, List.length_range]
        omega
      · intro p hpb
        obtain ⟨i, hi, rfl⟩ := List.mem_map.mp hpb
        have hi' := List.mem_range.mp hi
        show 0 ≤ ps.getD i 0 ∧ ps.getD i 0 < many
        rw [List.getD_eq_getElem?_getD, List.getElem?_eq_getElem (by omega)]
        exact hpm _ (List.getElem_mem _)
      · simp only [bs, List.length_map, List.length_range]
        exact hwl
      · show bs.map (·.1) = _
        simp only [bs, List.map_map]
        rw [← hwl]
        exact map_getD ws (fun w => num w ws.sum)
  · have G5 := G4.trans g5
    have hk : ∃ o : Bool, L2.atI [PyData.str "ours", PyData.str "theirs"] (ds.getD 0 0 % 7 % 2) = some (.str (if o then "ours" else "theirs")) := by
      have h01 : ds.getD 0 0 % 7 % 2 = 0 ∨ ds.getD 0 0 % 7 % 2 = 1 := by omega
      rcases h01 with z | z
      · exact ⟨true, by rw [z]; rfl⟩
      · exact ⟨false, by rw [z]; rfl⟩
    obtain ⟨o, ho⟩ := hk
    refine r_ret (K := K) (d := (Pl.side gn o ps).D) (ed_tup (eda_cons (ed_var rfl (hg.up g4.gb)) (eda_cons (ed_ixL (ds := [PyData.str "ours", PyData.str "theirs"]) (en_lst (eda_cons (ed_str ev_c) (eda_cons (ed_str ev_c) eda_nil)) (by decide)).ed (ev_op (ev_var rfl) ev_c (rv_I (by decide))) ho) (eda_cons (ed_var rfl hp) eda_nil))) (by show 3 ≤ 100000; decide)) G5.gi fun v b' h7 g7 hv => ?_
    exact k v b' h7 (Pl.side gn o ps) (G5.trans g7) ⟨hS, by omega, by omega, hpm⟩ hv

abbrev s_game : Stmt := top 27
theorem sc_game : FnScope ["draws", "most", "many", "k"] ["draws", "most"] (defScope s_game) := ⟨rfl, rfl, rfl, by decide +kernel, rfl, by decide +kernel, by decide +kernel⟩
theorem has_game (T : Bt mg) (D : IsDef K mg "_law_game" s_game ["draws", "most"]) (U : Has P w K mg base 3 "_law_place" ["draws", "many"] (spPlace K)) : Has P w K mg base 4 "_law_game" ["draws", "most"] (spGame K) := by
  obtain ⟨f, fd, F, hm, hb⟩ := D
  obtain ⟨f_place, fd_place, G_place, m_place, k_place, b_place⟩ := U
  have sc := sc_game
  refine ⟨f, fd, F.ok sc (fun vs H Q E x => ?_) (fun cdv A outer s h0 vs Q E hr hs => ?_), hm, F.kp, hb⟩
  · obtain ⟨b, ds, most, _, hA, _⟩ := x
    exact hA.length
  obtain ⟨b, ds, most, eb, hA, hm1, hm12, hl, hd, k⟩ := hs
  refine ⟨_, (pss_cons (ps_set (i := 2) sc.nd rfl (by first | exact Or.inl rfl | exact Or.inr rfl) (pe_op op_add pe_int (pe_op op_mod (pe_callTy cr_int1 (by rfl) T.int (by decide +kernel) (pa_cons (pe_ix (ix_listK (K := K) rfl) (pv 0) pe_int (fun _ _ => rfl)) pa_nil)) (pv 1)))) (pss_one (ps_ret (pe_lc (own := [("k", 3)]) (tt := tYes) rfl sc.nd (pi_range1 (by rfl) T.range (pa_cons (pv 2) pa_nil)) (blkOk_by (N := ["draws", "most", "many", "k"]) (sc := defScope s_game) (by decide +kernel)) (fun _ _ _ _ _ => (pg_name (i := 3) sc.nd rfl (by first | exact Or.inl rfl | exact Or.inr rfl))) (fun _ _ _ _ _ => pts_nil) (fun _ _ _ _ _ => (pe_call G_place (hr.mono (by decide)) rfl m_place k_place b_place .nil pass0 (pa_cons (pe_slice (sl_listK (K := K) rfl) (pv 0) (po_some (pe_op op_add pe_int (pe_op op_mul pe_int (pv 3)))) (po_some (pe_op op_add pe_int (pe_op op_mul pe_int (pv 3))))) (pa_cons (pv 2) pa_nil)))))))), ?_⟩
  obtain ⟨vD, rfl, hD⟩ : ∃ vD, vs = [vD, .int most] ∧ Dt K b vD (.list (ds.map PyData.int)) := by
    cases hA with
    | cons h1 h2 => exact ⟨_, by rw [h2.i1], h1⟩
  have hmany := Int.emod_nonneg (ds.getD 0 0) (b := most) (by omega)
  have hmany2 := Int.emod_lt_of_pos (ds.getD 0 0) (b := most) (by omega)
  refine r_sc (ev_op ev_c (ev_op (ev_int1 (ev_ixI 0 (ed_var rfl hD) ev_c rfl (by omega))) (ev_var rfl) (rv_I (by omega))) rv_I0) eb fun h1 g1 => ?_
  generalize hM : 1 + ds.getD 0 0 % most = many
  refine r_retX (K := K) (en_lcRX (n := many) (ea_cons (ev_var rfl) ea_nil) (by omega) (fun i e => ∃ p, WfP many p ∧ e = p.D) (fun x => rfl) fun i b2 e2 hi => ?_) g1.gi fun v b' h2 d g2 hP hv => ?_
  · intro h e Q q
    refine eda_cons (EN.ed (en_sl (K := K) (ed_var rfl (hD.up e2)) (eo_some (i := 1 + 15 * (i : Int)) (ev_op ev_c (ev_op ev_c (ev_var rfl) (rv_I (.inl ⟨by decide, by decide⟩))) rv_I0)) (eo_some (i := 16 + 15 * (i : Int)) (ev_op ev_c (ev_op ev_c (ev_var rfl) (rv_I (.inl ⟨by decide, by decide⟩))) rv_I0)))) (eda_cons (ed_int (ev_var rfl)) eda_nil) h e _ fun vs b3 h3 g3 hvs => ?_
    obtain ⟨es, hes, hel, hed⟩ := cut_ints (ds := ds) (lo := 1 + 15 * i) (n := 15) (by omega) hd
    refine ⟨b3, es, many, g3.gi, ?_, hel, hed, by omega, fun v b4 h4 p g4 hp hv => q v b4 h4 p.D (g3.trans g4) ⟨p, hp, rfl⟩ hv⟩
    rw [List.append_nil]
    have e1 : (1 + 15 * (i : Int)) = ((1 + 15 * i : Nat) : Int) := by omega
    have e2 : (16 + 15 * (i : Int)) = ((1 + 15 * i + 15 : Nat) : Int) := by omega
    rw [e1, e2, hes] at hvs
    exact hvs
  · obtain ⟨acc, rfl, hal, hR⟩ := hP
    obtain ⟨G, rfl, hG⟩ := all_some (acc := acc) (W := WfP many) (D := Pl.D) fun e he => by
      obtain ⟨j, hj, rfl⟩ := List.mem_iff_getElem.mp he
      exact hR j _ (List.getElem?_eq_getElem hj)
    rw [List.length_map] at hal
    exact k v b' h2 G (g1.trans g2) ⟨by omega, by omega, fun p hp => by rw [show ((G.length : Nat) : Int) = many by omega]; exact hG p hp⟩ (by omega) hv

abbrev s_is_whole : Stmt := top 7
theorem sc_is_whole : FnScope ["value"] ["value"] (defScope s_is_whole) := ⟨rfl, rfl, rfl, by decide +kernel, rfl, by decide +kernel, by decide +kernel⟩
theorem has_is_whole (T : Bt mg) (D : IsDef K mg "is_whole" s_is_whole ["value"]) : Has P w K mg base 1 "is_whole" ["value"] spWhole := by
  obtain ⟨f, fd, F, hm, hb⟩ := D
  have sc := sc_is_whole
  refine ⟨f, fd, F.ok sc (fun vs H Q E x => ?_) (fun cdv A outer s h0 vs Q E hr hs => ?_), hm, F.kp, hb⟩
  · obtain ⟨n, rfl, _⟩ := x
    rfl
  obtain ⟨n, rfl, k⟩ := hs
  refine ⟨_, (pss_one (ps_ret (pe_and (pe_callB (isi_K (K := K) rfl) (by rfl) T.isinstance (by decide +kernel) (pa_cons (pv 0) (pa_cons (pe_bltn (v := .ty "int") (by rfl) T.int (by decide +kernel) rfl) pa_nil))) (pe_one (pe_not (pe_callB (isi_K (K := K) rfl) (by rfl) T.isinstance (by decide +kernel) (pa_cons (pv 0) (pa_cons (pe_bltn (v := .ty "bool") (by rfl) T.bool (by decide +kernel) rfl) pa_nil)))))))), ?_⟩
  refine ⟨_, rfl, .int n, .ty "int", .type "int", .type "int", true, rfl, .ty _, .base (.int n), kit_ty (by decide +kernel), true, rfl, ?_⟩
  rw [if_pos rfl]
  exact ⟨_, rfl, .int n, .ty "bool", .type "int", .type "bool", false, rfl, .ty _, .base (.int n), kit_ty (by decide +kernel), false, rfl, k⟩
abbrev s_has_branch : Stmt := top 14
theorem sc_has_branch : FnScope ["place", "number"] ["place", "number"] (defScope s_has_branch) := ⟨rfl, rfl, rfl, by decide +kernel, rfl, by decide +kernel, by decide +kernel⟩
theorem has_has_branch (T : Bt mg) (D : IsDef K mg "has_branch" s_has_branch ["place", "number"]) (U : Has P w K mg base 1 "is_whole" ["value"] spWhole) : Has P w K mg base 2 "has_branch" ["place", "number"] (spHas K) := by
  obtain ⟨f, fd, F, hm, hb⟩ := D
  obtain ⟨f_is_whole, fd_is_whole, G_is_whole, m_is_whole, k_is_whole, b_is_whole⟩ := U
  have sc := sc_has_branch
  refine ⟨f, fd, F.ok sc (fun vs H Q E x => ?_) (fun cdv A outer s h0 vs Q E hr hs => ?_), hm, F.kp, hb⟩
  · obtain ⟨b, p, n, _, hA, _⟩ := x
    exact hA.length
  obtain ⟨b, p, n, eb, hA, k⟩ := hs
  refine ⟨_, (pss_one (ps_ret (pe_and (pe_call G_is_whole (hr.mono (by decide)) rfl m_is_whole k_is_whole b_is_whole .nil pass0 (pa_cons (pv 1) pa_nil)) (pe_one (pe_chain op_le op_lt pe_int (pv 1) (pe_callB (len_K (K := K) rfl) (by rfl) T.len PySem.boot_len (pa_cons (pe_ix (ix_tupK (K := K) rfl) (pv 0) pe_int (fun _ _ => rfl)) pa_nil))))))), ?_⟩
  obtain ⟨vP, rfl, hP⟩ : ∃ vP, vs = [vP, .int n] ∧ Dt K b vP p.D := by
    cases hA with
    | cons h1 h2 => exact ⟨_, by rw [h2.i1], h1⟩
  have key : decide (0 ≤ n ∧ n < (p.tg.length : Int)) = (true && (decide (0 ≤ n) && decide (n < (p.bd.length : Int)))) := by
    rw [tg_len, Bool.true_and, Bool.decide_and]
  rw [key] at k
  refine Evl.s_ret (H := h0) ?_ fun h1 e1 => k h1 e1
  refine Ev.mono eb (ev_andV (ev_whole (ev_var rfl)) fun _ => ev_chain (f := fun i j => decide (i ≤ j)) (g := fun i j => decide (i < j)) ev_c (ev_var rfl) (ev_lenL (ed_ixT (ed_var rfl hP) ev_c (by rfl))))

abbrev s_targets_of : Stmt := top 13
theorem sc_targets_of : FnScope ["place", "_", "kind", "branches", "target"] ["place"] (defScope s_targets_of) := ⟨rfl, rfl, rfl, by decide +kernel, rfl, by decide +kernel, by decide +kernel⟩
theorem has_targets_of (T : Bt mg) (D : IsDef K mg "targets_of" s_targets_of ["place"]) : Has P w K mg base 1 "targets_of" ["place"] (spTargets K) := by
  obtain ⟨f, fd, F, hm, hb⟩ := D
  have sc := sc_targets_of
  refine ⟨f, fd, F.ok sc (fun vs H Q E x => ?_) (fun cdv A outer s h0 vs Q E hr hs => ?_), hm, F.kp, hb⟩
  · obtain ⟨b, p, _, hA, _⟩ := x
    exact hA.length
  obtain ⟨b, p, eb, hA, hl, k⟩ := hs
  refine ⟨_, (pss_cons (ps_asg (pv 0) (pg_tupK (K := K) (n := 3) rfl rfl (pgs_cons (pg_name (i := 1) sc.nd rfl (by first | exact Or.inl rfl | exact Or.inr rfl)) (pgs_cons (pg_name (i := 2) sc.nd rfl (by first | exact Or.inl rfl | exact Or.inr rfl)) (pgs_cons (pg_name (i := 3) sc.nd rfl (by first | exact Or.inl rfl | exact Or.inr rfl)) pgs_nil))))) (pss_cons (ps_if (pt_cmpR op_eq (pv 2) pe_str (nomark _)) (pss_one (ps_ret (pe_lc (own := [("_", 1), ("target", 4)]) (tt := tYes) rfl sc.nd (pi_listK (K := K) rfl (pv 3)) (blkOk_by (N := ["place", "_", "kind", "branches", "target"]) (sc := defScope s_targets_of) (by decide +kernel)) (fun _ _ _ _ _ => (pg_tupK (K := K) (n := 2) rfl rfl (pgs_cons (pg_name (i := 1) sc.nd rfl (by first | exact Or.inl rfl | exact Or.inr rfl)) (pgs_cons (pg_name (i := 4) sc.nd rfl (by first | exact Or.inl rfl | exact Or.inr rfl)) pgs_nil)))) (fun _ _ _ _ _ => pts_nil) (fun _ _ _ _ _ => (pv 4))))) pss_nil) (pss_one (ps_ret (pe_callTy (list_K (K := K) rfl) (by rfl) T.list (by decide +kernel) (pa_cons (pv 3) pa_nil)))))), ?_⟩
  obtain ⟨vP, rfl, hP⟩ : ∃ vP, vs = [vP] ∧ Dt K b vP p.D := by
    cases hA with
    | cons h1 h2 =>
      cases h2
      exact ⟨_, rfl, h1⟩
  refine r_asg (K := K) (d := p.D) (ed_var rfl hP) eb fun vp b3 h3 g3 hvp => ?_
  refine g_three hvp g3.gi fun v1 v2 v3 k1 k2 k3 => ?_
  obtain rfl := k2.strI
  refine r_if (b := b3) (c := decide (V.str p.kind = V.str "draw")) (et_test (ev_op (ev_var rfl) ev_c (rv_eq rfl))) g3.gi (fun hc h4 g4 => ?_) (fun hc h4 g4 => ?_)
  · have hk : p.kind = "draw" := by
      have := of_decide_eq_true hc
      injection this
    obtain ⟨g, bs, rfl⟩ := kind_is_draw hk
    refine r_ret (K := K) (d := intsD (Pl.draw g bs).tg) ?_ g4.gi fun v b' h' g5 hv => k v b' h' ((g3.trans g4).trans g5) hv
    exact ed_lcTg (ed_var rfl k3) hl (fun _ _ => rfl)
  · have hk : ¬ p.kind = "draw" := fun z => of_decide_eq_false hc (by rw [z])
    have e : p.bd = p.tg.map PyData.int := not_draw hk
    refine r_ret (K := K) (d := .list p.bd) (EN.ed (en_list (ed_var rfl k3))) g4.gi fun v b' h' g5 hv => ?_
    rw [e] at hv
    exact k v b' h' ((g3.trans g4).trans g5) hv

abbrev s_NB : Stmt := inClass (top 3) 0
theorem sc_NB : FnScope ["self", "at"] ["self", "at"] (defScope s_NB) := ⟨rfl, rfl, rfl, by decide +kernel, rfl, by decide +kernel, by decide +kernel⟩
/-- what stands behind the class NoBranch, at C -/
structure NBTxt (K : PySem.W.Frag) (mg : Str → Option Value) (C : Addr) : Prop where
  oex : OexC K C
  xf : XfC K C
  mC : mg "NoBranch" = some (.ref C)
  noAt : PySem.W.findIn K (.ref C) "at" = some none
  te : PySem.W.exmOne K (.ref C) (.ref C) = some true
  ini : ∃ fI fd, PySem.W.findIn K (.ref C) "__init__" = some (some (.ref fI)) ∧ PySem.W.typeIn K (.ref fI) = some (.type "function") ∧ Fun K "__init__" "NoBranch.__init__" s_NB fI fd ∧ Binds K fd ["self", "at"] []
theorem ok_NB {f C : Addr} {fd : FuncData} (F : Fun K "__init__" "NoBranch.__init__" s_NB f fd) (T : NBTxt K mg C) : FnOk P w K mg base CX0 1 f fd ["self", "at"] (spNB C) := by
  have sc := sc_NB
  refine F.ok sc (fun vs H Q E x => ?_) (fun cdv A outer s h0 vs Q E hr hs => ?_)
  · obtain ⟨a, n, rfl, _⟩ := x
    rfl
  obtain ⟨a, n, rfl, ha, k⟩ := hs
  refine ⟨_, pss_one (ps_ost (pv 0) (pv 1)), ?_⟩
  exact ⟨_, rfl, _, rfl, a, C, rfl, T.oex, T.noAt, .inl ⟨ha, fun dx h1 h2 => k dx h1 h2⟩⟩
abbrev s_places_on : Stmt := top 16
theorem sc_places_on : FnScope ["game", "start", "branches", "places", "at", "number", "place"] ["game", "start", "branches"] (defScope s_places_on) := ⟨rfl, rfl, rfl, by decide +kernel, rfl, by decide +kernel, by decide +kernel⟩
theorem has_places_on {C : Addr} (T : Bt mg) (NB : NBTxt K mg C) (D : IsDef K mg "places_on" s_places_on ["game", "start", "branches"]) (U1 : Has P w K mg base 2 "has_branch" ["place", "number"] (spHas K)) (U2 : Has P w K mg base 1 "targets_of" ["place"] (spTargets K)) :
    HasX P w K mg base 3 "places_on" ["game", "start", "branches"] (spPlaces K C) := by
  obtain ⟨f, fd, F, hm, hb⟩ := D
  obtain ⟨f_has_branch, fd_has_branch, G_has_branch, m_has_branch, k_has_branch, b_has_branch⟩ := U1
  obtain ⟨f_targets_of, fd_targets_of, G_targets_of, m_targets_of, k_targets_of, b_targets_of⟩ := U2
  obtain ⟨f_NoBranch, fd_NoBranch, i_NoBranch, t_NoBranch, F_NoBranch, b_NoBranch⟩ := NB.ini
  have G_NoBranch : FnOk P w K mg base CX0 1 f_NoBranch fd_NoBranch ["self", "at"] (spNB C) := ok_NB F_NoBranch NB
  have O_NoBranch := NB.oex
  have m_NoBranch := NB.mC
  have sc := sc_places_on
  refine ⟨f, fd, F.okX sc (fun vs H Q E x => ?_) (fun cdv A outer s h0 vs Q E hr hs => ?_), hm, F.kp, hb⟩
  · obtain ⟨b, G, x, r, _, hA, _⟩ := x
    exact hA.length
  obtain ⟨b, G, x, r, eb, hA, hW, hsm, hx, hrl, kQ, kE⟩ := hs
  refine ⟨_, (pss_cons (ps_set (i := 3) sc.nd rfl (by first | exact Or.inl rfl | exact Or.inr rfl) (pe_lst (pa_cons (pv 1) pa_nil))) (pss_cons (ps_for (passes_of rfl) rfl (pi_enumK (K := K) rfl (by rfl) T.enumerate (pa_cons (pv 2) pa_nil)) (pg_tupK (K := K) (n := 2) rfl rfl (pgs_cons (pg_name (i := 4) sc.nd rfl (by first | exact Or.inl rfl | exact Or.inr rfl)) (pgs_cons (pg_name (i := 5) sc.nd rfl (by first | exact Or.inl rfl | exact Or.inr rfl)) pgs_nil))) (pss_cons (ps_set (i := 6) sc.nd rfl (by first | exact Or.inl rfl | exact Or.inr rfl) (pe_ix (ix_listK (K := K) rfl) (pv 0) (pe_ix (ix_listK (K := K) rfl) (pv 3) (pe_un un_neg pe_int) (fun _ _ => rfl)) (fun _ _ => rfl))) (Evl.pss_cut (ps_if (pt_not (pt_val (pe_call G_has_branch (hr.mono (by decide)) rfl m_has_branch k_has_branch b_has_branch .nil pass0 (pa_cons (pv 6) (pa_cons (pv 5) pa_nil))))) (pss_one (ps_raise rfl (takes_of rfl rfl rfl rfl) (pmk_oex O_NoBranch i_NoBranch t_NoBranch G_NoBranch (hr.mono (by decide)) b_NoBranch .nil pass0 rfl m_NoBranch (pa_cons (pv 4) pa_nil)))) pss_nil) (pss_one (ps_expr (pe_appK (K := K) rfl (pv 3) (pa_cons (pe_ix (ix_listK (K := K) rfl) (pe_call G_targets_of (hr.mono (by decide)) rfl m_targets_of k_targets_of b_targets_of .nil pass0 (pa_cons (pv 6) pa_nil)) (pv 5) (fun _ _ => rfl)) pa_nil))))))) (pss_one (ps_ret (pv 3))))), ?_⟩
  obtain ⟨vG, vR, rfl, hG, hR⟩ : ∃ vG vR, vs = [vG, .int (x : Int), vR] ∧ Dt K b vG (gameD G) ∧ Dt K b vR (intsD r) := by
    cases hA with
    | cons h1 h2 =>
      cases h2 with
      | cons h3 h4 =>
        cases h4 with
        | cons h5 h6 =>
          cases h6
          exact ⟨_, _, by rw [h3.intI], h1, h5⟩
  refine q_asgL (el_lst (ea_cons (ev_var rfl) ea_nil) (by show 1 ≤ 100000; decide)) fun q h1 hq e1 h1q => ?_
  have bq : b q = none := none_of eb hq
  have g1 : Gr b h0 b h1 := Gr.stay eb e1
  obtain ⟨aG, xsG, rfl, kG1, kG2⟩ := hG.listI
  obtain ⟨aR, xs, rfl, kR1, kR2⟩ := hR.listI
  have hxs := kR2.intsI
  subst hxs
  have sqR : ∀ h, Ex b h → SqL K h aR (r.map V.int) := fun h e => sq_of (e _ _ kR1)
  refine ⟨_, rfl, aR, _, rfl, sqR h1 g1.gi, for_it walk_enum (fun i σ' h' => (∃ u v z : Option V, σ' = [some (.ref aG), some (.int (x : Int)), some (.ref aR), some (.ref q), u, v, z]) ∧ OkTo G x r i ∧ Gr b h0 b h' ∧ h' q = some (.lst ((pathF G x (r.take i)).map fun x : Nat => V.int (x : Int)))) ?_ (fun i σ' h' _ p => sqR h' p.2.2.1.gi) ?_ ?_⟩
  · refine ⟨⟨_, _, _, rfl⟩, fun j n hj => absurd hj (Nat.not_lt_zero _), g1, ?_⟩
    rw [List.take_zero]
    exact h1q
  · rintro i y σ' h2 h3 hi ⟨⟨u, v, z, rfl⟩, hok, G2, hq2⟩ ⟨t, va, vb, rfl, nt, rfl, hva, hvb⟩
    rw [List.length_map] at hi
    cases (Option.some.inj hva)
    obtain ⟨n, hn⟩ : ∃ n, r[i]? = some n := ⟨_, List.getElem?_eq_getElem hi⟩
    have hvb' : vb = .int n := by
      have z : (r.map V.int)[i]? = some vb := hvb
      rw [List.getElem?_map, hn] at z
      exact (Option.some.inj z).symm
    subst hvb'
    have G3 := G2.trans (Gr.hid (o := .tup [V.int (i : Nat), V.int n]) G2.gi nt)
    have nqt : q ≠ t := ne_of_none hq2 nt
    have hq3 : (upd h2 t (.tup [V.int (i : Nat), V.int n])) q = some (.lst ((pathF G x (r.take i)).map fun x : Nat => V.int (x : Int))) := by rw [upd_ne nqt]; exact hq2
    refine ⟨t, _, rfl, st_of upd_same, rfl, _, _, rfl, _, _, rfl, rfl, ?_⟩
    have hcl := at_lt hW hx hok (Nat.le_of_lt hi)
    generalize hcur : lastF G x (r.take i) = cur at hcl
    have hp := plAt_get hcl
    obtain ⟨l, hl⟩ := pathF_last G (r.take i) x
    rw [hcur] at hl
    obtain ⟨vp, hvp, hvD⟩ := kG2.get (show (G.map Pl.D)[cur]? = some (plAt G cur).D by rw [List.getElem?_map, hp] <;> rfl)
    have hpb := hsm.2 _ (List.mem_of_getElem? hp)
    have hq3' : (upd h2 t (.tup [V.int (i : Nat), V.int n])) q = some (.lst (l.map (fun x : Nat => V.int (x : Int)) ++ [V.int (cur : Int)])) := by
      rw [hq3, hl, List.map_append]
      rfl
    refine q_asg (v := vp) (ev_op (ev_var rfl) (ev_op (ev_var rfl) (ev_un ev_c ru_neg) (rv_ixL (sq_of hq3') (at_pre _ _))) (rv_ixL (sq_of (G3.gi _ _ kG1)) (atI_nat hvp))) fun h4 e4 => ?_
    have G4 := G3.trans (Gr.stay G3.gi e4)
    have hq4 := e4 _ _ hq3
    refine ⟨fun σ' h' => (∃ u v z : Option V, σ' = [some (.ref aG), some (.int (x : Int)), some (.ref aR), some (.ref q), some (.int (i : Nat)), some (.int n), some vp]) ∧ okB G cur n ∧ Gr b h0 b h' ∧ h' q = some (.lst ((pathF G x (r.take i)).map fun x : Nat => V.int (x : Int))), ?_, ?_⟩
    · refine s_if (H := h4) (b := !decide (0 ≤ n ∧ n < ((plAt G cur).tg.length : Int))) (EvT.mono G4.gi (et_not (et_B (ev_has (eda_cons (ed_var rfl hvD) (eda_cons (ed_int (ev_var rfl)) eda_nil)))))) (fun hc h5 e5 => ?_) (fun hc h5 e5 => ?_)
      · have hbad : ¬ okB G cur n := fun z => by
          rw [decide_eq_true (show 0 ≤ n ∧ n < ((plAt G cur).tg.length : Int) from z)] at hc
          cases hc
        exact nb_made (n := (i : Int)) (ea_cons (ev_var rfl) ea_nil) ((kE i n hn hok (by rw [hcur]; exact hbad)).up (G4.gh.trans e5))
      · have hgood : okB G cur n := by
          by_cases z : okB G cur n
          · exact z
          · rw [decide_eq_false (show ¬ (0 ≤ n ∧ n < ((plAt G cur).tg.length : Int)) from z)] at hc
            cases hc
        exact ⟨⟨none, none, none, rfl⟩, hgood, G4.trans (Gr.stay G4.gi e5), e5 _ _ hq4⟩
    · rintro σ' h5 ⟨⟨_, _, _, rfl⟩, hgood, G5, hq5⟩
      have hst := stepT_lt hW hcl hgood
      have hlt : n.toNat < (plAt G cur).tg.length := by
        have := hgood.1
        have := hgood.2
        omega
      refine s_app (H := h5) hq5 (ev_var rfl) (Ev.mono G5.gi (ev_int (ed_ixL (ed_targets (eda_cons (ed_var rfl hvD) eda_nil) hpb) (ev_var rfl) (at_ints (j := n.toNat) (by have := hgood.1; omega) hlt)))) (by rw [List.length_map, pathF_len, List.length_take]; omega) fun h6 e6 => ?_
      refine ⟨⟨_, _, _, rfl⟩, fun j m hj hm => ?_, (G5.trans (Gr.stay G5.gi e6)).mut hq bq, ?_⟩
      · rcases Nat.lt_or_ge j i with z | z
        · exact hok j m z hm
        · obtain rfl : j = i := by omega
          rw [hn] at hm
          cases hm
          rw [hcur]
          exact hgood
      · rw [upd_same, take_more1 hn, pathF_app, List.map_append, hcur, ← hst.2]
        rfl
  · rintro σ' h' ⟨⟨u, v, z, rfl⟩, hok, G2, hq2⟩
    rw [List.length_map] at hok hq2
    rw [List.take_length] at hq2
    exact ⟨_, rfl, kQ hok _ (upd b q (.lst ((pathF G x r).map fun x : Nat => V.int (x : Int)))) h' (G2.tell hq bq hq2) (Dt.list upd_same (DtA.nats _))⟩

abbrev s_lowest : Stmt := top 8
theorem sc_lowest : FnScope ["n", "d", "common"] ["n", "d"] (defScope s_lowest) := ⟨rfl, rfl, rfl, by decide +kernel, rfl, by decide +kernel, by decide +kernel⟩
theorem has_lowest (m_gcdB : mg "gcd" = some (.builtin "math.gcd")) (D : IsDef K mg "lowest" s_lowest ["n", "d"]) : Has P w K mg base 1 "lowest" ["n", "d"] (spLowest K) := by
  obtain ⟨f, fd, F, hm, hb⟩ := D
  have sc := sc_lowest
  refine ⟨f, fd, F.ok sc (fun vs H Q E x => ?_) (fun cdv A outer s h0 vs Q E hr hs => ?_), hm, F.kp, hb⟩
  · obtain ⟨b, n, d, _, hA, _⟩ := x
    exact hA.length
  obtain ⟨b, n, d, eb, hA, h0', h1', k⟩ := hs
  obtain rfl := hA.i2
  refine ⟨_, (pss_cons (ps_set (i := 2) sc.nd rfl (by first | exact Or.inl rfl | exact Or.inr rfl) (pe_callBfun cr_gcd rfl m_gcdB (pa_cons (pv 0) (pa_cons (pv 1) pa_nil)))) (pss_one (ps_ret (pe_tup (pa_cons (pe_op op_fdivW (pv 0) (pv 2)) (pa_cons (pe_op op_fdivW (pv 1) (pv 2)) pa_nil)))))), ?_⟩
  have hg : 0 < Nat.gcd n.natAbs d.natAbs := Nat.gcd_pos_of_pos_right _ (by omega)
  have hg2 : Nat.gcd n.natAbs d.natAbs < 2 ^ 8000 := Nat.lt_of_le_of_lt (Nat.gcd_le_right _ (by omega)) h1'
  have hw : ∀ z : Int, CDivW z ((Nat.gcd n.natAbs d.natAbs : Nat) : Int) := fun z => wide_div (b := 8000) (by omega) (by simpa using hg2) (by decide) (by decide)
  refine r_sc (rGcd_ev (ev_var rfl) (ev_var rfl)) eb fun h1 g1 => ?_
  refine r_ret (K := K) (d := .tuple [.int (n / ((Nat.gcd n.natAbs d.natAbs : Nat) : Int)), .int (d / ((Nat.gcd n.natAbs d.natAbs : Nat) : Int))]) (ed_tup (eda_cons (ed_int (ev_op (ev_var rfl) (ev_var rfl) (rv_I (hw _)))) (eda_cons (ed_int (ev_op (ev_var rfl) (ev_var rfl) (rv_I (hw _)))) eda_nil)) (by show 2 ≤ 100000; decide)) g1.gi fun v b' h' g hv => ?_
  refine k v b' h' (g1.trans g) ?_
  rw [num_pos h0']
  exact hv

abbrev s_plus : Stmt := top 9
theorem sc_plus : FnScope ["a", "b"] ["a", "b"] (defScope s_plus) := ⟨rfl, rfl, rfl, by decide +kernel, rfl, by decide +kernel, by decide +kernel⟩
theorem has_plus (D : IsDef K mg "plus" s_plus ["a", "b"]) (U : Has P w K mg base 1 "lowest" ["n", "d"] (spLowest K)) : Has P w K mg base 3 "plus" ["a", "b"] (spNum2 K plusN) := by
  obtain ⟨f, fd, F, hm, hb⟩ := D
  obtain ⟨f_lowest, fd_lowest, G_lowest, m_lowest, k_lowest, b_lowest⟩ := U
  have sc := sc_plus
  refine ⟨f, fd, F.ok sc (fun vs H Q E x => ?_) (fun cdv A outer s h0 vs Q E hr hs => ?_), hm, F.kp, hb⟩
  · obtain ⟨b, p, q, _, hA, _⟩ := x
    exact hA.length
  obtain ⟨b, p, q, eb, hA, rp, rq, bp, bq, k⟩ := hs
  refine ⟨_, (pss_one (ps_ret (pe_call G_lowest (hr.mono (by decide)) rfl m_lowest k_lowest b_lowest .nil pass0 (pa_cons (pe_op op_add (pe_op op_mulW (pe_ix (ix_tupK (K := K) rfl) (pv 0) pe_int (fun _ _ => rfl)) (pe_ix (ix_tupK (K := K) rfl) (pv 1) pe_int (fun _ _ => rfl))) (pe_op op_mulW (pe_ix (ix_tupK (K := K) rfl) (pv 1) pe_int (fun _ _ => rfl)) (pe_ix (ix_tupK (K := K) rfl) (pv 0) pe_int (fun _ _ => rfl)))) (pa_cons (pe_op op_mulW (pe_ix (ix_tupK (K := K) rfl) (pv 0) pe_int (fun _ _ => rfl)) (pe_ix (ix_tupK (K := K) rfl) (pv 1) pe_int (fun _ _ => rfl))) pa_nil))))), ?_⟩
  obtain ⟨va, vb, rfl, ha, hb2⟩ : ∃ va vb, vs = [va, vb] ∧ Dt K b va (nD p) ∧ Dt K b vb (nD q) := by
    cases hA with
    | cons h1 h2 =>
      cases h2 with
      | cons h3 h4 =>
        cases h4
        exact ⟨_, _, rfl, h1, h3⟩
  have A0 : ∀ {σ : L2.St}, σ[0]? = some (some va) → Ev (tOp (rIxT K) (tVar 0) (tC (V.int 0))) σ b (.int p.1) := fun s => ev_num0 (ed_var s ha)
  have A1 : ∀ {σ : L2.St}, σ[0]? = some (some va) → Ev (tOp (rIxT K) (tVar 0) (tC (V.int 1))) σ b (.int p.2) := fun s => ev_num1 (ed_var s ha)
  have B0 : ∀ {σ : L2.St}, σ[1]? = some (some vb) → Ev (tOp (rIxT K) (tVar 1) (tC (V.int 0))) σ b (.int q.1) := fun s => ev_num0 (ed_var s hb2)
  have B1 : ∀ {σ : L2.St}, σ[1]? = some (some vb) → Ev (tOp (rIxT K) (tVar 1) (tC (V.int 1))) σ b (.int q.2) := fun s => ev_num1 (ed_var s hb2)
  have w2000 : ∀ {z : Int}, z.natAbs < 2 ^ 900 → z.natAbs < 2 ^ 2000 := fun h => Nat.lt_of_lt_of_le h (Nat.pow_le_pow_right (by decide) (by decide))
  have p1 := w2000 bp.1
  have p2 := w2000 bp.2
  have q1 := w2000 bq.1
  have q2 := w2000 bq.2
  have hpos := mul_pos' rp.1 rq.1
  have hr2 := big_plus_raw bp bq
  refine r_ret (K := K) (d := nD (plusN p q)) (ed_lowest (ev_op (ev_op (A0 rfl) (B1 rfl) (rv_I (cmulW p1 q2))) (ev_op (B0 rfl) (A1 rfl) (rv_I (cmulW q1 p2))) rv_I0) (ev_op (A1 rfl) (B1 rfl) (rv_I (cmulW p2 q2))) hpos (Nat.lt_of_lt_of_le hr2.2 (Nat.pow_le_pow_right (by decide) (by decide)))) eb fun v b' h' g hv => k v b' h' g hv

abbrev s_total : Stmt := top 11
theorem sc_total : FnScope ["numbers", "found", "number"] ["numbers"] (defScope s_total) := ⟨rfl, rfl, rfl, by decide +kernel, rfl, by decide +kernel, by decide +kernel⟩
theorem has_total (C1 : ConstT K mg "ZERO" (nD (0, 1))) (D : IsDef K mg "total" s_total ["numbers"]) (U : Has P w K mg base 3 "plus" ["a", "b"] (spNum2 K plusN)) : Has P w K mg base 4 "total" ["numbers"] (spTotal K) := by
  obtain ⟨f, fd, F, hm, hb⟩ := D
  obtain ⟨a_ZERO, m_ZERO, d_ZERO⟩ := C1
  obtain ⟨f_plus, fd_plus, G_plus, m_plus, k_plus, b_plus⟩ := U
  have sc := sc_total
  refine ⟨f, fd, F.ok sc (fun vs H Q E x => ?_) (fun cdv A outer s h0 vs Q E hr hs => ?_), hm, F.kp, hb⟩
  · obtain ⟨b, l, _, hA, _⟩ := x
    exact hA.length
  obtain ⟨b, l, eb, hA, hl, k⟩ := hs
  refine ⟨_, (pss_cons (ps_set (i := 1) sc.nd rfl (by first | exact Or.inl rfl | exact Or.inr rfl) (pe_glob (v := .ref a_ZERO) rfl m_ZERO rfl)) (pss_cons (ps_for PassesOwn.never rfl (pi_listK (K := K) rfl (pv 0)) (pg_name (i := 2) sc.nd rfl (by first | exact Or.inl rfl | exact Or.inr rfl)) (pss_one (ps_set (i := 1) sc.nd rfl (by first | exact Or.inl rfl | exact Or.inr rfl) (pe_call G_plus (hr.mono (by decide)) rfl m_plus k_plus b_plus .nil pass0 (pa_cons (pv 1) (pa_cons (pv 2) pa_nil)))))) (pss_one (ps_ret (pv 1))))), ?_⟩
  obtain ⟨vL, rfl, hL⟩ : ∃ vL, vs = [vL] ∧ Dt K b vL (numsD l) := by
    cases hA with
    | cons h1 h2 =>
      cases h2
      exact ⟨_, rfl, h1⟩
  refine r_set (K := K) (d := nD (0, 1)) (ed_val (d := nD (0, 1)) (d_ZERO _) ev_c) eb fun v1 b1 h1 g1 hv1 => ?_
  obtain ⟨aL, xs, rfl, k1, k2⟩ := (hL.up g1.gb).listI
  refine ⟨_, rfl, aL, rfl, ⟨xs, sq_of (g1.gi _ _ k1)⟩, for_list (xs := xs) (fun i σ' h' => ∃ (v : V) (u : Option V) (b' : Hp), σ' = [some (.ref aL), some v, u] ∧ Gr b1 h1 b' h' ∧ Dt K b' v (nD (sumN (l.take i)))) ?_ (fun i σ' h' _ p => ?_) ?_ ?_⟩
  · exact ⟨v1, none, b1, rfl, Gr.refl g1.gi, by rw [List.take_zero]; exact hv1⟩
  · obtain ⟨_, _, b', _, g, _⟩ := p
    exact sq_of (g.gi _ _ (g.gb _ _ k1))
  · rintro i y σ' h2 hi ⟨v, u, b2, rfl, g2, hv⟩
    obtain ⟨dd, hdd, hy⟩ := k2.getV hi
    obtain ⟨p, hp, rfl⟩ : ∃ p, l[i]? = some p ∧ dd = nD p := by
      rw [List.getElem?_map] at hdd
      cases z : l[i]? with
      | none => rw [z] at hdd; cases hdd
      | some p => rw [z] at hdd; cases hdd; exact ⟨p, rfl, rfl⟩
    have hil : i < l.length := (List.getElem?_eq_some_iff.mp hp).1
    have hsum := sumN_ok hl.2 i (Nat.le_of_lt hil)
    have hpp := hl.2 p (List.mem_of_getElem? hp)
    have h60 := hl.1
    refine r_set1 (K := K) (d := nD (plusN (sumN (l.take i)) p)) (ed_num2 (eda_cons (ed_var rfl hv) (eda_cons (ed_var rfl (hy.up g2.gb)) eda_nil)) hsum.1 hpp.1 (hsum.2.mono (by omega)) (hpp.2.mono (by decide))) g2.gi fun v3 b3 h3 g3 hv3 => ?_
    exact ⟨v3, _, b3, rfl, g2.trans g3, by rw [sumN_take hp]; exact hv3⟩
  · rintro σ' h' ⟨v, u, b2, rfl, g2, hv⟩
    have hxl : xs.length = l.length := by rw [k2.length, List.length_map]
    rw [hxl, List.take_length] at hv
    exact ⟨v, rfl, k v b2 h' (g1.trans g2) hv⟩

abbrev s_sum_of : Stmt := top 17
theorem sc_sum_of : FnScope ["game", "start", "branches", "places", "x"] ["game", "start", "branches"] (defScope s_sum_of) := ⟨rfl, rfl, rfl, by decide +kernel, rfl, by decide +kernel, by decide +kernel⟩
theorem has_sum_of {C : Addr} (D : IsDef K mg "sum_of" s_sum_of ["game", "start", "branches"]) (U1 : HasX P w K mg base 3 "places_on" ["game", "start", "branches"] (spPlaces K C)) (U2 : Has P w K mg base 4 "total" ["numbers"] (spTotal K)) :
    HasX P w K mg base 5 "sum_of" ["game", "start", "branches"] (spOnWay K C sumD) := by
  obtain ⟨f, fd, F, hm, hb⟩ := D
  obtain ⟨f_places_on, fd_places_on, G_places_on, m_places_on, k_places_on, b_places_on⟩ := U1
  obtain ⟨f_total, fd_total, G_total, m_total, k_total, b_total⟩ := U2
  have sc := sc_sum_of
  refine ⟨f, fd, F.okX sc (fun vs H Q E x => ?_) (fun cdv A outer s h0 vs Q E hr hs => ?_), hm, F.kp, hb⟩
  · obtain ⟨b, G, x, r, _, hA, _⟩ := x
    exact hA.length
  obtain ⟨b, G, x, r, eb, hA, hWG, hx, hrl, kQ, kE⟩ := hs
  have hW := wfT_of hWG
  have hsm := smG_of (wf_okG hWG)
  refine ⟨_, (pss_cons (ps_set (i := 3) sc.nd rfl (by first | exact Or.inl rfl | exact Or.inr rfl) (pe_call G_places_on (hr.mono (by decide)) rfl m_places_on k_places_on b_places_on .nil (by exact passes_call (takes_of (E := E) rfl rfl rfl rfl) (fun _ _ _ _ h => h)) (pa_cons (pv 0) (pa_cons (pv 1) (pa_cons (pv 2) pa_nil))))) (pss_one (ps_ret (pe_call G_total (hr.mono (by decide)) rfl m_total k_total b_total .nil pass0 (pa_cons (pe_lc (own := [("x", 4)]) (tt := tYes) rfl sc.nd (pi_listK (K := K) rfl (pe_slice (sl_listK (K := K) rfl) (pv 3) po_none (po_some (pe_un un_neg pe_int)))) (blkOk_by (N := ["game", "start", "branches", "places", "x"]) (sc := defScope s_sum_of) (by decide +kernel)) (fun _ _ _ _ _ => (pg_name (i := 4) sc.nd rfl (by first | exact Or.inl rfl | exact Or.inr rfl))) (fun _ _ _ _ _ => pts_nil) (fun _ _ _ _ _ => (pe_ix (ix_tupK (K := K) rfl) (pe_ix (ix_listK (K := K) rfl) (pv 0) (pv 4) (fun _ _ => rfl)) pe_int (fun _ _ => rfl)))) pa_nil))))), ?_⟩
  obtain ⟨vG, vR, rfl, hG, hR⟩ : ∃ vG vR, vs = [vG, .int (x : Int), vR] ∧ Dt K b vG (gameD G) ∧ Dt K b vR (intsD r) := by
    cases hA with
    | cons h1 h2 =>
      cases h2 with
      | cons h3 h4 =>
        cases h4 with
        | cons h5 h6 =>
          cases h6
          exact ⟨_, _, by rw [h3.intI], h1, h5⟩
  refine r_call (K := K) (eda_cons (ed_var rfl hG) (eda_cons (ed_int (ev_var rfl)) (eda_cons (ed_var rfl hR) eda_nil))) eb fun us b1 h1 g1 hA1 => ?_
  refine ⟨b1, G, x, r, g1.gi, hA1, hW, hsm, hx, by omega, fun hok v b2 h2 g2 hv => ?_, fun j n hj ho hb => (kE j n hj ho hb).up g1.gh⟩
  have G2 := g1.trans g2
  refine r_ret (K := K) (d := sumD G x r) (ed_total (eda_cons (ed_gains hW hx hok (by omega) (ed_var rfl hv) (fun v b3 e3 => ed_var rfl (hG.up (G2.gb.trans e3))) (fun _ => rfl) (fun _ => rfl)) eda_nil) (gains_ok hWG hx hok hrl)) G2.gi fun v3 b3 h3 g3 hv3 => kQ hok v3 b3 h3 (G2.trans g3) hv3

abbrev s_divided : Stmt := top 10
theorem sc_divided : FnScope ["a", "b"] ["a", "b"] (defScope s_divided) := ⟨rfl, rfl, rfl, by decide +kernel, rfl, by decide +kernel, by decide +kernel⟩
theorem has_divided (D : IsDef K mg "divided" s_divided ["a", "b"]) (U : Has P w K mg base 1 "lowest" ["n", "d"] (spLowest K)) : Has P w K mg base 2 "divided" ["a", "b"] (spDiv K) := by
  obtain ⟨f, fd, F, hm, hb⟩ := D
  obtain ⟨f_lowest, fd_lowest, G_lowest, m_lowest, k_lowest, b_lowest⟩ := U
  have sc := sc_divided
  refine ⟨f, fd, F.ok sc (fun vs H Q E x => ?_) (fun cdv A outer s h0 vs Q E hr hs => ?_), hm, F.kp, hb⟩
  · obtain ⟨b, p, q, _, hA, _⟩ := x
    exact hA.length
  obtain ⟨b, p, q, eb, hA, rp, rq, q0, bp, bq, k⟩ := hs
  refine ⟨_, (pss_one (ps_ret (pe_call G_lowest (hr.mono (by decide)) rfl m_lowest k_lowest b_lowest .nil pass0 (pa_cons (pe_op op_mulW (pe_ix (ix_tupK (K := K) rfl) (pv 0) pe_int (fun _ _ => rfl)) (pe_ix (ix_tupK (K := K) rfl) (pv 1) pe_int (fun _ _ => rfl))) (pa_cons (pe_op op_mulW (pe_ix (ix_tupK (K := K) rfl) (pv 0) pe_int (fun _ _ => rfl)) (pe_ix (ix_tupK (K := K) rfl) (pv 1) pe_int (fun _ _ => rfl))) pa_nil))))), ?_⟩
  obtain ⟨va, vb, rfl, ha, hb2⟩ : ∃ va vb, vs = [va, vb] ∧ Dt K b va (nD p) ∧ Dt K b vb (nD q) := by
    cases hA with
    | cons h1 h2 =>
      cases h2 with
      | cons h3 h4 =>
        cases h4
        exact ⟨_, _, rfl, h1, h3⟩
  have A0 : ∀ {σ : L2.St}, σ[0]? = some (some va) → Ev (tOp (rIxT K) (tVar 0) (tC (V.int 0))) σ b (.int p.1) := fun s => ev_num0 (ed_var s ha)
  have A1 : ∀ {σ : L2.St}, σ[0]? = some (some va) → Ev (tOp (rIxT K) (tVar 0) (tC (V.int 1))) σ b (.int p.2) := fun s => ev_num1 (ed_var s ha)
  have B0 : ∀ {σ : L2.St}, σ[1]? = some (some vb) → Ev (tOp (rIxT K) (tVar 1) (tC (V.int 0))) σ b (.int q.1) := fun s => ev_num0 (ed_var s hb2)
  have B1 : ∀ {σ : L2.St}, σ[1]? = some (some vb) → Ev (tOp (rIxT K) (tVar 1) (tC (V.int 1))) σ b (.int q.2) := fun s => ev_num1 (ed_var s hb2)
  have w2000 : ∀ {z : Int}, z.natAbs < 2 ^ 900 → z.natAbs < 2 ^ 2000 := fun h => Nat.lt_of_lt_of_le h (Nat.pow_le_pow_right (by decide) (by decide))
  have hpos : 0 < p.2 * q.1 := Int.mul_pos (by have := rp.1; omega) q0
  have hlt : (p.2 * q.1).natAbs < 2 ^ (900 + 900) := by rw [Int.natAbs_mul]; exact pow_mul_lt bp.2 bq.1
  refine r_ret (K := K) (d := nD (divN p q)) (ed_lowest (ev_op (A0 rfl) (B1 rfl) (rv_I (cmulW (w2000 bp.1) (w2000 bq.2)))) (ev_op (A1 rfl) (B0 rfl) (rv_I (cmulW (w2000 bp.2) (w2000 bq.1)))) hpos (Nat.lt_of_lt_of_le hlt (Nat.pow_le_pow_right (by decide) (by decide)))) eb fun v b' h' g hv => k v b' h' g hv

abbrev s_gain_per_step : Stmt := top 18
theorem sc_gain_per_step : FnScope ["game", "start", "beginning", "circle", "places", "turn"] ["game", "start", "beginning", "circle"] (defScope s_gain_per_step) := ⟨rfl, rfl, rfl, by decide +kernel, rfl, by decide +kernel, by decide +kernel⟩
theorem has_gain {C N : Addr} (T : Bt mg) (NC : NCs K mg N C) (D : IsDef K mg "gain_per_step" s_gain_per_step ["game", "start", "beginning", "circle"]) (U1 : HasX P w K mg base 3 "places_on" ["game", "start", "branches"] (spPlaces K C)) (U2 : HasX P w K mg base 5 "sum_of" ["game", "start", "branches"] (spOnWay K C sumD))
    (U3 : Has P w K mg base 2 "divided" ["a", "b"] (spDiv K)) : HasX P w K mg base 6 "gain_per_step" ["game", "start", "beginning", "circle"] (spGain K C N) := by
  obtain ⟨f, fd, F, hm, hb⟩ := D
  obtain ⟨f_places_on, fd_places_on, G_places_on, m_places_on, k_places_on, b_places_on⟩ := U1
  obtain ⟨f_sum_of, fd_sum_of, G_sum_of, m_sum_of, k_sum_of, b_sum_of⟩ := U2
  obtain ⟨f_divided, fd_divided, G_divided, m_divided, k_divided, b_divided⟩ := U3
  have sc := sc_gain_per_step
  refine ⟨f, fd, F.okX sc (fun vs H Q E x => ?_) (fun cdv A outer s h0 vs Q E hr hs => ?_), hm, F.kp, hb⟩
  · obtain ⟨b, G, x, r, s, _, hA, _⟩ := x
    exact hA.length
  obtain ⟨b, G, x, r, s, eb, hA, hWG, hx, hrl, kQ, kC, kE⟩ := hs
  have hW := wfT_of hWG
  have hsm := smG_of (wf_okG hWG)
  refine ⟨_, (pss_cons (ps_set (i := 4) sc.nd rfl (by first | exact Or.inl rfl | exact Or.inr rfl) (pe_call G_places_on (hr.mono (by decide)) rfl m_places_on k_places_on b_places_on .nil (by exact passes_call (takes_of (E := E) rfl rfl rfl rfl) (fun _ _ _ _ h => h)) (pa_cons (pv 0) (pa_cons (pv 1) (pa_cons (pe_op op_cat (pv 2) (pv 3)) pa_nil))))) (pss_cons (ps_set (i := 5) sc.nd rfl (by first | exact Or.inl rfl | exact Or.inr rfl) (pe_ix (ix_listK (K := K) rfl) (pv 4) (pe_callB (len_K (K := K) rfl) (by rfl) T.len PySem.boot_len (pa_cons (pv 2) pa_nil)) (fun _ _ => rfl))) (pss_cons (ps_if (PW.pt (pw_or (pt_not (pt_tru (K := K) rfl (pv 3))) (pw_or1 (pt_cmpR op_ne (pe_ix (ix_listK (K := K) rfl) (pv 4) (pe_un un_neg pe_int) (fun _ _ => rfl)) (pv 5) (nomark _))))) (pss_one (ps_raise rfl (takes_of rfl rfl rfl rfl) (pmk_own0 PySem.F.excBase_ValueError NC.ex NC.mN NC.kp (raises_own NC.sb NC.ty) rfl))) pss_nil) (pss_one (ps_ret (pe_call G_divided (hr.mono (by decide)) rfl m_divided k_divided b_divided .nil pass0 (pa_cons (pe_call G_sum_of (hr.mono (by decide)) rfl m_sum_of k_sum_of b_sum_of .nil (by exact passes_call (takes_of (E := E) rfl rfl rfl rfl) (fun _ _ _ _ h => h)) (pa_cons (pv 0) (pa_cons (pv 5) (pa_cons (pv 3) pa_nil)))) (pa_cons (pe_tup (pa_cons (pe_callB (len_K (K := K) rfl) (by rfl) T.len PySem.boot_len (pa_cons (pv 3) pa_nil)) (pa_cons pe_int pa_nil))) pa_nil)))))))), ?_⟩
  obtain ⟨vG, vR, vS, rfl, hG, hR, hS⟩ : ∃ vG vR vS, vs = [vG, .int (x : Int), vR, vS] ∧ Dt K b vG (gameD G) ∧ Dt K b vR (intsD r) ∧ Dt K b vS (intsD s) := by
    cases hA with
    | cons h1 hA =>
      cases hA with
      | cons h2 hA =>
        cases hA with
        | cons h3 hA =>
          cases hA with
          | cons h4 hA =>
            cases hA
            exact ⟨_, _, _, by rw [h2.intI], h1, h3, h4⟩
  have hcat : ED K (tOp rCat (tVar 2) (tVar 3)) (start ["game", "start", "beginning", "circle", "places", "turn"] [vG, V.int (x : Int), vR, vS]) b (intsD (r ++ s)) := by
    unfold intsD
    rw [List.map_append]
    exact EN.ed (en_cat (ed_var rfl hR) (ed_var rfl hS) (by rw [List.length_map, List.length_map]; omega))
  refine r_call (K := K) (eda_cons (ed_var rfl hG) (eda_cons (ed_int (ev_var rfl)) (eda_cons hcat eda_nil))) eb fun us b1 h1 g1 hA1 => ?_
  refine ⟨b1, G, x, r ++ s, g1.gi, hA1, hW, hsm, hx, by rw [List.length_append]; omega, fun hok v b2 h2 g2 hv => ?_, fun j n hj ho hb => (kE j ⟨n, hj, ho, hb⟩).up g1.gh⟩
  have hoA := okA_of hok
  have G2 := g1.trans g2
  have hR2 := hR.up G2.gb
  have hS2 := hS.up G2.gb
  refine r_sc (b := b2) (v := .int ((lastF G x r : Nat) : Int)) (ev_int (ed_ixL (ed_var rfl hv) (ev_lenL (ed_var rfl hR2)) (nats_at (j := r.length) (by rw [List.length_map]) (path_at r s)))) G2.gi fun h3 g3 => ?_
  have G3 := G2.trans g3
  obtain ⟨hb1, hbc⟩ := okA_append.mp hoA
  have hyl := lastA_lt hW hx hb1
  refine r_if (b := b2) (c := (!(!(s.map PyData.int).isEmpty)) || !decide (V.int ((lastF G x (r ++ s) : Nat) : Int) = V.int ((lastF G x r : Nat) : Int))) (et_or (et_not (et_tru (ed_var rfl hS2))) fun _ => et_test (ev_op (ev_int (ed_ixL (ed_var rfl hv) (ev_un ev_c ru_neg) (path_last (r ++ s)))) (ev_var rfl) (rv_ne rfl))) G3.gi (fun hc h4 g4 => ?_) (fun hc h4 g4 => ?_)
  · refine kC ⟨hoA, ?_⟩ h4 (G3.trans g4).gh
    rw [Bool.or_eq_true] at hc
    rcases hc with z | z
    · left
      cases s with
      | nil => rfl
      | cons a l => cases z
    · right
      intro e
      rw [e] at z
      simp at z
  · rw [Bool.or_eq_false_iff] at hc
    have hs0 : s ≠ [] := fun z => by
      rw [z] at hc
      exact absurd hc.1 (by decide)
    have hcy : lastF G x (r ++ s) = lastF G x r := by
      have := of_decide_eq_true (show decide (V.int ((lastF G x (r ++ s) : Nat) : Int) = V.int ((lastF G x r : Nat) : Int)) = true by
        have z := hc.2
        rw [Bool.not_eq_false'] at z
        exact z)
      injection this with this
      omega
    have G4 := G3.trans g4
    have hgl := gains_ok hWG hyl (okTo_of hbc) (by omega)
    have hsum := sumN_ok hgl.2 (gainsF G (lastF G x r) s).length (Nat.le_refl _)
    rw [List.take_length] at hsum
    have hg60 := hgl.1
    have hd : nD (gainAns G (lastF G x r) s) = nD (divN (sumN (gainsF G (lastF G x r) s)) ((s.length : Int), 1)) := rfl
    have hb10 : Big 900 ((s.length : Int), 1) := ⟨Nat.lt_of_lt_of_le (show ((s.length : Int)).natAbs < 2 ^ 10 by show _ < 1024; omega) (Nat.pow_le_pow_right (by decide) (by decide)), Nat.lt_of_lt_of_le (show (1 : Int).natAbs < 2 ^ 10 by decide) (Nat.pow_le_pow_right (by decide) (by decide))⟩
    have hlen : ∀ {σ : L2.St}, σ[3]? = some (some vS) → Ev (tCB (rLenS K) (tCons (tVar 3) tNil)) σ b2 (.int (s.length : Int)) := fun {σ} z => by
      have := ev_lenL (K := K) (ed_var (σ := σ) z hS2)
      rwa [List.length_map] at this
    refine r_ret (K := K) (d := nD (divN (sumN (gainsF G (lastF G x r) s)) ((s.length : Int), 1))) (ed_div (eda_cons (ed_wayV (C := C) (F := sumD) (eda_cons (ed_var rfl (hG.up G2.gb)) (eda_cons (ed_int (ev_var rfl)) (eda_cons (ed_var rfl hS2) eda_nil))) hWG hyl (by omega) (okTo_of hbc)) (eda_cons (ed_tup (eda_cons (ed_int (hlen rfl)) (eda_cons (ed_int ev_c) eda_nil)) (by show 2 ≤ 100000; decide)) eda_nil)) hsum.1 (len_red _) (len_pos hs0) (hsum.2.mono (by omega)) hb10) G4.gi fun v5 b5 h5 g5 hv5 => kQ hoA hs0 hcy v5 b5 h5 (G4.trans g5) hv5

abbrev s_plus_ : Stmt := top 23
theorem sc_plus_ : FnScope ["a", "b"] ["a", "b"] (defScope s_plus_) := ⟨rfl, rfl, rfl, by decide +kernel, rfl, by decide +kernel, by decide +kernel⟩
theorem has_plus_ (D : IsDef K mg "_law_plus" s_plus_ ["a", "b"]) (U : Has P w K mg base 2 "_law_number" ["n", "d"] (spNumber K)) : Has P w K mg base 3 "_law_plus" ["a", "b"] (spNum2 K plusN) := by
  obtain ⟨f, fd, F, hm, hb⟩ := D
  obtain ⟨f_number, fd_number, G_number, m_number, k_number, b_number⟩ := U
  have sc := sc_plus_
  refine ⟨f, fd, F.ok sc (fun vs H Q E x => ?_) (fun cdv A outer s h0 vs Q E hr hs => ?_), hm, F.kp, hb⟩
  · obtain ⟨b, p, q, _, hA, _⟩ := x
    exact hA.length
  obtain ⟨b, p, q, eb, hA, rp, rq, bp, bq, k⟩ := hs
  refine ⟨_, (pss_one (ps_ret (pe_call G_number (hr.mono (by decide)) rfl m_number k_number b_number .nil pass0 (pa_cons (pe_op op_add (pe_op op_mulW (pe_ix (ix_tupK (K := K) rfl) (pv 0) pe_int (fun _ _ => rfl)) (pe_ix (ix_tupK (K := K) rfl) (pv 1) pe_int (fun _ _ => rfl))) (pe_op op_mulW (pe_ix (ix_tupK (K := K) rfl) (pv 1) pe_int (fun _ _ => rfl)) (pe_ix (ix_tupK (K := K) rfl) (pv 0) pe_int (fun _ _ => rfl)))) (pa_cons (pe_op op_mulW (pe_ix (ix_tupK (K := K) rfl) (pv 0) pe_int (fun _ _ => rfl)) (pe_ix (ix_tupK (K := K) rfl) (pv 1) pe_int (fun _ _ => rfl))) pa_nil))))), ?_⟩
  obtain ⟨va, vb, rfl, ha, hb2⟩ : ∃ va vb, vs = [va, vb] ∧ Dt K b va (nD p) ∧ Dt K b vb (nD q) := by
    cases hA with
    | cons h1 h2 =>
      cases h2 with
      | cons h3 h4 =>
        cases h4
        exact ⟨_, _, rfl, h1, h3⟩
  have A0 : ∀ {σ : L2.St}, σ[0]? = some (some va) → Ev (tOp (rIxT K) (tVar 0) (tC (V.int 0))) σ b (.int p.1) := fun s => ev_num0 (ed_var s ha)
  have A1 : ∀ {σ : L2.St}, σ[0]? = some (some va) → Ev (tOp (rIxT K) (tVar 0) (tC (V.int 1))) σ b (.int p.2) := fun s => ev_num1 (ed_var s ha)
  have B0 : ∀ {σ : L2.St}, σ[1]? = some (some vb) → Ev (tOp (rIxT K) (tVar 1) (tC (V.int 0))) σ b (.int q.1) := fun s => ev_num0 (ed_var s hb2)
  have B1 : ∀ {σ : L2.St}, σ[1]? = some (some vb) → Ev (tOp (rIxT K) (tVar 1) (tC (V.int 1))) σ b (.int q.2) := fun s => ev_num1 (ed_var s hb2)
  have w2000 : ∀ {z : Int}, z.natAbs < 2 ^ 900 → z.natAbs < 2 ^ 2000 := fun h => Nat.lt_of_lt_of_le h (Nat.pow_le_pow_right (by decide) (by decide))
  have p1 := w2000 bp.1
  have p2 := w2000 bp.2
  have q1 := w2000 bq.1
  have q2 := w2000 bq.2
  have hpos := mul_pos' rp.1 rq.1
  have hr2 := big_plus_raw bp bq
  refine r_ret (K := K) (d := nD (plusN p q)) (ed_call (eda_cons (ed_int (ev_op (ev_op (A0 rfl) (B1 rfl) (rv_I (cmulW p1 q2))) (ev_op (B0 rfl) (A1 rfl) (rv_I (cmulW q1 p2))) rv_I0)) (eda_cons (ed_int (ev_op (A1 rfl) (B1 rfl) (rv_I (cmulW p2 q2)))) eda_nil)) rfl ⟨_, _, rfl, by omega, Nat.lt_of_lt_of_le hr2.1 (Nat.pow_le_pow_right (by decide) (by decide)), Nat.lt_of_lt_of_le hr2.2 (Nat.pow_le_pow_right (by decide) (by decide))⟩ fun e he => he _ _ rfl) eb fun v b' h' g hv => k v b' h' g hv

abbrev s_total_ : Stmt := top 25
theorem sc_total_ : FnScope ["numbers", "found", "one"] ["numbers"] (defScope s_total_) := ⟨rfl, rfl, rfl, by decide +kernel, rfl, by decide +kernel, by decide +kernel⟩
theorem has_total_ (D : IsDef K mg "_law_total" s_total_ ["numbers"]) (U : Has P w K mg base 3 "_law_plus" ["a", "b"] (spNum2 K plusN)) : Has P w K mg base 4 "_law_total" ["numbers"] (spTotal K) := by
  obtain ⟨f, fd, F, hm, hb⟩ := D
  obtain ⟨f_plus, fd_plus, G_plus, m_plus, k_plus, b_plus⟩ := U
  have sc := sc_total_
  refine ⟨f, fd, F.ok sc (fun vs H Q E x => ?_) (fun cdv A outer s h0 vs Q E hr hs => ?_), hm, F.kp, hb⟩
  · obtain ⟨b, l, _, hA, _⟩ := x
    exact hA.length
  obtain ⟨b, l, eb, hA, hl, k⟩ := hs
  refine ⟨_, (pss_cons (ps_set (i := 1) sc.nd rfl (by first | exact Or.inl rfl | exact Or.inr rfl) (pe_tup (pa_cons pe_int (pa_cons pe_int pa_nil)))) (pss_cons (ps_for PassesOwn.never rfl (pi_listK (K := K) rfl (pv 0)) (pg_name (i := 2) sc.nd rfl (by first | exact Or.inl rfl | exact Or.inr rfl)) (pss_one (ps_set (i := 1) sc.nd rfl (by first | exact Or.inl rfl | exact Or.inr rfl) (pe_call G_plus (hr.mono (by decide)) rfl m_plus k_plus b_plus .nil pass0 (pa_cons (pv 1) (pa_cons (pv 2) pa_nil)))))) (pss_one (ps_ret (pv 1))))), ?_⟩
  obtain ⟨vL, rfl, hL⟩ : ∃ vL, vs = [vL] ∧ Dt K b vL (numsD l) := by
    cases hA with
    | cons h1 h2 =>
      cases h2
      exact ⟨_, rfl, h1⟩
  refine r_set (K := K) (d := nD (0, 1)) (ed_tup (eda_cons (ed_int ev_c) (eda_cons (ed_int ev_c) eda_nil)) (by show 2 ≤ 100000; decide)) eb fun v1 b1 h1 g1 hv1 => ?_
  obtain ⟨aL, xs, rfl, k1, k2⟩ := (hL.up g1.gb).listI
  refine ⟨_, rfl, aL, rfl, ⟨xs, sq_of (g1.gi _ _ k1)⟩, for_list (xs := xs) (fun i σ' h' => ∃ (v : V) (u : Option V) (b' : Hp), σ' = [some (.ref aL), some v, u] ∧ Gr b1 h1 b' h' ∧ Dt K b' v (nD (sumN (l.take i)))) ?_ (fun i σ' h' _ p => ?_) ?_ ?_⟩
  · exact ⟨v1, none, b1, rfl, Gr.refl g1.gi, by rw [List.take_zero]; exact hv1⟩
  · obtain ⟨_, _, b', _, g, _⟩ := p
    exact sq_of (g.gi _ _ (g.gb _ _ k1))
  · rintro i y σ' h2 hi ⟨v, u, b2, rfl, g2, hv⟩
    obtain ⟨dd, hdd, hy⟩ := k2.getV hi
    obtain ⟨p, hp, rfl⟩ : ∃ p, l[i]? = some p ∧ dd = nD p := by
      rw [List.getElem?_map] at hdd
      cases z : l[i]? with
      | none => rw [z] at hdd; cases hdd
      | some p => rw [z] at hdd; cases hdd; exact ⟨p, rfl, rfl⟩
    have hil : i < l.length := (List.getElem?_eq_some_iff.mp hp).1
    have hsum := sumN_ok hl.2 i (Nat.le_of_lt hil)
    have hpp := hl.2 p (List.mem_of_getElem? hp)
    have h60 := hl.1
    refine r_set1 (K := K) (d := nD (plusN (sumN (l.take i)) p)) (ed_num2 (eda_cons (ed_var rfl hv) (eda_cons (ed_var rfl (hy.up g2.gb)) eda_nil)) hsum.1 hpp.1 (hsum.2.mono (by omega)) (hpp.2.mono (by decide))) g2.gi fun v3 b3 h3 g3 hv3 => ?_
    exact ⟨v3, _, b3, rfl, g2.trans g3, by rw [sumN_take hp]; exact hv3⟩
  · rintro σ' h' ⟨v, u, b2, rfl, g2, hv⟩
    have hxl : xs.length = l.length := by rw [k2.length, List.length_map]
    rw [hxl, List.take_length] at hv
    exact ⟨v, rfl, k v b2 h' (g1.trans g2) hv⟩

abbrev s_targets : Stmt := top 28
theorem sc_targets : FnScope ["place", "chance", "target"] ["place"] (defScope s_targets) := ⟨rfl, rfl, rfl, by decide +kernel, rfl, by decide +kernel, by decide +kernel⟩
theorem has_targets (T : Bt mg) (D : IsDef K mg "_law_targets" s_targets ["place"]) : Has P w K mg base 1 "_law_targets" ["place"] (spTargets K) := by
  obtain ⟨f, fd, F, hm, hb⟩ := D
  have sc := sc_targets
  refine ⟨f, fd, F.ok sc (fun vs H Q E x => ?_) (fun cdv A outer s h0 vs Q E hr hs => ?_), hm, F.kp, hb⟩
  · obtain ⟨b, p, _, hA, _⟩ := x
    exact hA.length
  obtain ⟨b, p, eb, hA, hl, k⟩ := hs
  refine ⟨_, (pss_cons (ps_if (pt_cmpR op_eq (pe_ix (ix_tupK (K := K) rfl) (pv 0) pe_int (fun _ _ => rfl)) pe_str (nomark _)) (pss_one (ps_ret (pe_lc (own := [("chance", 1), ("target", 2)]) (tt := tYes) rfl sc.nd (pi_listK (K := K) rfl (pe_ix (ix_tupK (K := K) rfl) (pv 0) pe_int (fun _ _ => rfl))) (blkOk_by (N := ["place", "chance", "target"]) (sc := defScope s_targets) (by decide +kernel)) (fun _ _ _ _ _ => (pg_tupK (K := K) (n := 2) rfl rfl (pgs_cons (pg_name (i := 1) sc.nd rfl (by first | exact Or.inl rfl | exact Or.inr rfl)) (pgs_cons (pg_name (i := 2) sc.nd rfl (by first | exact Or.inl rfl | exact Or.inr rfl)) pgs_nil)))) (fun _ _ _ _ _ => pts_nil) (fun _ _ _ _ _ => (pv 2))))) pss_nil) (pss_one (ps_ret (pe_callTy (list_K (K := K) rfl) (by rfl) T.list (by decide +kernel) (pa_cons (pe_ix (ix_tupK (K := K) rfl) (pv 0) pe_int (fun _ _ => rfl)) pa_nil))))), ?_⟩
  obtain ⟨vP, rfl, hP⟩ : ∃ vP, vs = [vP] ∧ Dt K b vP p.D := by
    cases hA with
    | cons h1 h2 =>
      cases h2
      exact ⟨_, rfl, h1⟩
  refine r_if (b := b) (c := decide (V.str p.kind = V.str "draw")) (et_test (ev_op (ev_str (ed_ixT (ed_var rfl hP) ev_c (by rfl))) ev_c (rv_eq rfl))) eb (fun hc h4 g4 => ?_) (fun hc h4 g4 => ?_)
  · have hk : p.kind = "draw" := by
      have := of_decide_eq_true hc
      injection this
    obtain ⟨g, bs, rfl⟩ := kind_is_draw hk
    refine r_ret (K := K) (d := intsD (Pl.draw g bs).tg) ?_ g4.gi fun v b' h' g5 hv => k v b' h' (g4.trans g5) hv
    exact ed_lcTg (ed_ixT (ed_var rfl hP) ev_c (by rfl)) hl (fun _ _ => rfl)
  · have hk : ¬ p.kind = "draw" := fun z => of_decide_eq_false hc (by rw [z])
    have e : p.bd = p.tg.map PyData.int := not_draw hk
    refine r_ret (K := K) (d := .list p.bd) (EN.ed (en_list (ed_ixT (ed_var rfl hP) ev_c (by rfl)))) g4.gi fun v b' h' g5 hv => ?_
    rw [e] at hv
    exact k v b' h' (g4.trans g5) hv

abbrev s_way : Stmt := top 30
theorem sc_way : FnScope ["game", "start", "draws", "draw", "found", "here", "targets"] ["game", "start", "draws"] (defScope s_way) := ⟨rfl, rfl, rfl, by decide +kernel, rfl, by decide +kernel, by decide +kernel⟩
theorem has_way (T : Bt mg) (D : IsDef K mg "_law_way" s_way ["game", "start", "draws"]) (U : Has P w K mg base 1 "_law_targets" ["place"] (spTargets K)) : Has P w K mg base 2 "_law_way" ["game", "start", "draws"] (spWay K) := by
  obtain ⟨f, fd, F, hm, hb⟩ := D
  obtain ⟨f_targets, fd_targets, G_targets, m_targets, k_targets, b_targets⟩ := U
  have sc := sc_way
  refine ⟨f, fd, F.ok sc (fun vs H Q E x => ?_) (fun cdv A outer s h0 vs Q E hr hs => ?_), hm, F.kp, hb⟩
  · obtain ⟨b, G, x, ds, _, hA, _⟩ := x
    exact hA.length
  obtain ⟨b, G, x, ds, eb, hA, hWG, hx, hd, hdl, kQ⟩ := hs
  have hW := wfT_of hWG
  have hsm := smG_of (wf_okG hWG)
  refine ⟨_, (pss_cons (ps_par rfl sc.nd (i := 4) (j := 5) rfl rfl (by decide) rfl rfl (pa_cons (pe_lst pa_nil) (pa_cons (pv 1) pa_nil)) (by rfl)) (pss_cons (ps_for PassesOwn.never rfl (pi_listK (K := K) rfl (pv 2)) (pg_name (i := 3) sc.nd rfl (by first | exact Or.inl rfl | exact Or.inr rfl)) (pss_cons (ps_set (i := 6) sc.nd rfl (by first | exact Or.inl rfl | exact Or.inr rfl) (pe_call G_targets (hr.mono (by decide)) rfl m_targets k_targets b_targets .nil pass0 (pa_cons (pe_ix (ix_listK (K := K) rfl) (pv 0) (pv 5) (fun _ _ => rfl)) pa_nil))) (pss_cons (ps_expr (pe_appK (K := K) rfl (pv 4) (pa_cons (pe_op op_mod (pe_callTy cr_int1 (by rfl) T.int (by decide +kernel) (pa_cons (pv 3) pa_nil)) (pe_callB (len_K (K := K) rfl) (by rfl) T.len PySem.boot_len (pa_cons (pv 6) pa_nil))) pa_nil))) (pss_one (ps_set (i := 5) sc.nd rfl (by first | exact Or.inl rfl | exact Or.inr rfl) (pe_ix (ix_listK (K := K) rfl) (pv 6) (pe_ix (ix_listK (K := K) rfl) (pv 4) (pe_un un_neg pe_int) (fun _ _ => rfl)) (fun _ _ => rfl))))))) (pss_one (ps_ret (pv 4))))), ?_⟩
  obtain ⟨vG, vD, rfl, hG, hDd⟩ : ∃ vG vD, vs = [vG, .int (x : Int), vD] ∧ Dt K b vG (gameD G) ∧ Dt K b vD (.list (ds.map PyData.int)) := by
    cases hA with
    | cons h1 hA =>
      cases hA with
      | cons h2 hA =>
        cases hA with
        | cons h3 hA =>
          cases hA
          exact ⟨_, _, by rw [h2.intI], h1, h3⟩
  refine ⟨Nat.zero_le _, fun q hq => ?_⟩
  refine ⟨_, rfl, _, _, rfl, ?_⟩
  have bq : b q = none := none_of eb hq
  have g1 : Gr b h0 b (upd h0 q (.lst [])) := Gr.hid eb hq
  obtain ⟨aD, xs, rfl, kD1, kD2⟩ := hDd.listI
  have hxs := kD2.intsI
  subst hxs
  have sqD : ∀ h, Ex b h → SqL K h aD (ds.map V.int) := fun h e => sq_of (e _ _ kD1)
  refine ⟨_, rfl, aD, rfl, ⟨_, sqD _ g1.gi⟩, for_list (xs := ds.map V.int) (fun i σ' h' => ∃ (r : List Int) (u v : Option V) (b' : Hp), σ' = [some vG, some (.int (x : Int)), some (.ref aD), u, some (.ref q), some (.int ((lastF G x r : Nat) : Int)), v] ∧ r.length = i ∧ OkTo G x r r.length ∧ Gr b h0 b' h' ∧ b' q = none ∧ h' q = some (.lst (r.map V.int))) ?_ (fun i σ' h' _ p => ?_) ?_ ?_⟩
  · exact ⟨[], none, none, b, rfl, rfl, (fun j n hj => absurd hj (Nat.not_lt_zero _)), g1, bq, upd_same⟩
  · obtain ⟨r, u, v, b', _, _, _, g, _⟩ := p
    exact sqD h' (g.gb.trans g.gi)
  · rintro i y σ' h2 hi ⟨r, u, v, b2, rfl, hrl, hok, G2, nb2, hq2⟩
    have hil : i < ds.length := by
      have := (List.getElem?_eq_some_iff.mp hi).1
      rwa [List.length_map] at this
    have hy : y = .int (ds.getD i 0) := by
      rw [List.getElem?_map, List.getElem?_eq_getElem hil] at hi
      rw [List.getD_eq_getElem?_getD, List.getElem?_eq_getElem hil]
      exact (Option.some.inj hi).symm
    subst hy
    generalize ds.getD i 0 = dd
    have hcl : lastF G x r < G.length := lastF_lt hW r x hx hok
    generalize hcur : lastF G x r = cur at hcl
    have hp := plAt_get hcl
    have hmem := List.mem_of_getElem? hp
    have hpb := hsm.2 _ hmem
    have hp1 := (wf_bd (hWG.2.2 _ hmem)).1
    have htl : 0 < (plAt G cur).tg.length := by rw [tg_len]; exact hp1
    have hG2 := hG.up G2.gb
    refine r_set (K := K) (ed_targets (eda_cons (ed_ixL (ed_var rfl hG2) (ev_var rfl) (game_at hp)) eda_nil) hpb) G2.gi fun vt b3 h3 g3 hvt => ?_
    have G3 := G2.trans g3
    have hq3 := g3.gh _ _ hq2
    have nb3 : b3 q = none := g3.gf q nb2 (by rw [hq2]; intro z; cases z)
    have hgood : okB G cur (dd % (((plAt G cur).tg.map PyData.int).length : Int)) := by
      rw [List.length_map]
      exact ⟨Int.emod_nonneg _ (by omega), Int.emod_lt_of_pos _ (by omega)⟩
    refine q_app (H := h3) (v := .int (dd % (((plAt G cur).tg.map PyData.int).length : Int))) hq3 (ev_var rfl) (Ev.mono G3.gi (ev_op (ev_int1 (ev_var rfl)) (ev_lenL (ed_var rfl hvt)) (rv_I (by rw [List.length_map]; omega)))) (by rw [List.length_map]; omega) fun h5 e5 => ?_
    generalize dd % (((plAt G cur).tg.map PyData.int).length : Int) = n at hgood
    have hst := stepT_lt hW hcl hgood
    have hlt : n.toNat < (plAt G cur).tg.length := by
      have := hgood.1
      have := hgood.2
      omega
    have G6 : Gr b h0 b3 (upd h5 q (.lst (r.map V.int ++ [V.int n]))) := (G3.trans (Gr.stay G3.gi e5)).mut hq nb3
    obtain ⟨aT, xsT, hvT, kT1, kT2⟩ := hvt.listI
    have hxT := kT2.intsI
    subst hxT
    subst hvT
    have hatT : L2.atI ((plAt G cur).tg.map V.int) n = some (.int ((plAt G cur).tg.getD n.toNat 0)) := by
      have e : n = ((n.toNat : Nat) : Int) := by have := hgood.1; omega
      have z : L2.atI ((plAt G cur).tg.map V.int) ((n.toNat : Nat) : Int) = some (.int ((plAt G cur).tg.getD n.toNat 0)) := atI_nat (by
        rw [List.getElem?_map, List.getElem?_eq_getElem hlt, List.getD_eq_getElem?_getD, List.getElem?_eq_getElem hlt]
        rfl)
      rwa [← e] at z
    refine s_asg (H := upd h5 q (.lst (r.map V.int ++ [V.int n]))) (v := .int ((plAt G cur).tg.getD n.toNat 0)) (ev_op (ev_var rfl) (ev_op (ev_var rfl) (ev_un ev_c ru_neg) (rv_ixL (sq_of upd_same) (at_pre _ _))) (rv_ixL (sq_of (G6.gi _ _ kT1)) hatT)) fun h7 e7 => ?_
    refine ⟨r ++ [n], some (.int dd), some (.ref aT), b3, ?_, by rw [List.length_append, hrl] <;> rfl, ?_, G6.trans (Gr.stay G6.gi e7), nb3, ?_⟩
    · rw [lastF_app, hcur, hst.2]
      rfl
    · intro j m hj hm
      rw [List.length_append, List.length_singleton] at hj
      rcases Nat.lt_or_ge j r.length with z | z
      · rw [List.getElem?_append_left z] at hm
        rw [List.take_append_of_le_length (Nat.le_of_lt z)]
        exact hok j m z hm
      · obtain rfl : j = r.length := by omega
        rw [List.getElem?_append_right (Nat.le_refl _), Nat.sub_self] at hm
        cases hm
        rw [List.take_append_of_le_length (Nat.le_refl _), List.take_length, hcur]
        exact hgood
    · rw [e7 _ _ upd_same, List.map_append]
      rfl
  · rintro σ' h' ⟨r, u, v, b', rfl, hrl, hok, G2, nb2, hq2⟩
    rw [List.length_map] at hrl
    exact ⟨_, rfl, kQ _ (upd b' q (.lst (r.map V.int))) h' r (G2.tell hq nb2 hq2) hrl hok (Dt.list upd_same (DtA.ints r))⟩

abbrev s_places : Stmt := top 31
theorem sc_places : FnScope ["game", "start", "branches", "found", "branch"] ["game", "start", "branches"] (defScope s_places) := ⟨rfl, rfl, rfl, by decide +kernel, rfl, by decide +kernel, by decide +kernel⟩
theorem has_places (T : Bt mg) (D : IsDef K mg "_law_places" s_places ["game", "start", "branches"]) (U : Has P w K mg base 1 "_law_targets" ["place"] (spTargets K)) : Has P w K mg base 2 "_law_places" ["game", "start", "branches"] (spPath K) := by
  obtain ⟨f, fd, F, hm, hb⟩ := D
  obtain ⟨f_targets, fd_targets, G_targets, m_targets, k_targets, b_targets⟩ := U
  have sc := sc_places
  refine ⟨f, fd, F.ok sc (fun vs H Q E x => ?_) (fun cdv A outer s h0 vs Q E hr hs => ?_), hm, F.kp, hb⟩
  · obtain ⟨b, G, x, r, _, hA, _⟩ := x
    exact hA.length
  obtain ⟨b, G, x, r, eb, hA, hW, hsm, hx, hrl, hok, kQ⟩ := hs
  refine ⟨_, (pss_cons (ps_set (i := 3) sc.nd rfl (by first | exact Or.inl rfl | exact Or.inr rfl) (pe_lst (pa_cons (pv 1) pa_nil))) (pss_cons (ps_for PassesOwn.never rfl (pi_listK (K := K) rfl (pv 2)) (pg_name (i := 4) sc.nd rfl (by first | exact Or.inl rfl | exact Or.inr rfl)) (pss_one (ps_expr (pe_appK (K := K) rfl (pv 3) (pa_cons (pe_ix (ix_listK (K := K) rfl) (pe_call G_targets (hr.mono (by decide)) rfl m_targets k_targets b_targets .nil pass0 (pa_cons (pe_ix (ix_listK (K := K) rfl) (pv 0) (pe_ix (ix_listK (K := K) rfl) (pv 3) (pe_un un_neg pe_int) (fun _ _ => rfl)) (fun _ _ => rfl)) pa_nil)) (pv 4) (fun _ _ => rfl)) pa_nil))))) (pss_one (ps_ret (pv 3))))), ?_⟩
  obtain ⟨vG, vR, rfl, hG, hR⟩ : ∃ vG vR, vs = [vG, .int (x : Int), vR] ∧ Dt K b vG (gameD G) ∧ Dt K b vR (intsD r) := by
    cases hA with
    | cons h1 h2 =>
      cases h2 with
      | cons h3 h4 =>
        cases h4 with
        | cons h5 h6 =>
          cases h6
          exact ⟨_, _, by rw [h3.intI], h1, h5⟩
  refine q_asgL (el_lst (ea_cons (ev_var rfl) ea_nil) (by show 1 ≤ 100000; decide)) fun q h1 hq e1 h1q => ?_
  have bq : b q = none := none_of eb hq
  have g1 : Gr b h0 b h1 := Gr.stay eb e1
  obtain ⟨aG, xsG, rfl, kG1, kG2⟩ := hG.listI
  obtain ⟨aR, xs, rfl, kR1, kR2⟩ := hR.listI
  have hxs := kR2.intsI
  subst hxs
  have sqR : ∀ h, Ex b h → SqL K h aR (r.map V.int) := fun h e => sq_of (e _ _ kR1)
  refine ⟨_, rfl, aR, rfl, ⟨_, sqR h1 g1.gi⟩, for_list (xs := r.map V.int) (fun i σ' h' => (∃ u : Option V, σ' = [some (.ref aG), some (.int (x : Int)), some (.ref aR), some (.ref q), u]) ∧ Gr b h0 b h' ∧ h' q = some (.lst ((pathF G x (r.take i)).map fun x : Nat => V.int (x : Int)))) ?_ (fun i σ' h' _ p => sqR h' p.2.1.gi) ?_ ?_⟩
  · refine ⟨⟨_, rfl⟩, g1, ?_⟩
    rw [List.take_zero]
    exact h1q
  · rintro i y σ' h2 hi ⟨⟨u, rfl⟩, G2, hq2⟩
    have hil : i < r.length := by
      have := (List.getElem?_eq_some_iff.mp hi).1
      rwa [List.length_map] at this
    obtain ⟨n, hn⟩ : ∃ n, r[i]? = some n := ⟨_, List.getElem?_eq_getElem hil⟩
    have hy : y = .int n := by
      rw [List.getElem?_map, hn] at hi
      exact (Option.some.inj hi).symm
    subst hy
    have hoki : OkTo G x r i := fun j m hj hm => hok j m (by omega) hm
    have hcl := at_lt hW hx hoki (Nat.le_of_lt hil)
    have hgood := hok i n hil hn
    generalize hcur : lastF G x (r.take i) = cur at hcl hgood
    have hp := plAt_get hcl
    obtain ⟨l, hl⟩ := pathF_last G (r.take i) x
    rw [hcur] at hl
    obtain ⟨vp, hvp, hvD⟩ := kG2.get (show (G.map Pl.D)[cur]? = some (plAt G cur).D by rw [List.getElem?_map, hp] <;> rfl)
    have hpb := hsm.2 _ (List.mem_of_getElem? hp)
    have hq3 : h2 q = some (.lst (l.map (fun x : Nat => V.int (x : Int)) ++ [V.int (cur : Int)])) := by
      rw [hq2, hl, List.map_append]
      rfl
    have hst := stepT_lt hW hcl hgood
    have hlt : n.toNat < (plAt G cur).tg.length := by
      have := hgood.1
      have := hgood.2
      omega
    refine s_app (H := h2) hq2 (ev_var rfl) (ev_int (ed_ixL (ed_targets (eda_cons (ed_val (hvD.up G2.gi) (ev_op (ev_var rfl) (ev_op (ev_var rfl) (ev_un ev_c ru_neg) (rv_ixL (sq_of hq3) (at_pre _ _))) (rv_ixL (sq_of (G2.gi _ _ kG1)) (atI_nat hvp)))) eda_nil) hpb) (ev_var rfl) (at_ints (j := n.toNat) (by have := hgood.1; omega) hlt))) (by rw [List.length_map, pathF_len, List.length_take]; omega) fun h6 e6 => ?_
    refine ⟨⟨_, rfl⟩, (G2.trans (Gr.stay G2.gi e6)).mut hq bq, ?_⟩
    rw [upd_same, take_more1 hn, pathF_app, List.map_append, hcur, ← hst.2]
    rfl
  · rintro σ' h' ⟨⟨u, rfl⟩, G2, hq2⟩
    rw [List.length_map, List.take_length] at hq2
    exact ⟨_, rfl, kQ _ (upd b q (.lst ((pathF G x r).map fun x : Nat => V.int (x : Int)))) h' (G2.tell hq bq hq2) (Dt.list upd_same (DtA.nats _))⟩

abbrev s_same : Stmt := top 29
theorem sc_same : FnScope ["actual", "due", "k"] ["actual", "due"] (defScope s_same) := ⟨rfl, rfl, rfl, by decide +kernel, rfl, by decide +kernel, by decide +kernel⟩
theorem has_same (T : Bt mg) (D : IsDef K mg "_law_same" s_same ["actual", "due"]) : ∀ n, Has P w K mg base n "_law_same" ["actual", "due"] (spSame K n)
  | 0 => by
    obtain ⟨f, fd, F, hm, hb⟩ := D
    exact ⟨f, fd, fn_never fun vs H Q E x => (by obtain ⟨b, d, _, _, hd, _⟩ := x; exact hd), hm, F.kp, hb⟩
  | n + 1 => by
    obtain ⟨f_same, fd_same, G_same, m_same, k_same, b_same⟩ := has_same T D n
    obtain ⟨f, fd, F, hm, hb⟩ := D
    have sc := sc_same
    refine ⟨f, fd, F.ok sc (fun vs H Q E x => ?_) (fun cdv A outer s h0 vs Q E hr hs => ?_), hm, F.kp, hb⟩
    · obtain ⟨b, d, _, hA, _⟩ := x
      exact hA.length
    obtain ⟨b, d, eb, hA, hd, k⟩ := hs
    obtain ⟨va, vb, rfl, ha, hb2⟩ : ∃ va vb, vs = [va, vb] ∧ Dt K b va d ∧ Dt K b vb d := by
      cases hA with
      | cons h1 h2 =>
        cases h2 with
        | cons h3 h4 =>
          cases h4
          exact ⟨_, _, rfl, h1, h3⟩
    have vA : ∀ {σ : L2.St} {b' : Hp}, σ[0]? = some (some va) → Ex b b' → ED K (tVar 0) σ b' d := fun s e => ed_var s (ha.up e)
    have vB : ∀ {σ : L2.St} {b' : Hp}, σ[1]? = some (some vb) → Ex b b' → ED K (tVar 1) σ b' d := fun s e => ed_var s (hb2.up e)
    have kk : ∀ {tz : TE} {σ : L2.St} {h : Hp}, Ex h0 h → Ev tz σ b (.bl true) → tRet tz { nx := fun _ H' => Q .non H', rt := Q } σ h := fun {tz σ h} e x => Evl.s_ret (H := h) (Ev.mono (eb.trans e) x) fun h1 e1 => k h1 (e.trans e1)
    cases d with
    | dict ds => exact absurd hd (by intro z; exact z)
    | none =>
      refine ⟨_, (pss_cons (ps_if (PW.pt (pw_or (pt_cmpR op_isN1 (pv 1) pe_non (nomark _)) (pw_or1 (pt_cmpR op_isN1 (pv 0) pe_non (nomark _))))) (pss_one (ps_ret (pe_and (pe_cmpR op_isN1 (pv 1) pe_non (nomark _)) (pe_one (pe_cmpR op_isN1 (pv 0) pe_non (nomark _)))))) pss_nil) (pss_cons (ps_if (PW.pt (pw_or (pt_val (pe_callB (isi_K (K := K) rfl) (by rfl) T.isinstance (by decide +kernel) (pa_cons (pv 1) (pa_cons (pe_bltn (v := .ty "list") (by rfl) T.list (by decide +kernel) rfl) pa_nil)))) (pw_or1 (pt_val (pe_callB (isi_K (K := K) rfl) (by rfl) T.isinstance (by decide +kernel) (pa_cons (pv 1) (pa_cons (pe_bltn (v := .ty "tuple") (by rfl) T.tuple (by decide +kernel) rfl) pa_nil))))))) (pss_cons (ps_if (PW.pt (pw_or (pt_cmpR op_ne (pe_callB (isi_K (K := K) rfl) (by rfl) T.isinstance (by decide +kernel) (pa_cons (pv 1) (pa_cons (pe_bltn (v := .ty "list") (by rfl) T.list (by decide +kernel) rfl) pa_nil))) (pe_callB (isi_K (K := K) rfl) (by rfl) T.isinstance (by decide +kernel) (pa_cons (pv 0) (pa_cons (pe_bltn (v := .ty "list") (by rfl) T.list (by decide +kernel) rfl) pa_nil))) (nomark _)) (pw_or1 (pt_cmpR op_ne (pe_callB (isi_K (K := K) rfl) (by rfl) T.isinstance (by decide +kernel) (pa_cons (pv 1) (pa_cons (pe_bltn (v := .ty "tuple") (by rfl) T.tuple (by decide +kernel) rfl) pa_nil))) (pe_callB (isi_K (K := K) rfl) (by rfl) T.isinstance (by decide +kernel) (pa_cons (pv 0) (pa_cons (pe_bltn (v := .ty "tuple") (by rfl) T.tuple (by decide +kernel) rfl) pa_nil))) (nomark _))))) (pss_one (ps_ret pe_bl)) pss_nil) (pss_cons (ps_if (pt_cmpR op_ne (pe_callB (len_K (K := K) rfl) (by rfl) T.len PySem.boot_len (pa_cons (pv 0) pa_nil)) (pe_callB (len_K (K := K) rfl) (by rfl) T.len PySem.boot_len (pa_cons (pv 1) pa_nil)) (nomark _)) (pss_one (ps_ret pe_bl)) pss_nil) (pss_one (ps_ret (pe_callB (all_K (K := K) rfl rfl) (by rfl) T.all (by decide +kernel) (pa_cons (pe_lc (own := [("k", 2)]) (tt := tYes) rfl sc.nd (pi_range1 (by rfl) T.range (pa_cons (pe_callB (len_K (K := K) rfl) (by rfl) T.len PySem.boot_len (pa_cons (pv 1) pa_nil)) pa_nil)) (blkOk_by (N := ["actual", "due", "k"]) (sc := defScope s_same) (by decide +kernel)) (fun _ _ _ _ _ => (pg_name (i := 2) sc.nd rfl (by first | exact Or.inl rfl | exact Or.inr rfl))) (fun _ _ _ _ _ => pts_nil) (fun _ _ _ _ _ => (pe_call G_same hr rfl m_same k_same b_same .nil pass0 (pa_cons (pe_ix (ix_listK (K := K) rfl) (pv 0) (pv 2) (fun _ _ => rfl)) (pa_cons (pe_ix (ix_listK (K := K) rfl) (pv 1) (pv 2) (fun _ _ => rfl)) pa_nil))))) pa_nil)))))) pss_nil) (pss_cons (ps_if (PW.pt (pw_or (pt_val (pe_callB (isi_K (K := K) rfl) (by rfl) T.isinstance (by decide +kernel) (pa_cons (pv 1) (pa_cons (pe_bltn (v := .ty "bool") (by rfl) T.bool (by decide +kernel) rfl) pa_nil)))) (pw_or1 (pt_val (pe_callB (isi_K (K := K) rfl) (by rfl) T.isinstance (by decide +kernel) (pa_cons (pv 0) (pa_cons (pe_bltn (v := .ty "bool") (by rfl) T.bool (by decide +kernel) rfl) pa_nil))))))) (pss_one (ps_ret (pe_and (pe_callB (isi_K (K := K) rfl) (by rfl) T.isinstance (by decide +kernel) (pa_cons (pv 1) (pa_cons (pe_bltn (v := .ty "bool") (by rfl) T.bool (by decide +kernel) rfl) pa_nil))) (pe_and (pe_callB (isi_K (K := K) rfl) (by rfl) T.isinstance (by decide +kernel) (pa_cons (pv 0) (pa_cons (pe_bltn (v := .ty "bool") (by rfl) T.bool (by decide +kernel) rfl) pa_nil))) (pe_one (pe_cmpR op_eq (pv 0) (pv 1) (nomark _))))))) pss_nil) (pss_cons (ps_if (pt_val (pe_callB (isi_K (K := K) rfl) (by rfl) T.isinstance (by decide +kernel) (pa_cons (pv 1) (pa_cons (pe_bltn (v := .ty "int") (by rfl) T.int (by decide +kernel) rfl) pa_nil)))) (pss_one (ps_ret (pe_and (pe_callB (isi_K (K := K) rfl) (by rfl) T.isinstance (by decide +kernel) (pa_cons (pv 0) (pa_cons (pe_bltn (v := .ty "int") (by rfl) T.int (by decide +kernel) rfl) pa_nil))) (pe_one (pe_cmpR op_eq (pv 0) (pv 1) (nomark _)))))) pss_nil) (pss_one (ps_ret (pe_and (pe_callB (isi_K (K := K) rfl) (by rfl) T.isinstance (by decide +kernel) (pa_cons (pv 1) (pa_cons (pe_bltn (v := .ty "str") (by rfl) T.str (by decide +kernel) rfl) pa_nil))) (pe_and (pe_callB (isi_K (K := K) rfl) (by rfl) T.isinstance (by decide +kernel) (pa_cons (pv 0) (pa_cons (pe_bltn (v := .ty "str") (by rfl) T.str (by decide +kernel) rfl) pa_nil))) (pe_one (pe_cmpR op_eq (pv 0) (pv 1) (nomark _))))))))))), ?_⟩
      refine r_if (b := b) (c := true) (et_is (et_or (et_test (ev_isN (vB rfl (Ex.refl _)) rfl)) fun z => et_test (ev_isN (vA rfl (Ex.refl _)) rfl)) rfl) eb (fun _ h1 g1 => ?_) (fun z => by cases z)
      exact kk g1.gh (ev_andV (b := true) (ev_isN (vB rfl (Ex.refl _)) rfl) fun _ => ev_isN (vA rfl (Ex.refl _)) rfl)
    | list ds =>
      refine ⟨_, (pss_cons (ps_if (PW.pt (pw_or (pt_cmpR op_isN1 (pv 1) pe_non (nomark _)) (pw_or1 (pt_cmpR op_isN1 (pv 0) pe_non (nomark _))))) (pss_one (ps_ret (pe_and (pe_cmpR op_isN1 (pv 1) pe_non (nomark _)) (pe_one (pe_cmpR op_isN1 (pv 0) pe_non (nomark _)))))) pss_nil) (pss_cons (ps_if (PW.pt (pw_or (pt_val (pe_callB (isi_K (K := K) rfl) (by rfl) T.isinstance (by decide +kernel) (pa_cons (pv 1) (pa_cons (pe_bltn (v := .ty "list") (by rfl) T.list (by decide +kernel) rfl) pa_nil)))) (pw_or1 (pt_val (pe_callB (isi_K (K := K) rfl) (by rfl) T.isinstance (by decide +kernel) (pa_cons (pv 1) (pa_cons (pe_bltn (v := .ty "tuple") (by rfl) T.tuple (by decide +kernel) rfl) pa_nil))))))) (pss_cons (ps_if (PW.pt (pw_or (pt_cmpR op_ne (pe_callB (isi_K (K := K) rfl) (by rfl) T.isinstance (by decide +kernel) (pa_cons (pv 1) (pa_cons (pe_bltn (v := .ty "list") (by rfl) T.list (by decide +kernel) rfl) pa_nil))) (pe_callB (isi_K (K := K) rfl) (by rfl) T.isinstance (by decide +kernel) (pa_cons (pv 0) (pa_cons (pe_bltn (v := .ty "list") (by rfl) T.list (by decide +kernel) rfl) pa_nil))) (nomark _)) (pw_or1 (pt_cmpR op_ne (pe_callB (isi_K (K := K) rfl) (by rfl) T.isinstance (by decide +kernel) (pa_cons (pv 1) (pa_cons (pe_bltn (v := .ty "tuple") (by rfl) T.tuple (by decide +kernel) rfl) pa_nil))) (pe_callB (isi_K (K := K) rfl) (by rfl) T.isinstance (by decide +kernel) (pa_cons (pv 0) (pa_cons (pe_bltn (v := .ty "tuple") (by rfl) T.tuple (by decide +kernel) rfl) pa_nil))) (nomark _))))) (pss_one (ps_ret pe_bl)) pss_nil) (pss_cons (ps_if (pt_cmpR op_ne (pe_callB (len_K (K := K) rfl) (by rfl) T.len PySem.boot_len (pa_cons (pv 0) pa_nil)) (pe_callB (len_K (K := K) rfl) (by rfl) T.len PySem.boot_len (pa_cons (pv 1) pa_nil)) (nomark _)) (pss_one (ps_ret pe_bl)) pss_nil) (pss_one (ps_ret (pe_callB (all_K (K := K) rfl rfl) (by rfl) T.all (by decide +kernel) (pa_cons (pe_lc (own := [("k", 2)]) (tt := tYes) rfl sc.nd (pi_range1 (by rfl) T.range (pa_cons (pe_callB (len_K (K := K) rfl) (by rfl) T.len PySem.boot_len (pa_cons (pv 1) pa_nil)) pa_nil)) (blkOk_by (N := ["actual", "due", "k"]) (sc := defScope s_same) (by decide +kernel)) (fun _ _ _ _ _ => (pg_name (i := 2) sc.nd rfl (by first | exact Or.inl rfl | exact Or.inr rfl))) (fun _ _ _ _ _ => pts_nil) (fun _ _ _ _ _ => (pe_call G_same hr rfl m_same k_same b_same .nil pass0 (pa_cons (pe_ix (ix_listK (K := K) rfl) (pv 0) (pv 2) (fun _ _ => rfl)) (pa_cons (pe_ix (ix_listK (K := K) rfl) (pv 1) (pv 2) (fun _ _ => rfl)) pa_nil))))) pa_nil)))))) pss_nil) (pss_cons (ps_if (PW.pt (pw_or (pt_val (pe_callB (isi_K (K := K) rfl) (by rfl) T.isinstance (by decide +kernel) (pa_cons (pv 1) (pa_cons (pe_bltn (v := .ty "bool") (by rfl) T.bool (by decide +kernel) rfl) pa_nil)))) (pw_or1 (pt_val (pe_callB (isi_K (K := K) rfl) (by rfl) T.isinstance (by decide +kernel) (pa_cons (pv 0) (pa_cons (pe_bltn (v := .ty "bool") (by rfl) T.bool (by decide +kernel) rfl) pa_nil))))))) (pss_one (ps_ret (pe_and (pe_callB (isi_K (K := K) rfl) (by rfl) T.isinstance (by decide +kernel) (pa_cons (pv 1) (pa_cons (pe_bltn (v := .ty "bool") (by rfl) T.bool (by decide +kernel) rfl) pa_nil))) (pe_and (pe_callB (isi_K (K := K) rfl) (by rfl) T.isinstance (by decide +kernel) (pa_cons (pv 0) (pa_cons (pe_bltn (v := .ty "bool") (by rfl) T.bool (by decide +kernel) rfl) pa_nil))) (pe_one (pe_cmpR op_eq (pv 0) (pv 1) (nomark _))))))) pss_nil) (pss_cons (ps_if (pt_val (pe_callB (isi_K (K := K) rfl) (by rfl) T.isinstance (by decide +kernel) (pa_cons (pv 1) (pa_cons (pe_bltn (v := .ty "int") (by rfl) T.int (by decide +kernel) rfl) pa_nil)))) (pss_one (ps_ret (pe_and (pe_callB (isi_K (K := K) rfl) (by rfl) T.isinstance (by decide +kernel) (pa_cons (pv 0) (pa_cons (pe_bltn (v := .ty "int") (by rfl) T.int (by decide +kernel) rfl) pa_nil))) (pe_one (pe_cmpR op_eq (pv 0) (pv 1) (nomark _)))))) pss_nil) (pss_one (ps_ret (pe_and (pe_callB (isi_K (K := K) rfl) (by rfl) T.isinstance (by decide +kernel) (pa_cons (pv 1) (pa_cons (pe_bltn (v := .ty "str") (by rfl) T.str (by decide +kernel) rfl) pa_nil))) (pe_and (pe_callB (isi_K (K := K) rfl) (by rfl) T.isinstance (by decide +kernel) (pa_cons (pv 0) (pa_cons (pe_bltn (v := .ty "str") (by rfl) T.str (by decide +kernel) rfl) pa_nil))) (pe_one (pe_cmpR op_eq (pv 0) (pv 1) (nomark _))))))))))), ?_⟩
      refine r_if (b := b) (c := false) (et_is (et_or (et_test (ev_isN (vB rfl (Ex.refl _)) rfl)) fun z => et_test (ev_isN (vA rfl (Ex.refl _)) rfl)) rfl) eb (fun z => by cases z) (fun _ h1 g1 => ?_)
      refine r_if (b := b) (c := true) (et_is (et_or (et_B (ev_isiD (r := true) (vB rfl (Ex.refl _)) (by show kitB "list" "list" = _; decide +kernel))) fun z => et_B (ev_isiD (r := false) (vB rfl (Ex.refl _)) (by show kitB "list" "tuple" = _; decide +kernel))) rfl) g1.gi (fun _ h2 g2 => ?_) (fun z => by cases z)
      refine r_if (b := b) (c := false) (et_is (et_or (et_test (ev_neS (v := .bl true) (ev_isiD (vB rfl (Ex.refl _)) (by show kitB "list" "list" = _; decide +kernel)) (ev_isiD (vA rfl (Ex.refl _)) (by show kitB "list" "list" = _; decide +kernel)) rfl)) fun z => et_test (ev_neS (v := .bl false) (ev_isiD (vB rfl (Ex.refl _)) (by show kitB "list" "tuple" = _; decide +kernel)) (ev_isiD (vA rfl (Ex.refl _)) (by show kitB "list" "tuple" = _; decide +kernel)) rfl)) rfl) (g1.trans g2).gi (fun z => by cases z) (fun _ h3 g3 => ?_)
      refine r_if (b := b) (c := false) (et_test (ev_neS (v := .int (ds.length : Int)) (ev_lenL (vA rfl (Ex.refl _))) (ev_lenL (vB rfl (Ex.refl _))) rfl)) ((g1.trans g2).trans g3).gi (fun z => by cases z) (fun _ h4 g4 => ?_)
      have e := ev_all (K := K) (bs := (List.range ds.length).map fun _ => true) (te := tLc (iRng1 (tCons (tCB (rLenS K) (tCons (tVar 1) tNil)) tNil)) (gName 2) tYes (tCall (spSame K n) [] E0 (tCons (tOp (rIxL K) (tVar 0) (tVar 2)) (tCons (tOp (rIxL K) (tVar 1) (tVar 2)) tNil))) [2]) (σ := [some va, some vb, none]) (b := b) ?_
      · rw [all_true] at e
        exact kk (((g1.trans g2).trans g3).trans g4).gh e
      · rw [← givenD_true]
        refine EN.ed ?_
        refine en_lcR (n := (ds.length : Int)) (ea_cons (ev_lenL (vB rfl (Ex.refl _))) ea_nil) ⟨by omega, by have := hd.1; omega⟩ (fun _ => true) (fun _ => .bool true) (fun _ => rfl) fun i b2 e2 hi => ⟨et_yes, fun _ => ?_⟩
        have hil : i < ds.length := by omega
        have hat : L2.atI ds (i : Int) = some ds[i] := atI_nat (List.getElem?_eq_getElem hil)
        exact ed_bool (ev_sameD (eda_cons (ed_ixL (vA rfl e2) (ev_var rfl) hat) (eda_cons (ed_ixL (vB rfl e2) (ev_var rfl) hat) eda_nil)) (hd.2 _ (List.getElem_mem hil)))
    | tuple ds =>
      refine ⟨_, (pss_cons (ps_if (PW.pt (pw_or (pt_cmpR op_isN1 (pv 1) pe_non (nomark _)) (pw_or1 (pt_cmpR op_isN1 (pv 0) pe_non (nomark _))))) (pss_one (ps_ret (pe_and (pe_cmpR op_isN1 (pv 1) pe_non (nomark _)) (pe_one (pe_cmpR op_isN1 (pv 0) pe_non (nomark _)))))) pss_nil) (pss_cons (ps_if (PW.pt (pw_or (pt_val (pe_callB (isi_K (K := K) rfl) (by rfl) T.isinstance (by decide +kernel) (pa_cons (pv 1) (pa_cons (pe_bltn (v := .ty "list") (by rfl) T.list (by decide +kernel) rfl) pa_nil)))) (pw_or1 (pt_val (pe_callB (isi_K (K := K) rfl) (by rfl) T.isinstance (by decide +kernel) (pa_cons (pv 1) (pa_cons (pe_bltn (v := .ty "tuple") (by rfl) T.tuple (by decide +kernel) rfl) pa_nil))))))) (pss_cons (ps_if (PW.pt (pw_or (pt_cmpR op_ne (pe_callB (isi_K (K := K) rfl) (by rfl) T.isinstance (by decide +kernel) (pa_cons (pv 1) (pa_cons (pe_bltn (v := .ty "list") (by rfl) T.list (by decide +kernel) rfl) pa_nil))) (pe_callB (isi_K (K := K) rfl) (by rfl) T.isinstance (by decide +kernel) (pa_cons (pv 0) (pa_cons (pe_bltn (v := .ty "list") (by rfl) T.list (by decide +kernel) rfl) pa_nil))) (nomark _)) (pw_or1 (pt_cmpR op_ne (pe_callB (isi_K (K := K) rfl) (by rfl) T.isinstance (by decide +kernel) (pa_cons (pv 1) (pa_cons (pe_bltn (v := .ty "tuple") (by rfl) T.tuple (by decide +kernel) rfl) pa_nil))) (pe_callB (isi_K (K := K) rfl) (by rfl) T.isinstance (by decide +kernel) (pa_cons (pv 0) (pa_cons (pe_bltn (v := .ty "tuple") (by rfl) T.tuple (by decide +kernel) rfl) pa_nil))) (nomark _))))) (pss_one (ps_ret pe_bl)) pss_nil) (pss_cons (ps_if (pt_cmpR op_ne (pe_callB (len_K (K := K) rfl) (by rfl) T.len PySem.boot_len (pa_cons (pv 0) pa_nil)) (pe_callB (len_K (K := K) rfl) (by rfl) T.len PySem.boot_len (pa_cons (pv 1) pa_nil)) (nomark _)) (pss_one (ps_ret pe_bl)) pss_nil) (pss_one (ps_ret (pe_callB (all_K (K := K) rfl rfl) (by rfl) T.all (by decide +kernel) (pa_cons (pe_lc (own := [("k", 2)]) (tt := tYes) rfl sc.nd (pi_range1 (by rfl) T.range (pa_cons (pe_callB (len_K (K := K) rfl) (by rfl) T.len PySem.boot_len (pa_cons (pv 1) pa_nil)) pa_nil)) (blkOk_by (N := ["actual", "due", "k"]) (sc := defScope s_same) (by decide +kernel)) (fun _ _ _ _ _ => (pg_name (i := 2) sc.nd rfl (by first | exact Or.inl rfl | exact Or.inr rfl))) (fun _ _ _ _ _ => pts_nil) (fun _ _ _ _ _ => (pe_call G_same hr rfl m_same k_same b_same .nil pass0 (pa_cons (pe_ix (ix_tupK (K := K) rfl) (pv 0) (pv 2) (fun _ _ => rfl)) (pa_cons (pe_ix (ix_tupK (K := K) rfl) (pv 1) (pv 2) (fun _ _ => rfl)) pa_nil))))) pa_nil)))))) pss_nil) (pss_cons (ps_if (PW.pt (pw_or (pt_val (pe_callB (isi_K (K := K) rfl) (by rfl) T.isinstance (by decide +kernel) (pa_cons (pv 1) (pa_cons (pe_bltn (v := .ty "bool") (by rfl) T.bool (by decide +kernel) rfl) pa_nil)))) (pw_or1 (pt_val (pe_callB (isi_K (K := K) rfl) (by rfl) T.isinstance (by decide +kernel) (pa_cons (pv 0) (pa_cons (pe_bltn (v := .ty "bool") (by rfl) T.bool (by decide +kernel) rfl) pa_nil))))))) (pss_one (ps_ret (pe_and (pe_callB (isi_K (K := K) rfl) (by rfl) T.isinstance (by decide +kernel) (pa_cons (pv 1) (pa_cons (pe_bltn (v := .ty "bool") (by rfl) T.bool (by decide +kernel) rfl) pa_nil))) (pe_and (pe_callB (isi_K (K := K) rfl) (by rfl) T.isinstance (by decide +kernel) (pa_cons (pv 0) (pa_cons (pe_bltn (v := .ty "bool") (by rfl) T.bool (by decide +kernel) rfl) pa_nil))) (pe_one (pe_cmpR op_eq (pv 0) (pv 1) (nomark _))))))) pss_nil) (pss_cons (ps_if (pt_val (pe_callB (isi_K (K := K) rfl) (by rfl) T.isinstance (by decide +kernel) (pa_cons (pv 1) (pa_cons (pe_bltn (v := .ty "int") (by rfl) T.int (by decide +kernel) rfl) pa_nil)))) (pss_one (ps_ret (pe_and (pe_callB (isi_K (K := K) rfl) (by rfl) T.isinstance (by decide +kernel) (pa_cons (pv 0) (pa_cons (pe_bltn (v := .ty "int") (by rfl) T.int (by decide +kernel) rfl) pa_nil))) (pe_one (pe_cmpR op_eq (pv 0) (pv 1) (nomark _)))))) pss_nil) (pss_one (ps_ret (pe_and (pe_callB (isi_K (K := K) rfl) (by rfl) T.isinstance (by decide +kernel) (pa_cons (pv 1) (pa_cons (pe_bltn (v := .ty "str") (by rfl) T.str (by decide +kernel) rfl) pa_nil))) (pe_and (pe_callB (isi_K (K := K) rfl) (by rfl) T.isinstance (by decide +kernel) (pa_cons (pv 0) (pa_cons (pe_bltn (v := .ty "str") (by rfl) T.str (by decide +kernel) rfl) pa_nil))) (pe_one (pe_cmpR op_eq (pv 0) (pv 1) (nomark _))))))))))), ?_⟩
      refine r_if (b := b) (c := false) (et_is (et_or (et_test (ev_isN (vB rfl (Ex.refl _)) rfl)) fun z => et_test (ev_isN (vA rfl (Ex.refl _)) rfl)) rfl) eb (fun z => by cases z) (fun _ h1 g1 => ?_)
      refine r_if (b := b) (c := true) (et_is (et_or (et_B (ev_isiD (r := false) (vB rfl (Ex.refl _)) (by show kitB "tuple" "list" = _; decide +kernel))) fun z => et_B (ev_isiD (r := true) (vB rfl (Ex.refl _)) (by show kitB "tuple" "tuple" = _; decide +kernel))) rfl) g1.gi (fun _ h2 g2 => ?_) (fun z => by cases z)
      refine r_if (b := b) (c := false) (et_is (et_or (et_test (ev_neS (v := .bl false) (ev_isiD (vB rfl (Ex.refl _)) (by show kitB "tuple" "list" = _; decide +kernel)) (ev_isiD (vA rfl (Ex.refl _)) (by show kitB "tuple" "list" = _; decide +kernel)) rfl)) fun z => et_test (ev_neS (v := .bl true) (ev_isiD (vB rfl (Ex.refl _)) (by show kitB "tuple" "tuple" = _; decide +kernel)) (ev_isiD (vA rfl (Ex.refl _)) (by show kitB "tuple" "tuple" = _; decide +kernel)) rfl)) rfl) (g1.trans g2).gi (fun z => by cases z) (fun _ h3 g3 => ?_)
      refine r_if (b := b) (c := false) (et_test (ev_neS (v := .int (ds.length : Int)) (ev_lenT (vA rfl (Ex.refl _))) (ev_lenT (vB rfl (Ex.refl _))) rfl)) ((g1.trans g2).trans g3).gi (fun z => by cases z) (fun _ h4 g4 => ?_)
      have e := ev_all (K := K) (bs := (List.range ds.length).map fun _ => true) (te := tLc (iRng1 (tCons (tCB (rLenS K) (tCons (tVar 1) tNil)) tNil)) (gName 2) tYes (tCall (spSame K n) [] E0 (tCons (tOp (rIxT K) (tVar 0) (tVar 2)) (tCons (tOp (rIxT K) (tVar 1) (tVar 2)) tNil))) [2]) (σ := [some va, some vb, none]) (b := b) ?_
      · rw [all_true] at e
        exact kk (((g1.trans g2).trans g3).trans g4).gh e
      · rw [← givenD_true]
        refine EN.ed ?_
        refine en_lcR (n := (ds.length : Int)) (ea_cons (ev_lenT (vB rfl (Ex.refl _))) ea_nil) ⟨by omega, by have := hd.1; omega⟩ (fun _ => true) (fun _ => .bool true) (fun _ => rfl) fun i b2 e2 hi => ⟨et_yes, fun _ => ?_⟩
        have hil : i < ds.length := by omega
        have hat : L2.atI ds (i : Int) = some ds[i] := atI_nat (List.getElem?_eq_getElem hil)
        exact ed_bool (ev_sameD (eda_cons (ed_ixT (vA rfl e2) (ev_var rfl) hat) (eda_cons (ed_ixT (vB rfl e2) (ev_var rfl) hat) eda_nil)) (hd.2 _ (List.getElem_mem hil)))
    | bool v =>
      refine ⟨_, (pss_cons (ps_if (PW.pt (pw_or (pt_cmpR op_isN1 (pv 1) pe_non (nomark _)) (pw_or1 (pt_cmpR op_isN1 (pv 0) pe_non (nomark _))))) (pss_one (ps_ret (pe_and (pe_cmpR op_isN1 (pv 1) pe_non (nomark _)) (pe_one (pe_cmpR op_isN1 (pv 0) pe_non (nomark _)))))) pss_nil) (pss_cons (ps_if (PW.pt (pw_or (pt_val (pe_callB (isi_K (K := K) rfl) (by rfl) T.isinstance (by decide +kernel) (pa_cons (pv 1) (pa_cons (pe_bltn (v := .ty "list") (by rfl) T.list (by decide +kernel) rfl) pa_nil)))) (pw_or1 (pt_val (pe_callB (isi_K (K := K) rfl) (by rfl) T.isinstance (by decide +kernel) (pa_cons (pv 1) (pa_cons (pe_bltn (v := .ty "tuple") (by rfl) T.tuple (by decide +kernel) rfl) pa_nil))))))) (pss_cons (ps_if (PW.pt (pw_or (pt_cmpR op_ne (pe_callB (isi_K (K := K) rfl) (by rfl) T.isinstance (by decide +kernel) (pa_cons (pv 1) (pa_cons (pe_bltn (v := .ty "list") (by rfl) T.list (by decide +kernel) rfl) pa_nil))) (pe_callB (isi_K (K := K) rfl) (by rfl) T.isinstance (by decide +kernel) (pa_cons (pv 0) (pa_cons (pe_bltn (v := .ty "list") (by rfl) T.list (by decide +kernel) rfl) pa_nil))) (nomark _)) (pw_or1 (pt_cmpR op_ne (pe_callB (isi_K (K := K) rfl) (by rfl) T.isinstance (by decide +kernel) (pa_cons (pv 1) (pa_cons (pe_bltn (v := .ty "tuple") (by rfl) T.tuple (by decide +kernel) rfl) pa_nil))) (pe_callB (isi_K (K := K) rfl) (by rfl) T.isinstance (by decide +kernel) (pa_cons (pv 0) (pa_cons (pe_bltn (v := .ty "tuple") (by rfl) T.tuple (by decide +kernel) rfl) pa_nil))) (nomark _))))) (pss_one (ps_ret pe_bl)) pss_nil) (pss_cons (ps_if (pt_cmpR op_ne (pe_callB (len_K (K := K) rfl) (by rfl) T.len PySem.boot_len (pa_cons (pv 0) pa_nil)) (pe_callB (len_K (K := K) rfl) (by rfl) T.len PySem.boot_len (pa_cons (pv 1) pa_nil)) (nomark _)) (pss_one (ps_ret pe_bl)) pss_nil) (pss_one (ps_ret (pe_callB (all_K (K := K) rfl rfl) (by rfl) T.all (by decide +kernel) (pa_cons (pe_lc (own := [("k", 2)]) (tt := tYes) rfl sc.nd (pi_range1 (by rfl) T.range (pa_cons (pe_callB (len_K (K := K) rfl) (by rfl) T.len PySem.boot_len (pa_cons (pv 1) pa_nil)) pa_nil)) (blkOk_by (N := ["actual", "due", "k"]) (sc := defScope s_same) (by decide +kernel)) (fun _ _ _ _ _ => (pg_name (i := 2) sc.nd rfl (by first | exact Or.inl rfl | exact Or.inr rfl))) (fun _ _ _ _ _ => pts_nil) (fun _ _ _ _ _ => (pe_call G_same hr rfl m_same k_same b_same .nil pass0 (pa_cons (pe_ix (ix_listK (K := K) rfl) (pv 0) (pv 2) (fun _ _ => rfl)) (pa_cons (pe_ix (ix_listK (K := K) rfl) (pv 1) (pv 2) (fun _ _ => rfl)) pa_nil))))) pa_nil)))))) pss_nil) (pss_cons (ps_if (PW.pt (pw_or (pt_val (pe_callB (isi_K (K := K) rfl) (by rfl) T.isinstance (by decide +kernel) (pa_cons (pv 1) (pa_cons (pe_bltn (v := .ty "bool") (by rfl) T.bool (by decide +kernel) rfl) pa_nil)))) (pw_or1 (pt_val (pe_callB (isi_K (K := K) rfl) (by rfl) T.isinstance (by decide +kernel) (pa_cons (pv 0) (pa_cons (pe_bltn (v := .ty "bool") (by rfl) T.bool (by decide +kernel) rfl) pa_nil))))))) (pss_one (ps_ret (pe_and (pe_callB (isi_K (K := K) rfl) (by rfl) T.isinstance (by decide +kernel) (pa_cons (pv 1) (pa_cons (pe_bltn (v := .ty "bool") (by rfl) T.bool (by decide +kernel) rfl) pa_nil))) (pe_and (pe_callB (isi_K (K := K) rfl) (by rfl) T.isinstance (by decide +kernel) (pa_cons (pv 0) (pa_cons (pe_bltn (v := .ty "bool") (by rfl) T.bool (by decide +kernel) rfl) pa_nil))) (pe_one (pe_cmpR op_eq (pv 0) (pv 1) (nomark _))))))) pss_nil) (pss_cons (ps_if (pt_val (pe_callB (isi_K (K := K) rfl) (by rfl) T.isinstance (by decide +kernel) (pa_cons (pv 1) (pa_cons (pe_bltn (v := .ty "int") (by rfl) T.int (by decide +kernel) rfl) pa_nil)))) (pss_one (ps_ret (pe_and (pe_callB (isi_K (K := K) rfl) (by rfl) T.isinstance (by decide +kernel) (pa_cons (pv 0) (pa_cons (pe_bltn (v := .ty "int") (by rfl) T.int (by decide +kernel) rfl) pa_nil))) (pe_one (pe_cmpR op_eq (pv 0) (pv 1) (nomark _)))))) pss_nil) (pss_one (ps_ret (pe_and (pe_callB (isi_K (K := K) rfl) (by rfl) T.isinstance (by decide +kernel) (pa_cons (pv 1) (pa_cons (pe_bltn (v := .ty "str") (by rfl) T.str (by decide +kernel) rfl) pa_nil))) (pe_and (pe_callB (isi_K (K := K) rfl) (by rfl) T.isinstance (by decide +kernel) (pa_cons (pv 0) (pa_cons (pe_bltn (v := .ty "str") (by rfl) T.str (by decide +kernel) rfl) pa_nil))) (pe_one (pe_cmpR op_eq (pv 0) (pv 1) (nomark _))))))))))), ?_⟩
      refine r_if (b := b) (c := false) (et_is (et_or (et_test (ev_isN (vB rfl (Ex.refl _)) rfl)) fun z => et_test (ev_isN (vA rfl (Ex.refl _)) rfl)) rfl) eb (fun z => by cases z) (fun _ h1 g1 => ?_)
      refine r_if (b := b) (c := false) (et_is (et_or (et_B (ev_isiD (r := false) (vB rfl (Ex.refl _)) (by show kitB "bool" "list" = _; decide +kernel))) fun z => et_B (ev_isiD (r := false) (vB rfl (Ex.refl _)) (by show kitB "bool" "tuple" = _; decide +kernel))) rfl) g1.gi (fun z => by cases z) (fun _ h2 g2 => ?_)
      refine r_if (b := b) (c := true) (et_is (et_or (et_B (ev_isiD (r := true) (vB rfl (Ex.refl _)) (by show kitB "bool" "bool" = _; decide +kernel))) fun z => et_B (ev_isiD (r := true) (vA rfl (Ex.refl _)) (by show kitB "bool" "bool" = _; decide +kernel))) rfl) (g1.trans g2).gi (fun _ h3 g3 => ?_) (fun z => by cases z)
      exact kk ((g1.trans g2).trans g3).gh (ev_andV (b := true) (ev_isiD (r := true) (vB rfl (Ex.refl _)) (by show kitB "bool" "bool" = _; decide +kernel)) fun _ => ev_andV (b := true) (ev_isiD (r := true) (vA rfl (Ex.refl _)) (by show kitB "bool" "bool" = _; decide +kernel)) fun _ => ev_eqS (ev_bool (vA rfl (Ex.refl _))) (ev_bool (vB rfl (Ex.refl _))) rfl)
    | int v =>
      refine ⟨_, (pss_cons (ps_if (PW.pt (pw_or (pt_cmpR op_isN1 (pv 1) pe_non (nomark _)) (pw_or1 (pt_cmpR op_isN1 (pv 0) pe_non (nomark _))))) (pss_one (ps_ret (pe_and (pe_cmpR op_isN1 (pv 1) pe_non (nomark _)) (pe_one (pe_cmpR op_isN1 (pv 0) pe_non (nomark _)))))) pss_nil) (pss_cons (ps_if (PW.pt (pw_or (pt_val (pe_callB (isi_K (K := K) rfl) (by rfl) T.isinstance (by decide +kernel) (pa_cons (pv 1) (pa_cons (pe_bltn (v := .ty "list") (by rfl) T.list (by decide +kernel) rfl) pa_nil)))) (pw_or1 (pt_val (pe_callB (isi_K (K := K) rfl) (by rfl) T.isinstance (by decide +kernel) (pa_cons (pv 1) (pa_cons (pe_bltn (v := .ty "tuple") (by rfl) T.tuple (by decide +kernel) rfl) pa_nil))))))) (pss_cons (ps_if (PW.pt (pw_or (pt_cmpR op_ne (pe_callB (isi_K (K := K) rfl) (by rfl) T.isinstance (by decide +kernel) (pa_cons (pv 1) (pa_cons (pe_bltn (v := .ty "list") (by rfl) T.list (by decide +kernel) rfl) pa_nil))) (pe_callB (isi_K (K := K) rfl) (by rfl) T.isinstance (by decide +kernel) (pa_cons (pv 0) (pa_cons (pe_bltn (v := .ty "list") (by rfl) T.list (by decide +kernel) rfl) pa_nil))) (nomark _)) (pw_or1 (pt_cmpR op_ne (pe_callB (isi_K (K := K) rfl) (by rfl) T.isinstance (by decide +kernel) (pa_cons (pv 1) (pa_cons (pe_bltn (v := .ty "tuple") (by rfl) T.tuple (by decide +kernel) rfl) pa_nil))) (pe_callB (isi_K (K := K) rfl) (by rfl) T.isinstance (by decide +kernel) (pa_cons (pv 0) (pa_cons (pe_bltn (v := .ty "tuple") (by rfl) T.tuple (by decide +kernel) rfl) pa_nil))) (nomark _))))) (pss_one (ps_ret pe_bl)) pss_nil) (pss_cons (ps_if (pt_cmpR op_ne (pe_callB (len_K (K := K) rfl) (by rfl) T.len PySem.boot_len (pa_cons (pv 0) pa_nil)) (pe_callB (len_K (K := K) rfl) (by rfl) T.len PySem.boot_len (pa_cons (pv 1) pa_nil)) (nomark _)) (pss_one (ps_ret pe_bl)) pss_nil) (pss_one (ps_ret (pe_callB (all_K (K := K) rfl rfl) (by rfl) T.all (by decide +kernel) (pa_cons (pe_lc (own := [("k", 2)]) (tt := tYes) rfl sc.nd (pi_range1 (by rfl) T.range (pa_cons (pe_callB (len_K (K := K) rfl) (by rfl) T.len PySem.boot_len (pa_cons (pv 1) pa_nil)) pa_nil)) (blkOk_by (N := ["actual", "due", "k"]) (sc := defScope s_same) (by decide +kernel)) (fun _ _ _ _ _ => (pg_name (i := 2) sc.nd rfl (by first | exact Or.inl rfl | exact Or.inr rfl))) (fun _ _ _ _ _ => pts_nil) (fun _ _ _ _ _ => (pe_call G_same hr rfl m_same k_same b_same .nil pass0 (pa_cons (pe_ix (ix_listK (K := K) rfl) (pv 0) (pv 2) (fun _ _ => rfl)) (pa_cons (pe_ix (ix_listK (K := K) rfl) (pv 1) (pv 2) (fun _ _ => rfl)) pa_nil))))) pa_nil)))))) pss_nil) (pss_cons (ps_if (PW.pt (pw_or (pt_val (pe_callB (isi_K (K := K) rfl) (by rfl) T.isinstance (by decide +kernel) (pa_cons (pv 1) (pa_cons (pe_bltn (v := .ty "bool") (by rfl) T.bool (by decide +kernel) rfl) pa_nil)))) (pw_or1 (pt_val (pe_callB (isi_K (K := K) rfl) (by rfl) T.isinstance (by decide +kernel) (pa_cons (pv 0) (pa_cons (pe_bltn (v := .ty "bool") (by rfl) T.bool (by decide +kernel) rfl) pa_nil))))))) (pss_one (ps_ret (pe_and (pe_callB (isi_K (K := K) rfl) (by rfl) T.isinstance (by decide +kernel) (pa_cons (pv 1) (pa_cons (pe_bltn (v := .ty "bool") (by rfl) T.bool (by decide +kernel) rfl) pa_nil))) (pe_and (pe_callB (isi_K (K := K) rfl) (by rfl) T.isinstance (by decide +kernel) (pa_cons (pv 0) (pa_cons (pe_bltn (v := .ty "bool") (by rfl) T.bool (by decide +kernel) rfl) pa_nil))) (pe_one (pe_cmpR op_eq (pv 0) (pv 1) (nomark _))))))) pss_nil) (pss_cons (ps_if (pt_val (pe_callB (isi_K (K := K) rfl) (by rfl) T.isinstance (by decide +kernel) (pa_cons (pv 1) (pa_cons (pe_bltn (v := .ty "int") (by rfl) T.int (by decide +kernel) rfl) pa_nil)))) (pss_one (ps_ret (pe_and (pe_callB (isi_K (K := K) rfl) (by rfl) T.isinstance (by decide +kernel) (pa_cons (pv 0) (pa_cons (pe_bltn (v := .ty "int") (by rfl) T.int (by decide +kernel) rfl) pa_nil))) (pe_one (pe_cmpR op_eq (pv 0) (pv 1) (nomark _)))))) pss_nil) (pss_one (ps_ret (pe_and (pe_callB (isi_K (K := K) rfl) (by rfl) T.isinstance (by decide +kernel) (pa_cons (pv 1) (pa_cons (pe_bltn (v := .ty "str") (by rfl) T.str (by decide +kernel) rfl) pa_nil))) (pe_and (pe_callB (isi_K (K := K) rfl) (by rfl) T.isinstance (by decide +kernel) (pa_cons (pv 0) (pa_cons (pe_bltn (v := .ty "str") (by rfl) T.str (by decide +kernel) rfl) pa_nil))) (pe_one (pe_cmpR op_eq (pv 0) (pv 1) (nomark _))))))))))), ?_⟩
      refine r_if (b := b) (c := false) (et_is (et_or (et_test (ev_isN (vB rfl (Ex.refl _)) rfl)) fun z => et_test (ev_isN (vA rfl (Ex.refl _)) rfl)) rfl) eb (fun z => by cases z) (fun _ h1 g1 => ?_)
      refine r_if (b := b) (c := false) (et_is (et_or (et_B (ev_isiD (r := false) (vB rfl (Ex.refl _)) (by show kitB "int" "list" = _; decide +kernel))) fun z => et_B (ev_isiD (r := false) (vB rfl (Ex.refl _)) (by show kitB "int" "tuple" = _; decide +kernel))) rfl) g1.gi (fun z => by cases z) (fun _ h2 g2 => ?_)
      refine r_if (b := b) (c := false) (et_is (et_or (et_B (ev_isiD (r := false) (vB rfl (Ex.refl _)) (by show kitB "int" "bool" = _; decide +kernel))) fun z => et_B (ev_isiD (r := false) (vA rfl (Ex.refl _)) (by show kitB "int" "bool" = _; decide +kernel))) rfl) (g1.trans g2).gi (fun z => by cases z) (fun _ h3 g3 => ?_)
      refine r_if (b := b) (c := true) (et_B (ev_isiD (r := true) (vB rfl (Ex.refl _)) (by show kitB "int" "int" = _; decide +kernel))) ((g1.trans g2).trans g3).gi (fun _ h4 g4 => ?_) (fun z => by cases z)
      exact kk (((g1.trans g2).trans g3).trans g4).gh (ev_andV (b := true) (ev_isiD (r := true) (vA rfl (Ex.refl _)) (by show kitB "int" "int" = _; decide +kernel)) fun _ => ev_eqS (ev_int (vA rfl (Ex.refl _))) (ev_int (vB rfl (Ex.refl _))) rfl)
    | str v =>
      refine ⟨_, (pss_cons (ps_if (PW.pt (pw_or (pt_cmpR op_isN1 (pv 1) pe_non (nomark _)) (pw_or1 (pt_cmpR op_isN1 (pv 0) pe_non (nomark _))))) (pss_one (ps_ret (pe_and (pe_cmpR op_isN1 (pv 1) pe_non (nomark _)) (pe_one (pe_cmpR op_isN1 (pv 0) pe_non (nomark _)))))) pss_nil) (pss_cons (ps_if (PW.pt (pw_or (pt_val (pe_callB (isi_K (K := K) rfl) (by rfl) T.isinstance (by decide +kernel) (pa_cons (pv 1) (pa_cons (pe_bltn (v := .ty "list") (by rfl) T.list (by decide +kernel) rfl) pa_nil)))) (pw_or1 (pt_val (pe_callB (isi_K (K := K) rfl) (by rfl) T.isinstance (by decide +kernel) (pa_cons (pv 1) (pa_cons (pe_bltn (v := .ty "tuple") (by rfl) T.tuple (by decide +kernel) rfl) pa_nil))))))) (pss_cons (ps_if (PW.pt (pw_or (pt_cmpR op_ne (pe_callB (isi_K (K := K) rfl) (by rfl) T.isinstance (by decide +kernel) (pa_cons (pv 1) (pa_cons (pe_bltn (v := .ty "list") (by rfl) T.list (by decide +kernel) rfl) pa_nil))) (pe_callB (isi_K (K := K) rfl) (by rfl) T.isinstance (by decide +kernel) (pa_cons (pv 0) (pa_cons (pe_bltn (v := .ty "list") (by rfl) T.list (by decide +kernel) rfl) pa_nil))) (nomark _)) (pw_or1 (pt_cmpR op_ne (pe_callB (isi_K (K := K) rfl) (by rfl) T.isinstance (by decide +kernel) (pa_cons (pv 1) (pa_cons (pe_bltn (v := .ty "tuple") (by rfl) T.tuple (by decide +kernel) rfl) pa_nil))) (pe_callB (isi_K (K := K) rfl) (by rfl) T.isinstance (by decide +kernel) (pa_cons (pv 0) (pa_cons (pe_bltn (v := .ty "tuple") (by rfl) T.tuple (by decide +kernel) rfl) pa_nil))) (nomark _))))) (pss_one (ps_ret pe_bl)) pss_nil) (pss_cons (ps_if (pt_cmpR op_ne (pe_callB (len_K (K := K) rfl) (by rfl) T.len PySem.boot_len (pa_cons (pv 0) pa_nil)) (pe_callB (len_K (K := K) rfl) (by rfl) T.len PySem.boot_len (pa_cons (pv 1) pa_nil)) (nomark _)) (pss_one (ps_ret pe_bl)) pss_nil) (pss_one (ps_ret (pe_callB (all_K (K := K) rfl rfl) (by rfl) T.all (by decide +kernel) (pa_cons (pe_lc (own := [("k", 2)]) (tt := tYes) rfl sc.nd (pi_range1 (by rfl) T.range (pa_cons (pe_callB (len_K (K := K) rfl) (by rfl) T.len PySem.boot_len (pa_cons (pv 1) pa_nil)) pa_nil)) (blkOk_by (N := ["actual", "due", "k"]) (sc := defScope s_same) (by decide +kernel)) (fun _ _ _ _ _ => (pg_name (i := 2) sc.nd rfl (by first | exact Or.inl rfl | exact Or.inr rfl))) (fun _ _ _ _ _ => pts_nil) (fun _ _ _ _ _ => (pe_call G_same hr rfl m_same k_same b_same .nil pass0 (pa_cons (pe_ix (ix_listK (K := K) rfl) (pv 0) (pv 2) (fun _ _ => rfl)) (pa_cons (pe_ix (ix_listK (K := K) rfl) (pv 1) (pv 2) (fun _ _ => rfl)) pa_nil))))) pa_nil)))))) pss_nil) (pss_cons (ps_if (PW.pt (pw_or (pt_val (pe_callB (isi_K (K := K) rfl) (by rfl) T.isinstance (by decide +kernel) (pa_cons (pv 1) (pa_cons (pe_bltn (v := .ty "bool") (by rfl) T.bool (by decide +kernel) rfl) pa_nil)))) (pw_or1 (pt_val (pe_callB (isi_K (K := K) rfl) (by rfl) T.isinstance (by decide +kernel) (pa_cons (pv 0) (pa_cons (pe_bltn (v := .ty "bool") (by rfl) T.bool (by decide +kernel) rfl) pa_nil))))))) (pss_one (ps_ret (pe_and (pe_callB (isi_K (K := K) rfl) (by rfl) T.isinstance (by decide +kernel) (pa_cons (pv 1) (pa_cons (pe_bltn (v := .ty "bool") (by rfl) T.bool (by decide +kernel) rfl) pa_nil))) (pe_and (pe_callB (isi_K (K := K) rfl) (by rfl) T.isinstance (by decide +kernel) (pa_cons (pv 0) (pa_cons (pe_bltn (v := .ty "bool") (by rfl) T.bool (by decide +kernel) rfl) pa_nil))) (pe_one (pe_cmpR op_eq (pv 0) (pv 1) (nomark _))))))) pss_nil) (pss_cons (ps_if (pt_val (pe_callB (isi_K (K := K) rfl) (by rfl) T.isinstance (by decide +kernel) (pa_cons (pv 1) (pa_cons (pe_bltn (v := .ty "int") (by rfl) T.int (by decide +kernel) rfl) pa_nil)))) (pss_one (ps_ret (pe_and (pe_callB (isi_K (K := K) rfl) (by rfl) T.isinstance (by decide +kernel) (pa_cons (pv 0) (pa_cons (pe_bltn (v := .ty "int") (by rfl) T.int (by decide +kernel) rfl) pa_nil))) (pe_one (pe_cmpR op_eq (pv 0) (pv 1) (nomark _)))))) pss_nil) (pss_one (ps_ret (pe_and (pe_callB (isi_K (K := K) rfl) (by rfl) T.isinstance (by decide +kernel) (pa_cons (pv 1) (pa_cons (pe_bltn (v := .ty "str") (by rfl) T.str (by decide +kernel) rfl) pa_nil))) (pe_and (pe_callB (isi_K (K := K) rfl) (by rfl) T.isinstance (by decide +kernel) (pa_cons (pv 0) (pa_cons (pe_bltn (v := .ty "str") (by rfl) T.str (by decide +kernel) rfl) pa_nil))) (pe_one (pe_cmpR op_eq (pv 0) (pv 1) (nomark _))))))))))), ?_⟩
      refine r_if (b := b) (c := false) (et_is (et_or (et_test (ev_isN (vB rfl (Ex.refl _)) rfl)) fun z => et_test (ev_isN (vA rfl (Ex.refl _)) rfl)) rfl) eb (fun z => by cases z) (fun _ h1 g1 => ?_)
      refine r_if (b := b) (c := false) (et_is (et_or (et_B (ev_isiD (r := false) (vB rfl (Ex.refl _)) (by show kitB "str" "list" = _; decide +kernel))) fun z => et_B (ev_isiD (r := false) (vB rfl (Ex.refl _)) (by show kitB "str" "tuple" = _; decide +kernel))) rfl) g1.gi (fun z => by cases z) (fun _ h2 g2 => ?_)
      refine r_if (b := b) (c := false) (et_is (et_or (et_B (ev_isiD (r := false) (vB rfl (Ex.refl _)) (by show kitB "str" "bool" = _; decide +kernel))) fun z => et_B (ev_isiD (r := false) (vA rfl (Ex.refl _)) (by show kitB "str" "bool" = _; decide +kernel))) rfl) (g1.trans g2).gi (fun z => by cases z) (fun _ h3 g3 => ?_)
      refine r_if (b := b) (c := false) (et_B (ev_isiD (r := false) (vB rfl (Ex.refl _)) (by show kitB "str" "int" = _; decide +kernel))) ((g1.trans g2).trans g3).gi (fun z => by cases z) (fun _ h4 g4 => ?_)
      exact kk (((g1.trans g2).trans g3).trans g4).gh (ev_andV (b := true) (ev_isiD (r := true) (vB rfl (Ex.refl _)) (by show kitB "str" "str" = _; decide +kernel)) fun _ => ev_andV (b := true) (ev_isiD (r := true) (vA rfl (Ex.refl _)) (by show kitB "str" "str" = _; decide +kernel)) fun _ => ev_eqS (ev_str (vA rfl (Ex.refl _))) (ev_str (vB rfl (Ex.refl _))) rfl)

abbrev s_told : Stmt := top 32
theorem sc_told : FnScope ["game", "start", "beginning", "circle", "e"] ["game", "start", "beginning", "circle"] (defScope s_told) := ⟨rfl, rfl, rfl, by decide +kernel, rfl, by decide +kernel, by decide +kernel⟩
theorem has_told5 {C N : Addr} (T : Bt mg) (NB : NBTxt K mg C) (NC : NCs K mg N C) (n1 : PySem.W.exmOne K (.ref N) (.ref C) = some false) (n2 : PySem.W.exmOne K (.ref N) (.ref N) = some true) (D : IsDef K mg "_law_told" s_told ["game", "start", "beginning", "circle"])
    (U : HasX P w K mg base 6 "gain_per_step" ["game", "start", "beginning", "circle"] (spGain K C N)) : Has P w K mg base 7 "_law_told" ["game", "start", "beginning", "circle"] (spTold5 K) := by
  obtain ⟨f, fd, F, hm, hb⟩ := D
  obtain ⟨f_gain, fd_gain, G_gain, m_gain, k_gain, b_gain⟩ := U
  have m_NoBranch := NB.mC
  have m_NoCircle := NC.mN
  have sc := sc_told
  refine ⟨f, fd, F.ok sc (fun vs H Q E x => ?_) (fun cdv A outer s h0 vs Q E hr hs => ?_), hm, F.kp, hb⟩
  · obtain ⟨b, G, x, r, s, _, hA, _⟩ := x
    exact hA.length
  obtain ⟨b, G, x, r, s, eb, hA, hWG, hx, hrl, kQ⟩ := hs
  refine ⟨_, (pss_one (ps_try_two (i := 4) (tb := fun W => tRet (tCallS (spGain K C N) (WE W) (tCons (tVar 0) (tCons (tVar 1) (tCons (tVar 2) (tCons (tVar 3) tNil)))))) (t1 := fun a cls d => tRet (tTup (tCons (tC (V.str "raised")) (tCons (tC (V.str "branch")) (tCons (tXf a cls d C "at" (tVar 4)) tNil))))) (t2 := fun a cls d => tRet (tTup (tCons (tC (V.str "raised")) (tCons (tC (V.str "circle")) tNil)))) rfl rfl sc.nd rfl rfl ⟨rfl, by decide, Or.inl m_NoBranch⟩ ⟨rfl, by decide, Or.inl m_NoCircle⟩ (fun W pn xe tk _ => (pss_one (ps_ret (pe_callS G_gain (hr.mono (by decide)) rfl m_gain k_gain b_gain (fun σ => passAt tk σ) (pa_cons (pv 0) (pa_cons (pv 1) (pa_cons (pv 2) (pa_cons (pv 3) pa_nil)))))))) (fun a oe cls d pn hz hf => (pss_one (ps_ret (pe_tup (pa_cons pe_str (pa_cons pe_str (pa_cons (pe_xf NB.xf NB.noAt hz hf (pv 4)) pa_nil))))))) (fun a oe cls d pn hz hf => (pss_one (ps_ret (pe_tup (pa_cons pe_str (pa_cons pe_str pa_nil)))))))), ?_⟩
  obtain ⟨vG, vR, vS, rfl, hG, hR, hS⟩ : ∃ vG vR vS, vs = [vG, .int (x : Int), vR, vS] ∧ Dt K b vG (gameD G) ∧ Dt K b vR (intsD r) ∧ Dt K b vS (intsD s) := by
    cases hA with
    | cons h1 hA =>
      cases hA with
      | cons h2 hA =>
        cases hA with
        | cons h3 hA =>
          cases hA with
          | cons h4 hA =>
            cases hA
            exact ⟨_, _, _, by rw [h2.intI], h1, h3, h4⟩
  have hargs : EDA K (tCons (tVar 0) (tCons (tVar 1) (tCons (tVar 2) (tCons (tVar 3) tNil)))) (start ["game", "start", "beginning", "circle", "e"] [vG, V.int (x : Int), vR, vS]) b [gameD G, .int (x : Int), intsD r, intsD s] := eda_cons (ed_var rfl hG) (eda_cons (ed_int (ev_var rfl)) (eda_cons (ed_var rfl hR) (eda_cons (ed_var rfl hS) eda_nil)))
  refine r_retS hargs eb fun us b1 h1 g1 hA1 => ?_
  refine ⟨b1, G, x, r, s, g1.gi, hA1, hWG, hx, hrl, fun ho hs hc v b2 h2 g2 hv => kQ _ (.good ho hs hc) v b2 h2 (g1.trans g2) hv, fun hc h2 e2 => ?_, fun j hj d h2 e2 hd hd2 => ?_⟩
  · refine ⟨false, n1, fun z => Bool.noConfusion z, fun _ => ⟨n2, fun a ha => ?_⟩⟩
    have e02 := g1.gh.trans e2
    show tRet _ _ _ _
    refine r_ret (K := K) (b := b) (d := .tuple [.str "raised", .str "circle"]) (ed_tup (eda_cons (ed_str ev_c) (eda_cons (ed_str ev_c) eda_nil)) (by show 2 ≤ 100000; decide)) (eb.trans e02) ?_
    exact fun v b' h' g hv => kQ _ (.circle hc) v b' h' ((Gr.stay eb e02).trans g) hv
  · refine ⟨true, NB.te, fun _ a ha => ?_, fun z => Bool.noConfusion z⟩
    have e02 := g1.gh.trans e2
    have n0 := fresh_back g1.gh hd
    have g : Gr b h0 (upd b d (.xd [(("at" : Str), .int (j : Int))])) h2 := (Gr.stay eb e02).tell n0 (none_of eb n0) hd2
    show tRet _ _ _ _
    refine r_ret (K := K) (d := .tuple [.str "raised", .str "branch", .int (j : Int)]) (ed_tup (eda_cons (ed_str ev_c) (eda_cons (ed_str ev_c) (eda_cons (ed_int (ev_xf (v := .int (j : Int)) (ev_var rfl) rfl rfl upd_same rfl)) eda_nil))) (by show 3 ≤ 100000; decide)) g.gi ?_
    exact fun v b' h' g3 hv => kQ _ (.branch j hj) v b' h' (g.trans g3) hv

abbrev s_law : Stmt := top 33
theorem sc_law : FnScope ["script", "draws", "game", "start", "branches", "places", "last", "first", "total_v", "due", "turn", "kept", "plays", "k", "at", "both", "beginning", "circle", "one", "other", "place"] ["script"] (defScope s_law) := ⟨rfl, rfl, rfl, by decide +kernel, rfl, by decide +kernel, by decide +kernel⟩
theorem ok_law {f : Addr} {fd : FuncData} (F : Fun K "law" "law" s_law f fd) (T : Bt mg) (U1 : Has P w K mg base 1 "_law_draws" ["script", "count"] (spDraws K)) (U2 : Has P w K mg base 4 "_law_game" ["draws", "most"] (spGame K))
    (U3 : Has P w K mg base 2 "_law_way" ["game", "start", "draws"] (spWay K)) (U4 : Has P w K mg base 2 "_law_places" ["game", "start", "branches"] (spPath K)) (U5 : Has P w K mg base 2 "_law_number" ["n", "d"] (spNumber K)) (U6 : Has P w K mg base 4 "_law_total" ["numbers"] (spTotal K))
    (U7 : Has P w K mg base 2 "_law_same" ["actual", "due"] (spSame K 2)) (U8 : Has P w K mg base 7 "_law_told" ["game", "start", "beginning", "circle"] (spTold5 K)) (U9 : Has P w K mg base 1 "_law_targets" ["place"] (spTargets K)) :
    LawOk P w K mg base 8 f fd ["script"] (spLaw K) := by
  obtain ⟨f_draws, fd_draws, G_draws, m_draws, k_draws, b_draws⟩ := U1
  obtain ⟨f_game, fd_game, G_game, m_game, k_game, b_game⟩ := U2
  obtain ⟨f_way, fd_way, G_way, m_way, k_way, b_way⟩ := U3
  obtain ⟨f_places, fd_places, G_places, m_places, k_places, b_places⟩ := U4
  obtain ⟨f_number, fd_number, G_number, m_number, k_number, b_number⟩ := U5
  obtain ⟨f_total, fd_total, G_total, m_total, k_total, b_total⟩ := U6
  obtain ⟨f_same, fd_same, G_same, m_same, k_same, b_same⟩ := U7
  obtain ⟨f_told, fd_told, G_told, m_told, k_told, b_told⟩ := U8
  obtain ⟨f_targets, fd_targets, G_targets, m_targets, k_targets, b_targets⟩ := U9
  have sc := sc_law
  refine law_ok F sc (fun vs H Q E x => ?_) (fun cd s h0 vs Q hr hs => ?_)
  · obtain ⟨a, ns, rfl, _⟩ := x
    rfl
  obtain ⟨a, ns, rfl, hS, hl, k⟩ := hs
  have hgd : (callerA.deeper (PyProof.Rows.envOfC "law" (defScope s_law) s.heap.objs.size f cd)).guards = some [] := rfl
  refine ⟨_, (pss_cons (ps_set (i := 1) sc.nd rfl (by first | exact Or.inl rfl | exact Or.inr rfl) (pe_call G_draws (hr.mono (by decide)) rfl m_draws k_draws b_draws .nil pass0 (pa_cons (pv 0) (pa_cons pe_int pa_nil)))) (pss_cons (ps_set (i := 2) sc.nd rfl (by first | exact Or.inl rfl | exact Or.inr rfl) (pe_call G_game (hr.mono (by decide)) rfl m_game k_game b_game .nil pass0 (pa_cons (pv 1) (pa_cons pe_int pa_nil)))) (pss_cons (ps_set (i := 3) sc.nd rfl (by first | exact Or.inl rfl | exact Or.inr rfl) (pe_op op_mod (pe_callTy cr_int1 (by rfl) T.int (by decide +kernel) (pa_cons (pe_ix (ix_listK (K := K) rfl) (pv 1) pe_int (fun _ _ => rfl)) pa_nil)) (pe_callB (len_K (K := K) rfl) (by rfl) T.len PySem.boot_len (pa_cons (pv 2) pa_nil)))) (pss_cons (ps_set (i := 4) sc.nd rfl (by first | exact Or.inl rfl | exact Or.inr rfl) (pe_call G_way (hr.mono (by decide)) rfl m_way k_way b_way .nil pass0 (pa_cons (pv 2) (pa_cons (pv 3) (pa_cons (pe_slice (sl_listK (K := K) rfl) (pv 1) (po_some pe_int) (po_some pe_int)) pa_nil))))) (pss_cons (ps_set (i := 5) sc.nd rfl (by first | exact Or.inl rfl | exact Or.inr rfl) (pe_call G_places (hr.mono (by decide)) rfl m_places k_places b_places .nil pass0 (pa_cons (pv 2) (pa_cons (pv 3) (pa_cons (pv 4) pa_nil))))) (pss_cons (ps_set (i := 6) sc.nd rfl (by first | exact Or.inl rfl | exact Or.inr rfl) (pe_callB (min_K (K := K) rfl rfl) (by rfl) T.min (by decide +kernel) (pa_cons (pe_lc (own := [("k", 13)]) (tt := _) rfl sc.nd (pi_range1 (by rfl) T.range (pa_cons pe_int pa_nil)) (blkOk_by (N := ["script", "draws", "game", "start", "branches", "places", "last", "first", "total_v", "due", "turn", "kept", "plays", "k", "at", "both", "beginning", "circle", "one", "other", "place"]) (sc := defScope s_law) (by decide +kernel)) (fun _ _ _ _ _ => (pg_name (i := 13) sc.nd rfl (by first | exact Or.inl rfl | exact Or.inr rfl))) (fun _ _ _ _ _ => (pts_one (pt_cmpR (inS_K (K := K) rfl) (pe_ix (ix_listK (K := K) rfl) (pv 5) (pv 13) (fun _ _ => rfl)) (pe_slice (sl_listK (K := K) rfl) (pv 5) po_none (po_some (pv 13))) (by rfl)))) (fun _ _ _ _ _ => (pv 13))) pa_nil))) (pss_cons (ps_set (i := 7) sc.nd rfl (by first | exact Or.inl rfl | exact Or.inr rfl) (pe_indexK (K := K) rfl (pv 5) (pa_cons (pe_ix (ix_listK (K := K) rfl) (pv 5) (pv 6) (fun _ _ => rfl)) pa_nil))) (pss_cons (ps_par rfl sc.nd (i := 16) (j := 17) rfl rfl (by decide) rfl rfl (pa_cons (pe_slice (sl_listK (K := K) rfl) (pv 4) po_none (po_some (pv 7))) (pa_cons (pe_slice (sl_listK (K := K) rfl) (pv 4) (po_some (pv 7)) (po_some (pv 6))) pa_nil)) (by rfl)) (pss_cons (ps_set (i := 8) sc.nd rfl (by first | exact Or.inl rfl | exact Or.inr rfl) (pe_call G_total (hr.mono (by decide)) rfl m_total k_total b_total .nil pass0 (pa_cons (pe_lc (own := [("place", 20)]) (tt := tYes) rfl sc.nd (pi_listK (K := K) rfl (pe_slice (sl_listK (K := K) rfl) (pv 5) (po_some (pv 7)) (po_some (pv 6)))) (blkOk_by (N := ["script", "draws", "game", "start", "branches", "places", "last", "first", "total_v", "due", "turn", "kept", "plays", "k", "at", "both", "beginning", "circle", "one", "other", "place"]) (sc := defScope s_law) (by decide +kernel)) (fun _ _ _ _ _ => (pg_name (i := 20) sc.nd rfl (by first | exact Or.inl rfl | exact Or.inr rfl))) (fun _ _ _ _ _ => pts_nil) (fun _ _ _ _ _ => (pe_ix (ix_tupK (K := K) rfl) (pe_ix (ix_listK (K := K) rfl) (pv 2) (pv 20) (fun _ _ => rfl)) pe_int (fun _ _ => rfl)))) pa_nil))) (pss_cons (ps_set (i := 9) sc.nd rfl (by first | exact Or.inl rfl | exact Or.inr rfl) (pe_call G_number (hr.mono (by decide)) rfl m_number k_number b_number .nil pass0 (pa_cons (pe_ix (ix_tupK (K := K) rfl) (pv 8) pe_int (fun _ _ => rfl)) (pa_cons (pe_op op_mulW (pe_ix (ix_tupK (K := K) rfl) (pv 8) pe_int (fun _ _ => rfl)) (pe_callB (len_K (K := K) rfl) (by rfl) T.len PySem.boot_len (pa_cons (pv 17) pa_nil))) pa_nil)))) (pss_cons (ps_set (i := 10) sc.nd rfl (by first | exact Or.inl rfl | exact Or.inr rfl) (pe_op op_mod (pe_callTy cr_int1 (by rfl) T.int (by decide +kernel) (pa_cons (pe_ix (ix_listK (K := K) rfl) (pv 1) pe_int (fun _ _ => rfl)) pa_nil)) (pe_callB (len_K (K := K) rfl) (by rfl) T.len PySem.boot_len (pa_cons (pv 17) pa_nil)))) (pss_cons (ps_set (i := 11) sc.nd rfl (by first | exact Or.inl rfl | exact Or.inr rfl) (pe_callB (repr_K (K := K) hgd hr.units rfl) (by rfl) T.repr (by decide +kernel) (pa_cons (pe_tup (pa_cons (pv 2) (pa_cons (pv 16) (pa_cons (pv 17) pa_nil)))) pa_nil))) (pss_cons (ps_set (i := 12) sc.nd rfl (by first | exact Or.inl rfl | exact Or.inr rfl) (pe_lst (pa_cons (pe_tup (pa_cons (pv 16) (pa_cons (pv 17) pa_nil))) (pa_cons (pe_tup (pa_cons (pv 16) (pa_cons (pe_op op_cat (pv 17) (pv 17)) pa_nil))) (pa_cons (pe_tup (pa_cons (pe_op op_cat (pv 16) (pe_slice (sl_listK (K := K) rfl) (pv 17) po_none (po_some (pv 10)))) (pa_cons (pe_op op_cat (pe_slice (sl_listK (K := K) rfl) (pv 17) (po_some (pv 10)) po_none) (pe_slice (sl_listK (K := K) rfl) (pv 17) po_none (po_some (pv 10)))) pa_nil))) pa_nil))))) (pss_cons (ps_for PassesOwn.never rfl (pi_listK (K := K) rfl (pe_op op_cat (pv 12) (pe_lst (pa_cons (pe_tup (pa_cons (pe_op op_cat (pv 16) (pv 17)) (pa_cons (pv 17) pa_nil))) pa_nil)))) (pg_tupK (K := K) (n := 2) rfl rfl (pgs_cons (pg_name (i := 18) sc.nd rfl (by first | exact Or.inl rfl | exact Or.inr rfl)) (pgs_cons (pg_name (i := 19) sc.nd rfl (by first | exact Or.inl rfl | exact Or.inr rfl)) pgs_nil))) (pss_one (ps_if (pt_not (pt_val (pe_call G_same (hr.mono (by decide)) rfl m_same k_same b_same .nil pass0 (pa_cons (pe_call G_told (hr.mono (by decide)) rfl m_told k_told b_told .nil pass0 (pa_cons (pv 2) (pa_cons (pv 3) (pa_cons (pv 18) (pa_cons (pv 19) pa_nil))))) (pa_cons (pv 9) pa_nil))))) (pss_one (ps_ret pe_bl)) pss_nil))) (pss_cons (ps_if (PW.pt (pw_or (pt_cmpR (neD_K (K := K) hr.units rfl) (pe_call G_told (hr.mono (by decide)) rfl m_told k_told b_told .nil pass0 (pa_cons (pv 2) (pa_cons (pv 3) (pa_cons (pv 4) (pa_cons (pe_lst pa_nil) pa_nil))))) (pe_tup (pa_cons pe_str (pa_cons pe_str pa_nil))) (nomark _)) (pw_or1 (pt_cmpR op_ne (pe_callB (repr_K (K := K) hgd hr.units rfl) (by rfl) T.repr (by decide +kernel) (pa_cons (pe_tup (pa_cons (pv 2) (pa_cons (pv 16) (pa_cons (pv 17) pa_nil)))) pa_nil)) (pv 11) (nomark _))))) (pss_one (ps_ret pe_bl)) pss_nil) (pss_cons (ps_for PassesOwn.never rfl (pi_range2 (by rfl) T.range (pa_cons (pe_op op_add (pv 7) pe_int) (pa_cons (pv 6) pa_nil))) (pg_name (i := 13) sc.nd rfl (by first | exact Or.inl rfl | exact Or.inr rfl)) (pss_one (ps_if (pt_cmpR (neD_K (K := K) hr.units rfl) (pe_call G_told (hr.mono (by decide)) rfl m_told k_told b_told .nil pass0 (pa_cons (pv 2) (pa_cons (pv 3) (pa_cons (pv 16) (pa_cons (pe_slice (sl_listK (K := K) rfl) (pv 4) (po_some (pv 7)) (po_some (pv 13))) pa_nil))))) (pe_tup (pa_cons pe_str (pa_cons pe_str pa_nil))) (nomark _)) (pss_one (ps_ret pe_bl)) pss_nil))) (pss_cons (ps_set (i := 14) sc.nd rfl (by first | exact Or.inl rfl | exact Or.inr rfl) (pe_op op_mod (pe_callTy cr_int1 (by rfl) T.int (by decide +kernel) (pa_cons (pe_ix (ix_listK (K := K) rfl) (pv 1) pe_int (fun _ _ => rfl)) pa_nil)) (pe_op op_add (pe_callB (len_K (K := K) rfl) (by rfl) T.len PySem.boot_len (pa_cons (pv 16) pa_nil)) (pe_callB (len_K (K := K) rfl) (by rfl) T.len PySem.boot_len (pa_cons (pv 17) pa_nil))))) (pss_cons (ps_set (i := 15) sc.nd rfl (by first | exact Or.inl rfl | exact Or.inr rfl) (pe_op op_cat (pv 16) (pv 17))) (pss_cons (ps_asg (pe_ix (ix_listK (K := K) rfl) (pe_lst (pa_cons (pe_un un_neg pe_int) (pa_cons pe_int (pa_cons (pe_callB (len_K (K := K) rfl) (by rfl) T.len PySem.boot_len (pa_cons (pe_call G_targets (hr.mono (by decide)) rfl m_targets k_targets b_targets .nil pass0 (pa_cons (pe_ix (ix_listK (K := K) rfl) (pv 2) (pe_ix (ix_listK (K := K) rfl) (pv 5) (pv 14) (fun _ _ => rfl)) (fun _ _ => rfl)) pa_nil)) pa_nil)) pa_nil)))) (pe_op op_mod (pe_callTy cr_int1 (by rfl) T.int (by decide +kernel) (pa_cons (pe_ix (ix_listK (K := K) rfl) (pv 1) pe_int (fun _ _ => rfl)) pa_nil)) pe_int) (fun _ _ => rfl)) (pg_sub (pv 15) (pv 14) set_list)) (pss_cons (ps_if (PW.pt (pw_and (pt_cmpR op_lt (pv 14) (pv 7) (nomark _)) (pw_and1 (pt_not (pt_val (pe_call G_same (hr.mono (by decide)) rfl m_same k_same b_same .nil pass0 (pa_cons (pe_call G_told (hr.mono (by decide)) rfl m_told k_told b_told .nil pass0 (pa_cons (pv 2) (pa_cons (pv 3) (pa_cons (pe_slice (sl_listK (K := K) rfl) (pv 15) po_none (po_some (pv 7))) (pa_cons (pe_lst pa_nil) pa_nil))))) (pa_cons (pe_tup (pa_cons pe_str (pa_cons pe_str (pa_cons (pv 14) pa_nil)))) pa_nil)))))))) (pss_one (ps_ret pe_bl)) pss_nil) (pss_one (ps_ret (pe_call G_same (hr.mono (by decide)) rfl m_same k_same b_same .nil pass0 (pa_cons (pe_call G_told (hr.mono (by decide)) rfl m_told k_told b_told .nil pass0 (pa_cons (pv 2) (pa_cons (pv 3) (pa_cons (pe_slice (sl_listK (K := K) rfl) (pv 15) po_none (po_some (pv 7))) (pa_cons (pe_slice (sl_listK (K := K) rfl) (pv 15) (po_some (pv 7)) po_none) pa_nil))))) (pa_cons (pe_tup (pa_cons pe_str (pa_cons pe_str (pa_cons (pv 14) pa_nil)))) pa_nil))))))))))))))))))))))))), ?_⟩
  refine ⟨_, rfl, h0, a, ns, 120, rfl, Ex.refl _, hS, hl, by decide, fun v1 b1 h1 ds g1 hdl hd hv1 => ?_⟩
  refine ⟨_, rfl, b1, ds, 6, g1.gi, DtA.cons hv1 (DtA.one (Dt.int 6)), by decide, by decide, by omega, hd, fun v2 b2 h2 G g2 hWG hGl hv2 => ?_⟩
  show tSeq _ _ _ [some (.ref a), some v1, some v2, none, none, none, none, none, none, none, none, none, none, none, none, none, none, none, none, none, none] _
  have okG := wf_okG hWG
  have hW := wfT_of hWG
  have hsm := smG_of okG
  have hG1 := hWG.1
  have hvd := hv1.up g2.gb
  have d91 := ds_get (j := 91) hd
  have hxm0 : 0 ≤ ds.getD 91 0 % (G.length : Int) := Int.emod_nonneg _ (by omega)
  have hxm1 : ds.getD 91 0 % (G.length : Int) < G.length := Int.emod_lt_of_pos _ (by omega)
  obtain ⟨x, hx⟩ : ∃ x : Nat, (x : Int) = ds.getD 91 0 % (G.length : Int) := ⟨(ds.getD 91 0 % (G.length : Int)).toNat, by omega⟩
  have hxl : x < G.length := by omega
  refine r_sc (b := b2) (v := .int (x : Int)) (ev_op (ev_int1 (ev_ixI 91 (ed_var rfl hvd) ev_c rfl (by omega))) (ev_lenL (ed_var rfl hv2)) (by
    rw [hx]
    have e1 : ((G.map Pl.D).length : Int) = (G.length : Int) := by rw [List.length_map]
    rw [e1]
    exact rv_I (by omega))) g2.gi fun h3 g3 => ?_
  obtain ⟨es, he, hel, hed⟩ := cut_ints (ds := ds) (lo := 92) (n := 7) (by omega) hd
  have he' : cutD (ds.map PyData.int) (some 92) (some 99) = es.map PyData.int := he
  refine r_setX (K := K) (ex_way (G := G) (x := x) (ds := es) (eda_cons (ed_var rfl hv2) (eda_cons (ed_int (ev_var rfl)) (eda_cons (he' ▸ EN.ed (en_sl (ed_var rfl hvd) (eo_some ev_c) (eo_some ev_c))) eda_nil))) hWG hxl hed (by omega)) g3.gi fun v4 b4 h4 d4 g4 hd4 hv4 => ?_
  obtain ⟨r, hrl, hok, rfl⟩ := hd4
  have hr7 : r.length = 7 := by omega
  have hoA := okA_of hok
  have hG4 := hv2.up g4.gb
  have hvd4 := hvd.up g4.gb
  refine r_set (K := K) (ed_path (eda_cons (ed_var rfl hG4) (eda_cons (ed_int (ev_var rfl)) (eda_cons (ed_var rfl hv4) eda_nil))) hW hsm hxl (by omega) hok) g4.gi fun v5 b5 h5 g5 hv5 => ?_
  show tSeq _ _ _ [some (.ref a), some v1, some v2, some (.int (x : Int)), some v4, some v5, none, none, none, none, none, none, none, none, none, none, none, none, none, none, none] _
  have hG5 := hG4.up g5.gb
  have hvd5 := hvd4.up g5.gb
  have hR5 : Dt K b5 v4 (.list (r.map PyData.int)) := hv4.up g5.gb
  obtain ⟨m, ff, hfm, hmr, hpe, hdis⟩ := path_loop hW hxl hoA (by omega)
  have hpl := pathF_len G r x
  -- the last place
  refine r_sc (b := b5) (v := .int (m : Int)) (ev_min (ns := ((List.range 8).filter fun i => decide (atK G x r i ∈ (pathF G x r).take i)).map fun i : Nat => (i : Int)) ?_ ?_ ?_) g5.gi fun h6 g6 => ?_
  · have e : givenD (8 : Int).toNat (fun i => decide (atK G x r i ∈ (pathF G x r).take i)) (fun i => PyData.int (i : Int)) = (((List.range 8).filter fun i => decide (atK G x r i ∈ (pathF G x r).take i)).map fun i : Nat => (i : Int)).map PyData.int := by
      unfold givenD
      rw [List.map_map]
      rfl
    rw [← e]
    refine EN.ed (en_lcR (n := 8) (ea_cons ev_c ea_nil) (by decide) _ _ (fun _ => rfl) fun i b6 e6 hi => ⟨?_, fun _ => ed_int (ev_var rfl)⟩)
    have hil : i ≤ r.length := by omega
    refine et_is (et_test (ev_inN (neg := false) (l := (pathF G x r).take i) (x := atK G x r i) (ev_int (ed_ixL (ed_var rfl (hv5.up e6)) (ev_var rfl) (nats_at rfl (path_getK hil)))) ?_)) rfl
    rw [natsD_map, ← cut_takeN (by omega)]
    exact EN.ed (en_sl (ed_var rfl (hv5.up e6)) eo_none (eo_some (ev_var rfl)))
  · refine List.mem_map.mpr ⟨m, List.mem_filter.mpr ⟨List.mem_range.mpr (by omega), decide_eq_true ((mem_takeK hmr).mpr ⟨ff, hfm, hpe⟩)⟩, rfl⟩
  · intro y hy
    obtain ⟨i, hi, rfl⟩ := List.mem_map.mp hy
    obtain ⟨hi8, hid⟩ := List.mem_filter.mp hi
    have hi8' := List.mem_range.mp hi8
    obtain ⟨j, hj, e⟩ := (mem_takeK (show i ≤ r.length by omega)).mp (of_decide_eq_true hid)
    rcases Nat.lt_or_ge i m with z | z
    · exact absurd e (hdis j i hj z)
    · omega
  -- the first
  have G6 := g6
  refine r_sc (b := b5) (v := .int (ff : Int)) (ev_indexN (j := ff) (x := atK G x r m) (l := pathF G x r) (ed_var rfl hv5) (ev_int (ed_ixL (ed_var rfl hv5) (ev_var rfl) (nats_at rfl (path_getK hmr)))) (by rw [path_getK (by omega), hpe]) (fun i hi e => ?_)) g6.gi fun h7 g7 => ?_
  · rw [path_getK (by omega)] at e
    have e2 := Option.some.inj e
    rw [← hpe] at e2
    exact hdis i ff hi hfm e2
  -- beginning and circle
  have hbl : (r.take ff).length = ff := by rw [List.length_take]; omega
  have hcl : ((r.drop ff).take (m - ff)).length = m - ff := by rw [List.length_take, List.length_drop]; omega
  have hsp : r.take m = r.take ff ++ (r.drop ff).take (m - ff) := take_split r (Nat.le_of_lt hfm)
  have hok2 : okA G x (r.take ff ++ (r.drop ff).take (m - ff)) := by rw [← hsp]; exact okA_take hoA m
  have hlast2 : lastF G x (r.take ff ++ (r.drop ff).take (m - ff)) = atK G x r ff := by rw [← hsp]; exact hpe.symm
  have hpart := path_part (G := G) (x := x) (Nat.le_of_lt hfm) hmr
  have hbg := cut_take (ds := r) (a := ff) (by omega)
  have hcc := cut_mid (l := r) (a := ff) (c := m) (Nat.le_of_lt hfm) (by omega)
  have hyl : atK G x r ff < G.length := atK_lt hW hxl hoA ff
  have hyE : lastF G x (r.take ff) = atK G x r ff := rfl
  have hpre : ∀ j, ff ≤ j → j ≤ m → okA G x (r.take ff ++ (r.drop ff).take (j - ff)) ∧ lastF G x (r.take ff ++ (r.drop ff).take (j - ff)) = atK G x r j := fun j h1 h2 => by
    rw [← take_split r h1]
    exact ⟨okA_take hoA j, rfl⟩
  refine r_par (K := K) (d1 := intsD (r.take ff)) (d2 := intsD ((r.drop ff).take (m - ff))) (eda_cons (by unfold intsD; rw [← hbg]; exact EN.ed (en_sl (ed_var rfl hR5) eo_none (eo_some (ev_var rfl)))) (eda_cons (by unfold intsD; rw [← hcc]; exact EN.ed (en_sl (ed_var rfl hR5) (eo_some (ev_var rfl)) (eo_some (ev_var rfl)))) eda_nil)) (g6.trans g7).gi fun v16 v17 b8 h8 g8 hB hC => ?_
  show tSeq _ _ _ [some (.ref a), some v1, some v2, some (.int (x : Int)), some v4, some v5, some (.int (m : Int)), some (.int (ff : Int)), none, none, none, none, none, none, none, none, some v16, some v17, none, none, none] _
  have G8 := (g6.trans g7).trans g8
  generalize hbgE : r.take ff = bg at *
  generalize hccE : (r.drop ff).take (m - ff) = cc at *
  generalize hy : atK G x r ff = y at *
  have hcc0 : cc ≠ [] := fun z => by
    rw [z] at hcl
    have hcl' : 0 = m - ff := hcl
    omega
  obtain ⟨hokb, hokc⟩ := okA_append.mp hok2
  rw [hyE] at hokc
  have hcyc : lastF G y cc = y := by
    rw [lastF_append, hyE] at hlast2
    exact hlast2
  have hG8 := hG5.up g8.gb
  have hP8 := hv5.up g8.gb
  have hR8 := hR5.up g8.gb
  have hvd8 := hvd5.up g8.gb
  have hgs := gains_ok hWG hyl (okTo_of hokc) (by omega)
  have hgE : ((pathF G y cc).take cc.length).map (fun y => (plAt G y).gain) = gainsF G y cc := rfl
  -- the total
  refine r_set (K := K) (d := nD (sumN (gainsF G y cc))) (ed_total (eda_cons (hgE ▸ ed_gainsL (l := (pathF G y cc).take cc.length) (hpart ▸ (by rw [natsD_map, ← cut_midN (Nat.le_of_lt hfm) (by omega)]; exact EN.ed (en_sl (ed_var rfl hP8) (eo_some (ev_var rfl)) (eo_some (ev_var rfl))))) (by rw [List.length_take]; omega) (fun z hz => path_mem_lt hW hyl (okTo_of hokc) z (List.mem_of_mem_take hz)) (fun v b9 e9 => ed_var rfl (hG8.up e9)) (fun _ => rfl) (fun _ => rfl)) eda_nil) hgs) G8.gi fun v8 b9 h9 g9 hv8 => ?_
  have hsum := sumN_ok hgs.2 (gainsF G y cc).length (Nat.le_refl _)
  rw [List.take_length] at hsum
  have hg60 := hgs.1
  have hsb : Big 700 (sumN (gainsF G y cc)) := hsum.2.mono (by omega)
  have hlenC : ∀ {σ : L2.St} {b' : Hp}, Ex b8 b' → σ[17]? = some (some v17) → Ev (tCB (rLenS K) (tCons (tVar 17) tNil)) σ b' (.int (cc.length : Int)) := fun {σ b'} e s1 => by
    have := ev_lenL (K := K) (ed_var (σ := σ) (k := 17) s1 (hC.up e))
    rwa [List.length_map] at this
  have hdue : num (sumN (gainsF G y cc)).1 ((sumN (gainsF G y cc)).2 * (cc.length : Int)) = gainAns G y cc := by
    unfold gainAns divN
    rw [Int.mul_one]
  have hcp := len_pos hcc0
  have hpos : 0 < (sumN (gainsF G y cc)).2 * (cc.length : Int) := Int.mul_pos (by have := hsum.1.1; omega) hcp
  have hc10 : ((cc.length : Int)).natAbs < 2 ^ 10 := by show _ < 1024; omega
  have w2000 : ∀ {j : Nat} {z : Int}, z.natAbs < 2 ^ j → j ≤ 2000 → z.natAbs < 2 ^ 2000 := fun h hj => Nat.lt_of_lt_of_le h (Nat.pow_le_pow_right (by decide) hj)
  refine r_set (K := K) (d := nD (gainAns G y cc)) (hdue ▸ ed_number (ev_num0 (ed_var rfl hv8)) (ev_op (ev_num1 (ed_var rfl hv8)) (hlenC g9.gb rfl) (rv_I (cmulW (w2000 hsb.2 (by decide)) (w2000 hc10 (by decide))))) (by omega) (Nat.lt_of_lt_of_le hsb.1 (Nat.pow_le_pow_right (by decide) (by decide))) (by
    rw [Int.natAbs_mul]
    exact Nat.lt_of_lt_of_le (pow_mul_lt hsb.2 hc10) (Nat.pow_le_pow_right (by decide) (by decide)))) (G8.trans g9).gi fun v9 b10 h10 g10 hv9 => ?_
  show tSeq _ _ _ [some (.ref a), some v1, some v2, some (.int (x : Int)), some v4, some v5, some (.int (m : Int)), some (.int (ff : Int)), some v8, some v9, none, none, none, none, none, none, some v16, some v17, none, none, none] _
  have G10 := (G8.trans g9).trans g10
  have e810 := g9.gb.trans g10.gb
  have hvd10 := hvd8.up e810
  have d100 := ds_get (j := 100) hd
  have hum0 : 0 ≤ ds.getD 100 0 % (cc.length : Int) := Int.emod_nonneg _ (by omega)
  have hum1 : ds.getD 100 0 % (cc.length : Int) < cc.length := Int.emod_lt_of_pos _ hcp
  obtain ⟨u, hu⟩ : ∃ u : Nat, (u : Int) = ds.getD 100 0 % (cc.length : Int) := ⟨(ds.getD 100 0 % (cc.length : Int)).toNat, by omega⟩
  refine r_sc (b := b10) (v := .int (u : Int)) (hu ▸ ev_op (ev_int1 (ev_ixI 100 (ed_var rfl hvd10) ev_c rfl (by omega))) (hlenC e810 rfl) (rv_I hcp)) G10.gi fun h11 g11 => ?_
  have G11 := G10.trans g11
  have hul : u ≤ cc.length := by omega
  -- repr
  have hG10 := hG8.up e810
  have hB10 := hB.up e810
  have hC10 := hC.up e810
  have hR10 := hR8.up e810
  have hP10 := hP8.up e810
  have nG := nice_game okG
  have nB := nice_ints (ok_ints hsm hW hxl (okTo_of hokb)) (by omega)
  have nC := nice_ints (ok_ints hsm hW hyl (okTo_of hokc)) (by omega)
  have nK : Nice 6 80000 (.tuple [gameD G, intsD bg, intsD cc]) := (nice_tup (k := 5) (L := 25000) (n := 3) (fun d hd => by
    simp only [List.mem_cons, List.not_mem_nil, or_false] at hd
    rcases hd with rfl | rfl | rfl
    · exact nG
    · exact nB.mono (by decide) (by decide)
    · exact nC.mono (by decide) (by decide)) (by show 3 ≤ 3; decide)).mono (by decide) (by decide)
  have hrep : ∀ {σ : L2.St} {b' : Hp}, Ex b10 b' → σ[2]? = some (some v2) → σ[16]? = some (some v16) → σ[17]? = some (some v17) → Ev (tCB (rRepr K) (tCons (tTup (tCons (tVar 2) (tCons (tVar 16) (tCons (tVar 17) tNil)))) tNil)) σ b' (.str (PyData.tuple [gameD G, intsD bg, intsD cc]).shown) := fun {σ b'} e s1 s2 s3 =>
    ev_reprN (ed_tup (eda_cons (ed_var s1 (hG10.up e)) (eda_cons (ed_var s2 (hB10.up e)) (eda_cons (ed_var s3 (hC10.up e)) eda_nil))) (by show 3 ≤ 100000; decide)) nK (fun v H x => ref_tup x) (by decide) (by decide)
  refine r_sc (hrep (Ex.refl _) rfl rfl rfl) G11.gi fun h12 g12 => ?_
  generalize (PyData.tuple [gameD G, intsD bg, intsD cc]).shown = kept at hrep
  show tSeq _ _ _ [some (.ref a), some v1, some v2, some (.int (x : Int)), some v4, some v5, some (.int (m : Int)), some (.int (ff : Int)), some v8, some v9, some (.int (u : Int)), some (.str kept), none, none, none, none, some v16, some v17, none, none, none] _
  have G12 := G11.trans g12
  -- plays
  have hcat : ∀ l m : List Int, l.map PyData.int ++ m.map PyData.int = (l ++ m).map PyData.int := fun l m => (List.map_append ..).symm
  have hct := cut_take (ds := cc) (a := u) hul
  have hcd := cut_drop (ds := cc) (a := u) hul
  have edB : ∀ {σ : L2.St} {b' : Hp}, Ex b10 b' → σ[16]? = some (some v16) → ED K (tVar 16) σ b' (intsD bg) := fun e s => ed_var s (hB10.up e)
  have edC : ∀ {σ : L2.St} {b' : Hp}, Ex b10 b' → σ[17]? = some (some v17) → ED K (tVar 17) σ b' (intsD cc) := fun e s => ed_var s (hC10.up e)
  have edCat : ∀ {σ : L2.St} {b' : Hp} {t1 t2 : TE} {l1 l2 : List Int}, ED K t1 σ b' (intsD l1) → ED K t2 σ b' (intsD l2) → l1.length ≤ 20 → l2.length ≤ 20 → ED K (tOp rCat t1 t2) σ b' (intsD (l1 ++ l2)) := fun {σ b' t1 t2 l1 l2} x1 x2 z1 z2 => by
    unfold intsD
    rw [← hcat]
    exact EN.ed (en_cat x1 x2 (by rw [List.length_map, List.length_map]; omega))
  have edT : ∀ {σ : L2.St} {b' : Hp}, Ex b10 b' → σ[17]? = some (some v17) → σ[10]? = some (some (.int (u : Int))) → ED K (tSl (rSlL K) (tVar 17) tNoPart (tPart (tVar 10))) σ b' (intsD (cc.take u)) := fun {σ b'} e s1 s2 => by
    unfold intsD
    rw [← hct]
    exact EN.ed (en_sl (edC e s1) eo_none (eo_some (ev_var s2)))
  have edDr : ∀ {σ : L2.St} {b' : Hp}, Ex b10 b' → σ[17]? = some (some v17) → σ[10]? = some (some (.int (u : Int))) → ED K (tSl (rSlL K) (tVar 17) (tPart (tVar 10)) tNoPart) σ b' (intsD (cc.drop u)) := fun {σ b'} e s1 s2 => by
    unfold intsD
    rw [← hcd]
    exact EN.ed (en_sl (edC e s1) (eo_some (ev_var s2)) eo_none)
  have edP : ∀ {σ : L2.St} {b' : Hp} {t1 t2 : TE} {l1 l2 : List Int}, ED K t1 σ b' (intsD l1) → ED K t2 σ b' (intsD l2) → ED K (tTup (tCons t1 (tCons t2 tNil))) σ b' (.tuple [intsD l1, intsD l2]) := fun x1 x2 => ed_tup (eda_cons x1 (eda_cons x2 eda_nil)) (by show 2 ≤ 100000; decide)
  have hut : (cc.take u).length ≤ 7 := by rw [List.length_take]; omega
  have hud : (cc.drop u).length ≤ 7 := by rw [List.length_drop]; omega
  refine r_set (K := K) (d := .list [.tuple [intsD bg, intsD cc], .tuple [intsD bg, intsD (cc ++ cc)], .tuple [intsD (bg ++ cc.take u), intsD (cc.drop u ++ cc.take u)]]) (EN.ed (en_lst (eda_cons (edP (edB (Ex.refl _) rfl) (edC (Ex.refl _) rfl)) (eda_cons (edP (edB (Ex.refl _) rfl) (edCat (edC (Ex.refl _) rfl) (edC (Ex.refl _) rfl) (by omega) (by omega))) (eda_cons (edP (edCat (edB (Ex.refl _) rfl) (edT (Ex.refl _) rfl rfl) (by omega) (by omega)) (edCat (edDr (Ex.refl _) rfl rfl) (edT (Ex.refl _) rfl rfl) (by omega) (by omega))) eda_nil))) (by show 3 ≤ 100000; decide))) G12.gi fun v12 b13 h13 g13 hv12 => ?_
  have G13 := G12.trans g13
  have hplays : ∀ d ∈ [PyData.tuple [intsD bg, intsD cc], .tuple [intsD bg, intsD (cc ++ cc)], .tuple [intsD (bg ++ cc.take u), intsD (cc.drop u ++ cc.take u)]] ++ [.tuple [intsD (bg ++ cc), intsD cc]], ∃ l1 l2, d = .tuple [intsD l1, intsD l2] ∧ l1.length + l2.length ≤ 60 ∧ Res5 G x l1 l2 (nD (gainAns G y cc)) := by
    have htd : cc.take u ++ cc.drop u = cc := List.take_append_drop u cc
    have hx1 : okA G x (bg ++ cc.take u) := by
      refine okA_append.mpr ⟨hokb, ?_⟩
      rw [hyE]
      exact okA_take hokc u
    have tw := gain_twice hWG hyl hokc hcc0 hcyc
    have tn := gain_turned hWG hyl (s := cc.take u) (t := cc.drop u) (by rw [htd]; exact hokc) (by rw [htd]; exact hcc0) (by rw [htd]; exact hcyc)
    rw [htd] at tn
    have hl3 : lastF G x (bg ++ cc.take u) = lastF G y (cc.take u) := by rw [lastF_append, hyE]
    intro d hd
    simp only [List.cons_append, List.nil_append, List.mem_cons, List.not_mem_nil, or_false] at hd
    rcases hd with rfl | rfl | rfl | rfl
    · exact ⟨_, _, rfl, by omega, hyE ▸ Res5.good hok2 hcc0 (by rw [hlast2, hyE])⟩
    · refine ⟨_, _, rfl, by rw [List.length_append]; omega, ?_⟩
      rw [← tw.2.2]
      exact hyE ▸ Res5.good (okA_append.mpr ⟨hokb, by rw [hyE]; exact tw.1⟩) (by intro z; exact hcc0 (List.append_eq_nil_iff.mp z).1) (by rw [lastF_append, hyE]; exact tw.2.1)
    · refine ⟨_, _, rfl, by rw [List.length_append, List.length_append]; omega, ?_⟩
      rw [← tn.2.2, ← hl3]
      refine Res5.good (okA_append.mpr ⟨hx1, by rw [hl3]; exact tn.1⟩) (fun z => ?_) (by rw [lastF_append, hl3]; exact tn.2.1)
      obtain ⟨z1, z2⟩ := List.append_eq_nil_iff.mp z
      rw [z1, z2] at htd
      exact hcc0 htd.symm
    · refine ⟨_, _, rfl, by rw [List.length_append]; omega, ?_⟩
      have e : lastF G x (bg ++ cc) = y := hlast2
      have := Res5.good (G := G) (x := x) (r := bg ++ cc) (s := cc) (okA_append.mpr ⟨hok2, by rw [e]; exact hokc⟩) hcc0 (by rw [lastF_append, e]; exact hcyc)
      rwa [e] at this
  have hG13 := hG10.up g13.gb
  refine r_forL (K := K) (EN.ed (en_cat (ed_var rfl hv12) (EN.ed (en_lst (eda_cons (edP (edCat (edB g13.gb rfl) (edC g13.gb rfl) (by omega) (by omega)) (edC g13.gb rfl)) eda_nil) (by show 1 ≤ 100000; decide))) (by show 3 + 1 ≤ 100000; decide))) G13.gi fun aL xsL b14 h14 g14 _ _ => ⟨fun _ σ' h' => (∃ u18 u19 : Option V, σ' = [some (.ref a), some v1, some v2, some (.int (x : Int)), some v4, some v5, some (.int (m : Int)), some (.int (ff : Int)), some v8, some v9, some (.int (u : Int)), some (.str kept), some v12, none, none, none, some v16, some v17, u18, u19, none]) ∧ Gr b14 h14 b14 h', ⟨⟨_, _, rfl⟩, Gr.refl g14.gi⟩, fun i σ' h' p => p.2.gi, ?_, ?_⟩
  · rintro i d xv σ' h' hdi hxv ⟨⟨u18, u19, rfl⟩, gi⟩
    obtain ⟨l1, l2, rfl, hl12, hres⟩ := hplays d (List.mem_of_getElem? hdi)
    refine g_two hxv gi.gi fun w1 w2 q1 q2 => ?_
    have e14 := g13.gb.trans g14.gb
    refine r_if1 (b := b14) (c := false) (et_is (et_not (et_B (ev_sameD (n := 2) (d := nD (gainAns G y cc)) (eda_cons (ed_told5 (eda_cons (ed_var rfl (hG10.up e14)) (eda_cons (ed_int (ev_var rfl)) (eda_cons (ed_var rfl q1) (eda_cons (ed_var rfl q2) eda_nil)))) hWG hxl hl12 hres) (eda_cons (ed_var rfl (hv9.up e14)) eda_nil)) (dep_num 0 _)))) rfl) gi.gi (fun hc => by cases hc) (fun _ h15 g15 => ?_)
    exact ⟨⟨_, _, rfl⟩, gi.trans g15⟩
  rintro σ' h' ⟨⟨u18, u19, rfl⟩, gi⟩
  have e14 := g13.gb.trans g14.gb
  have hG14 := hG10.up e14
  have hR14 := hR10.up e14
  have hP14 := hP10.up e14
  have hvd14 := hvd10.up e14
  have edNC : ∀ {σ : L2.St} {b' : Hp}, ED K (tTup (tCons (tC (V.str "raised")) (tCons (tC (V.str "circle")) tNil))) σ b' circleT := ed_tup (eda_cons (ed_str ev_c) (eda_cons (ed_str ev_c) eda_nil)) (by show 2 ≤ 100000; decide)
  refine r_if (b := b14) (c := false) (et_is (et_or (et_test (ev_differ (d := circleT) (ed_told5 (r := r) (s := []) (eda_cons (ed_var rfl hG14) (eda_cons (ed_int (ev_var rfl)) (eda_cons (ed_var rfl hR14) (eda_cons (EN.ed (en_lst eda_nil (by decide))) eda_nil)))) hWG hxl (by rw [hr7]; decide) (Res5.circle ⟨by rw [List.append_nil]; exact hoA, .inl rfl⟩)) edNC nice_circle (by decide))) fun _ => et_test (ev_neS (hrep e14 rfl rfl rfl) (ev_var rfl) rfl)) rfl) gi.gi (fun hc => by cases hc) (fun _ h15 g15 => ?_)
  have G15 := gi.trans g15
  -- parts of the circle
  refine s_forR2 (H := h15) (lo := (ff : Int) + 1) (n := (m : Int)) (ea_cons (Ev.mono G15.gi (ev_op (ev_var rfl) ev_c rv_I0)) (ea_cons (Ev.mono G15.gi (ev_var rfl)) ea_nil)) (by omega) (fun _ σ' h' => (∃ u13 : Option V, σ' = [some (.ref a), some v1, some v2, some (.int (x : Int)), some v4, some v5, some (.int (m : Int)), some (.int (ff : Int)), some v8, some v9, some (.int (u : Int)), some (.str kept), some v12, u13, none, none, some v16, some v17, u18, u19, none]) ∧ Gr b14 h14 b14 h') (fun h e => ⟨⟨_, rfl⟩, G15.trans (Gr.stay G15.gi e)⟩) ?_ ?_
  · rintro i σ' h' hi ⟨⟨u13, rfl⟩, gj⟩
    have hj : (ff : Int) + 1 + (i : Int) = ((ff + 1 + i : Nat) : Int) := by omega
    rw [hj]
    have hjm : ff + 1 + i < m := by omega
    have hpj := hpre (ff + 1 + i) (by omega) (by omega)
    have hcj := cut_mid (l := r) (a := ff) (c := ff + 1 + i) (by omega) (by omega)
    have edS : ED K (tSl (rSlL K) (tVar 4) (tPart (tVar 7)) (tPart (tVar 13))) [some (.ref a), some v1, some v2, some (.int (x : Int)), some v4, some v5, some (.int (m : Int)), some (.int (ff : Int)), some v8, some v9, some (.int (u : Int)), some (.str kept), some v12, some (.int ((ff + 1 + i : Nat) : Int)), none, none, some v16, some v17, u18, u19, none] b14 (intsD ((r.drop ff).take (ff + 1 + i - ff))) := by
      unfold intsD
      rw [← hcj]
      exact EN.ed (en_sl (ed_var rfl hR14) (eo_some (ev_var rfl)) (eo_some (ev_var rfl)))
    refine r_if1 (b := b14) (c := false) (et_test (ev_differ (d := circleT) (ed_told5 (r := bg) (s := (r.drop ff).take (ff + 1 + i - ff)) (eda_cons (ed_var rfl hG14) (eda_cons (ed_int (ev_var rfl)) (eda_cons (edB e14 rfl) (eda_cons edS eda_nil)))) hWG hxl (by rw [List.length_take, List.length_drop]; omega) (Res5.circle ⟨hpj.1, .inr (by
      rw [hpj.2, hyE, ← hy]
      exact fun z => hdis ff (ff + 1 + i) (by omega) hjm z.symm)⟩)) edNC nice_circle (by decide))) gj.gi (fun hc => by cases hc) (fun _ h16 g16 => ?_)
    exact ⟨⟨_, rfl⟩, gj.trans g16⟩
  rintro σ' h' ⟨⟨u13, rfl⟩, gj⟩
  -- a number that is no branch
  have hlB : ∀ {σ : L2.St}, σ[16]? = some (some v16) → Ev (tCB (rLenS K) (tCons (tVar 16) tNil)) σ b14 (.int (bg.length : Int)) := fun {σ} s => by
    have := ev_lenL (K := K) (edB e14 s)
    rwa [List.length_map] at this
  have hlC : ∀ {σ : L2.St}, σ[17]? = some (some v17) → Ev (tCB (rLenS K) (tCons (tVar 17) tNil)) σ b14 (.int (cc.length : Int)) := fun {σ} s => by
    have := ev_lenL (K := K) (edC e14 s)
    rwa [List.length_map] at this
  have d101 := ds_get (j := 101) hd
  have ham0 : 0 ≤ ds.getD 101 0 % ((bg.length : Int) + (cc.length : Int)) := Int.emod_nonneg _ (by omega)
  have ham1 : ds.getD 101 0 % ((bg.length : Int) + (cc.length : Int)) < (bg.length : Int) + (cc.length : Int) := Int.emod_lt_of_pos _ (by omega)
  obtain ⟨t, ht⟩ : ∃ t : Nat, (t : Int) = ds.getD 101 0 % ((bg.length : Int) + (cc.length : Int)) := ⟨(ds.getD 101 0 % ((bg.length : Int) + (cc.length : Int))).toNat, by omega⟩
  refine r_sc (b := b14) (v := .int (t : Int)) (ev_op (ev_int1 (ev_ixI 101 (ed_var rfl hvd14) ev_c rfl (by omega))) (ev_op (hlB rfl) (hlC rfl) rv_I0) (by rw [ht]; exact rv_I (by omega))) gj.gi fun h16 g16 => ?_
  have G16 := gj.trans g16
  have htl : t < (bg ++ cc).length := by rw [List.length_append]; omega
  refine r_setN (K := K) (ds := (bg ++ cc).map PyData.int) (by
    rw [← hcat]
    exact en_cat (edB e14 rfl) (edC e14 rfl) (by rw [List.length_map, List.length_map]; omega)) G16.gi fun q us b17 h17 nq nbq g17 hq hus => ?_
  have hus' := hus.intsI
  subst hus'
  show tSeq _ _ _ [some (.ref a), some v1, some v2, some (.int (x : Int)), some v4, some v5, some (.int (m : Int)), some (.int (ff : Int)), some v8, some v9, some (.int (u : Int)), some (.str kept), some v12, u13, some (.int (t : Int)), some (.ref q), some v16, some v17, u18, u19, none] _
  have G17 := G16.trans g17
  have htm : t ≤ m := by rw [List.length_append] at htl; omega
  have htk : (bg ++ cc).take t = r.take t := by
    rw [← hsp, List.take_take, Nat.min_eq_left htm]
  have hcl' : atK G x r t < G.length := atK_lt hW hxl hoA t
  have hp := plAt_get hcl'
  have hpb := hsm.2 _ (List.mem_of_getElem? hp)
  have htg := tg_len (plAt G (atK G x r t))
  have d102 := ds_get (j := 102) hd
  obtain ⟨n, hnm, hnat⟩ := at_pick [-1, 99, ((plAt G (atK G x r t)).tg.length : Int)] (z := ds.getD 102 0 % 3) (Int.emod_nonneg _ (by decide)) (by show _ < (3 : Int); exact Int.emod_lt_of_pos _ (by decide))
  have hbad : ¬ okB G (atK G x r t) n := fun z => by
    have z1 := z.1
    have z2 := z.2
    simp only [List.mem_cons, List.not_mem_nil, or_false] at hnm
    omega
  have hlenT : ∀ {σ : L2.St} {E : XK} {tx : TE}, ED K tx σ b17 (plAt G (atK G x r t)).D → Ev (tCB (rLenS K) (tCons (tCall (spTargets K) [] E (tCons tx tNil)) tNil)) σ b17 (.int ((plAt G (atK G x r t)).tg.length : Int)) := fun {σ E tx} z => by
    have := ev_lenL (K := K) (ed_targets (E := E) (eda_cons z eda_nil) hpb)
    rwa [List.length_map] at this
  have hP17 := hP14.up g17.gb
  have hG17 := hG14.up g17.gb
  have hvd17 := hvd14.up g17.gb
  refine q_setL (H := h17) (j := t) (v := .int n) hq (Ev.mono g17.gi (ev_int (ed_ixL (K := K) (ds := [-1, 99, ((plAt G (atK G x r t)).tg.length : Int)].map PyData.int) (EN.ed (en_lst (eda_cons (ed_int (ev_un ev_c ru_neg)) (eda_cons (ed_int ev_c) (eda_cons (ed_int (hlenT (ed_ixL (ed_var rfl hG17) (ev_int (ed_ixL (ed_var rfl hP17) (ev_var rfl) (nats_at rfl (path_getK (by omega))))) (game_at hp)))) eda_nil))) (by show 3 ≤ 100000; decide))) (ev_op (ev_int1 (ev_ixI 102 (ed_var rfl hvd17) ev_c rfl (by omega))) ev_c (rv_I (by decide))) hnat))) (ev_var rfl) (ev_var rfl) (by rw [List.length_map]; exact htl) fun h18 e18 => ?_
  have hset : ((bg ++ cc).map V.int).set t (V.int n) = ((bg ++ cc).set t n).map V.int := (List.map_set ..).symm
  rw [hset]
  have hbadw : BadAt G x ((bg ++ cc).set t n) t := bad_set hok2 htl (by rw [htk]; exact hbad)
  have hwl : ((bg ++ cc).set t n).length = bg.length + cc.length := by rw [List.length_set, List.length_append]
  generalize (bg ++ cc).set t n = wl at hbadw hwl
  have g18 : Gr b14 h16 (upd b17 q (.lst (wl.map V.int))) (upd h18 q (.lst (wl.map V.int))) := ((g17.trans (Gr.stay g17.gi e18)).mut nq nbq).tell nq nbq upd_same
  have hWD : Dt K (upd b17 q (.lst (wl.map V.int))) (.ref q) (intsD wl) := Dt.list upd_same (DtA.ints wl)
  generalize upd b17 q (.lst (wl.map V.int)) = b18 at g18 hWD
  generalize upd h18 q (.lst (wl.map V.int)) = h19 at g18
  have hG18 := hG14.up g18.gb
  have hwt := cut_take (ds := wl) (a := ff) (by omega)
  have hwd := cut_drop (ds := wl) (a := ff) (by omega)
  have edNB : ∀ {σ : L2.St}, σ[14]? = some (some (.int (t : Int))) → ED K (tTup (tCons (tC (V.str "raised")) (tCons (tC (V.str "branch")) (tCons (tVar 14) tNil)))) σ b18 (branchT t) := fun s => ed_tup (eda_cons (ed_str ev_c) (eda_cons (ed_str ev_c) (eda_cons (ed_int (ev_var s)) eda_nil))) (by show 3 ≤ 100000; decide)
  have edW1 : ∀ {σ : L2.St}, σ[15]? = some (some (.ref q)) → σ[7]? = some (some (.int (ff : Int))) → ED K (tSl (rSlL K) (tVar 15) tNoPart (tPart (tVar 7))) σ b18 (intsD (wl.take ff)) := fun {σ} s1 s2 => by
    unfold intsD
    rw [← hwt]
    exact EN.ed (en_sl (ed_var s1 hWD) eo_none (eo_some (ev_var s2)))
  have edW2 : ∀ {σ : L2.St}, σ[15]? = some (some (.ref q)) → σ[7]? = some (some (.int (ff : Int))) → ED K (tSl (rSlL K) (tVar 15) (tPart (tVar 7)) tNoPart) σ b18 (intsD (wl.drop ff)) := fun {σ} s1 s2 => by
    unfold intsD
    rw [← hwd]
    exact EN.ed (en_sl (ed_var s1 hWD) (eo_some (ev_var s2)) eo_none)
  have hwtl : (wl.take ff).length ≤ 20 := by rw [List.length_take]; omega
  have hwdl : (wl.drop ff).length ≤ 20 := by rw [List.length_drop]; omega
  refine r_if (b := b18) (c := decide ((t : Int) < (ff : Int)) && false) (et_and (et_test (ev_op (ev_var rfl) (ev_var rfl) rv_I0)) fun hlt => et_is (et_not (et_B (ev_sameD (n := 2) (d := branchT t) (eda_cons (ed_told5 (r := wl.take ff) (s := []) (eda_cons (ed_var rfl hG18) (eda_cons (ed_int (ev_var rfl)) (eda_cons (edW1 rfl rfl) (eda_cons (EN.ed (en_lst eda_nil (by decide))) eda_nil)))) hWG hxl (by show _ + 0 ≤ 60; omega) (Res5.branch t (by
    rw [List.append_nil]
    have := of_decide_eq_true hlt
    exact bad_take hbadw (by omega)))) (eda_cons (edNB rfl) eda_nil)) (dep_branch 0 t)))) rfl) g18.gi (fun hc => by rw [Bool.and_false] at hc; cases hc) (fun _ h20 g20 => ?_)
  have hwcat : wl.take ff ++ wl.drop ff = wl := List.take_append_drop ff wl
  refine L2.st_next ?_
  dsimp only
  refine Evl.s_ret (H := h20) (v := .bl true) (Ev.mono g20.gi (ev_sameD (n := 2) (d := branchT t) (eda_cons (ed_told5 (r := wl.take ff) (s := wl.drop ff) (eda_cons (ed_var rfl hG18) (eda_cons (ed_int (ev_var rfl)) (eda_cons (edW1 rfl rfl) (eda_cons (edW2 rfl rfl) eda_nil)))) hWG hxl (by omega) (Res5.branch t (by rw [hwcat]; exact hbadw))) (eda_cons (edNB rfl) eda_nil)) (dep_branch 0 t))) fun h21 _ => k h21

end
theorem all_mk {l : PySem.W.OpenLaw} {w : World} {K : PySem.W.Frag} {h : Heap} {mg : Str → Option Value} {fa f1 f2 f3 f4 f5 f6 f7 f8 f9 f10 f11 f12 f13 f14 f15 f16 f17 f18 f19 f20 f21 f22 f23 g1 CN CC : Addr} (X : K.In h) (G : h.Ns mainGlobals mg) (hfa : mg "law" = some (.ref fa))
    {oc1 kV1 dc1 pm1 cd1 ct1 : Value} {od1 an1 : Option Addr} {sl1 : Array (Option Value)}
    {oc2 kV2 dc2 pm2 cd2 ct2 : Value} {od2 an2 : Option Addr} {sl2 : Array (Option Value)}
    {oc3 kV3 dc3 pm3 cd3 ct3 : Value} {od3 an3 : Option Addr} {sl3 : Array (Option Value)}
    {oc4 kV4 dc4 pm4 cd4 ct4 : Value} {od4 an4 : Option Addr} {sl4 : Array (Option Value)}
    {oc5 kV5 dc5 pm5 cd5 ct5 : Value} {od5 an5 : Option Addr} {sl5 : Array (Option Value)}
    {oc6 kV6 dc6 pm6 cd6 ct6 : Value} {od6 an6 : Option Addr} {sl6 : Array (Option Value)}
    {oc7 kV7 dc7 pm7 cd7 ct7 : Value} {od7 an7 : Option Addr} {sl7 : Array (Option Value)}
    {oc8 kV8 dc8 pm8 cd8 ct8 : Value} {od8 an8 : Option Addr} {sl8 : Array (Option Value)}
    {oc9 kV9 dc9 pm9 cd9 ct9 : Value} {od9 an9 : Option Addr} {sl9 : Array (Option Value)}
    {oc10 kV10 dc10 pm10 cd10 ct10 : Value} {od10 an10 : Option Addr} {sl10 : Array (Option Value)}
    {oc11 kV11 dc11 pm11 cd11 ct11 : Value} {od11 an11 : Option Addr} {sl11 : Array (Option Value)}
    {oc12 kV12 dc12 pm12 cd12 ct12 : Value} {od12 an12 : Option Addr} {sl12 : Array (Option Value)}
    {oc13 kV13 dc13 pm13 cd13 ct13 : Value} {od13 an13 : Option Addr} {sl13 : Array (Option Value)}
    {oc14 kV14 dc14 pm14 cd14 ct14 : Value} {od14 an14 : Option Addr} {sl14 : Array (Option Value)}
    {oc15 kV15 dc15 pm15 cd15 ct15 : Value} {od15 an15 : Option Addr} {sl15 : Array (Option Value)}
    {oc16 kV16 dc16 pm16 cd16 ct16 : Value} {od16 an16 : Option Addr} {sl16 : Array (Option Value)}
    {oc17 kV17 dc17 pm17 cd17 ct17 : Value} {od17 an17 : Option Addr} {sl17 : Array (Option Value)}
    {oc18 kV18 dc18 pm18 cd18 ct18 : Value} {od18 an18 : Option Addr} {sl18 : Array (Option Value)}
    {oc19 kV19 dc19 pm19 cd19 ct19 : Value} {od19 an19 : Option Addr} {sl19 : Array (Option Value)}
    {oc20 kV20 dc20 pm20 cd20 ct20 : Value} {od20 an20 : Option Addr} {sl20 : Array (Option Value)}
    {oc21 kV21 dc21 pm21 cd21 ct21 : Value} {od21 an21 : Option Addr} {sl21 : Array (Option Value)}
    {oc22 kV22 dc22 pm22 cd22 ct22 : Value} {od22 an22 : Option Addr} {sl22 : Array (Option Value)}
    {oc23 kV23 dc23 pm23 cd23 ct23 : Value} {od23 an23 : Option Addr} {sl23 : Array (Option Value)}
    {do1 : Option Addr} {t1 u1 : Tok} {n1 : Nat} {so1 : Array (Option Value)}
    {nmN qN : Str} {NN GE fN : Addr} {bsN : List Value} {snN : List Str} {subN : List Value} {abN : Bool} {colN : Option Bool} {ddN : Option Addr} {mN0 mN1 mN2 mN3 mN5 : Option Value} {ocN kVN dcN pmN cdN ctN : Value} {odN anN : Option Addr} {slN : Array (Option Value)}
    (a1 : PySem.W.nsIn K mainGlobals "_law_gcd" = some (some (.ref f1)))
    (l1 : K.lookup f1 = some ⟨oc1, od1, .func (PySem.W.fnOf "_law_gcd" "_law_gcd" (defArgs s_gcd) (defBody s_gcd) (defScope s_gcd) .none kV1 dc1 pm1 an1 cd1 ct1), sl1⟩)
    (c1 : PySem.W.codeIn K cd1 "_law_gcd" = true) (k1 : PySem.W.keepIn K (.ref f1) = true)
    (a2 : PySem.W.nsIn K mainGlobals "_law_number" = some (some (.ref f2)))
    (l2 : K.lookup f2 = some ⟨oc2, od2, .func (PySem.W.fnOf "_law_number" "_law_number" (defArgs s_number) (defBody s_number) (defScope s_number) .none kV2 dc2 pm2 an2 cd2 ct2), sl2⟩)
    (c2 : PySem.W.codeIn K cd2 "_law_number" = true) (k2 : PySem.W.keepIn K (.ref f2) = true)
    (a3 : PySem.W.nsIn K mainGlobals "_law_draws" = some (some (.ref f3)))
    (l3 : K.lookup f3 = some ⟨oc3, od3, .func (PySem.W.fnOf "_law_draws" "_law_draws" (defArgs s_draws) (defBody s_draws) (defScope s_draws) .none kV3 dc3 pm3 an3 cd3 ct3), sl3⟩)
    (c3 : PySem.W.codeIn K cd3 "_law_draws" = true) (k3 : PySem.W.keepIn K (.ref f3) = true)
    (a4 : PySem.W.nsIn K mainGlobals "_law_place" = some (some (.ref f4)))
    (l4 : K.lookup f4 = some ⟨oc4, od4, .func (PySem.W.fnOf "_law_place" "_law_place" (defArgs s_place) (defBody s_place) (defScope s_place) .none kV4 dc4 pm4 an4 cd4 ct4), sl4⟩)
    (c4 : PySem.W.codeIn K cd4 "_law_place" = true) (k4 : PySem.W.keepIn K (.ref f4) = true)
    (a5 : PySem.W.nsIn K mainGlobals "_law_game" = some (some (.ref f5)))
    (l5 : K.lookup f5 = some ⟨oc5, od5, .func (PySem.W.fnOf "_law_game" "_law_game" (defArgs s_game) (defBody s_game) (defScope s_game) .none kV5 dc5 pm5 an5 cd5 ct5), sl5⟩)
    (c5 : PySem.W.codeIn K cd5 "_law_game" = true) (k5 : PySem.W.keepIn K (.ref f5) = true)
    (a6 : PySem.W.nsIn K mainGlobals "is_whole" = some (some (.ref f6)))
    (l6 : K.lookup f6 = some ⟨oc6, od6, .func (PySem.W.fnOf "is_whole" "is_whole" (defArgs s_is_whole) (defBody s_is_whole) (defScope s_is_whole) .none kV6 dc6 pm6 an6 cd6 ct6), sl6⟩)
    (c6 : PySem.W.codeIn K cd6 "is_whole" = true) (k6 : PySem.W.keepIn K (.ref f6) = true)
    (a7 : PySem.W.nsIn K mainGlobals "has_branch" = some (some (.ref f7)))
    (l7 : K.lookup f7 = some ⟨oc7, od7, .func (PySem.W.fnOf "has_branch" "has_branch" (defArgs s_has_branch) (defBody s_has_branch) (defScope s_has_branch) .none kV7 dc7 pm7 an7 cd7 ct7), sl7⟩)
    (c7 : PySem.W.codeIn K cd7 "has_branch" = true) (k7 : PySem.W.keepIn K (.ref f7) = true)
    (a8 : PySem.W.nsIn K mainGlobals "targets_of" = some (some (.ref f8)))
    (l8 : K.lookup f8 = some ⟨oc8, od8, .func (PySem.W.fnOf "targets_of" "targets_of" (defArgs s_targets_of) (defBody s_targets_of) (defScope s_targets_of) .none kV8 dc8 pm8 an8 cd8 ct8), sl8⟩)
    (c8 : PySem.W.codeIn K cd8 "targets_of" = true) (k8 : PySem.W.keepIn K (.ref f8) = true)
    (a9 : PySem.W.nsIn K mainGlobals "places_on" = some (some (.ref f9)))
    (l9 : K.lookup f9 = some ⟨oc9, od9, .func (PySem.W.fnOf "places_on" "places_on" (defArgs s_places_on) (defBody s_places_on) (defScope s_places_on) .none kV9 dc9 pm9 an9 cd9 ct9), sl9⟩)
    (c9 : PySem.W.codeIn K cd9 "places_on" = true) (k9 : PySem.W.keepIn K (.ref f9) = true)
    (a10 : PySem.W.nsIn K mainGlobals "lowest" = some (some (.ref f10)))
    (l10 : K.lookup f10 = some ⟨oc10, od10, .func (PySem.W.fnOf "lowest" "lowest" (defArgs s_lowest) (defBody s_lowest) (defScope s_lowest) .none kV10 dc10 pm10 an10 cd10 ct10), sl10⟩)
    (c10 : PySem.W.codeIn K cd10 "lowest" = true) (k10 : PySem.W.keepIn K (.ref f10) = true)
    (a11 : PySem.W.nsIn K mainGlobals "plus" = some (some (.ref f11)))
    (l11 : K.lookup f11 = some ⟨oc11, od11, .func (PySem.W.fnOf "plus" "plus" (defArgs s_plus) (defBody s_plus) (defScope s_plus) .none kV11 dc11 pm11 an11 cd11 ct11), sl11⟩)
    (c11 : PySem.W.codeIn K cd11 "plus" = true) (k11 : PySem.W.keepIn K (.ref f11) = true)
    (a12 : PySem.W.nsIn K mainGlobals "total" = some (some (.ref f12)))
    (l12 : K.lookup f12 = some ⟨oc12, od12, .func (PySem.W.fnOf "total" "total" (defArgs s_total) (defBody s_total) (defScope s_total) .none kV12 dc12 pm12 an12 cd12 ct12), sl12⟩)
    (c12 : PySem.W.codeIn K cd12 "total" = true) (k12 : PySem.W.keepIn K (.ref f12) = true)
    (a13 : PySem.W.nsIn K mainGlobals "sum_of" = some (some (.ref f13)))
    (l13 : K.lookup f13 = some ⟨oc13, od13, .func (PySem.W.fnOf "sum_of" "sum_of" (defArgs s_sum_of) (defBody s_sum_of) (defScope s_sum_of) .none kV13 dc13 pm13 an13 cd13 ct13), sl13⟩)
    (c13 : PySem.W.codeIn K cd13 "sum_of" = true) (k13 : PySem.W.keepIn K (.ref f13) = true)
    (a14 : PySem.W.nsIn K mainGlobals "divided" = some (some (.ref f14)))
    (l14 : K.lookup f14 = some ⟨oc14, od14, .func (PySem.W.fnOf "divided" "divided" (defArgs s_divided) (defBody s_divided) (defScope s_divided) .none kV14 dc14 pm14 an14 cd14 ct14), sl14⟩)
    (c14 : PySem.W.codeIn K cd14 "divided" = true) (k14 : PySem.W.keepIn K (.ref f14) = true)
    (a15 : PySem.W.nsIn K mainGlobals "gain_per_step" = some (some (.ref f15)))
    (l15 : K.lookup f15 = some ⟨oc15, od15, .func (PySem.W.fnOf "gain_per_step" "gain_per_step" (defArgs s_gain_per_step) (defBody s_gain_per_step) (defScope s_gain_per_step) .none kV15 dc15 pm15 an15 cd15 ct15), sl15⟩)
    (c15 : PySem.W.codeIn K cd15 "gain_per_step" = true) (k15 : PySem.W.keepIn K (.ref f15) = true)
    (a16 : PySem.W.nsIn K mainGlobals "_law_plus" = some (some (.ref f16)))
    (l16 : K.lookup f16 = some ⟨oc16, od16, .func (PySem.W.fnOf "_law_plus" "_law_plus" (defArgs s_plus_) (defBody s_plus_) (defScope s_plus_) .none kV16 dc16 pm16 an16 cd16 ct16), sl16⟩)
    (c16 : PySem.W.codeIn K cd16 "_law_plus" = true) (k16 : PySem.W.keepIn K (.ref f16) = true)
    (a17 : PySem.W.nsIn K mainGlobals "_law_total" = some (some (.ref f17)))
    (l17 : K.lookup f17 = some ⟨oc17, od17, .func (PySem.W.fnOf "_law_total" "_law_total" (defArgs s_total_) (defBody s_total_) (defScope s_total_) .none kV17 dc17 pm17 an17 cd17 ct17), sl17⟩)
    (c17 : PySem.W.codeIn K cd17 "_law_total" = true) (k17 : PySem.W.keepIn K (.ref f17) = true)
    (a18 : PySem.W.nsIn K mainGlobals "_law_targets" = some (some (.ref f18)))
    (l18 : K.lookup f18 = some ⟨oc18, od18, .func (PySem.W.fnOf "_law_targets" "_law_targets" (defArgs s_targets) (defBody s_targets) (defScope s_targets) .none kV18 dc18 pm18 an18 cd18 ct18), sl18⟩)
    (c18 : PySem.W.codeIn K cd18 "_law_targets" = true) (k18 : PySem.W.keepIn K (.ref f18) = true)
    (a19 : PySem.W.nsIn K mainGlobals "_law_way" = some (some (.ref f19)))
    (l19 : K.lookup f19 = some ⟨oc19, od19, .func (PySem.W.fnOf "_law_way" "_law_way" (defArgs s_way) (defBody s_way) (defScope s_way) .none kV19 dc19 pm19 an19 cd19 ct19), sl19⟩)
    (c19 : PySem.W.codeIn K cd19 "_law_way" = true) (k19 : PySem.W.keepIn K (.ref f19) = true)
    (a20 : PySem.W.nsIn K mainGlobals "_law_places" = some (some (.ref f20)))
    (l20 : K.lookup f20 = some ⟨oc20, od20, .func (PySem.W.fnOf "_law_places" "_law_places" (defArgs s_places) (defBody s_places) (defScope s_places) .none kV20 dc20 pm20 an20 cd20 ct20), sl20⟩)
    (c20 : PySem.W.codeIn K cd20 "_law_places" = true) (k20 : PySem.W.keepIn K (.ref f20) = true)
    (a21 : PySem.W.nsIn K mainGlobals "_law_same" = some (some (.ref f21)))
    (l21 : K.lookup f21 = some ⟨oc21, od21, .func (PySem.W.fnOf "_law_same" "_law_same" (defArgs s_same) (defBody s_same) (defScope s_same) .none kV21 dc21 pm21 an21 cd21 ct21), sl21⟩)
    (c21 : PySem.W.codeIn K cd21 "_law_same" = true) (k21 : PySem.W.keepIn K (.ref f21) = true)
    (a22 : PySem.W.nsIn K mainGlobals "_law_told" = some (some (.ref f22)))
    (l22 : K.lookup f22 = some ⟨oc22, od22, .func (PySem.W.fnOf "_law_told" "_law_told" (defArgs s_told) (defBody s_told) (defScope s_told) .none kV22 dc22 pm22 an22 cd22 ct22), sl22⟩)
    (c22 : PySem.W.codeIn K cd22 "_law_told" = true) (k22 : PySem.W.keepIn K (.ref f22) = true)
    (a23 : PySem.W.nsIn K mainGlobals "law" = some (some (.ref f23)))
    (l23 : K.lookup f23 = some ⟨oc23, od23, .func (PySem.W.fnOf "law" "law" (defArgs s_law) (defBody s_law) (defScope s_law) .none kV23 dc23 pm23 an23 cd23 ct23), sl23⟩)
    (c23 : PySem.W.codeIn K cd23 "law" = true) (k23 : PySem.W.keepIn K (.ref f23) = true)
    (ac1 : PySem.W.nsIn K mainGlobals "ZERO" = some (some (.ref g1))) (lc1 : K.lookup g1 = some ⟨.type "tuple", do1, .seq (List.toArray [Value.int 0 t1, Value.int 1 u1]) n1, so1⟩)
    (z_len : PySem.W.nsIn K mainGlobals "len" = some none)
    (z_int : PySem.W.nsIn K mainGlobals "int" = some none)
    (z_range : PySem.W.nsIn K mainGlobals "range" = some none)
    (z_abs : PySem.W.nsIn K mainGlobals "abs" = some none)
    (z_repr : PySem.W.nsIn K mainGlobals "repr" = some none)
    (z_list : PySem.W.nsIn K mainGlobals "list" = some none)
    (z_isinstance : PySem.W.nsIn K mainGlobals "isinstance" = some none)
    (z_sum : PySem.W.nsIn K mainGlobals "sum" = some none)
    (z_zip : PySem.W.nsIn K mainGlobals "zip" = some none)
    (z_bool : PySem.W.nsIn K mainGlobals "bool" = some none)
    (z_enumerate : PySem.W.nsIn K mainGlobals "enumerate" = some none)
    (z_tuple : PySem.W.nsIn K mainGlobals "tuple" = some none)
    (z_str : PySem.W.nsIn K mainGlobals "str" = some none)
    (z_all : PySem.W.nsIn K mainGlobals "all" = some none)
    (z_any : PySem.W.nsIn K mainGlobals "any" = some none)
    (z_min : PySem.W.nsIn K mainGlobals "min" = some none)
    (z_max : PySem.W.nsIn K mainGlobals "max" = some none)
    (nC : PySem.W.nsIn K mainGlobals "NoBranch" = some (some (.ref CN)))
    (nX : K.lookup CN = some (excClassObj nmN qN CN NN bsN [.ref GE, .type "ValueError", .type "Exception", .type "BaseException", .type "object"] true snN subN abN colN ddN mN0 mN1 mN2 mN3 mN5 "ValueError.__new__"))
    (nsa : PySem.W.findIn K (.ref CN) "__setattr__" = some (some (.builtin "object.__setattr__"))) (nga : PySem.W.findIn K (.ref CN) "__getattribute__" = some (some (.builtin "BaseException.__getattribute__")))
    (ngg : PySem.W.findIn K (.ref CN) "__getattr__" = some none) (nat_ : PySem.W.findIn K (.ref CN) "at" = some none) (nin : PySem.W.findIn K (.ref CN) "__init__" = some (some (.ref fN))) (nti : PySem.W.typeIn K (.ref fN) = some (.type "function"))
    (nl : K.lookup fN = some ⟨ocN, odN, .func (PySem.W.fnOf "__init__" "NoBranch.__init__" (defArgs s_NB) (defBody s_NB) (defScope s_NB) .none kVN dcN pmN anN cdN ctN), slN⟩) (ncd : PySem.W.codeIn K cdN "NoBranch.__init__" = true) (nkf : PySem.W.keepIn K (.ref fN) = true)
    (nkC : PySem.W.keepIn K (.ref CN) = true) (neC : PySem.W.subIn K (.ref CN) (.type "BaseException") = some true) (ntC : PySem.W.typeIn K (.ref CN) = some (.type "type")) (nhC : PySem.W.hasDictIn K CN = true) (nsC : PySem.W.subIn K (.ref CN) (.ref CN) = some true)
    (hgcd : PySem.W.nsIn K mainGlobals "gcd" = some (some (.builtin "math.gcd")))
    (nNa : PySem.W.nsIn K mainGlobals "NoCircle" = some (some (.ref CC))) (nNx : PySem.W.excIn K CC [.type "ValueError", .type "Exception", .type "BaseException", .type "object"] "ValueError.__new__" = true) (nNk : PySem.W.keepIn K (.ref CC) = true) (nNs : PySem.W.subIn K (.ref CC) (.type "BaseException") = some true)
    (nNt : PySem.W.typeIn K (.ref CC) = some (.type "type")) (nNC : PySem.W.subIn K (.ref CC) (.ref CN) = some false) (nNN : PySem.W.subIn K (.ref CC) (.ref CC) = some true) (nNh : PySem.W.hasDictIn K CC = true) :
    ∃ fd : FuncData, (∀ (s : Shared) (v : Value), BindsTo s fd ⟨[v], []⟩ [("script", v)]) ∧ ∀ B : Heap, K.In B → B.Ns mainGlobals mg → LawOk l.prog w K mg B 8 fa fd ["script"] (spLaw K) := by
  have e := hfa.symm.trans (PySem.W.mg_of X G a23)
  cases e
  have T : Bt mg := ⟨PySem.W.mg_none_of X G z_len, PySem.W.mg_none_of X G z_int, PySem.W.mg_none_of X G z_range, PySem.W.mg_none_of X G z_abs, PySem.W.mg_none_of X G z_repr, PySem.W.mg_none_of X G z_list, PySem.W.mg_none_of X G z_isinstance, PySem.W.mg_none_of X G z_sum, PySem.W.mg_none_of X G z_zip, PySem.W.mg_none_of X G z_bool, PySem.W.mg_none_of X G z_enumerate, PySem.W.mg_none_of X G z_tuple, PySem.W.mg_none_of X G z_str, PySem.W.mg_none_of X G z_all, PySem.W.mg_none_of X G z_any, PySem.W.mg_none_of X G z_min, PySem.W.mg_none_of X G z_max⟩
  have F1 := fun_mk (st := s_gcd) l1 c1 k1
  have D1 : IsDef K mg "_law_gcd" s_gcd ["a", "b"] := ⟨_, _, F1, PySem.W.mg_of X G a1, F1.binds (ps := ["a", "b"]) fun _ _ _ _ _ _ us hl => match us, hl with | [_, _], _ => rfl⟩
  have F2 := fun_mk (st := s_number) l2 c2 k2
  have D2 : IsDef K mg "_law_number" s_number ["n", "d"] := ⟨_, _, F2, PySem.W.mg_of X G a2, F2.binds (ps := ["n", "d"]) fun _ _ _ _ _ _ us hl => match us, hl with | [_, _], _ => rfl⟩
  have F3 := fun_mk (st := s_draws) l3 c3 k3
  have D3 : IsDef K mg "_law_draws" s_draws ["script", "count"] := ⟨_, _, F3, PySem.W.mg_of X G a3, F3.binds (ps := ["script", "count"]) fun _ _ _ _ _ _ us hl => match us, hl with | [_, _], _ => rfl⟩
  have F4 := fun_mk (st := s_place) l4 c4 k4
  have D4 : IsDef K mg "_law_place" s_place ["draws", "many"] := ⟨_, _, F4, PySem.W.mg_of X G a4, F4.binds (ps := ["draws", "many"]) fun _ _ _ _ _ _ us hl => match us, hl with | [_, _], _ => rfl⟩
  have F5 := fun_mk (st := s_game) l5 c5 k5
  have D5 : IsDef K mg "_law_game" s_game ["draws", "most"] := ⟨_, _, F5, PySem.W.mg_of X G a5, F5.binds (ps := ["draws", "most"]) fun _ _ _ _ _ _ us hl => match us, hl with | [_, _], _ => rfl⟩
  have F6 := fun_mk (st := s_is_whole) l6 c6 k6
  have D6 : IsDef K mg "is_whole" s_is_whole ["value"] := ⟨_, _, F6, PySem.W.mg_of X G a6, F6.binds (ps := ["value"]) fun _ _ _ _ _ _ us hl => match us, hl with | [_], _ => rfl⟩
  have F7 := fun_mk (st := s_has_branch) l7 c7 k7
  have D7 : IsDef K mg "has_branch" s_has_branch ["place", "number"] := ⟨_, _, F7, PySem.W.mg_of X G a7, F7.binds (ps := ["place", "number"]) fun _ _ _ _ _ _ us hl => match us, hl with | [_, _], _ => rfl⟩
  have F8 := fun_mk (st := s_targets_of) l8 c8 k8
  have D8 : IsDef K mg "targets_of" s_targets_of ["place"] := ⟨_, _, F8, PySem.W.mg_of X G a8, F8.binds (ps := ["place"]) fun _ _ _ _ _ _ us hl => match us, hl with | [_], _ => rfl⟩
  have F9 := fun_mk (st := s_places_on) l9 c9 k9
  have D9 : IsDef K mg "places_on" s_places_on ["game", "start", "branches"] := ⟨_, _, F9, PySem.W.mg_of X G a9, F9.binds (ps := ["game", "start", "branches"]) fun _ _ _ _ _ _ us hl => match us, hl with | [_, _, _], _ => rfl⟩
  have F10 := fun_mk (st := s_lowest) l10 c10 k10
  have D10 : IsDef K mg "lowest" s_lowest ["n", "d"] := ⟨_, _, F10, PySem.W.mg_of X G a10, F10.binds (ps := ["n", "d"]) fun _ _ _ _ _ _ us hl => match us, hl with | [_, _], _ => rfl⟩
  have F11 := fun_mk (st := s_plus) l11 c11 k11
  have D11 : IsDef K mg "plus" s_plus ["a", "b"] := ⟨_, _, F11, PySem.W.mg_of X G a11, F11.binds (ps := ["a", "b"]) fun _ _ _ _ _ _ us hl => match us, hl with | [_, _], _ => rfl⟩
  have F12 := fun_mk (st := s_total) l12 c12 k12
  have D12 : IsDef K mg "total" s_total ["numbers"] := ⟨_, _, F12, PySem.W.mg_of X G a12, F12.binds (ps := ["numbers"]) fun _ _ _ _ _ _ us hl => match us, hl with | [_], _ => rfl⟩
  have F13 := fun_mk (st := s_sum_of) l13 c13 k13
  have D13 : IsDef K mg "sum_of" s_sum_of ["game", "start", "branches"] := ⟨_, _, F13, PySem.W.mg_of X G a13, F13.binds (ps := ["game", "start", "branches"]) fun _ _ _ _ _ _ us hl => match us, hl with | [_, _, _], _ => rfl⟩
  have F14 := fun_mk (st := s_divided) l14 c14 k14
  have D14 : IsDef K mg "divided" s_divided ["a", "b"] := ⟨_, _, F14, PySem.W.mg_of X G a14, F14.binds (ps := ["a", "b"]) fun _ _ _ _ _ _ us hl => match us, hl with | [_, _], _ => rfl⟩
  have F15 := fun_mk (st := s_gain_per_step) l15 c15 k15
  have D15 : IsDef K mg "gain_per_step" s_gain_per_step ["game", "start", "beginning", "circle"] := ⟨_, _, F15, PySem.W.mg_of X G a15, F15.binds (ps := ["game", "start", "beginning", "circle"]) fun _ _ _ _ _ _ us hl => match us, hl with | [_, _, _, _], _ => rfl⟩
  have F16 := fun_mk (st := s_plus_) l16 c16 k16
  have D16 : IsDef K mg "_law_plus" s_plus_ ["a", "b"] := ⟨_, _, F16, PySem.W.mg_of X G a16, F16.binds (ps := ["a", "b"]) fun _ _ _ _ _ _ us hl => match us, hl with | [_, _], _ => rfl⟩
  have F17 := fun_mk (st := s_total_) l17 c17 k17
  have D17 : IsDef K mg "_law_total" s_total_ ["numbers"] := ⟨_, _, F17, PySem.W.mg_of X G a17, F17.binds (ps := ["numbers"]) fun _ _ _ _ _ _ us hl => match us, hl with | [_], _ => rfl⟩
  have F18 := fun_mk (st := s_targets) l18 c18 k18
  have D18 : IsDef K mg "_law_targets" s_targets ["place"] := ⟨_, _, F18, PySem.W.mg_of X G a18, F18.binds (ps := ["place"]) fun _ _ _ _ _ _ us hl => match us, hl with | [_], _ => rfl⟩
  have F19 := fun_mk (st := s_way) l19 c19 k19
  have D19 : IsDef K mg "_law_way" s_way ["game", "start", "draws"] := ⟨_, _, F19, PySem.W.mg_of X G a19, F19.binds (ps := ["game", "start", "draws"]) fun _ _ _ _ _ _ us hl => match us, hl with | [_, _, _], _ => rfl⟩
  have F20 := fun_mk (st := s_places) l20 c20 k20
  have D20 : IsDef K mg "_law_places" s_places ["game", "start", "branches"] := ⟨_, _, F20, PySem.W.mg_of X G a20, F20.binds (ps := ["game", "start", "branches"]) fun _ _ _ _ _ _ us hl => match us, hl with | [_, _, _], _ => rfl⟩
  have F21 := fun_mk (st := s_same) l21 c21 k21
  have D21 : IsDef K mg "_law_same" s_same ["actual", "due"] := ⟨_, _, F21, PySem.W.mg_of X G a21, F21.binds (ps := ["actual", "due"]) fun _ _ _ _ _ _ us hl => match us, hl with | [_, _], _ => rfl⟩
  have F22 := fun_mk (st := s_told) l22 c22 k22
  have D22 : IsDef K mg "_law_told" s_told ["game", "start", "beginning", "circle"] := ⟨_, _, F22, PySem.W.mg_of X G a22, F22.binds (ps := ["game", "start", "beginning", "circle"]) fun _ _ _ _ _ _ us hl => match us, hl with | [_, _, _, _], _ => rfl⟩
  have FN := fun_mk (st := s_NB) nl ncd nkf
  have NB : NBTxt K mg CN := ⟨⟨⟨nmN, qN, NN, bsN, _, snN, subN, abN, colN, ddN, mN0, mN1, mN2, mN3, mN5, nX, by rfl⟩, nsa, neC, ntC, nkC⟩, ⟨nga, ngg, neC, nhC⟩, PySem.W.mg_of X G nC, nat_, PySem.W.exm_ref neC nhC ntC nsC,
    ⟨fN, _, nin, nti, FN, FN.binds (ps := ["self", "at"]) fun _ _ _ _ _ _ us hl => match us, hl with | [_, _], _ => rfl⟩⟩
  have m_gcdB := PySem.W.mg_of X G hgcd
  have NC : NCs K mg CC CN := ⟨PySem.W.mg_of X G nNa, nNx, nNk, nNs, nNt⟩
  have nc1 : PySem.W.exmOne K (.ref CC) (.ref CN) = some false := PySem.W.exm_ref neC nhC ntC nNC
  have nc2 : PySem.W.exmOne K (.ref CC) (.ref CC) = some true := PySem.W.exm_ref nNs nNh nNt nNN
  have C1 : ConstT K mg "ZERO" (nD (0, 1)) := ⟨_, PySem.W.mg_of X G ac1, fun H => Dt.tuple (xs := [V.int 0, V.int 1]) (.inr ⟨_, _, _, lc1, rfl, rfl, by show 2 ≤ sizeLine; decide, .cons ⟨_, rfl⟩ (.cons ⟨_, rfl⟩ .nil)⟩) (DtA.cons (Dt.int 0) (DtA.one (Dt.int 1)))⟩
  refine ⟨PySem.W.fnOf "law" "law" (defArgs s_law) (defBody s_law) (defScope s_law) .none kV23 dc23 pm23 an23 cd23 ct23, fun s v => .of_eq rfl, fun B _ _ => ?_⟩
  have U1 := has_gcd (P := l.prog) (w := w) (base := B) T D1
  have U2 := has_number D2 U1
  have U3 := has_draws (P := l.prog) (w := w) (base := B) T D3
  have U4 := has_place T D4 U2
  have U5 := has_game T D5 U4
  have U6 := has_is_whole (P := l.prog) (w := w) (base := B) T D6
  have U7 := has_has_branch T D7 U6
  have U8 := has_targets_of (P := l.prog) (w := w) (base := B) T D8
  have U9 := has_places_on T NB D9 U7 U8
  have U10 := has_lowest (P := l.prog) (w := w) (base := B) m_gcdB D10
  have U11 := has_plus D11 U10
  have U13 := has_total C1 D12 U11
  have U14 := has_sum_of D13 U9 U13
  have U15 := has_divided D14 U10
  have U12 := has_gain T NC D15 U9 U14 U15
  have U16 := has_plus_ D16 U2
  have U18 := has_total_ D17 U16
  have U19 := has_targets (P := l.prog) (w := w) (base := B) T D18
  have U20 := has_way T D19 U19
  have U21 := has_places T D20 U19
  have U22 := has_same (P := l.prog) (w := w) (base := B) T D21 2
  have U23 := has_told5 T NB NC nc1 nc2 D22 U12
  exact ok_law (fun_mk (st := s_law) l23 c23 k23) T U3 U5 U20 U21 U2 U18 U22 U23 U19
end Md

open PySem PySem.W PyProof.Rows in
set_option maxRecDepth 100000 in
set_option maxHeartbeats 0 in
theorem PySem.Challenge.cw_meanhold_k05_gains_of_plays_holds : PySem.Challenge.rw_meanhold_k05_gains_of_plays.Holds := by
  w_on; o_law; k_head; (case hw => w_witness2)
  k_fill
  refine Md.law_walk (l := PySem.Challenge.rw_meanhold_k05_gains_of_plays) (k := 8) (sp := Md.spLaw) (x := "script") rfl rfl ⟨rfl, by decide, by decide⟩ (fun w h Y => PySem.W.kIn_of Y) ?F (fun K H a ns hl _ hS => ⟨a, ns, rfl, hS, hl, fun _ => rfl⟩)
  case F =>
    intro w mg fa h KX G hmg
    refine' Md.all_mk KX G hmg ?a1 ?l1 ?c1 ?k1 ?a2 ?l2 ?c2 ?k2 ?a3 ?l3 ?c3 ?k3 ?a4 ?l4 ?c4 ?k4 ?a5 ?l5 ?c5 ?k5 ?a6 ?l6 ?c6 ?k6 ?a7 ?l7 ?c7 ?k7 ?a8 ?l8 ?c8 ?k8 ?a9 ?l9 ?c9 ?k9 ?a10 ?l10 ?c10 ?k10 ?a11 ?l11 ?c11 ?k11 ?a12 ?l12 ?c12 ?k12 ?a13 ?l13 ?c13 ?k13 ?a14 ?l14 ?c14 ?k14 ?a15 ?l15 ?c15 ?k15 ?a16 ?l16 ?c16 ?k16 ?a17 ?l17 ?c17 ?k17 ?a18 ?l18 ?c18 ?k18 ?a19 ?l19 ?c19 ?k19 ?a20 ?l20 ?c20 ?k20 ?a21 ?l21 ?c21 ?k21 ?a22 ?l22 ?c22 ?k22 ?a23 ?l23 ?c23 ?k23 ?ac1 ?lc1 ?z_len ?z_int ?z_range ?z_abs ?z_repr ?z_list ?z_isinstance ?z_sum ?z_zip ?z_bool ?z_enumerate ?z_tuple ?z_str ?z_all ?z_any ?z_min ?z_max ?nC ?nX ?nsa ?nga ?ngg ?nat_ ?nin ?nti ?nl ?ncd ?nkf ?nkC ?neC ?ntC ?nhC ?nsC ?hgcd ?nNa ?nNx ?nNk ?nNs ?nNt ?nNC ?nNN ?nNh
    (case a1 => k_is)
    (case l1 => k_is)
    (case c1 => k_is)
    (case k1 => k_is)
    (case a2 => k_is)
    (case l2 => k_is)
    (case c2 => k_is)
    (case k2 => k_is)
    (case a3 => k_is)
    (case l3 => k_is)
    (case c3 => k_is)
    (case k3 => k_is)
    (case a4 => k_is)
    (case l4 => k_is)
    (case c4 => k_is)
    (case k4 => k_is)
    (case a5 => k_is)
    (case l5 => k_is)
    (case c5 => k_is)
    (case k5 => k_is)
    (case a6 => k_is)
    (case l6 => k_is)
    (case c6 => k_is)
    (case k6 => k_is)
    (case a7 => k_is)
    (case l7 => k_is)
    (case c7 => k_is)
    (case k7 => k_is)
    (case a8 => k_is)
    (case l8 => k_is)
    (case c8 => k_is)
    (case k8 => k_is)
    (case a9 => k_is)
    (case l9 => k_is)
    (case c9 => k_is)
    (case k9 => k_is)
    (case a10 => k_is)
    (case l10 => k_is)
    (case c10 => k_is)
    (case k10 => k_is)
    (case a11 => k_is)
    (case l11 => k_is)
    (case c11 => k_is)
    (case k11 => k_is)
    (case a12 => k_is)
    (case l12 => k_is)
    (case c12 => k_is)
    (case k12 => k_is)
    (case a13 => k_is)
    (case l13 => k_is)
    (case c13 => k_is)
    (case k13 => k_is)
    (case a14 => k_is)
    (case l14 => k_is)
    (case c14 => k_is)
    (case k14 => k_is)
    (case a15 => k_is)
    (case l15 => k_is)
    (case c15 => k_is)
    (case k15 => k_is)
    (case a16 => k_is)
    (case l16 => k_is)
    (case c16 => k_is)
    (case k16 => k_is)
    (case a17 => k_is)
    (case l17 => k_is)
    (case c17 => k_is)
    (case k17 => k_is)
    (case a18 => k_is)
    (case l18 => k_is)
    (case c18 => k_is)
    (case k18 => k_is)
    (case a19 => k_is)
    (case l19 => k_is)
    (case c19 => k_is)
    (case k19 => k_is)
    (case a20 => k_is)
    (case l20 => k_is)
    (case c20 => k_is)
    (case k20 => k_is)
    (case a21 => k_is)
    (case l21 => k_is)
    (case c21 => k_is)
    (case k21 => k_is)
    (case a22 => k_is)
    (case l22 => k_is)
    (case c22 => k_is)
    (case k22 => k_is)
    (case a23 => k_is)
    (case l23 => k_is)
    (case c23 => k_is)
    (case k23 => k_is)
    (case ac1 => k_is)
    (case lc1 => k_is)
    (case z_len => k_is)
    (case z_int => k_is)
    (case z_range => k_is)
    (case z_abs => k_is)
    (case z_repr => k_is)
    (case z_list => k_is)
    (case z_isinstance => k_is)
    (case z_sum => k_is)
    (case z_zip => k_is)
    (case z_bool => k_is)
    (case z_enumerate => k_is)
    (case z_tuple => k_is)
    (case z_str => k_is)
    (case z_all => k_is)
    (case z_any => k_is)
    (case z_min => k_is)
    (case z_max => k_is)
    (case nC => k_is)
    (case nX => k_is)
    (case nsa => k_is)
    (case nga => k_is)
    (case ngg => k_is)
    (case nat_ => k_is)
    (case nin => k_is)
    (case nti => k_is)
    (case nl => k_is)
    (case ncd => k_is)
    (case nkf => k_is)
    (case nkC => k_is)
    (case neC => k_is)
    (case ntC => k_is)
    (case nhC => k_is)
    (case nsC => k_is)
    (case hgcd => k_is)
    (case nNa => k_is)
    (case nNx => k_exc)
    (case nNk => k_is)
    (case nNs => k_is)
    (case nNt => k_is)
    (case nNC => k_is)
    (case nNN => k_is)
    (case nNh => k_is)

