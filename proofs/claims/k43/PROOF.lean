import PyProof.Rows.All
import Wide.All
import OpenK.AllK
import Wide.FinOn
import HandS.ForMost
import HandS.ForExc
import HandS.Evl
import HandS.Steps
import HandS.Wide
import HandS.Walk
import HandS.Gcd
import HandS.IsInst
import HandS.ExcInit
import HandS.ExcField
import HandS.ExcIs
import KE.KExcIs
import HandS.TryMany
import HandS.Small
import HandS.Style
import KE.KMathG
import HandS.SortInts
import HandS.Defaults
import HandS.Flow
import PySem.Challenge.RW_meanhold_k43_sums_of_first_gains
set_option Elab.async false
set_option maxRecDepth 100000
set_option maxHeartbeats 2000000
/-! Data in the abstract heap: lists that are tracked, tuples; what an expression evaluates to, told as data. -/
namespace Md
open PySem L2 Evl

mutual
/-- the value v is the datum d: lists are tracked, tuples stand -/
inductive Dt (K : PySem.W.Frag) (H : Hp) : V → PyData → Prop
  | none : Dt K H V.non PyData.none
  | bool (b : Bool) : Dt K H (V.bl b) (PyData.bool b)
  | int (i : Int) : Dt K H (V.int i) (PyData.int i)
  | str (x : Str) : Dt K H (V.str x) (PyData.str x)
  | list {a : Addr} {xs : List V} {ds : List PyData} : H a = some (HO.lst xs) → DtA K H xs ds → Dt K H (V.ref a) (PyData.list ds)
  | tuple {a : Addr} {xs : List V} {ds : List PyData} : SqT K H a xs → DtA K H xs ds → Dt K H (V.ref a) (PyData.tuple ds)
inductive DtA (K : PySem.W.Frag) (H : Hp) : List V → List PyData → Prop
  | nil : DtA K H [] []
  | cons {v : V} {vs : List V} {d : PyData} {ds : List PyData} : Dt K H v d → DtA K H vs ds → DtA K H (v :: vs) (d :: ds)
end

section
variable {K : PySem.W.Frag} {H H' : Hp}
mutual
theorem Dt.mono (e : Ex H H') : ∀ (d : PyData) (v : V), Dt K H v d → Dt K H' v d
  | .none, _, h => by cases h; exact Dt.none
  | .bool b, _, h => by cases h; exact Dt.bool b
  | .int i, _, h => by cases h; exact Dt.int i
  | .str x, _, h => by cases h; exact Dt.str x
  | .list ds, _, h => by
    cases h with
    | list h1 h2 => exact Dt.list (e _ _ h1) (DtA.mono e ds _ h2)
  | .tuple ds, _, h => by
    cases h with
    | tuple h1 h2 => exact Dt.tuple (ex_t e h1) (DtA.mono e ds _ h2)
  | .dict _, _, h => by cases h
theorem DtA.mono (e : Ex H H') : ∀ (ds : List PyData) (vs : List V), DtA K H vs ds → DtA K H' vs ds
  | [], _, h => by cases h; exact DtA.nil
  | d :: ds, _, h => by
    cases h with
    | cons h1 h2 => exact DtA.cons (Dt.mono e d _ h1) (DtA.mono e ds _ h2)
end
theorem Dt.up {v : V} {d : PyData} (h : Dt K H v d) (e : Ex H H') : Dt K H' v d := Dt.mono e d v h
theorem DtA.up {vs : List V} {ds : List PyData} (h : DtA K H vs ds) (e : Ex H H') : DtA K H' vs ds := DtA.mono e ds vs h
mutual
theorem Dt.dp : ∀ (d : PyData) (v : V), Dt K H v d → Dp K H v d
  | .none, _, h => by cases h; exact Dp.non
  | .bool b, _, h => by cases h; exact Dp.bl b
  | .int i, _, h => by cases h; exact Dp.int i
  | .str x, _, h => by cases h; exact Dp.str x
  | .list ds, _, h => by
    cases h with
    | list h1 h2 => exact Dp.lst (SqL.of h1) (DtA.dp ds _ h2)
  | .tuple ds, _, h => by
    cases h with
    | tuple h1 h2 => exact Dp.tup h1 (DtA.dp ds _ h2)
  | .dict _, _, h => by cases h
theorem DtA.dp : ∀ (ds : List PyData) (vs : List V), DtA K H vs ds → DpAll K H vs ds
  | [], _, h => by cases h; exact DpAll.nil
  | d :: ds, _, h => by
    cases h with
    | cons h1 h2 => exact DpAll.cons (Dt.dp d _ h1) (DtA.dp ds _ h2)
end
theorem DtA.length : ∀ {ds : List PyData} {vs : List V}, DtA K H vs ds → vs.length = ds.length
  | [], _, h => by cases h; rfl
  | _ :: ds, _, h => by
    cases h with
    | cons _ h2 => exact congrArg Nat.succ (DtA.length h2)
theorem DtA.get : ∀ {ds : List PyData} {vs : List V} {i : Nat} {d : PyData}, DtA K H vs ds → ds[i]? = some d → ∃ v, vs[i]? = some v ∧ Dt K H v d
  | [], _, _, _, _, e => by simp at e
  | d :: ds, _, 0, _, h, e => by
    cases h with
    | cons h1 _ =>
      simp only [List.getElem?_cons_zero, Option.some.injEq] at e
      subst e
      exact ⟨_, rfl, h1⟩
  | _ :: ds, _, i + 1, _, h, e => by
    cases h with
    | cons _ h2 =>
      simp only [List.getElem?_cons_succ] at e
      obtain ⟨v, e1, h3⟩ := DtA.get h2 e
      exact ⟨v, by simpa using e1, h3⟩
theorem DtA.getV : ∀ {ds : List PyData} {vs : List V} {i : Nat} {v : V}, DtA K H vs ds → vs[i]? = some v → ∃ d, ds[i]? = some d ∧ Dt K H v d
  | [], _, _, _, h, e => by cases h; simp at e
  | d :: ds, _, 0, _, h, e => by
    cases h with
    | cons h1 _ =>
      simp only [List.getElem?_cons_zero, Option.some.injEq] at e
      subst e
      exact ⟨_, rfl, h1⟩
  | _ :: ds, _, i + 1, _, h, e => by
    cases h with
    | cons _ h2 =>
      simp only [List.getElem?_cons_succ] at e
      obtain ⟨d, e1, h3⟩ := DtA.getV h2 e
      exact ⟨d, by simpa using e1, h3⟩
theorem DtA.atI {ds : List PyData} {vs : List V} {i : Int} {d : PyData} (h : DtA K H vs ds) (e : L2.atI ds i = some d) : ∃ v, L2.atI vs i = some v ∧ Dt K H v d := by
  unfold L2.atI at e ⊢
  rw [h.length]
  cases q : ixN ds.length i with
  | none => rw [q] at e; cases e
  | some j =>
    rw [q] at e
    exact h.get e
theorem DtA.append : ∀ {ds es : List PyData} {vs us : List V}, DtA K H vs ds → DtA K H us es → DtA K H (vs ++ us) (ds ++ es)
  | [], _, _, _, h, g => by cases h; exact g
  | _ :: ds, _, _, _, h, g => by
    cases h with
    | cons h1 h2 => exact DtA.cons h1 (DtA.append h2 g)
theorem DtA.take : ∀ {ds : List PyData} {vs : List V} (n : Nat), DtA K H vs ds → DtA K H (vs.take n) (ds.take n)
  | _, _, 0, _ => DtA.nil
  | [], _, n + 1, h => by cases h; exact DtA.nil
  | _ :: ds, _, n + 1, h => by
    cases h with
    | cons h1 h2 => exact DtA.cons h1 (DtA.take n h2)
theorem DtA.drop : ∀ {ds : List PyData} {vs : List V} (n : Nat), DtA K H vs ds → DtA K H (vs.drop n) (ds.drop n)
  | _, _, 0, h => h
  | [], _, n + 1, h => by cases h; exact DtA.nil
  | _ :: ds, _, n + 1, h => by
    cases h with
    | cons _ h2 => exact DtA.drop n h2
theorem DtA.one {v : V} {d : PyData} (h : Dt K H v d) : DtA K H [v] [d] := DtA.cons h DtA.nil
theorem DtA.ints : ∀ ns : List Int, DtA K H (ns.map V.int) (ns.map PyData.int)
  | [] => DtA.nil
  | n :: ns => DtA.cons (Dt.int n) (DtA.ints ns)
def cutD (ds : List PyData) (lo hi : Option Int) : List PyData := (ds.drop (HT.sIx ds.length 0 lo)).take (HT.sIx ds.length ds.length hi - HT.sIx ds.length 0 lo)
theorem DtA.cut {ds : List PyData} {vs : List V} (h : DtA K H vs ds) (lo hi : Option Int) : DtA K H (cutV vs lo hi) (cutD ds lo hi) := by
  unfold cutV cutD
  rw [h.length]
  exact (h.drop _).take _
theorem Dt.listI {v : V} {ds : List PyData} (h : Dt K H v (.list ds)) : ∃ a xs, v = V.ref a ∧ H a = some (HO.lst xs) ∧ DtA K H xs ds := by
  cases h with
  | list h1 h2 => exact ⟨_, _, rfl, h1, h2⟩
theorem Dt.tupleI {v : V} {ds : List PyData} (h : Dt K H v (.tuple ds)) : ∃ a xs, v = V.ref a ∧ SqT K H a xs ∧ DtA K H xs ds := by
  cases h with
  | tuple h1 h2 => exact ⟨_, _, rfl, h1, h2⟩
theorem Dt.intI {v : V} {i : Int} (h : Dt K H v (.int i)) : v = V.int i := by cases h; rfl
theorem Dt.strI {v : V} {x : Str} (h : Dt K H v (.str x)) : v = V.str x := by cases h; rfl
theorem Dt.boolI {v : V} {b : Bool} (h : Dt K H v (.bool b)) : v = V.bl b := by cases h; rfl
theorem Dt.noneI {v : V} (h : Dt K H v .none) : v = V.non := by cases h; rfl
end

/-! ### what an expression evaluates to, as data. b: the part of the heap h that is spoken of -/
structure Gr (b h b' h' : Hp) : Prop where
  gb : Ex b b'
  gh : Ex h h'
  gi : Ex b' h'
  gf : ∀ a, b a = none → h a ≠ none → b' a = none
theorem Gr.refl {b h : Hp} (e : Ex b h) : Gr b h b h := ⟨Ex.refl b, Ex.refl h, e, fun _ q _ => q⟩
theorem Gr.trans {b h b1 h1 b2 h2 : Hp} (x : Gr b h b1 h1) (y : Gr b1 h1 b2 h2) : Gr b h b2 h2 := ⟨x.gb.trans y.gb, x.gh.trans y.gh, y.gi, fun a q n => y.gf a (x.gf a q n) fun z => by
  cases e : h a with
  | none => exact n e
  | some o =>
    rw [x.gh a o e] at z
    cases z⟩
theorem Gr.stay {b h h' : Hp} (e : Ex b h) (e' : Ex h h') : Gr b h b h' := ⟨Ex.refl b, e', e.trans e', fun _ q _ => q⟩
/-- a new object, spoken of -/
theorem Gr.new {b h : Hp} {p : Addr} {o : HO} (e : Ex b h) (n : h p = none) : Gr b h (upd b p o) (upd h p o) := by
  have nb : b p = none := by
    cases q : b p with
    | none => rfl
    | some u =>
      rw [e p u q] at n
      cases n
  refine ⟨Ex.new nb, Ex.new n, fun a u q => ?_, fun a q z => ?_⟩
  · by_cases ha : a = p
    · subst ha
      rw [upd_same] at q ⊢
      exact q
    · rw [upd_ne ha] at q ⊢
      exact e a u q
  · rw [upd_ne (fun ha => z (by rw [ha]; exact n))]
    exact q
/-- a new object, not spoken of (a list that will change) -/
theorem Gr.hid {b h : Hp} {p : Addr} {o : HO} (e : Ex b h) (n : h p = none) : Gr b h b (upd h p o) := Gr.stay e (Ex.new n)
/-- what is not spoken of is changed: it was not there at the start -/
theorem Gr.mut {b0 h0 b h : Hp} {p : Addr} {o : HO} (g : Gr b0 h0 b h) (n : h0 p = none) (nb : b p = none) : Gr b0 h0 b (upd h p o) := ⟨g.gb, Ex.mut g.gh n, Ex.mut g.gi nb, g.gf⟩
/-- from now on it is spoken of -/
theorem Gr.tell {b0 h0 b h : Hp} {p : Addr} {o : HO} (g : Gr b0 h0 b h) (n : h0 p = none) (nb : b p = none) (hp : h p = some o) : Gr b0 h0 (upd b p o) h := by
  refine ⟨g.gb.trans (Ex.new nb), g.gh, fun a u q => ?_, fun a q z => ?_⟩
  · by_cases ha : a = p
    · subst ha
      rw [upd_same] at q
      rw [hp]
      exact q
    · rw [upd_ne ha] at q
      exact g.gi a u q
  · rw [upd_ne (fun ha => z (by rw [ha]; exact n))]
    exact g.gf a q z
theorem none_of {b h : Hp} (e : Ex b h) {p : Addr} (n : h p = none) : b p = none := fresh_back e n
def ED (K : PySem.W.Frag) (te : TE) (σ : L2.St) (b : Hp) (d : PyData) : Prop := ∀ h, Ex b h → ∀ Q : VK, (∀ v b' h', Gr b h b' h' → Dt K b' v d → Q v h') → te σ h Q
def EDA (K : PySem.W.Frag) (ta : TA) (σ : L2.St) (b : Hp) (ds : List PyData) : Prop := ∀ h, Ex b h → ∀ Q : List V → Hp → Prop, (∀ vs b' h', Gr b h b' h' → DtA K b' vs ds → Q vs h') → ta σ h Q
section
variable {K : PySem.W.Frag} {σ : L2.St} {b b' h h' : Hp} {te ta tb : TE} {ts tr : TA} {d d' : PyData} {ds : List PyData} {v : V} {i : Int}
/-- the same of a greater part, where what is handed on is as before -/
theorem Gr.back {b1 b2 h1 : Hp} (e : Ex b b1) (g : Gr b h b2 h1) (e1 : Ex b1 h) : ∃ b3, Gr b1 h b3 h1 ∧ Ex b2 b3 ∧ ∀ a, b2 a = none → b1 a = none → b3 a = none := by
  refine ⟨fun a => match b2 a with | some o => some o | none => b1 a, ⟨fun a o q => ?_, g.gh, fun a o q => ?_, fun a q n => ?_⟩, fun a o q => ?_, fun a z1 z2 => by simp only [z1, z2]⟩
  · cases z : b2 a with
    | none => simpa [z] using q
    | some u =>
      have h1 := g.gi a u z
      have h2 := g.gh a o (e1 a o q)
      rw [h1] at h2
      simp [z, h2]
  · cases z : b2 a with
    | none =>
      simp only [z] at q
      exact g.gh a o (e1 a o q)
    | some u =>
      simp only [z] at q
      rw [← q]
      exact g.gi a u z
  · have z : b2 a = none := g.gf a (fresh_back e q) n
    simp only [z]
    exact q
  · simp only [q]
theorem ED.up (x : ED K te σ b d) (e : Ex b b') : ED K te σ b' d := fun h e1 _ q => x h (e.trans e1) _ fun v b2 h2 g hv => by
  obtain ⟨b3, g3, e3, _⟩ := g.back e e1
  exact q v b3 h2 g3 (hv.up e3)
theorem EDA.up (x : EDA K ts σ b ds) (e : Ex b b') : EDA K ts σ b' ds := fun h e1 _ q => x h (e.trans e1) _ fun v b2 h2 g hv => by
  obtain ⟨b3, g3, e3, _⟩ := g.back e e1
  exact q v b3 h2 g3 (hv.up e3)
theorem ed_var {k : Nat} (hs : σ[k]? = some (some v)) (hd : Dt K b v d) : ED K (tVar k) σ b d := fun h e _ q => ⟨v, hs, q v b h (Gr.refl e) hd⟩
theorem ed_val (hd : Dt K b v d) (he : Ev te σ b v) : ED K te σ b d := fun h e _ q => he h e _ fun h2 e2 => q v b h2 (Gr.stay e e2) hd
theorem ed_of (x : Ev te σ b v) (hd : ∀ H2, Dt K H2 v d) : ED K te σ b d := fun h e _ q => x h e _ fun h2 e2 => q v b h2 (Gr.stay e e2) (hd b)
theorem ed_int (x : Ev te σ b (.int i)) : ED K te σ b (.int i) := ed_of x fun _ => Dt.int i
theorem ed_str {z : Str} (x : Ev te σ b (.str z)) : ED K te σ b (.str z) := ed_of x fun _ => Dt.str z
theorem ed_none (x : Ev te σ b .non) : ED K te σ b .none := ed_of x fun _ => Dt.none
theorem ed_bool {k : Bool} (x : Ev te σ b (.bl k)) : ED K te σ b (.bool k) := ed_of x fun _ => Dt.bool k
theorem ev_int (x : ED K te σ b (.int i)) : Ev te σ b (.int i) := fun h e _ q => x h e _ fun v b2 h2 g hd => by
  rw [hd.intI]
  exact q h2 g.gh
theorem ev_str {z : Str} (x : ED K te σ b (.str z)) : Ev te σ b (.str z) := fun h e _ q => x h e _ fun v b2 h2 g hd => by
  rw [hd.strI]
  exact q h2 g.gh
theorem ev_bool {k : Bool} (x : ED K te σ b (.bool k)) : Ev te σ b (.bl k) := fun h e _ q => x h e _ fun v b2 h2 g hd => by
  rw [hd.boolI]
  exact q h2 g.gh
theorem ev_none (x : ED K te σ b .none) : Ev te σ b .non := fun h e _ q => x h e _ fun v b2 h2 g hd => by
  rw [hd.noneI]
  exact q h2 g.gh
theorem ed_ixL (ha : ED K ta σ b (.list ds)) (hb : Ev tb σ b (.int i)) (hi : L2.atI ds i = some d) : ED K (tOp (rIxL K) ta tb) σ b d := fun h e _ q => ha h e _ fun x b2 h2 g2 hx => hb h2 (e.trans g2.gh) _ fun h3 e3 => by
  obtain ⟨a, xs, rfl, k1, k2⟩ := hx.listI
  obtain ⟨v, hv, hd⟩ := k2.atI hi
  exact ⟨a, xs, i, v, rfl, rfl, sq_of (e3 _ _ (g2.gi _ _ k1)), hv, q v b2 h3 (g2.trans (Gr.stay g2.gi e3)) hd⟩
theorem ed_ixT (ha : ED K ta σ b (.tuple ds)) (hb : Ev tb σ b (.int i)) (hi : L2.atI ds i = some d) : ED K (tOp (rIxT K) ta tb) σ b d := fun h e _ q => ha h e _ fun x b2 h2 g2 hx => hb h2 (e.trans g2.gh) _ fun h3 e3 => by
  obtain ⟨a, xs, rfl, k1, k2⟩ := hx.tupleI
  obtain ⟨v, hv, hd⟩ := k2.atI hi
  exact ⟨a, xs, i, v, rfl, rfl, ex_t e3 (ex_t g2.gi k1), hv, q v b2 h3 (g2.trans (Gr.stay g2.gi e3)) hd⟩
theorem eda_nil : EDA K tNil σ b [] := fun h e _ q => q [] b h (Gr.refl e) DtA.nil
theorem eda_cons (x : ED K te σ b d) (hr : EDA K tr σ b ds) : EDA K (tCons te tr) σ b (d :: ds) := fun h e _ q => x h e _ fun v b2 h2 g2 hv => hr.up g2.gb h2 g2.gi _ fun vs b3 h3 g3 hvs =>
  q (v :: vs) b3 h3 (g2.trans g3) (DtA.cons (hv.up g3.gb) hvs)
theorem ed_tup (x : EDA K ts σ b ds) (hl : ds.length ≤ 100000) : ED K (tTup ts) σ b (.tuple ds) := fun h e _ q => x h e _ fun vs b2 h2 g2 hvs =>
  ⟨sz_of (by rw [hvs.length]; exact hl), fun p hp => q (.ref p) _ _ (g2.trans (Gr.new g2.gi hp)) (Dt.tuple (st_of upd_same) (hvs.up (Ex.new (none_of g2.gi hp))))⟩
theorem ev_lenL (ha : ED K te σ b (.list ds)) : Ev (tCB (rLenS K) (tCons te tNil)) σ b (.int (ds.length : Int)) := fun h e _ q => ha h e _ fun v b2 h2 g2 hv => by
  obtain ⟨a, xs, rfl, h1, k2⟩ := hv.listI
  refine ⟨a, xs, rfl, .inl (sq_of (g2.gi _ _ h1)), ?_⟩
  rw [k2.length]
  exact q h2 g2.gh
theorem ev_lenT (ha : ED K te σ b (.tuple ds)) : Ev (tCB (rLenS K) (tCons te tNil)) σ b (.int (ds.length : Int)) := fun h e _ q => ha h e _ fun v b2 h2 g2 hv => by
  obtain ⟨a, xs, rfl, h1, k2⟩ := hv.tupleI
  refine ⟨a, xs, rfl, .inr (ex_t g2.gi h1), ?_⟩
  rw [k2.length]
  exact q h2 g2.gh
/-- == of data -/
theorem ev_eqD (ha : ED K ta σ b d) (hb : ED K tb σ b d') (s1 : SeqAt.shaped d = true) (s2 : SeqAt.shaped d' = true) : Ev (tOp (rEqD K) ta tb) σ b (.bl (PyData.eqv d d')) := fun h e _ q =>
  ha h e _ fun x b2 h2 g2 hx => hb.up g2.gb h2 g2.gi _ fun y b3 h3 g3 hy => ⟨d, d', Dt.dp _ _ ((hx.up g3.gb).up g3.gi), Dt.dp _ _ (hy.up g3.gi), s1, s2, q h3 (g2.gh.trans g3.gh)⟩
theorem ev_neD (ha : ED K ta σ b d) (hb : ED K tb σ b d') (s1 : SeqAt.shaped d = true) (s2 : SeqAt.shaped d' = true) : Ev (tOp (rNeD K) ta tb) σ b (.bl (!PyData.eqv d d')) := fun h e _ q =>
  ha h e _ fun x b2 h2 g2 hx => hb.up g2.gb h2 g2.gi _ fun y b3 h3 g3 hy => ⟨d, d', Dt.dp _ _ ((hx.up g3.gb).up g3.gi), Dt.dp _ _ (hy.up g3.gi), s1, s2, q h3 (g2.gh.trans g3.gh)⟩
/-- what int(n), int(flag) ask -/
def rInt1 : List V → Hp → VK → Prop := fun xs H Q => (∃ i, xs = [V.int i] ∧ Q (V.int i) H) ∨ ∃ k, xs = [V.bl k] ∧ Q (V.int (if k then 1 else 0)) H
theorem cr_int1 {X : Cx} : CallR X (.type "int") rInt1 := call_int1
theorem ev_int1 (x : Ev te σ b (.int i)) : Ev (tCB rInt1 (tCons te tNil)) σ b (.int i) := fun h e _ q => x h e _ fun h2 e2 => .inl ⟨i, rfl, q h2 e2⟩
theorem ev_int1b {k : Bool} (x : Ev te σ b (.bl k)) : Ev (tCB rInt1 (tCons te tNil)) σ b (.int (if k then 1 else 0)) := fun h e _ q => x h e _ fun h2 e2 => .inr ⟨k, rfl, q h2 e2⟩
/-- a def's promise by data -/
def SpF (K : PySem.W.Frag) (n : Nat) (pre : List PyData → Prop) (f : List PyData → PyData → Prop) : Sp := fun vs h Q _ => ∃ b ds, Ex b h ∧ DtA K b vs ds ∧ ds.length = n ∧ pre ds ∧ ∀ v b' h' d, Gr b h b' h' → f ds d → Dt K b' v d → Q v h'
theorem SpF.len {n : Nat} {pre : List PyData → Prop} {f : List PyData → PyData → Prop} : ∀ vs H Q E, SpF K n pre f vs H Q E → vs.length = n := fun vs H Q E x => by
  obtain ⟨b, ds, _, h1, h2, _⟩ := x
  rw [h1.length, h2]
theorem ed_call {n : Nat} {pre : List PyData → Prop} {f : List PyData → PyData → Prop} {E : XK} (x : EDA K ts σ b ds) (hn : ds.length = n) (hp : pre ds) (he : ∀ e, f ds e → e = d) : ED K (tCall (SpF K n pre f) [] E ts) σ b d := fun h e _ q =>
  x h e _ fun vs b2 h2 g2 hvs => ⟨b2, ds, g2.gi, by rw [List.append_nil]; exact hvs, hn, hp, fun v b3 h3 d3 g3 hf hv => q v b3 h3 (g2.trans g3) (he d3 hf ▸ hv)⟩
/-- the same where only a relation is known of what comes back -/
def EX (K : PySem.W.Frag) (te : TE) (σ : L2.St) (b : Hp) (P : PyData → Prop) : Prop := ∀ h, Ex b h → ∀ Q : VK, (∀ v b' h' d, Gr b h b' h' → P d → Dt K b' v d → Q v h') → te σ h Q
theorem ex_call {n : Nat} {pre : List PyData → Prop} {f : List PyData → PyData → Prop} {E : XK} (x : EDA K ts σ b ds) (hn : ds.length = n) (hp : pre ds) : EX K (tCall (SpF K n pre f) [] E ts) σ b (f ds) := fun h e _ q =>
  x h e _ fun vs b2 h2 g2 hvs => ⟨b2, ds, g2.gi, by rw [List.append_nil]; exact hvs, hn, hp, fun v b3 h3 d3 g3 hf hv => q v b3 h3 d3 (g2.trans g3) hf hv⟩
theorem ED.ex (x : ED K te σ b d) : EX K te σ b (· = d) := fun h e _ q => x h e _ fun v b2 h2 g hv => q v b2 h2 d g rfl hv
end

/-! ### new lists -/
/-- a new list of data, not yet spoken of -/
def EN (K : PySem.W.Frag) (te : TE) (σ : L2.St) (b : Hp) (ds : List PyData) : Prop := ∀ h, Ex b h → ∀ Q : VK, (∀ p vs b' h', h p = none → b' p = none → Gr b h b' h' → h' p = some (.lst vs) → DtA K b' vs ds → Q (.ref p) h') → te σ h Q
section
variable {K : PySem.W.Frag} {σ : L2.St} {b b' : Hp} {te ta tb : TE} {ts tr : TA} {ds es : List PyData}
theorem EN.ed (x : EN K te σ b ds) : ED K te σ b (.list ds) := fun h e _ q => x h e _ fun p vs b2 h2 np nb g2 hp hv => q (.ref p) _ h2 (g2.tell np nb hp) (Dt.list upd_same (hv.up (Ex.new nb)))
theorem EN.up (x : EN K te σ b ds) (e : Ex b b') : EN K te σ b' ds := fun h e1 _ q => x h (e.trans e1) _ fun p us b2 h2 np nb g hp hv => by
  obtain ⟨b3, g3, e3, e4⟩ := g.back e e1
  exact q p us b3 h2 np (e4 p nb (none_of e1 np)) g3 hp (hv.up e3)
theorem gone {b h b1 h1 : Hp} (g : Gr b h b1 h1) {p : Addr} (n : h1 p = none) : h p = none := fresh_back g.gh n
theorem en_lst (x : EDA K ts σ b ds) (hl : ds.length ≤ 100000) : EN K (tLst ts) σ b ds := fun h e _ q => x h e _ fun vs b2 h2 g2 hvs =>
  ⟨sz_of (by rw [hvs.length]; exact hl), fun p hp => q p vs b2 _ (gone g2 hp) (none_of g2.gi hp) (g2.trans (Gr.hid g2.gi hp)) upd_same hvs⟩
theorem en_list (ha : ED K te σ b (.list ds)) : EN K (tCB (rListS K) (tCons te tNil)) σ b ds := fun h e _ q => ha h e _ fun v b2 h2 g2 hv => by
  obtain ⟨a, xs, rfl, k1, k2⟩ := hv.listI
  exact ⟨a, xs, rfl, .inl (sq_of (g2.gi _ _ k1)), fun l hl => q l xs b2 _ (gone g2 hl) (none_of g2.gi hl) (g2.trans (Gr.hid g2.gi hl)) upd_same k2⟩
theorem en_sl {tl th : TO} {lo hi : Option Int} (x : ED K te σ b (.list ds)) (h1 : EvO tl σ b lo) (h2 : EvO th σ b hi) : EN K (tSl (rSlL K) te tl th) σ b (cutD ds lo hi) := fun h e _ q =>
  x h e _ fun v b2 h2' g2 hv => h1 h2' (g2.gb.trans g2.gi) _ fun h3 e3 => h2 h3 ((g2.gb.trans g2.gi).trans e3) _ fun h4 e4 => by
    obtain ⟨a, xs, rfl, k1, k2⟩ := hv.listI
    have e24 := e3.trans e4
    have g4 := g2.trans (Gr.stay g2.gi e24)
    exact ⟨a, xs, rfl, sq_of (g4.gi _ _ k1), fun p hp => q p _ b2 _ (gone g4 hp) (none_of g4.gi hp) (g4.trans (Gr.hid g4.gi hp)) upd_same (k2.cut lo hi)⟩
theorem en_cat (ha : ED K ta σ b (.list ds)) (hb : ED K tb σ b (.list es)) (hl : ds.length + es.length ≤ 100000) : EN K (tOp rCat ta tb) σ b (ds ++ es) := fun h e _ q =>
  ha h e _ fun x b2 h2 g2 hx => hb.up g2.gb h2 g2.gi _ fun y b3 h3 g3 hy => by
    obtain ⟨a, xs, rfl, k1, k2⟩ := hx.listI
    obtain ⟨c, ys, rfl, l1, l2⟩ := hy.listI
    have g4 := g2.trans g3
    exact ⟨a, c, xs, ys, rfl, rfl, g3.gi _ _ (g3.gb _ _ k1), g3.gi _ _ l1, sz_of (by rw [k2.length, l2.length]; exact hl), fun p hp => q p _ b3 _ (gone g4 hp) (none_of g4.gi hp) (g4.trans (Gr.hid g4.gi hp)) upd_same ((k2.up g3.gb).append l2)⟩
end

/-! ### comprehensions -/
/-- what the turns below n give -/
def givenD (n : Nat) (f : Nat → Bool) (r : Nat → PyData) : List PyData := ((List.range n).filter f).map r
theorem givenD_yes {n : Nat} {f : Nat → Bool} {r : Nat → PyData} (h : f n = true) : givenD (n + 1) f r = givenD n f r ++ [r n] := by
  simp [givenD, List.range_succ, h]
theorem givenD_no {n : Nat} {f : Nat → Bool} {r : Nat → PyData} (h : f n = false) : givenD (n + 1) f r = givenD n f r := by
  simp [givenD, List.range_succ, h]
theorem givenD_len (n : Nat) (f : Nat → Bool) (r : Nat → PyData) : (givenD n f r).length ≤ n := by
  have h := List.length_filter_le f (List.range n)
  simpa [givenD] using h
theorem givenD_all (n : Nat) (r : Nat → PyData) : givenD n (fun _ => true) r = (List.range n).map r := by
  unfold givenD
  rw [List.filter_eq_self.mpr fun _ _ => rfl]
section
variable {K : PySem.W.Frag} {σ : L2.St} {b h1 : Hp} {te : TE} {t : TT} {g : TG} {vs : List Nat}
theorem et_yes : EvT tYes σ b true := fun h _ _ q => q h (Ex.refl h)
theorem lc_data {J : It} {n : Nat} {G : Hp → Prop} {Y : Nat → Hp → V → Hp → Prop} (w : Walk J n G Y) {Dl : Addr} {Qd : Hp → Prop} (f : Nat → Bool) (r : Nat → PyData) (eb : Ex b h1) (hD : h1 Dl = none) (hn : n ≤ 40000) (hG : ∀ h, Ex h1 h → G h)
    (hs : ∀ i x b2 h h', i < n → Ex h1 h → Gr b h1 b2 h → Y i h x h' → ∃ b3, Gr b2 h b3 h' ∧ ∀ Q : L2.St → Hp → Prop, (∀ σ2, wipe σ2 vs = wipe σ vs → EvT t σ2 b3 (f i) → (f i = true → ED K te σ2 b3 (r i)) → Q σ2 h') → g x (wipe σ vs) h' Q)
    (hd : ∀ b2 h us, Gr b h1 b2 h → b2 Dl = none → h Dl = some (.lst us) → DtA K b2 us (givenD n f r) → Qd h) :
    ∃ W : Nat → Nat → Hp → Prop, (∃ m, W 0 m (upd h1 Dl (.lst []))) ∧ ∀ i m H, W i m H →
      (J.stop i H ∧ Qd H) ∨ (J.go i H ∧ ∃ Nx : Hp → Prop, (∀ H', Nx H' → ∃ m', m' < m ∧ W (i + 1) m' H') ∧ ∀ x H', J.yld i H x H' → g x (wipe σ vs) H' fun σ2 H2 => wipe σ2 vs = wipe σ vs ∧ t σ2 H2 fun k H3 =>
        if k = true then te σ2 H3 fun y H4 => ∃ acc, H4 Dl = some (.lst acc) ∧ acc.length < sizeLine ∧ Nx (upd H4 Dl (.lst (acc ++ [y]))) else Nx H3) := by
  refine lc_it w (fun i h => ∃ b2 us, Gr b h1 b2 h ∧ b2 Dl = none ∧ h Dl = some (.lst us) ∧ DtA K b2 us (givenD i f r)) ?_ (fun i h _ p => ?_) ?_ ?_
  · exact ⟨b, [], Gr.hid eb hD, none_of eb hD, upd_same, DtA.nil⟩
  · obtain ⟨b2, us, g2, _⟩ := p
    exact hG h g2.gh
  · rintro i x h2 h3 hi ⟨b2, us, g2, nb, hu, hA⟩ hy
    obtain ⟨b3, g3, hq⟩ := hs i x b2 h2 h3 hi g2.gh g2 hy
    have nb3 : b3 Dl = none := g3.gf Dl nb (by rw [hu]; intro z; cases z)
    refine hq _ fun σ2 hw ht he => ⟨hw, ht h3 g3.gi _ fun h4 e4 => ?_⟩
    have g4 : Gr b3 h3 b3 h4 := Gr.stay g3.gi e4
    have hu4 : h4 Dl = some (.lst us) := e4 _ _ (g3.gh _ _ hu)
    cases hf : f i with
    | true =>
      show te σ2 h4 _
      refine he hf h4 g4.gi _ fun y b5 h5 g5 hy5 => ⟨us, g5.gh _ _ hu4, sz_lt (by have := givenD_len i f r; rw [hA.length]; omega), ?_⟩
      have nb5 : b5 Dl = none := g5.gf Dl nb3 (by rw [hu4]; intro z; cases z)
      refine ⟨b5, us ++ [y], ((g2.trans g3).trans (g4.trans g5)).mut hD nb5, nb5, upd_same, ?_⟩
      rw [givenD_yes hf]
      exact ((hA.up g3.gb).up g5.gb).append (DtA.one hy5)
    | false =>
      show ∃ b2 us, _
      refine ⟨b3, us, (g2.trans g3).trans g4, nb3, hu4, ?_⟩
      rw [givenD_no hf]
      exact hA.up g3.gb
  · rintro h ⟨b2, us, g2, nb, hu, hA⟩
    exact hd b2 h us g2 nb hu hA
end
end Md


set_option Elab.async false
set_option linter.all false
set_option maxRecDepth 100000
set_option maxHeartbeats 2000000
namespace Md
open PySem L2 Evl
section
variable {K : PySem.W.Frag} {σ : L2.St} {b h h0 : Hp} {te tl ta tb : TE} {t : TT} {g : TG} {vs : List Nat} {ds es : List PyData} {d d1 d2 d3 : PyData} {v : V} {Q : L2.St → Hp → Prop}
theorem g_two {i j : Nat} (x : Dt K b v (.tuple [d1, d2])) (e : Ex b h) (k : ∀ v1 v2, Dt K b v1 d1 → Dt K b v2 d2 → Q ((σ.set i (some v1)).set j (some v2)) h) : gTup K 2 (gCons (gName i) (gCons (gName j) gNil)) v σ h Q := by
  obtain ⟨a, xs, rfl, h1, h2⟩ := x.tupleI
  cases h2 with
  | cons q1 h2 =>
    cases h2 with
    | cons q2 h2 =>
      cases h2
      exact ⟨a, _, rfl, ex_t e h1, rfl, _, _, rfl, _, _, rfl, rfl, k _ _ q1 q2⟩
theorem g_three {i j l : Nat} (x : Dt K b v (.tuple [d1, d2, d3])) (e : Ex b h) (k : ∀ v1 v2 v3, Dt K b v1 d1 → Dt K b v2 d2 → Dt K b v3 d3 → Q (((σ.set i (some v1)).set j (some v2)).set l (some v3)) h) :
    gTup K 3 (gCons (gName i) (gCons (gName j) (gCons (gName l) gNil))) v σ h Q := by
  obtain ⟨a, xs, rfl, h1, h2⟩ := x.tupleI
  cases h2 with
  | cons q1 h2 =>
    cases h2 with
    | cons q2 h2 =>
      cases h2 with
      | cons q3 h2 =>
        cases h2
        exact ⟨a, _, rfl, ex_t e h1, rfl, _, _, rfl, _, _, rfl, _, _, rfl, rfl, k _ _ _ q1 q2 q3⟩
/-- [te for g in tl if t] -/
theorem en_lcG (x : ED K tl σ b (.list ds)) (hz : ds.length ≤ 40000) (f : Nat → Bool) (r : Nat → PyData)
    (hs : ∀ i d x b2 h2, Ex b b2 → Ex b2 h2 → ds[i]? = some d → Dt K b2 x d → ∀ Q : L2.St → Hp → Prop, (∀ σ2, wipe σ2 vs = wipe σ vs → EvT t σ2 b2 (f i) → (f i = true → ED K te σ2 b2 (r i)) → Q σ2 h2) → g x (wipe σ vs) h2 Q) :
    EN K (tLc (iList K tl) g t te vs) σ b (givenD ds.length f r) := fun h e _ q => x h e _ fun v b1 h1 g1 hv => by
  obtain ⟨a, xs, rfl, k1, k2⟩ := hv.listI
  refine ⟨a, rfl, ⟨xs, sq_of (g1.gi _ _ k1)⟩, fun Dl hD => ?_⟩
  rw [← k2.length] at hz q
  refine lc_data (walk_list (xs := xs)) f r g1.gi hD hz (fun h' e' => sq_of (e' _ _ (g1.gi _ _ k1))) (fun i y b2 h2 h3 hi e2 g2 hy => ?_) (fun b2 h2 us g2 nb hu hA => q Dl us b2 h2 (gone g1 hD) nb (g1.trans g2) hu hA)
  obtain ⟨rfl, hy⟩ := hy
  obtain ⟨dd, hdd, hx⟩ := k2.getV hy
  exact ⟨b2, Gr.refl g2.gi, fun Q k => hs i dd y b2 _ (g1.gb.trans g2.gb) g2.gi hdd (hx.up g2.gb) Q k⟩
theorem en_lcL {j : Nat} (x : ED K tl σ b (.list ds)) (hz : ds.length ≤ 40000) (f : Nat → Bool) (r : Nat → PyData) (hw : ∀ x, wipe ((wipe σ vs).set j (some x)) vs = wipe σ vs)
    (hs : ∀ i d x b2, Ex b b2 → ds[i]? = some d → Dt K b2 x d → EvT t ((wipe σ vs).set j (some x)) b2 (f i) ∧ (f i = true → ED K te ((wipe σ vs).set j (some x)) b2 (r i))) :
    EN K (tLc (iList K tl) (gName j) t te vs) σ b (givenD ds.length f r) :=
  en_lcG x hz f r fun i d x b2 h2 e _ hd hx Q k => k _ (hw x) (hs i d x b2 e hd hx).1 (hs i d x b2 e hd hx).2
/-- [te for j in range(n) if t] -/
theorem en_lcR {ts : TA} {j : Nat} {n : Int} (x : EvA ts σ b [.int n]) (hn : 0 ≤ n ∧ n ≤ 40000) (f : Nat → Bool) (r : Nat → PyData) (hw : ∀ x, wipe ((wipe σ vs).set j (some x)) vs = wipe σ vs)
    (hs : ∀ (i : Nat) b2, Ex b b2 → (i : Int) < n → EvT t ((wipe σ vs).set j (some (.int (i : Int)))) b2 (f i) ∧ (f i = true → ED K te ((wipe σ vs).set j (some (.int (i : Int)))) b2 (r i))) :
    EN K (tLc (iRng1 ts) (gName j) t te vs) σ b (givenD n.toNat f r) := fun h e _ q => x h e _ fun h1 e1 => by
  have g1 : Gr b h b h1 := Gr.stay e e1
  refine ⟨n, rfl, by omega, by omega, fun Dl hD => ?_⟩
  refine lc_data (walk_range (lo := 0) (n := n.toNat)) f r g1.gi hD (by omega) (fun _ _ => trivial) (fun i y b2 h2 h3 hi e2 g2 hy => ?_) (fun b2 h2 us g2 nb hu hA => q Dl us b2 h2 (gone g1 hD) nb (g1.trans g2) hu hA)
  obtain ⟨rfl, hy⟩ := hy
  have e0 : (0 : Int) + (i : Int) = (i : Int) := Int.zero_add _
  have hy' : y = V.int (i : Int) := by
    rw [hy]
    show V.int ((0 : Int) + (i : Int)) = V.int (i : Int)
    rw [e0]
  subst hy'
  refine ⟨b2, Gr.refl g2.gi, fun Q k => ?_⟩
  have z := hs i b2 g2.gb (by omega)
  exact k _ (hw _) z.1 z.2
/-- [te for j in range(n)], of what comes only a relation is known -/
theorem en_lcRX {ts : TA} {j : Nat} {n : Int} (x : EvA ts σ b [.int n]) (hn : 0 ≤ n ∧ n ≤ 40000) (R : Nat → PyData → Prop) (hw : ∀ x, wipe ((wipe σ vs).set j (some x)) vs = wipe σ vs)
    (hs : ∀ (i : Nat) b2, Ex b b2 → (i : Int) < n → EX K te ((wipe σ vs).set j (some (.int (i : Int)))) b2 (R i)) :
    EX K (tLc (iRng1 ts) (gName j) tYes te vs) σ b (fun d => ∃ acc, d = .list acc ∧ acc.length = n.toNat ∧ ∀ i e, acc[i]? = some e → R i e) := fun h e _ q => x h e _ fun h1 e1 => by
  have g1 : Gr b h b h1 := Gr.stay e e1
  refine ⟨n, rfl, by omega, by omega, fun Dl hD => ?_⟩
  refine lc_it (walk_range (lo := 0) (n := n.toNat)) (fun i h => ∃ b2 us acc, Gr b h1 b2 h ∧ b2 Dl = none ∧ h Dl = some (.lst us) ∧ DtA K b2 us acc ∧ acc.length = i ∧ ∀ k e, acc[k]? = some e → R k e) ?_ (fun _ _ _ _ => trivial) ?_ ?_
  · exact ⟨b, [], [], Gr.hid g1.gi hD, none_of g1.gi hD, upd_same, DtA.nil, rfl, fun k e z => by simp at z⟩
  · rintro i y h2 h3 hi ⟨b2, us, acc, g2, nb, hu, hA, hl, hR⟩ hy
    obtain ⟨rfl, hy⟩ := hy
    have e0 : (0 : Int) + (i : Int) = (i : Int) := Int.zero_add _
    have hy' : y = V.int (i : Int) := by
      rw [hy]
      show V.int ((0 : Int) + (i : Int)) = V.int (i : Int)
      rw [e0]
    subst hy'
    refine ⟨hw _, ?_⟩
    show te _ h3 _
    refine hs i b2 g2.gb (by omega) h3 g2.gi _ fun y b5 h5 d g5 hd hy5 => ⟨us, g5.gh _ _ hu, sz_lt (by rw [hA.length]; omega), ?_⟩
    have nb5 : b5 Dl = none := g5.gf Dl nb (by rw [hu]; intro z; cases z)
    refine ⟨b5, us ++ [y], acc ++ [d], (g2.trans g5).mut hD nb5, nb5, upd_same, (hA.up g5.gb).append (DtA.one hy5), by rw [List.length_append, hl]; rfl, fun k e hk => ?_⟩
    rcases Nat.lt_or_ge k acc.length with z | z
    · rw [List.getElem?_append_left z] at hk
      exact hR k e hk
    · rw [List.getElem?_append_right z] at hk
      have : k - acc.length = 0 := by
        rcases Nat.eq_zero_or_pos (k - acc.length) with w | w
        · exact w
        · rw [List.getElem?_eq_none (by rw [List.length_singleton]; omega)] at hk
          cases hk
      rw [this] at hk
      cases hk
      have : k = i := by omega
      rw [this]
      exact hd
  · rintro h2 ⟨b2, us, acc, g2, nb, hu, hA, hl, hR⟩
    exact q (.ref Dl) (upd b2 Dl (.lst us)) h2 (.list acc) ((g1.trans g2).tell (gone g1 hD) nb hu) ⟨acc, rfl, hl, hR⟩ (Dt.list upd_same (hA.up (Ex.new nb)))
/-- for over a list of data -/
theorem r_forL {D : Ends} {tu : TS} (x : ED K tl σ b (.list ds)) (e : Ex b h0)
    (k : ∀ a xs b1 h1, Gr b h0 b1 h1 → b1 a = some (.lst xs) → DtA K b1 xs ds → ∃ Pv : Nat → L2.St → Hp → Prop, Pv 0 σ h1 ∧ (∀ i σ' h', Pv i σ' h' → Ex b1 h') ∧
      (∀ i d x σ' h', ds[i]? = some d → Dt K b1 x d → Pv i σ' h' → g x σ' h' fun σ2 h2 => tu { D with nx := Pv (i + 1), ct := Pv (i + 1), bk := D.nx } σ2 h2) ∧ ∀ σ' h', Pv ds.length σ' h' → D.nx σ' h') :
    tFor (iList K tl) g tu D σ h0 := x h0 e _ fun v b1 h1 g1 hv => by
  obtain ⟨a, xs, rfl, k1, k2⟩ := hv.listI
  obtain ⟨Pv, p0, pe, ps, pd⟩ := k a xs b1 h1 g1 k1 k2
  refine ⟨a, rfl, ⟨xs, sq_of (g1.gi _ _ k1)⟩, for_list Pv p0 (fun i σ' h' _ p => sq_of (pe i σ' h' p _ _ k1)) (fun i y σ' h' hy p => ?_) (fun σ' h' p => pd σ' h' (by rw [← k2.length]; exact p))⟩
  obtain ⟨dd, hdd, hx⟩ := k2.getV hy
  exact ps i dd y σ' h' hdd hx p
/-! statements: what follows is told at the new pair of heaps -/
variable {D : Ends} {tz tu tw : TS}
theorem r_set {i : Nat} (x : ED K te σ b d) (e : Ex b h) (k : ∀ v b' h', Gr b h b' h' → Dt K b' v d → tz D (σ.set i (some v)) h') : tSeq (tAsg te (gName i)) tz D σ h := x h e _ fun v b' h' g hv => k v b' h' g hv
theorem r_set1 {i : Nat} (x : ED K te σ b d) (e : Ex b h) (k : ∀ v b' h', Gr b h b' h' → Dt K b' v d → D.nx (σ.set i (some v)) h') : tAsg te (gName i) D σ h := x h e _ fun v b' h' g hv => k v b' h' g hv
theorem r_asg (x : ED K te σ b d) (e : Ex b h) (k : ∀ v b' h', Gr b h b' h' → Dt K b' v d → g v σ h' (tz D)) : tSeq (tAsg te g) tz D σ h := x h e _ fun v b' h' g hv => k v b' h' g hv
theorem r_setX {i : Nat} {P : PyData → Prop} (x : EX K te σ b P) (e : Ex b h) (k : ∀ v b' h' d, Gr b h b' h' → P d → Dt K b' v d → tz D (σ.set i (some v)) h') : tSeq (tAsg te (gName i)) tz D σ h := x h e _ fun v b' h' d g hp hv => k v b' h' d g hp hv
theorem r_setN {i : Nat} (x : EN K te σ b ds) (e : Ex b h) (k : ∀ p us b' h', h p = none → b' p = none → Gr b h b' h' → h' p = some (.lst us) → DtA K b' us ds → tz D (σ.set i (some (.ref p))) h') : tSeq (tAsg te (gName i)) tz D σ h := x h e _ fun p us b' h' np nb g hp hu => k p us b' h' np nb g hp hu
theorem r_sc {i : Nat} (x : Ev te σ b v) (e : Ex b h) (k : ∀ h', Gr b h b h' → tz D (σ.set i (some v)) h') : tSeq (tAsg te (gName i)) tz D σ h := x h e _ fun h' e' => k h' (Gr.stay e e')
theorem r_ret (x : ED K te σ b d) (e : Ex b h) (k : ∀ v b' h', Gr b h b' h' → Dt K b' v d → D.rt v h') : tRet te D σ h := x h e _ fun v b' h' g hv => k v b' h' g hv
theorem r_retX {P : PyData → Prop} (x : EX K te σ b P) (e : Ex b h) (k : ∀ v b' h' d, Gr b h b' h' → P d → Dt K b' v d → D.rt v h') : tRet te D σ h := x h e _ fun v b' h' d g hp hv => k v b' h' d g hp hv
theorem r_if {c : Bool} (x : EvT t σ b c) (e : Ex b h) (h1 : c = true → ∀ h', Gr b h b h' → tu { D with nx := tz D } σ h') (h2 : c = false → ∀ h', Gr b h b h' → tw { D with nx := tz D } σ h') : tSeq (tIfS t tu tw) tz D σ h :=
  q_if (x.mono e) (fun hc h' e' => h1 hc h' (Gr.stay e e')) (fun hc h' e' => h2 hc h' (Gr.stay e e'))
theorem r_if1 {c : Bool} (x : EvT t σ b c) (e : Ex b h) (h1 : c = true → ∀ h', Gr b h b h' → tu D σ h') (h2 : c = false → ∀ h', Gr b h b h' → tw D σ h') : tIfS t tu tw D σ h :=
  s_if (x.mono e) (fun hc h' e' => h1 hc h' (Gr.stay e e')) (fun hc h' e' => h2 hc h' (Gr.stay e e'))
end

/-! ### repr of data -/
section
variable {X : Cx}
def rRepr (K : PySem.W.Frag) : List V → Hp → VK → Prop := fun xs H Q => ∃ p d, xs = [.ref p] ∧ Dp K H (.ref p) d ∧ d.showable = true ∧ d.hasDict = false ∧ d.depth ≤ 60 ∧ d.shown.length ≤ sizeLine ∧ Q (.str d.shown) H
theorem cr_repr (hg : X.A.guards = some []) (hu : X.A.units + 64 < cLine) : CallR X (.builtin "repr") (rRepr X.K) := by
  intro pins s σ H xs us Q I r x
  obtain ⟨p, d, rfl, hd, h1, h2, h3, h4, q⟩ := x
  obtain ⟨u, rfl, ru⟩ := vals1 r
  obtain rfl : u = Value.ref p := ru
  obtain ⟨as, hr⟩ := Dp.reads I d _ _ hd rfl
  exact PySem.repr_of_reads' hr h1 (PySem.PyData.noDict_hsm h2) hg (by omega) (fun _ _ e => e) (fun h' u tk hk => ⟨.str _, H, I.kept (t' := tk) hk, ⟨_, rfl⟩, q⟩) h4
end
theorem ev_repr {K : PySem.W.Frag} {σ : L2.St} {b : Hp} {te : TE} {d : PyData} (x : ED K te σ b d) (hl : ∀ v H, Dt K H v d → ∃ p, v = .ref p) (h1 : d.showable = true) (h2 : d.hasDict = false) (h3 : d.depth ≤ 60) (h4 : d.shown.length ≤ sizeLine) :
    Ev (tCB (rRepr K) (tCons te tNil)) σ b (.str d.shown) := fun h e _ q => x h e _ fun v b2 h2' g2 hv => by
  obtain ⟨p, rfl⟩ := hl v _ hv
  exact ⟨p, d, rfl, Dt.dp _ _ (hv.up g2.gi), h1, h2, h3, h4, q h2' g2.gh⟩

/-! ### the rules with the written part named -/
section
variable {X : Cx} {K : PySem.W.Frag} {tg e e2 : Expr} {te tl ta : TE} {ts : TA} {pos p tpos : Pos}
theorem ix_listK (h : X.K = K) : IxR X (rIxL K) := h ▸ ix_list
theorem ix_tupK (h : X.K = K) : IxR X (rIxT K) := h ▸ ix_tup
theorem sl_listK (h : X.K = K) : SlR X (rSlL K) := h ▸ sl_list
theorem len_K (h : X.K = K) : CallR X (.builtin "len") (rLenS K) := h ▸ call_len_seq
theorem list_K (h : X.K = K) : CallR X (.type "list") (rListS K) := h ▸ call_list_of
theorem sum_K (hc : X.calm = true) (h : X.K = K) : CallR X (.builtin "sum") (rSum K) := h ▸ cr_sum hc
theorem all_K (hc : X.calm = true) (h : X.K = K) : CallR X (.builtin "all") (rAll K) := h ▸ cr_all hc
theorem any_K (hc : X.calm = true) (h : X.K = K) : CallR X (.builtin "any") (rAny K) := h ▸ cr_any hc
theorem min_K (hc : X.calm = true) (h : X.K = K) : CallR X (.builtin "min") (rMin K) := h ▸ cr_min hc
theorem max_K (hc : X.calm = true) (h : X.K = K) : CallR X (.builtin "max") (rMax K) := h ▸ cr_max hc
theorem isi_K (h : X.K = K) : CallR X (.builtin "isinstance") (rIsi K) := h ▸ call_isi
theorem isiT_K (h : X.K = K) : CallR X (.builtin "isinstance") (rIsiT K) := h ▸ call_isiT
theorem repr_K (hg : X.A.guards = some []) (hu : X.A.units + 64 < cLine) (h : X.K = K) : CallR X (.builtin "repr") (rRepr K) := h ▸ cr_repr hg hu
theorem eqD_K (hu : X.A.units + 64 < cLine) (h : X.K = K) : OpR X (compareOp .Eq) (rEqD K) := h ▸ op_eqD hu
theorem neD_K (hu : X.A.units + 64 < cLine) (h : X.K = K) : OpR X (compareOp .NotEq) (rNeD K) := h ▸ op_neD hu
theorem inS_K (h : X.K = K) : OpR X (compareOp .In) (rIn K false) := h ▸ op_in_seq
theorem niS_K (h : X.K = K) : OpR X (compareOp .NotIn) (rIn K true) := h ▸ op_notIn_seq
theorem pi_listK (h : X.K = K) (hl : PE X e tl) : PI X tg e (iList K tl) := h ▸ pi_list hl
theorem pg_tupK {es : List Expr} {k : Nat} {t : TGs} {n : Nat} (h : X.K = K) (hc : X.calm = true) (ht : PGs X es t) (hn : (assignEach es X.env).length = n := by rfl) (hst : (assignEach es X.env).findIdx? (·.1) = none := by rfl) :
    PG X (.Tuple es k pos) (gTup K n t) := h ▸ pg_tup hc ht hn hst
theorem pi_zipK {elts : List Expr} {kk : Nat} (h : X.K = K) (hg : Gl X "zip") (hm : X.mg "zip" = none) (ha : PA X [e, e2] ts) (hs : starEach [e, e2] X.env = (false, eval e X.env) :: starEach [e2] X.env := by rfl) (hpl : (backTo pos (starEach [e2] X.env)).any (·.1) = false := by rfl) :
    PI X (.Tuple elts kk tpos) (.Call (.Name "zip" p) [e, e2] [] pos) (iZip K ts) := h ▸ pi_zip hg hm ha hs hpl
theorem pi_enumK {elts : List Expr} {kk : Nat} (h : X.K = K) (hg : Gl X "enumerate") (hm : X.mg "enumerate" = none) (ha : PA X [e] ts) (hs : starEach [e] X.env = [(false, eval e X.env)] := by rfl) :
    PI X (.Tuple elts kk tpos) (.Call (.Name "enumerate" p) [e] [] pos) (iEnum K ts) := h ▸ pi_enum hg hm ha hs
theorem pe_appK {o : Expr} {to : TE} {apos cpos : Pos} (h : X.K = K) (ho : PE X o to) (ha : PA X [e] ts) (hbase : attributeBase o "append" X.env (eval o X.env) = eval o X.env := by rfl)
    (hfew : ((backTo cpos (starEach [e] X.env)).all (fun x => !x.1) && (backToKw cpos (keywordEach [] X.env)).all (fun x => x.1.isSome) && decide ([e].length + ([] : List Keyword).length + (if ([] : List Keyword).isEmpty then 0 else 1) < 30)) = true := by rfl)
    (hline : (apos.endLine == cpos.line) = true := by rfl) (hs : starEach [e] X.env = (false, eval e X.env) :: starEach [] X.env := by rfl) (hp : (backTo cpos (starEach [] X.env)).any (·.1) = false := by rfl) :
    PE X (.Call (.Attribute o "append" apos) [e] [] cpos) (tBM K "list" rAppend to ts) :=
  h ▸ pe_bm PySem.F.plainAttrs_list PySem.F.slot_list_append PySem.F.type_list_append mt_append ho ha hbase hfew hline hs hp
end
end Md


set_option Elab.async false
set_option linter.all false
set_option maxRecDepth 100000
set_option maxHeartbeats 2000000
namespace Md
open PySem L2 Evl
/-! ### the numbers -/
theorem mod_twice {x y : Nat} (h : y ≤ x) (h0 : 0 < y) : x % y * 2 ≤ x := by
  have h1 := Nat.mod_lt x h0
  have h2 := Nat.div_add_mod x y
  have h3 : 1 ≤ x / y := (Nat.le_div_iff_mul_le h0).mpr (by omega)
  have h4 : y * 1 ≤ y * (x / y) := Nat.mul_le_mul_left y h3
  omega
/-- behind i turns of Euclid's way: x and y -/
def Euc (g : Nat) (i x y : Nat) : Prop := Nat.gcd x y = g ∧ (if i = 0 then y < 2 ^ 1900 else y < x ∧ x * y * 2 ^ (i - 1) < 2 ^ 3800)
theorem euc_turn {g i x y : Nat} (h : Euc g i x y) (h0 : 0 < y) : Euc g (i + 1) y (x % y) := by
  obtain ⟨h1, h2⟩ := h
  refine ⟨by rw [← h1, Nat.gcd_comm x y, Nat.gcd_rec y x, Nat.gcd_comm], ?_⟩
  have hm := Nat.mod_lt x h0
  rw [if_neg (by omega)]
  refine ⟨hm, ?_⟩
  by_cases hi : i = 0
  · rw [if_pos hi] at h2
    subst hi
    show y * (x % y) * 2 ^ 0 < 2 ^ 3800
    rw [Nat.pow_zero, Nat.mul_one, show (3800 : Nat) = 1900 + 1900 from rfl, Nat.pow_add]
    exact Nat.mul_lt_mul'' h2 (Nat.lt_trans hm h2)
  · rw [if_neg hi] at h2
    obtain ⟨h3, h4⟩ := h2
    obtain ⟨j, rfl⟩ : ∃ j, i = j + 1 := ⟨i - 1, by omega⟩
    show y * (x % y) * 2 ^ (j + 1) < 2 ^ 3800
    refine Nat.lt_of_le_of_lt ?_ h4
    show y * (x % y) * 2 ^ (j + 1) ≤ x * y * 2 ^ j
    have h5 : x % y * 2 ≤ x := mod_twice (Nat.le_of_lt h3) h0
    calc y * (x % y) * 2 ^ (j + 1) = y * (x % y * 2) * 2 ^ j := by rw [Nat.pow_succ]; simp [Nat.mul_comm, Nat.mul_left_comm, Nat.mul_assoc]
      _ ≤ y * x * 2 ^ j := Nat.mul_le_mul_right _ (Nat.mul_le_mul_left _ h5)
      _ = x * y * 2 ^ j := by rw [Nat.mul_comm y x]
theorem euc_end {g x y : Nat} (h : Euc g 4000 x y) : y = 0 := by
  obtain ⟨_, h2⟩ := h
  rw [if_neg (by decide)] at h2
  obtain ⟨h3, h4⟩ := h2
  cases y with
  | zero => rfl
  | succ y =>
    exfalso
    have h5 : 1 ≤ x * (y + 1) := Nat.mul_pos (by omega) (by omega)
    have h6 : 1 * 2 ^ (4000 - 1) ≤ x * (y + 1) * 2 ^ (4000 - 1) := Nat.mul_le_mul_right _ h5
    have h7 : (2 : Nat) ^ 3800 ≤ 2 ^ (4000 - 1) := Nat.pow_le_pow_right (by decide) (by decide)
    rw [Nat.one_mul] at h6
    exact absurd (Nat.lt_of_lt_of_le h4 (Nat.le_trans h7 h6)) (Nat.lt_irrefl _)
theorem euc_zero {g i x : Nat} (h : Euc g i x 0) : x = g := by
  have := h.1
  rwa [Nat.gcd_zero_right] at this
/-- a number in lowest terms -/
def num (n d : Int) : Int × Int := ((if d < 0 then -n else n) / ((Nat.gcd n.natAbs d.natAbs : Nat) : Int), (if d < 0 then -d else d) / ((Nat.gcd n.natAbs d.natAbs : Nat) : Int))
def nD (p : Int × Int) : PyData := .tuple [.int p.1, .int p.2]
section
variable {K : PySem.W.Frag} {σ : L2.St} {b h : Hp} {te : TE} {i : Int}
def rAbs : List V → Hp → VK → Prop := fun xs H Q => ∃ i, xs = [V.int i] ∧ Q (V.int (if i < 0 then -i else i)) H
theorem cr_abs {X : Cx} : CallR X (.builtin "abs") rAbs := call_abs
theorem ev_abs (x : Ev te σ b (.int i)) : Ev (tCB rAbs (tCons te tNil)) σ b (.int (i.natAbs : Int)) := fun h e _ q => x h e _ fun h2 e2 => ⟨i, rfl, by
  have e3 : (if i < 0 then -i else i) = (i.natAbs : Int) := by split <;> omega
  rw [e3]
  exact q h2 e2⟩
end
/-! ### what stands behind the top -/
structure Bt (mg : Str → Option Value) : Prop where
  len : mg "len" = none
  int : mg "int" = none
  range : mg "range" = none
  abs : mg "abs" = none
  repr : mg "repr" = none
  list : mg "list" = none
  isinstance : mg "isinstance" = none
  sum : mg "sum" = none
  zip : mg "zip" = none
  bool : mg "bool" = none
  enumerate : mg "enumerate" = none
  tuple : mg "tuple" = none
  str : mg "str" = none
  all : mg "all" = none
  any : mg "any" = none
  min : mg "min" = none
  max : mg "max" = none
/-- a def stands behind its name -/
def IsDef (K : PySem.W.Frag) (mg : Str → Option Value) (x : Str) (st : Stmt) (ps : List Str) : Prop := ∃ f fd, Fun K x x st f fd ∧ mg x = some (.ref f) ∧ Binds K fd ps []
/-- it keeps its promise -/
def Has (P : Program) (w : World) (K : PySem.W.Frag) (mg : Str → Option Value) (base : Heap) (k : Nat) (x : Str) (ps : List Str) (sp : Sp) : Prop :=
  ∃ f fd, FnOk P w K mg base CX0 k f fd ps sp ∧ mg x = some (.ref f) ∧ PySem.W.keepIn K (.ref f) = true ∧ Binds K fd ps []
/-- the draws: n numbers from 0 to 999 -/
def spDraws (K : PySem.W.Frag) : Sp := fun vs h Q _ => ∃ (b : Hp) (a : Addr) (ns : List Int) (n : Nat), vs = [.ref a, .int (n : Int)] ∧ Ex b h ∧ SqL K b a (ns.map V.int) ∧ ns.length ≤ 63 ∧ n ≤ 1000 ∧
  ∀ v b' h' (ds : List Int), Gr b h b' h' → ds.length = n → (∀ d ∈ ds, 0 ≤ d ∧ d < 1000) → Dt K b' v (.list (ds.map PyData.int)) → Q v h'
def spGcd (K : PySem.W.Frag) : Sp := SpF K 2 (fun ds => ∃ a b : Int, ds = [.int a, .int b] ∧ b.natAbs < 2 ^ 1900) (fun ds d => ∀ a b : Int, ds = [.int a, .int b] → d = .int ((Nat.gcd a.natAbs b.natAbs : Nat) : Int))
/-- n / d in lowest terms: d is not 0 -/
def spNumber (K : PySem.W.Frag) : Sp := SpF K 2 (fun ds => ∃ n d : Int, ds = [.int n, .int d] ∧ d ≠ 0 ∧ n.natAbs < 2 ^ 1900 ∧ d.natAbs < 2 ^ 1900) (fun ds r => ∀ n d : Int, ds = [.int n, .int d] → r = nD (num n d))
section
variable {K : PySem.W.Frag} {b : Hp} {vs : List V}
theorem DtA.i1 {x : Int} (h : DtA K b vs [.int x]) : vs = [.int x] := by
  cases h with
  | cons h1 h2 =>
    cases h2
    rw [h1.intI]
theorem DtA.i2 {x y : Int} (h : DtA K b vs [.int x, .int y]) : vs = [.int x, .int y] := by
  cases h with
  | cons h1 h2 =>
    rw [h1.intI, h2.i1]
end

/-! ### lists of ints -/
section
variable {K : PySem.W.Frag} {σ : L2.St} {b h : Hp} {te ta tb : TE}
theorem DtA.intsI : ∀ {ns : List Int} {vs : List V}, DtA K b vs (ns.map PyData.int) → vs = ns.map V.int
  | [], _, h => by cases h; rfl
  | n :: ns, _, h => by
    cases h with
    | cons h1 h2 => rw [h1.intI, h2.intsI]; rfl
theorem at_ints {ns : List Int} {j : Nat} {z : Int} (e : z = (j : Int)) (h : j < ns.length) : L2.atI (ns.map PyData.int) z = some (.int (ns.getD j 0)) := by
  subst e
  refine atI_nat ?_
  rw [List.getElem?_map, List.getD_eq_getElem?_getD, List.getElem?_eq_getElem h]
  rfl
theorem at_pick (ns : List Int) {z : Int} (h0 : 0 ≤ z) (h : z < (ns.length : Int)) : ∃ x ∈ ns, L2.atI (ns.map PyData.int) z = some (.int x) := by
  have hj : z.toNat < ns.length := by omega
  refine ⟨ns.getD z.toNat 0, ?_, at_ints (by omega) hj⟩
  rw [List.getD_eq_getElem?_getD, List.getElem?_eq_getElem hj]
  exact List.getElem_mem hj
theorem ev_ixI {ns : List Int} {z : Int} (j : Nat) (x : ED K ta σ b (.list (ns.map PyData.int))) (y : Ev tb σ b (.int z)) (e : z = (j : Int)) (hj : j < ns.length) : Ev (tOp (rIxL K) ta tb) σ b (.int (ns.getD j 0)) := ev_int (ed_ixL x y (at_ints e hj))
theorem ev_sum {ns : List Int} (x : ED K te σ b (.list (ns.map PyData.int))) : Ev (tCB (rSum K) (tCons te tNil)) σ b (.int ns.sum) := fun h e _ q => x h e _ fun v b2 h2 g2 hv => by
  obtain ⟨a, xs, rfl, k1, k2⟩ := hv.listI
  rw [k2.intsI] at k1
  exact ⟨a, ns, rfl, sq_of (g2.gi _ _ k1), q h2 g2.gh⟩
theorem ds_get {ns : List Int} {j : Nat} (h : ∀ d ∈ ns, 0 ≤ d ∧ d < 1000) : 0 ≤ ns.getD j 0 ∧ ns.getD j 0 < 1000 := by
  rw [List.getD_eq_getElem?_getD]
  cases e : ns[j]? with
  | none => decide
  | some x => exact h x (List.mem_of_getElem? e)
end
theorem map_range_ints (n : Nat) (r : Nat → Int) : (List.range n).map (fun i => PyData.int (r i)) = ((List.range n).map r).map PyData.int := by
  rw [List.map_map]
  rfl

/-- a part of a list of draws -/
theorem sIx_of {n : Nat} (d : Nat) {j : Nat} (h : j ≤ n) : HT.sIx n d (some (j : Int)) = j := by
  rw [HT.sIx_nat, Nat.min_eq_left h]
theorem cut_ints {ds : List Int} {lo n : Nat} (hl : lo + n ≤ ds.length) (hd : ∀ d ∈ ds, 0 ≤ d ∧ d < 1000) : ∃ es : List Int, cutD (ds.map PyData.int) (some (lo : Int)) (some ((lo + n : Nat) : Int)) = es.map PyData.int ∧ es.length = n ∧ ∀ d ∈ es, 0 ≤ d ∧ d < 1000 := by
  refine ⟨(ds.drop lo).take n, ?_, by rw [List.length_take, List.length_drop]; omega, fun d h => hd d (List.mem_of_mem_drop (List.mem_of_mem_take h))⟩
  unfold cutD
  rw [List.length_map, sIx_of 0 (show lo ≤ ds.length by omega), sIx_of _ hl, ← List.map_drop, ← List.map_take, show lo + n - lo = n by omega]
/-! ### games -/
inductive Pl where
  | draw (g : Int × Int) (bs : List ((Int × Int) × Int))
  | side (g : Int × Int) (o : Bool) (ts : List Int)
def brD (p : (Int × Int) × Int) : PyData := .tuple [nD p.1, .int p.2]
def Pl.gain : Pl → Int × Int
  | .draw g _ => g
  | .side g _ _ => g
def Pl.kind : Pl → Str
  | .draw _ _ => "draw"
  | .side _ o _ => if o then "ours" else "theirs"
def Pl.bd : Pl → List PyData
  | .draw _ bs => bs.map brD
  | .side _ _ ts => ts.map PyData.int
def Pl.D (p : Pl) : PyData := .tuple [nD p.gain, .str p.kind, .list p.bd]
def gameD (G : List Pl) : PyData := .list (G.map Pl.D)
/-- a number with small parts, in lowest terms -/
def SmallN (p : Int × Int) : Prop := 1 ≤ p.2 ∧ p.2 < 1000 ∧ p.1.natAbs < 1000 ∧ Nat.gcd p.1.natAbs p.2.natAbs = 1
def WfP (many : Int) : Pl → Prop
  | .draw g bs => SmallN g ∧ 1 ≤ bs.length ∧ bs.length ≤ 6 ∧ (∀ p ∈ bs, 0 ≤ p.2 ∧ p.2 < many) ∧ ∃ ws : List Int, ws.length = bs.length ∧ (∀ w ∈ ws, 1 ≤ w ∧ w ≤ 5) ∧ bs.map (·.1) = ws.map (fun w => num w ws.sum)
  | .side g _ ts => SmallN g ∧ 1 ≤ ts.length ∧ ts.length ≤ 6 ∧ ∀ t ∈ ts, 0 ≤ t ∧ t < many
def WfG (G : List Pl) : Prop := 1 ≤ G.length ∧ G.length ≤ 12 ∧ ∀ p ∈ G, WfP (G.length : Int) p
theorem num_small {n d : Int} (hn : n.natAbs < 1000) (h0 : d ≠ 0) (hd : d.natAbs < 1000) : SmallN (num n d) := by
  unfold num SmallN
  simp only
  generalize hg : Nat.gcd n.natAbs d.natAbs = g
  have g0 : 0 < g := by rw [← hg]; exact Nat.gcd_pos_of_pos_right _ (by omega)
  generalize hN : (if d < 0 then -n else n) = N
  generalize hDd : (if d < 0 then -d else d) = Dd
  have eN : N.natAbs = n.natAbs := by rw [← hN]; split <;> omega
  have eD : Dd = (d.natAbs : Int) := by rw [← hDd]; split <;> omega
  obtain ⟨a, ha⟩ : g ∣ n.natAbs := by rw [← hg]; exact Nat.gcd_dvd_left _ _
  obtain ⟨c, hc⟩ : g ∣ d.natAbs := by rw [← hg]; exact Nat.gcd_dvd_right _ _
  have hab : Nat.gcd a c = 1 := by
    have := Nat.gcd_mul_left g a c
    rw [← ha, ← hc, hg] at this
    exact Nat.eq_of_mul_eq_mul_left g0 (by omega)
  have hc0 : 0 < c := by
    rcases Nat.eq_zero_or_pos c with z | z
    · subst z; omega
    · exact z
  have gi : (0 : Int) < (g : Int) := by omega
  have e1 : Dd / (g : Int) = (c : Int) := by
    rw [eD, hc]
    rw [Int.natCast_mul]
    exact Int.mul_ediv_cancel_left _ (by omega)
  have e2 : (N / (g : Int)).natAbs = a := by
    rcases Int.natAbs_eq N with z | z
    · rw [z, eN, ha, Int.natCast_mul, Int.mul_ediv_cancel_left _ (by omega)]
      rfl
    · rw [z, eN, ha, Int.natCast_mul, ← Int.mul_neg, Int.mul_ediv_cancel_left _ (by omega), Int.natAbs_neg]
      rfl
  have hcl : c ≤ g * c := Nat.le_mul_of_pos_left c g0
  have hal : a ≤ g * a := Nat.le_mul_of_pos_left a g0
  rw [e1, e2]
  refine ⟨by omega, by omega, by omega, ?_⟩
  rw [Int.natAbs_natCast]
  exact hab
theorem map_getD {α : Type} (ws : List Int) (f : Int → α) : (List.range ws.length).map (fun i => f (ws.getD i 0)) = ws.map f := by
  refine List.ext_getElem? fun i => ?_
  rw [List.getElem?_map, List.getElem?_map]
  by_cases h : i < ws.length
  · rw [List.getElem?_range h, List.getElem?_eq_getElem h]
    show some (f (ws.getD i 0)) = some (f ws[i])
    rw [List.getD_eq_getElem?_getD, List.getElem?_eq_getElem h]
    rfl
  · rw [List.getElem?_eq_none (by rw [List.length_range]; omega), List.getElem?_eq_none (by omega)]
    rfl
theorem sum_small : ∀ {ws : List Int}, (∀ w ∈ ws, 1 ≤ w ∧ w ≤ 5) → ws.sum ≤ 5 * ws.length
  | [], _ => by simp
  | x :: ws, h => by
    have h1 := h x List.mem_cons_self
    have h2 := sum_small fun w hw => h w (List.mem_cons_of_mem _ hw)
    rw [List.sum_cons, List.length_cons]
    omega
theorem sum_pos : ∀ {ws : List Int}, (∀ w ∈ ws, 1 ≤ w ∧ w ≤ 5) → (ws.length : Int) ≤ ws.sum
  | [], _ => by simp
  | x :: ws, h => by
    have h1 := h x List.mem_cons_self
    have h2 := sum_pos fun w hw => h w (List.mem_cons_of_mem _ hw)
    rw [List.sum_cons, List.length_cons]
    omega
theorem wf_bd {many : Int} {p : Pl} (h : WfP many p) : 1 ≤ p.bd.length ∧ p.bd.length ≤ 6 := by
  cases p with
  | draw g bs =>
    obtain ⟨_, h1, h2, _⟩ := h
    have e : (Pl.draw g bs).bd.length = bs.length := List.length_map _
    omega
  | side g o ts =>
    obtain ⟨_, h1, h2, _⟩ := h
    have e : (Pl.side g o ts).bd.length = ts.length := List.length_map _
    omega
/-- a place drawn from fifteen draws -/
def spPlace (K : PySem.W.Frag) : Sp := fun vs h Q _ => ∃ (b : Hp) (ds : List Int) (many : Int), Ex b h ∧ DtA K b vs [.list (ds.map PyData.int), .int many] ∧ ds.length = 15 ∧ (∀ d ∈ ds, 0 ≤ d ∧ d < 1000) ∧ 1 ≤ many ∧
  ∀ v b' h' p, Gr b h b' h' → WfP many p → Dt K b' v p.D → Q v h'
/-- a game of at most `most` places -/
def spGame (K : PySem.W.Frag) : Sp := fun vs h Q _ => ∃ (b : Hp) (ds : List Int) (most : Int), Ex b h ∧ DtA K b vs [.list (ds.map PyData.int), .int most] ∧ 1 ≤ most ∧ most ≤ 12 ∧ 1 + 15 * most ≤ (ds.length : Int) ∧ (∀ d ∈ ds, 0 ≤ d ∧ d < 1000) ∧
  ∀ v b' h' G, Gr b h b' h' → WfG G → (G.length : Int) ≤ most → Dt K b' v (gameD G) → Q v h'
theorem all_some {α : Type} {W : α → Prop} {D : α → PyData} : ∀ {acc : List PyData}, (∀ e ∈ acc, ∃ p, W p ∧ e = D p) → ∃ G : List α, acc = G.map D ∧ ∀ p ∈ G, W p
  | [], _ => ⟨[], rfl, fun _ h => by cases h⟩
  | e :: acc, h => by
    obtain ⟨p, hp, rfl⟩ := h e List.mem_cons_self
    obtain ⟨G, rfl, hG⟩ := all_some fun x hx => h x (List.mem_cons_of_mem _ hx)
    exact ⟨p :: G, rfl, fun q hq => by
      rcases List.mem_cons.mp hq with rfl | hq
      · exact hp
      · exact hG q hq⟩
/-- a strategy of a side of a game: what it tells at each place -/
def stD (S : List (Option Nat)) : PyData := .list (S.map fun o => match o with | some j => .int (j : Int) | none => .none)
def WfS (x : Str) (G : List Pl) (S : List (Option Nat)) : Prop := S.length = G.length ∧ ∀ (i : Nat) (p : Pl), G[i]? = some p → (p.kind = x → ∃ j, S[i]? = some (some j) ∧ j < p.bd.length) ∧ (p.kind ≠ x → S[i]? = some none)
def spStrategy (K : PySem.W.Frag) : Sp := fun vs h Q _ => ∃ (b : Hp) (G : List Pl) (x : Str) (ds : List Int), Ex b h ∧ DtA K b vs [gameD G, .str x, .list (ds.map PyData.int)] ∧ WfG G ∧ G.length ≤ ds.length ∧ (∀ d ∈ ds, 0 ≤ d ∧ d < 1000) ∧
  ∀ v b' h' S, Gr b h b' h' → WfS x G S → Dt K b' v (stD S) → Q v h'
/-- the target that a place's branch j tells -/
def Pl.at (p : Pl) (j : Nat) : Int := match p with
  | .draw _ bs => (bs.getD j ((0, 1), 0)).2
  | .side _ _ ts => ts.getD j 0
/-- the strategy put in -/
def putP (x : Str) (p : Pl) (o : Option Nat) : Pl := if p.kind = x then .draw p.gain [((1, 1), p.at (o.getD 0))] else p
def putG (x : Str) : List Pl → List (Option Nat) → List Pl
  | p :: G, o :: S => putP x p o :: putG x G S
  | _, _ => []
theorem putG_len (x : Str) : ∀ (G : List Pl) (S : List (Option Nat)), S.length = G.length → (putG x G S).length = G.length
  | [], _, _ => by cases ‹List (Option Nat)› <;> rfl
  | p :: G, o :: S, h => congrArg Nat.succ (putG_len x G S (Nat.succ.inj h))
theorem putG_get (x : Str) : ∀ (G : List Pl) (S : List (Option Nat)) (i : Nat) (p : Pl) (o : Option Nat), G[i]? = some p → S[i]? = some o → (putG x G S)[i]? = some (putP x p o)
  | [], _, _, _, _, h, _ => by simp at h
  | q :: G, [], _, _, _, _, h => by simp at h
  | q :: G, r :: S, 0, p, o, h1, h2 => by
    simp only [List.getElem?_cons_zero, Option.some.injEq] at h1 h2
    subst h1 h2
    rfl
  | q :: G, r :: S, i + 1, p, o, h1, h2 => by
    simp only [List.getElem?_cons_succ] at h1 h2
    exact putG_get x G S i p o h1 h2
theorem putG_more (x : Str) (G : List Pl) (S : List (Option Nat)) (i : Nat) (p : Pl) (o : Option Nat) (h1 : G[i]? = some p) (h2 : S[i]? = some o) : putG x (G.take (i + 1)) (S.take (i + 1)) = putG x (G.take i) (S.take i) ++ [putP x p o] := by
  induction G generalizing S i with
  | nil => simp at h1
  | cons q G ih =>
    cases S with
    | nil => simp at h2
    | cons r S =>
      cases i with
      | zero =>
        simp only [List.getElem?_cons_zero, Option.some.injEq] at h1 h2
        subst h1 h2
        simp [putG]
      | succ i =>
        simp only [List.getElem?_cons_succ] at h1 h2
        simp only [List.take_succ_cons, putG, List.cons_append]
        rw [ih S i h1 h2]
def Side (x : Str) : Prop := x = "ours" ∨ x = "theirs"
def SmG (G : List Pl) : Prop := G.length ≤ 12 ∧ ∀ p ∈ G, p.bd.length ≤ 6
def spPut (K : PySem.W.Frag) : Sp := fun vs h Q _ => ∃ (b : Hp) (G : List Pl) (x : Str) (S : List (Option Nat)), Ex b h ∧ DtA K b vs [gameD G, .str x, stD S] ∧ SmG G ∧ Side x ∧ WfS x G S ∧
  ∀ v b' h', Gr b h b' h' → Dt K b' v (gameD (putG x G S)) → Q v h'
theorem kind_draw {g : Int × Int} {bs : List ((Int × Int) × Int)} {x : Str} (h : Side x) : (Pl.draw g bs).kind ≠ x := by
  rcases h with rfl | rfl
  · exact (by decide +kernel : ("draw" : Str) ≠ "ours")
  · exact (by decide +kernel : ("draw" : Str) ≠ "theirs")
theorem at_bd {p : Pl} {x : Str} {j : Nat} (h : Side x) (hk : p.kind = x) (hj : j < p.bd.length) : p.bd[j]? = some (.int (p.at j)) := by
  cases p with
  | draw g bs => exact absurd hk (kind_draw h)
  | side g o ts =>
    have hj' : j < ts.length := by
      have : (ts.map PyData.int).length = ts.length := List.length_map _
      have h2 : j < (ts.map PyData.int).length := hj
      omega
    show (ts.map PyData.int)[j]? = some (.int (ts.getD j 0))
    rw [List.getElem?_map, List.getElem?_eq_getElem hj', List.getD_eq_getElem?_getD, List.getElem?_eq_getElem hj']
    rfl
section
variable {K : PySem.W.Frag} {σ : L2.St} {b h : Hp} {te ta : TE} {d : PyData} {q : Addr} {us : List V} {D : Ends} {tz : TS}
/-- found.append(e), found a list that is not spoken of -/
theorem r_app1 (hq : h q = some (.lst us)) (ha : Ev ta σ h (.ref q)) (x : ED K te σ b d) (e : Ex b h) (nb : b q = none) (hz : us.length < 100000)
    (k : ∀ v b' h', Gr b h b' h' → b' q = none → h' q = some (.lst us) → Dt K b' v d → D.nx σ (upd h' q (.lst (us ++ [v])))) : tDrop (tBM K "list" rAppend ta (tCons te tNil)) D σ h :=
  ha h (Ex.refl h) _ fun h1 e1 => ⟨Or.inl ⟨rfl, us, sq_of (e1 _ _ hq)⟩, x h1 (e.trans e1) _ fun v b2 h2 g2 hv =>
    ⟨q, us, v, rfl, rfl, g2.gh _ _ (e1 _ _ hq), sz_lt hz, k v b2 h2 ((Gr.stay e e1).trans g2) (g2.gf q nb (by rw [e1 _ _ hq]; intro z; cases z)) (g2.gh _ _ (e1 _ _ hq)) hv⟩⟩
end
def svV : Option Nat → V
  | some j => .int (j : Int)
  | none => .non
def svD : Option Nat → PyData
  | some j => .int (j : Int)
  | none => .none
theorem stD_eq (S : List (Option Nat)) : stD S = .list (S.map svD) := by
  unfold stD svD
  rfl
theorem DtA.sv {K : PySem.W.Frag} {b : Hp} : ∀ S : List (Option Nat), DtA K b (S.map svV) (S.map svD)
  | [] => DtA.nil
  | some j :: S => DtA.cons (Dt.int _) (DtA.sv S)
  | none :: S => DtA.cons Dt.none (DtA.sv S)
theorem game_at {G : List Pl} {i : Nat} {p : Pl} (h : G[i]? = some p) : L2.atI (G.map Pl.D) (i : Int) = some p.D := atI_nat (by rw [List.getElem?_map, h] <;> rfl)
end Md


set_option Elab.async false
set_option linter.all false
set_option maxRecDepth 100000
set_option maxHeartbeats 2000000
namespace Md
open PySem L2 Evl
/-! ### data that repr and == take: how deep, how long its text -/
structure Nice (k L : Nat) (d : PyData) : Prop where
  show_ : d.showable = true
  nd : d.hasDict = false
  dep : d.depth ≤ k
  lay : d.canLay0 = true
  len : d.shown.length ≤ L
theorem Nice.mono {k L k' L' : Nat} {d : PyData} (h : Nice k L d) (hk : k ≤ k') (hl : L ≤ L') : Nice k' L' d := ⟨h.show_, h.nd, Nat.le_trans h.dep hk, h.lay, Nat.le_trans h.len hl⟩
theorem nice_none : Nice 0 4 .none := ⟨rfl, rfl, Nat.le_refl _, rfl, by decide +kernel⟩
theorem nice_int {i : Int} (h : i.natAbs < 10 ^ 18) : Nice 0 19 (.int i) := by
  refine ⟨?_, rfl, Nat.le_refl _, rfl, ?_⟩
  · show decide (i.natAbs.log2 < 1920) = true
    refine decide_eq_true ?_
    by_cases h0 : i.natAbs = 0
    · rw [h0]; decide
    · rw [Nat.log2_lt h0]
      exact Nat.lt_trans h (by decide +kernel)
  · have := PySem.int_text_length_le10 (k := 18) (by decide) h
    show (Str.ofString (toString i)).length ≤ 19
    rw [ofString_length]
    exact this
theorem nice_str {z : Str} {L : Nat} (h : (PyData.str z).shown.length ≤ L) (h2 : (PyData.str z).canLay0 = true) : Nice 0 L (.str z) := ⟨rfl, rfl, Nat.le_refl _, h2, h⟩
theorem nice_all {k L : Nat} : ∀ {ds : List PyData}, (∀ d ∈ ds, Nice k L d) → PyData.showableAll ds = true ∧ PyData.hasDictAll ds = false ∧ PyData.depthAll ds ≤ k ∧ PyData.canLayAll0 ds = true ∧ piled (PyData.shownAll ds) ≤ ds.length * (L + 2)
  | [], _ => ⟨rfl, rfl, Nat.zero_le _, rfl, by rw [List.length_nil, Nat.zero_mul]; exact Nat.le_refl _⟩
  | d :: ds, h => by
    obtain ⟨h1, h2, h3, h4, h5⟩ := nice_all fun x hx => h x (List.mem_cons_of_mem _ hx)
    have hd := h d List.mem_cons_self
    refine ⟨?_, ?_, ?_, ?_, ?_⟩
    · show (d.showable && PyData.showableAll ds) = true
      rw [hd.show_, h1] <;> rfl
    · show (d.hasDict || PyData.hasDictAll ds) = false
      rw [hd.nd, h2] <;> rfl
    · show max d.depth (PyData.depthAll ds) ≤ k
      exact Nat.max_le.mpr ⟨hd.dep, h3⟩
    · show (d.canLay0 && PyData.canLayAll0 ds) = true
      rw [hd.lay, h4] <;> rfl
    · show piled (d.shown :: PyData.shownAll ds) ≤ _
      rw [piled_cons, List.length_cons, Nat.add_mul, Nat.one_mul]
      have := hd.len
      omega
theorem textFrom_le : ∀ (ts : List Str) (k : Nat) (acc : Str), (textFrom k acc ts).length ≤ acc.length + piled ts
  | [], k, acc => by show acc.length ≤ acc.length + piled []; omega
  | t :: r, k, acc => by
    have h := textFrom_le r (k + 1) (acc ++ (if k > 0 then ", " else "" : String) ++ t)
    have e : (acc ++ (if k > 0 then ", " else "" : String) ++ t).length ≤ acc.length + 2 + t.length := by
      rw [strLen_append, strLen_append]
      split
      · exact Nat.le_refl _
      · show acc.length + 0 + t.length ≤ _
        omega
    rw [piled_cons]
    show (textFrom (k + 1) _ r).length ≤ _
    omega
theorem listText_le (ts : List Str) : (listText ts).length ≤ piled ts + 2 := by
  unfold listText
  rw [strLen_append]
  have := textFrom_le ts 0 "["
  have e1 : (("[" : String) : Str).length = 1 := by decide +kernel
  have e2 : (("]" : String) : Str).length = 1 := by decide +kernel
  omega
theorem tupleText_le (ts : List Str) : (tupleText ts).length ≤ piled ts + 4 := by
  unfold tupleText
  rw [strLen_append, strLen_append]
  have e1 : (("(" : Str)).length = 1 := by decide +kernel
  have e3 : ((if ts.length == 1 then ",)" else ")" : String) : Str).length ≤ 2 := by
    split
    · decide +kernel
    · decide +kernel
  by_cases h : ts = []
  · subst h
    have e2 : (Str.join ", " []).length = 0 := by decide +kernel
    omega
  · have := join_length_add ts h
    omega
theorem nice_list {k L n : Nat} {ds : List PyData} (h : ∀ d ∈ ds, Nice k L d) (hn : ds.length ≤ n) : Nice (k + 1) (n * (L + 2) + 4) (.list ds) := by
  obtain ⟨h1, h2, h3, h4, h5⟩ := nice_all h
  refine ⟨h1, h2, Nat.succ_le_succ h3, h4, ?_⟩
  show (listText (PyData.shownAll ds)).length ≤ _
  have := listText_le (PyData.shownAll ds)
  have e : ds.length * (L + 2) ≤ n * (L + 2) := Nat.mul_le_mul_right _ hn
  omega
theorem nice_tup {k L n : Nat} {ds : List PyData} (h : ∀ d ∈ ds, Nice k L d) (hn : ds.length ≤ n) : Nice (k + 1) (n * (L + 2) + 4) (.tuple ds) := by
  obtain ⟨h1, h2, h3, h4, h5⟩ := nice_all h
  refine ⟨h1, h2, Nat.succ_le_succ h3, h4, ?_⟩
  show (tupleText (PyData.shownAll ds)).length ≤ _
  have := tupleText_le (PyData.shownAll ds)
  have e : ds.length * (L + 2) ≤ n * (L + 2) := Nat.mul_le_mul_right _ hn
  omega
theorem nice_kind (p : Pl) : Nice 0 20 (.str p.kind) := by
  cases p with
  | draw g bs => exact nice_str (z := "draw") (L := 20) (by decide +kernel) (by decide +kernel)
  | side g o ts =>
    cases o with
    | true => exact nice_str (z := "ours") (L := 20) (by decide +kernel) (by decide +kernel)
    | false => exact nice_str (z := "theirs") (L := 20) (by decide +kernel) (by decide +kernel)
/-- numbers of a game or a strategy -/
def NumOk (p : Int × Int) : Prop := p.1.natAbs < 10 ^ 18 ∧ p.2.natAbs < 10 ^ 18
theorem nice_num {p : Int × Int} (h : NumOk p) : Nice 1 46 (nD p) := nice_tup (L := 19) (n := 2) (fun d hd => by
  simp only [List.mem_cons, List.not_mem_nil, or_false] at hd
  rcases hd with rfl | rfl
  · exact nice_int h.1
  · exact nice_int h.2) (by show 2 ≤ 2; decide)
def OkP : Pl → Prop
  | .draw g bs => NumOk g ∧ bs.length ≤ 6 ∧ ∀ p ∈ bs, NumOk p.1 ∧ p.2.natAbs < 10 ^ 18
  | .side g _ ts => NumOk g ∧ ts.length ≤ 6 ∧ ∀ t ∈ ts, t.natAbs < 10 ^ 18
def OkG (G : List Pl) : Prop := G.length ≤ 12 ∧ ∀ p ∈ G, OkP p
theorem Nice.shaped {k L : Nat} {d : PyData} (h : Nice k L d) (hk : k ≤ 64) : SeqAt.shaped d = true := by
  unfold SeqAt.shaped
  rw [h.lay, decide_eq_true (Nat.le_trans h.dep hk)] <;> rfl
theorem Nice.eqv {k L : Nat} {d : PyData} (h : Nice k L d) : PyData.eqv d d = true := PySem.SeqAt.eqv_refl d h.lay
theorem nice_place {p : Pl} (h : OkP p) : Nice 4 2000 p.D := by
  have hl : Nice 3 616 (.list p.bd) := by
    cases p with
    | draw g bs =>
      refine (nice_list (k := 2) (L := 100) (n := 6) (fun d hd => ?_) (by show (bs.map brD).length ≤ 6; rw [List.length_map]; exact h.2.1)).mono (by decide) (by decide)
      obtain ⟨q, hq, rfl⟩ := List.mem_map.mp hd
      have hq2 := h.2.2 q hq
      refine (nice_tup (k := 1) (L := 46) (n := 2) (fun d hd => ?_) (by show 2 ≤ 2; decide)).mono (by decide) (by decide)
      simp only [List.mem_cons, List.not_mem_nil, or_false] at hd
      rcases hd with rfl | rfl
      · exact nice_num hq2.1
      · exact (nice_int hq2.2).mono (by decide) (by decide)
    | side g o ts =>
      refine (nice_list (k := 0) (L := 19) (n := 6) (fun d hd => ?_) (by show (ts.map PyData.int).length ≤ 6; rw [List.length_map]; exact h.2.1)).mono (by decide) (by decide)
      obtain ⟨q, hq, rfl⟩ := List.mem_map.mp hd
      exact nice_int (h.2.2 q hq)
  have hg : NumOk p.gain := by
    cases p with
    | draw g bs => exact h.1
    | side g o ts => exact h.1
  refine (nice_tup (k := 3) (L := 616) (n := 3) (fun d hd => ?_) (by show 3 ≤ 3; decide)).mono (by decide) (by decide)
  simp only [List.mem_cons, List.not_mem_nil, or_false] at hd
  rcases hd with rfl | rfl | rfl
  · exact (nice_num hg).mono (by decide) (by decide)
  · exact (nice_kind p).mono (by decide) (by decide)
  · exact hl
theorem nice_game {G : List Pl} (h : OkG G) : Nice 5 25000 (gameD G) := by
  refine (nice_list (k := 4) (L := 2000) (n := 12) (fun d hd => ?_) (by rw [List.length_map]; exact h.1)).mono (by decide) (by decide)
  obtain ⟨q, hq, rfl⟩ := List.mem_map.mp hd
  exact nice_place (h.2 q hq)
theorem nice_st {S : List (Option Nat)} (h : S.length ≤ 12) (hs : ∀ o ∈ S, ∀ j, o = some j → j < 1000) : Nice 1 300 (stD S) := by
  rw [stD_eq]
  refine (nice_list (k := 0) (L := 19) (n := 12) (fun d hd => ?_) (by rw [List.length_map]; exact h)).mono (by decide) (by decide)
  obtain ⟨q, hq, rfl⟩ := List.mem_map.mp hd
  cases q with
  | none => exact nice_none.mono (by decide) (by decide)
  | some j =>
    have := hs _ hq j rfl
    refine nice_int ?_
    have : ((j : Int)).natAbs < 1000 := by omega
    exact Nat.lt_trans this (by decide)
theorem ok_small {p : Int × Int} (h : SmallN p) : NumOk p := ⟨Nat.lt_trans h.2.2.1 (by decide), Nat.lt_trans (show p.2.natAbs < 1000 by have := h.1; have := h.2.1; omega) (by decide)⟩
theorem num_le {n d : Int} (h : d ≠ 0) : (num n d).1.natAbs ≤ n.natAbs ∧ (num n d).2.natAbs ≤ d.natAbs := by
  unfold num
  simp only
  have hg : 0 < Nat.gcd n.natAbs d.natAbs := Nat.gcd_pos_of_pos_right _ (by omega)
  generalize Nat.gcd n.natAbs d.natAbs = g at hg
  have key : ∀ z : Int, (z / (g : Int)).natAbs ≤ z.natAbs := fun z => by
    have := Int.natAbs_ediv_le_natAbs z (g : Int)
    exact this
  have e1 : (if d < 0 then -n else n).natAbs = n.natAbs := by split <;> omega
  have e2 : (if d < 0 then -d else d).natAbs = d.natAbs := by split <;> omega
  exact ⟨e1 ▸ key _, e2 ▸ key _⟩
theorem wf_okP {many : Int} {p : Pl} (h : WfP many p) (hm : many ≤ 12) : OkP p := by
  cases p with
  | draw g bs =>
    obtain ⟨h1, h2, h3, h4, ws, h5, h6, h7⟩ := h
    refine ⟨ok_small h1, h3, fun p hp => ⟨?_, ?_⟩⟩
    · have hm1 : p.1 ∈ bs.map (·.1) := List.mem_map.mpr ⟨p, hp, rfl⟩
      rw [h7] at hm1
      obtain ⟨w, hw, e⟩ := List.mem_map.mp hm1
      rw [← e]
      have h8 := h6 w hw
      have h9 := sum_small h6
      have h10 := sum_pos h6
      have h11 : ws.sum ≠ 0 := by omega
      have h12 := num_le (n := w) h11
      exact ⟨Nat.lt_of_le_of_lt h12.1 (Nat.lt_trans (show w.natAbs < 1000 by omega) (by decide)), Nat.lt_of_le_of_lt h12.2 (Nat.lt_trans (show ws.sum.natAbs < 1000 by omega) (by decide))⟩
    · have := h4 p hp
      exact Nat.lt_trans (show p.2.natAbs < 1000 by omega) (by decide)
  | side g o ts =>
    obtain ⟨h1, h2, h3, h4⟩ := h
    refine ⟨ok_small h1, h3, fun t ht => ?_⟩
    have := h4 t ht
    exact Nat.lt_trans (show t.natAbs < 1000 by omega) (by decide)
theorem wf_okG {G : List Pl} (h : WfG G) : OkG G := ⟨h.2.1, fun p hp => wf_okP (h.2.2 p hp) (by have := h.2.1; omega)⟩
theorem ok_put {x : Str} {p : Pl} {o : Option Nat} (h : OkP p) : OkP (putP x p o) := by
  unfold putP
  split
  · have hg : NumOk p.gain := by
      cases p with
      | draw g bs => exact h.1
      | side g o ts => exact h.1
    refine ⟨hg, by show 1 ≤ 6; decide, fun q hq => ?_⟩
    rw [List.mem_singleton] at hq
    subst hq
    refine ⟨⟨by show (1 : Int).natAbs < 10 ^ 18; decide, by show (1 : Int).natAbs < 10 ^ 18; decide⟩, ?_⟩
    cases p with
    | draw g bs =>
      show ((bs.getD (o.getD 0) ((0, 1), 0)).2).natAbs < 10 ^ 18
      rw [List.getD_eq_getElem?_getD]
      cases e : bs[o.getD 0]? with
      | none => decide
      | some q => exact (h.2.2 q (List.mem_of_getElem? e)).2
    | side g oo ts =>
      show (ts.getD (o.getD 0) 0).natAbs < 10 ^ 18
      rw [List.getD_eq_getElem?_getD]
      cases e : ts[o.getD 0]? with
      | none => decide
      | some q => exact h.2.2 q (List.mem_of_getElem? e)
  · exact h
theorem ok_putG (x : Str) : ∀ (G : List Pl) (S : List (Option Nat)), (∀ p ∈ G, OkP p) → ∀ p ∈ putG x G S, OkP p
  | [], _, _, p, hp => by cases ‹List (Option Nat)› <;> cases hp
  | q :: G, [], _, p, hp => by cases hp
  | q :: G, o :: S, h, p, hp => by
    rcases List.mem_cons.mp hp with rfl | hp
    · exact ok_put (h q List.mem_cons_self)
    · exact ok_putG x G S (fun y hy => h y (List.mem_cons_of_mem _ hy)) p hp
theorem ok_bd {p : Pl} (h : OkP p) : p.bd.length ≤ 6 := by
  cases p with
  | draw g bs => exact (List.length_map (as := bs) brD).symm ▸ h.2.1
  | side g o ts => exact (List.length_map (as := ts) PyData.int).symm ▸ h.2.1
/-! ### places with a list of their own -/
def ConstT (K : PySem.W.Frag) (mg : Str → Option Value) (x : Str) (d : PyData) : Prop := ∃ a, mg x = some (.ref a) ∧ ∀ H, Dt K H (.ref a) d
/-- u is a tuple whose third item is a list that was not there in h -/
def OwnL (K : PySem.W.Frag) (h b' : Hp) (u : V) : Prop := ∃ t g kd l bs, u = .ref t ∧ SqT K b' t [g, kd, .ref l] ∧ h l = none ∧ b' l = some (.lst bs) ∧ bs.length ≤ 6
theorem OwnL.up {K : PySem.W.Frag} {h b b' : Hp} {u : V} (x : OwnL K h b u) (e : Ex b b') : OwnL K h b' u := by
  obtain ⟨t, g, kd, l, bs, h1, h2, h3, h4, h5⟩ := x
  exact ⟨t, g, kd, l, bs, h1, ex_t e h2, h3, e _ _ h4, h5⟩
theorem OwnL.of {K : PySem.W.Frag} {h h' b : Hp} {u : V} (x : OwnL K h' b u) (e : Ex h h') : OwnL K h b u := by
  obtain ⟨t, g, kd, l, bs, h1, h2, h3, h4, h5⟩ := x
  exact ⟨t, g, kd, l, bs, h1, h2, fresh_back e h3, h4, h5⟩
def OwnQ (K : PySem.W.Frag) (h : Hp) (p : Addr) (b' : Hp) (u : V) : Prop := ∃ t g kd l bs, u = .ref t ∧ SqT K b' t [g, kd, .ref l] ∧ h l = none ∧ l ≠ p ∧ b' l = some (.lst bs) ∧ bs.length ≤ 6
theorem OwnL.q {K : PySem.W.Frag} {h b : Hp} {u : V} {p : Addr} (x : OwnL K h b u) (n : b p = none) : OwnQ K h p b u := by
  obtain ⟨t, g, kd, l, bs, h1, h2, h3, h4, h5⟩ := x
  exact ⟨t, g, kd, l, bs, h1, h2, h3, ne_of_none h4 n, h4, h5⟩
theorem OwnQ.up {K : PySem.W.Frag} {h b b' : Hp} {u : V} {p : Addr} (x : OwnQ K h p b u) (e : Ex b b') : OwnQ K h p b' u := by
  obtain ⟨t, g, kd, l, bs, h1, h2, h3, h4, h5, h6⟩ := x
  exact ⟨t, g, kd, l, bs, h1, ex_t e h2, h3, h4, e _ _ h5, h6⟩
def spTold (K : PySem.W.Frag) : Sp := fun vs h Q _ => ∃ (b : Hp) (p : Pl) (x : Str) (o : Option Nat), Ex b h ∧ DtA K b vs [p.D, .str x, svD o] ∧ Side x ∧ (p.kind = x → ∃ j, o = some j ∧ j < p.bd.length) ∧ p.bd.length ≤ 6 ∧
  ∀ v b' h', Gr b h b' h' → Dt K b' v (putP x p o).D → OwnL K h b' v → Q v h'
def spWith (K : PySem.W.Frag) : Sp := fun vs h Q _ => ∃ (b : Hp) (G : List Pl) (x : Str) (S : List (Option Nat)), Ex b h ∧ DtA K b vs [gameD G, .str x, stD S] ∧ SmG G ∧ Side x ∧ WfS x G S ∧
  ∀ p us b' h', Gr b h b' h' → h p = none → Dt K b' (.ref p) (gameD (putG x G S)) → b' p = some (.lst us) → (∀ u ∈ us, OwnQ K h p b' u) → Q (.ref p) h'
theorem tup3N {K : PySem.W.Frag} {σ : L2.St} {b h : Hp} {t1 t2 t3 : TE} {d1 d2 : PyData} {ds : List PyData} {Q : VK} (x1 : ED K t1 σ b d1) (x2 : ED K t2 σ b d2) (x3 : EN K t3 σ b ds) (e : Ex b h) (hl : ds.length ≤ 6)
    (k : ∀ v b' h', Gr b h b' h' → Dt K b' v (.tuple [d1, d2, .list ds]) → OwnL K h b' v → Q v h') : tTup (tCons t1 (tCons t2 (tCons t3 tNil))) σ h Q :=
  x1 h e _ fun v1 b1 h1 g1 k1 => x2.up g1.gb h1 g1.gi _ fun v2 b2 h2 g2 k2 => x3.up (g1.gb.trans g2.gb) h2 g2.gi _ fun l us b3 h3 nl nb g3 hl3 hus => ⟨by show 3 ≤ sizeLine; decide, fun t ht => by
    have G := (g1.trans g2).trans g3
    have hl0 : h l = none := fresh_back (g1.gh.trans g2.gh) nl
    have G' := G.tell hl0 nb hl3
    have G2 := G'.trans (Gr.new (o := .tup [v1, v2, .ref l]) G'.gi ht)
    have nt : (upd b3 l (.lst us)) t = none := none_of G'.gi ht
    have e1 : Ex b3 (upd (upd b3 l (.lst us)) t (.tup [v1, v2, .ref l])) := (Ex.new nb).trans (Ex.new nt)
    have nlt : l ≠ t := ne_of_none hl3 ht
    have hul : (upd (upd b3 l (.lst us)) t (.tup [v1, v2, .ref l])) l = some (.lst us) := by rw [upd_ne nlt, upd_same]
    have hut : SqT K (upd (upd b3 l (.lst us)) t (.tup [v1, v2, .ref l])) t [v1, v2, .ref l] := st_of upd_same
    exact k (.ref t) _ _ G2 (Dt.tuple hut (DtA.cons (((k1.up g2.gb).up g3.gb).up e1) (DtA.cons ((k2.up g3.gb).up e1) (DtA.one (Dt.list hul (hus.up e1)))))) ⟨t, v1, v2, l, us, rfl, hut, hl0, hul, by rw [hus.length]; exact hl⟩⟩
theorem tyes_of {A B : Hp → Prop} {σ : L2.St} {H : Hp} (h : A H) : tYes σ H (fun k H' => if k = true then A H' else B H') := by
  show (if true = true then A H else B H)
  rw [if_pos rfl]
  exact h
theorem sqT_upd {K : PySem.W.Frag} {h : Hp} {t l : Addr} {xs bs cs : List V} (x : SqT K h t xs) (hl : h l = some (.lst bs)) : SqT K (upd h l (.lst cs)) t xs := by
  rcases x with (x | ⟨o, x⟩) | x
  · exact .inl (.inl (by rw [upd_ne (ne_of x hl (by intro z; cases z))]; exact x))
  · exact .inl (.inr ⟨o, by rw [upd_ne (ne_of x hl (by intro z; cases z))]; exact x⟩)
  · exact .inr x
theorem kd_ou : ¬ (("ours" : Str) = "theirs") := by decide +kernel
theorem kd_to : ¬ (("theirs" : Str) = "ours") := by decide +kernel
theorem put_comm (p : Pl) (o t : Option Nat) : putP "theirs" (putP "ours" p o) t = putP "ours" (putP "theirs" p t) o := by
  have hd : ∀ (g : Int × Int) (bs : List ((Int × Int) × Int)) (x : Str) (z : Option Nat), Side x → putP x (.draw g bs) z = .draw g bs := fun g bs x z hx => by
    unfold putP
    rw [if_neg (kind_draw hx)]
  by_cases h1 : p.kind = "ours"
  · have e1 : putP "ours" p o = .draw p.gain [((1, 1), p.at (o.getD 0))] := by unfold putP; rw [if_pos h1]
    have e2 : putP "theirs" p t = p := by unfold putP; rw [if_neg (by rw [h1]; exact kd_ou)]
    rw [e2, e1, hd _ _ _ _ (.inr rfl)]
  · have e1 : putP "ours" p o = p := by unfold putP; rw [if_neg h1]
    rw [e1]
    by_cases h2 : p.kind = "theirs"
    · have e2 : putP "theirs" p t = .draw p.gain [((1, 1), p.at (t.getD 0))] := by unfold putP; rw [if_pos h2]
      rw [e2, hd _ _ _ _ (.inl rfl)]
    · have e2 : putP "theirs" p t = p := by unfold putP; rw [if_neg h2]
      rw [e2, e1]
theorem putG_comm : ∀ (G : List Pl) (S T : List (Option Nat)), S.length = G.length → T.length = G.length → putG "theirs" (putG "ours" G S) T = putG "ours" (putG "theirs" G T) S
  | [], S, T, hS, hT => by
    cases S with
    | nil => cases T with
      | nil => rfl
      | cons _ _ => cases hT
    | cons _ _ => cases hS
  | p :: G, o :: S, t :: T, hS, hT => by
    show putP "theirs" (putP "ours" p o) t :: putG "theirs" (putG "ours" G S) T = putP "ours" (putP "theirs" p t) o :: putG "ours" (putG "theirs" G T) S
    rw [put_comm, putG_comm G S T (Nat.succ.inj hS) (Nat.succ.inj hT)]
theorem wfS_put {x y : Str} {G : List Pl} {S T : List (Option Nat)} (hx : Side x) (hy : Side y) (hxy : x ≠ y) (hS : WfS x G S) (hT : WfS y G T) : WfS y (putG x G S) T := by
  have hl := putG_len x G S hS.1
  refine ⟨by rw [hl]; exact hT.1, fun i q hq => ?_⟩
  have hi : i < G.length := by
    have := (List.getElem?_eq_some_iff.mp hq).1
    omega
  obtain ⟨p, hp⟩ : ∃ p, G[i]? = some p := ⟨_, List.getElem?_eq_getElem hi⟩
  obtain ⟨o, ho⟩ : ∃ o, S[i]? = some o := ⟨_, List.getElem?_eq_getElem (by rw [hS.1]; exact hi)⟩
  have e := putG_get x G S i p o hp ho
  rw [hq] at e
  have e' : q = putP x p o := Option.some.inj e
  have hTi := hT.2 i p hp
  by_cases hk : p.kind = x
  · have e2 : q = .draw p.gain [((1, 1), p.at (o.getD 0))] := by rw [e']; unfold putP; rw [if_pos hk]
    refine ⟨fun z => absurd z (by rw [e2]; exact kind_draw hy), fun _ => hTi.2 (by rw [hk]; exact hxy)⟩
  · have e2 : q = p := by rw [e']; unfold putP; rw [if_neg hk]
    rw [e2]
    exact hTi
theorem smG_of {G : List Pl} (h : OkG G) : SmG G := ⟨h.1, fun p hp => ok_bd (h.2 p hp)⟩
theorem okG_put {x : Str} {G : List Pl} {S : List (Option Nat)} (h : OkG G) (hl : S.length = G.length) : OkG (putG x G S) := ⟨by rw [putG_len x G S hl]; exact h.1, ok_putG x G S h.2⟩
theorem wfS_small {x : Str} {G : List Pl} {S : List (Option Nat)} (h : OkG G) (hS : WfS x G S) : ∀ o ∈ S, ∀ j, o = some j → j < 1000 := by
  intro o ho j hj
  obtain ⟨i, hi, rfl⟩ := List.mem_iff_getElem.mp ho
  have hiG : i < G.length := by rw [← hS.1]; exact hi
  have hp : G[i]? = some G[i] := List.getElem?_eq_getElem hiG
  have hSi := hS.2 i _ hp
  have e : S[i]? = some S[i] := List.getElem?_eq_getElem hi
  by_cases hk : G[i].kind = x
  · obtain ⟨n, hn, hb⟩ := hSi.1 hk
    rw [e, hj] at hn
    have hjn : j = n := Option.some.inj (Option.some.inj hn)
    have := ok_bd (h.2 _ (List.getElem_mem hiG))
    omega
  · have hn := hSi.2 hk
    rw [e, hj] at hn
    cases hn
section
variable {K : PySem.W.Frag} {σ : L2.St} {b h : Hp} {te : TE} {ts : TA} {ds : List PyData} {D : Ends} {tz : TS} {sp : Sp} {E : XK}
theorem r_call {i : Nat} (x : EDA K ts σ b ds) (e : Ex b h) (k : ∀ vs b' h', Gr b h b' h' → DtA K b' vs ds → sp vs h' (fun v h2 => tz D (σ.set i (some v)) h2) E) : tSeq (tAsg (tCall sp [] E ts) (gName i)) tz D σ h :=
  x h e _ fun vs b' h' g hv => by
    rw [List.append_nil]
    exact k vs b' h' g hv
theorem ed_put {G : List Pl} {x : Str} {S : List (Option Nat)} (y : EDA K ts σ b [gameD G, .str x, stD S]) (h1 : SmG G) (h2 : Side x) (h3 : WfS x G S) : ED K (tCall (spPut K) [] E ts) σ b (gameD (putG x G S)) := fun h e _ q =>
  y h e _ fun vs b2 h2' g2 hv => ⟨b2, G, x, S, g2.gi, by rw [List.append_nil]; exact hv, h1, h2, h3, fun v b3 h3 g3 hv3 => q v b3 h3 (g2.trans g3) hv3⟩
theorem ed_with {G : List Pl} {x : Str} {S : List (Option Nat)} (y : EDA K ts σ b [gameD G, .str x, stD S]) (h1 : SmG G) (h2 : Side x) (h3 : WfS x G S) : ED K (tCall (spWith K) [] E ts) σ b (gameD (putG x G S)) := fun h e _ q =>
  y h e _ fun vs b2 h2' g2 hv => ⟨b2, G, x, S, g2.gi, by rw [List.append_nil]; exact hv, h1, h2, h3, fun p us b3 h3 g3 hn hv3 _ _ => q (.ref p) b3 h3 (g2.trans g3) hv3⟩
theorem ev_isiL (x : ED K te σ b (.list ds)) : Ev (tCB (rIsi K) (tCons te (tCons (tC (.ty "list")) tNil))) σ b (.bl true) := fun h e _ q => x h e _ fun v b2 h2 g2 hv => by
  obtain ⟨a, xs, rfl, k1, k2⟩ := hv.listI
  exact ⟨.ref a, .ty "list", .type "list", .type "list", true, rfl, .ty _, .base (.lst (g2.gi _ _ k1)), kit_ty (by decide +kernel), q h2 g2.gh⟩
theorem ref_list {v : V} {H : Hp} (x : Dt K H v (.list ds)) : ∃ p, v = .ref p := by
  obtain ⟨a, _, e, _⟩ := x.listI
  exact ⟨a, e⟩
theorem ref_tup {v : V} {H : Hp} (x : Dt K H v (.tuple ds)) : ∃ p, v = .ref p := by
  obtain ⟨a, _, e, _⟩ := x.tupleI
  exact ⟨a, e⟩
theorem ev_reprN {k L : Nat} {d : PyData} (x : ED K te σ b d) (n : Nice k L d) (hl : ∀ v H, Dt K H v d → ∃ p, v = .ref p) (hk : k ≤ 60) (hL : L ≤ 16000000) : Ev (tCB (rRepr K) (tCons te tNil)) σ b (.str d.shown) :=
  ev_repr x hl n.show_ n.nd (Nat.le_trans n.dep hk) (Nat.le_trans n.len (Nat.le_trans hL (by decide)))
theorem ev_same {ta tb : TE} {k L : Nat} {d : PyData} (x : ED K ta σ b d) (y : ED K tb σ b d) (n : Nice k L d) (hk : k ≤ 64) : Ev (tOp (rEqD K) ta tb) σ b (.bl true) := by
  have := ev_eqD x y (n.shaped hk) (n.shaped hk)
  rwa [n.eqv] at this
theorem ev_differ {ta tb : TE} {k L : Nat} {d : PyData} (x : ED K ta σ b d) (y : ED K tb σ b d) (n : Nice k L d) (hk : k ≤ 64) : Ev (tOp (rNeD K) ta tb) σ b (.bl false) := by
  have := ev_neD x y (n.shaped hk) (n.shaped hk)
  rwa [n.eqv] at this
theorem ev_eqS {ta tb : TE} {v : V} (x : Ev ta σ b v) (y : Ev tb σ b v) (hs : scal v v = true) : Ev (tOp rEq ta tb) σ b (.bl true) := by
  have := ev_op x y (rv_eq hs)
  rwa [decide_eq_true rfl] at this
theorem ev_neS {ta tb : TE} {v : V} (x : Ev ta σ b v) (y : Ev tb σ b v) (hs : scal v v = true) : Ev (tOp rNe ta tb) σ b (.bl false) := by
  have := ev_op x y (rv_ne hs)
  rwa [decide_eq_true rfl] at this
end
end Md


set_option Elab.async false
set_option linter.all false
set_option maxRecDepth 100000
set_option maxHeartbeats 2000000
namespace Md
open PySem PySem.Spec PyProof.Rows L2 Evl
/-! ### the law's own call: it stands at the caller's place, where no repr runs -/
def LawOk (P : Program) (w : World) (K : PySem.W.Frag) (mg : Str → Option Value) (base : Heap) (k : Nat) (f : Addr) (fd : FuncData) (ps : List Str) (sp : Sp) : Prop :=
  ∀ (s : Shared) (H : Hp) (ar : Args) (us : List Value) (vs : List V) (Q : VK), Room k callerA → Env0 P w K mg base callerA [] s H →
    BindsTo s fd ar (ps.zip us) → Vals vs us → sp vs H Q E0 → codeAny (model P w) callerA (.call (.ref f) ar) (CR CX0 [] P w H s Q E0) s
theorem law_ok {P : Program} {w : World} {K : PySem.W.Frag} {mg : Str → Option Value} {base : Heap} {x qual : Str} {st : Stmt} {f : Addr} {fd : FuncData} {N ps : List Str} {k : Nat} {sp : Sp} (F : Fun K x qual st f fd)
    (S : FnScope N ps (defScope st)) (len : ∀ vs H Q E, sp vs H Q E → vs.length = ps.length)
    (body : ∀ (cd : Value) (s : Shared) (H : Hp) (vs : List V) (Q : VK), Room k (callerA.deeper (envOfC qual (defScope st) s.heap.objs.size f cd)) → sp vs H Q E0 →
      ∃ t, PSs (cxOf CX0 P w K mg base N qual (defScope st) f cd callerA [] s H E0).nox (defBody st) t ∧ t { nx := fun _ H' => Q .non H', rt := Q } (start N vs) H) : LawOk P w K mg base (k + 1) f fd ps sp := by
  obtain ⟨oc, od, kV, dc, pm, an, cd, ct, sl, rfl, lk, hcd⟩ := F.ex
  intro s H ar us vs Q room e0 hb rv hs
  have hlen := len _ _ _ _ hs
  have old : ∀ c o, base.get? c = some o → s.heap.get? c = some o := fun c o e => (e0.bs c o e).1
  have kin : K.In s.heap := e0.mod.kin.keeps old
  have nolim : s.heap.NoLimit := e0.mod.nolimit.keeps old
  have kinds : ∀ y ∈ ps.zip us, (defScope st).names.lookup y.1 = some .local ∨ ((defScope st).names.lookup y.1 = some .cell ∧ ((cellsFrom (s.heap.objs.size + 1) (defScope st).names []).lookup y.1).isSome = true) := by
    rintro ⟨n, v⟩ hy
    rcases S.par n (List.of_mem_zip hy).1 with z | z
    · exact .inl z
    · exact .inr ⟨z, PySem.W.cellsFrom_some _ _ _ (.inl z)⟩
  refine codeAny_call_function room.depth (kin _ _ lk) rfl S.co S.gen rfl (PySem.W.codeRec_of kin hcd) (hb _ _ _ _ (wpAny_newFunctionEnv_cells S.kind kinds ?_))
  rintro env rfl s1 call
  refine ⟨nolim.keeps call.toInCall.keep, codeAny_func ?_⟩
  obtain ⟨t, ht, hq⟩ := body cd s H vs Q (room.deeper _) hs
  have start_ : Inv (cxOf CX0 P w K mg base N qual (defScope st) f cd callerA [] s H E0) [] (start N vs) H s1 := inv_start S room.hd e0 hlen rv call
  refine wpAny_mono (ht.nox.run [] s1 (start N vs) H _ start_ hq) ?_ (fun _ _ z => z)
  intro fl s2 z
  cases fl with
  | next =>
    obtain ⟨σ2, H2, J, q⟩ := z
    exact ⟨V.non, H2, J.os, J.bare, J.base, J.hok, rfl, q⟩
  | ret u =>
    obtain ⟨v, σ2, H2, J, r, q⟩ := z
    exact ⟨v, H2, J.os, J.bare, J.base, J.hok, r, q⟩
  | brk =>
    obtain ⟨_, _, _, q⟩ := z
    cases q
  | cont =>
    obtain ⟨_, _, _, q⟩ := z
    cases q
/-- the law's call on the script, from its promise -/
theorem law_run {P : Program} {w : World} {K : PySem.W.Frag} {mg mb : Str → Option Value} {k : Nat} {f a : Addr} {fd : FuncData} {x : Str} {sp : Sp} {s1 : Shared} {us : List Value} {ns : List Int}
    (kx : K.In s1.heap) (gl : s1.heap.Ns mainGlobals mg) (bl : s1.heap.Ns builtinsNs mb) (bb : ∀ y : Str, y ≠ "__name__" → mb y = bootBuiltins y) (nl : s1.heap.NoLimit) (gn : s1.gens = #[])
    (ha : s1.heap.get? a = some { cls := .type "list", data := .seq us.toArray }) (hi : IntsAre us ns) (hz : ns.length ≤ sizeLine) (room : Room k callerA)
    (F : ∀ B : Heap, K.In B → B.Ns mainGlobals mg → LawOk P w K mg B k f fd [x] sp) (hb : ∀ (s : Shared) (u : Value), BindsTo s fd ⟨[u], []⟩ [(x, u)])
    (hsp : ∀ H : Hp, Only H → SqL K H a (ns.map V.int) → sp [.ref a] H (fun v _ => v = .bl true) E0) :
    codeAny (model P w) callerA (.call (.ref f) ⟨[.ref a], []⟩) (fun r s2 => r = .ok (.ret (.bool true)) ∧ OldK s1.heap s2.heap ∧ s2.os = s1.os ∧ AllBare s2.gens) s1 := by
  have rv := vals_ints hi
  have hlen := hi.length
  have key : ∀ H : Hp, Only H → SqL K H a (ns.map V.int) → HOk P w H s1.heap → (∀ c, H c ≠ none → c = a) → (H a ≠ none → K.lookup a = none) →
      codeAny (model P w) callerA (.call (.ref f) ⟨[.ref a], []⟩) (fun r s2 => r = .ok (.ret (.bool true)) ∧ OldK s1.heap s2.heap ∧ s2.os = s1.os ∧ AllBare s2.gens) s1 := by
    intro H only sq ok one out
    have nodict : ∀ {c : Addr} {o : Obj} {es : Array DictEntry} {n : Nat}, s1.heap.get? c = some o → o.data = .dict es n → H c = none := by
      intro c o es n e d
      cases q : H c with
      | none => rfl
      | some u =>
        obtain rfl : c = a := one c (by rw [q]; simp)
        rw [ha] at e
        cases e
        cases d
    have ns_ : ∀ {c : Addr} {m : Str → Option Value}, s1.heap.Ns c m → (hidT s1.heap H).Ns c m := by
      rintro c m ⟨o, es, n, e, d, r⟩
      exact ⟨o, es, n, hidT_get e (nodict e d), d, r⟩
    have kB : K.In (hidT s1.heap H) := fun c o e => hidT_get (kx c o e) (by
      cases q : H c with
      | none => rfl
      | some u =>
        obtain rfl : c = a := one c (by rw [q]; simp)
        rw [out (by rw [q]; simp)] at e
        cases e)
    have lim : (hidT s1.heap H).NoLimit := by
      obtain ⟨mc, h1, h2⟩ := nl
      exact ⟨mc, ns_ h1, h2⟩
    have e0 : Env0 P w K mg (hidT s1.heap H) callerA [] s1 H := ⟨rfl, ⟨kB, ns_ gl, ⟨mb, ns_ bl, bb⟩, lim⟩, fun c o e => of_hidT e, Nat.le_of_eq (hidT_size _ _), trivial, (fun c hc => absurd (show c ∈ ([] : List Addr) from hc) (by simp)), ok, .of_eq gn⟩
    refine codeAny_mono (F _ kB (ns_ gl) s1 H ⟨[.ref a], []⟩ [.ref a] [.ref a] _ room e0 (hb s1 (.ref a)) (.cons rfl .nil) (hsp H only sq)) ?_
    intro r s2 z
    cases r with
    | error e => cases z
    | ok fl =>
      cases fl with
      | next => cases z
      | brk => cases z
      | cont => cases z
      | ret u =>
        obtain ⟨v, H2, os, bare, un, ok2, ru, q⟩ := z
        obtain rfl : v = .bl true := q
        obtain rfl : u = Value.bool true := ru
        refine ⟨rfl, OldK.of_keep (fun c o e => ?_), os, bare⟩
        cases q : H c with
        | none => exact un.keep c o e q (fun z => absurd (show c ∈ ([] : List Addr) from z) (by simp)) (by simp)
        | some u =>
          rcases only c with z | ⟨ob, xs, z⟩
          · rw [q] at z
            cases z
          · obtain ⟨e1, _⟩ := ok c _ z
            obtain ⟨e2, _⟩ := ok2 c _ (un.frzs c ob _ z)
            rw [e] at e1
            cases e1
            exact e2
  cases hk : K.lookup a with
  | some o =>
    have e := kx a o hk
    rw [ha] at e
    cases e
    refine key (fun _ => none) (fun _ => .inl rfl) (.inr ⟨_, us.toArray, _, hk, rfl, rfl, rfl, by rw [List.size_toArray, hlen]; exact hz, by simpa using rv⟩) (fun c u z => ?_) (fun c z => absurd rfl z) (fun z => absurd rfl z)
    cases (show (none : Option HO) = some u from z)
  | none =>
    let O : Obj := { cls := .type "list", data := .seq us.toArray }
    let H0 : Hp := fun c => if c = a then some (.frz O (.lst (ns.map V.int))) else none
    have at_a : H0 a = some (.frz O (.lst (ns.map V.int))) := if_pos rfl
    have off : ∀ c, c ≠ a → H0 c = none := fun c hc => if_neg hc
    refine key H0 (fun c => ?_) (.inl (.inr ⟨O, at_a⟩)) (fun c u z => ?_) (fun c z => ?_) (fun _ => hk)
    · by_cases hc : c = a
      · exact .inr ⟨O, ns.map V.int, by rw [hc]; exact at_a⟩
      · exact .inl (off c hc)
    · by_cases hc : c = a
      · subst hc
        rw [at_a] at z
        cases z
        exact ⟨ha, by rw [List.length_map]; exact hz, us, _, rv, ha⟩
      · rw [off c hc] at z
        cases z
    · by_cases hc : c = a
      · exact hc
      · exact absurd (off c hc) z
/-- what k_head leaves, from the law's promise -/
theorem law_walk {l : PySem.W.OpenLaw} {k : Nat} {q : Program} {loose : List Str} {XP : (Str → Option Value) → Heap → Prop} {YP : World → Heap → Prop} {d : DefRec} {K : Params → PySem.W.Frag} {sp : PySem.W.Frag → Sp} {x : Str}
    (hn : l.most = some 63) (hdf : d.params.defaults = []) (room : Room k callerA) (hY : ∀ (w : World) (h : Heap), YP w h → (K w.params).In h)
    (F : ∀ (w : World) (mg : Str → Option Value) (fa : Addr) (h : Heap), (K w.params).In h → h.Ns mainGlobals mg → mg d.name = some (.ref fa) →
      ∃ fd : FuncData, (∀ (s : Shared) (u : Value), BindsTo s fd ⟨[u], []⟩ [(x, u)]) ∧ ∀ B : Heap, (K w.params).In B → B.Ns mainGlobals mg → LawOk l.prog w (K w.params) mg B k fa fd [x] (sp (K w.params)))
    (hsp : ∀ (K : PySem.W.Frag) (H : Hp) (a : Addr) (ns : List Int), ns.length ≤ 63 → Only H → SqL K H a (ns.map V.int) → sp K [.ref a] H (fun v _ => v = .bl true) E0) :
    PySem.W.WalkO q loose XP YP l.row.toRowW d [] (fun f vs => PySem.call f vs) := by
  refine Att.attach_call hn hdf fun w s₀ s₁ mg mb fa o pm cd doc a vs ns G Y ho hd hcd hmg hobj hints hlen hg => ?_
  have kx := hY w _ Y
  obtain ⟨fd, hb, hF⟩ := F w mg fa _ kx G.T.g hmg
  exact law_run kx G.T.g G.T.b G.T.builtins G.T.nolimit hg hobj hints (Nat.le_trans hlen (by decide)) room hF hb fun H only sq => hsp _ H a ns hlen only sq
/-- the law gives True of any script of at most 63 ints -/
def spLaw (K : PySem.W.Frag) : Sp := fun vs H Q _ => ∃ (a : Addr) (ns : List Int), vs = [.ref a] ∧ SqL K H a (ns.map V.int) ∧ ns.length ≤ 63 ∧ ∀ H', Q (.bl true) H'
end Md


set_option Elab.async false
set_option linter.all false
set_option maxRecDepth 100000
set_option maxHeartbeats 2000000
namespace Md
open PySem L2 Evl
/-! ### calls by keywords that may raise -/
def tCallKS (sp : Sp) (gV : List V → List V → List V) (E : L2.St → XK) (t tk : TA) : TE := fun σ H Q => t σ H fun vs H1 => tk σ H1 fun zs H2 => sp (gV vs zs) H2 Q (E σ)
section
variable {X : Cx} {CX : CXT} {k : Nat} {f : Addr} {fd : FuncData} {ps ks : List Str} {sp : Sp} {E : L2.St → XK} {x : Str} {p pos : Pos} {e : Expr} {es : List Expr} {kws : List Keyword} {t tk : TA} {g : List Value → List Value → List Value} {gV : List V → List V → List V}
theorem pe_callKS (F : FnOk X.prog X.w X.K X.mg X.base CX k f fd ps sp) (hr : Room k X.A) (hg : Gl X x) (hm : X.mg x = some (.ref f)) (hk : PySem.W.keepIn X.K (.ref f) = true) (hb : KBinds X.K fd ps ks g gV) (hx : ∀ σ, PassesAt CX X σ (E σ))
    (ha : PA X (e :: es) t) (hkw : PK X kws tk) (h1 : (backToKw pos (keywordEach kws X.env)).all (·.1.isSome) = true := by rfl) (h2 : (backToKw pos (keywordEach kws X.env)).filterMap (·.1) = ks := by rfl)
    (h3 : (x == ("__debug__" : Str)) = false := by decide) (h4 : starEach (e :: es) X.env = (false, eval e X.env) :: starEach es X.env := by rfl)
    (h5 : ((backTo pos (starEach (e :: es) X.env)).any (·.1) || (backToKw pos (keywordEach kws X.env)).any (·.1.isNone)) = false := by rfl) :
    PE X (.Call (.Name x p) (e :: es) kws pos) (tCallKS sp gV E t tk) := by
  refine ⟨fun pins s σ H Q I z => ?_⟩
  refine wpAny_Call_Name_kw (ld_glob I hg hm ?_ h3)
  refine PySem.W.callWith_KW (h₀ := X.base) I.ok.mod.kin hk h1 (thn (ha.run pos pins s σ H _ I z) fun us s1 ⟨vs, H1, I1, r, q⟩ => ?_) h5 h4
  refine thn (hkw.run pos pins s1 σ H1 _ I1 q) fun ws s2 ⟨zs, H2, I2, rz, q2⟩ => ⟨I2.kIn, ?_⟩
  rw [h2]
  have rr := hb.rel r rz
  have hl : (g us ws).length = ps.length := by rw [← rr.length]; exact F.len _ _ _ _ q2
  refine wpAny_call (codeAny_mono (F.run X.A X.stack s2 H2 ⟨us, ks.zip ws⟩ (g us ws) (gV vs zs) Q (E σ) hr I2.env0 (hb.to s2 us ws I2.kIn hl) rr q2) ?_)
  intro res s3 hres
  cases res with
  | error er => exact hx σ pins H2 s2 er s3 I2 hres
  | ok fl =>
    cases fl with
    | ret u => exact I2.after hres
    | next => cases hres
    | brk => cases hres
    | cont => cases hres
end
/-- nothing is raised by a call that may raise, where its promise says so -/
theorem passX0 {X : Cx} : Passes (L2.CX X.prog X.w) X E0 := fun _ _ _ _ _ _ _ h => by
  obtain ⟨a, B, H', cls, d, _, _, _, _, _, _, _, z⟩ := h
  cases z
/-! ### the error with a place -/
def NBAt (H : Hp) (C : Addr) (n : Int) (E : XK) : Prop := ∀ d h', Ex H h' → H d = none → h' d = some (.xd [(("at" : Str), .int n)]) → E (.ref C) (some d) h'
theorem NBAt.up {H H' : Hp} {C : Addr} {n : Int} {E : XK} (x : NBAt H C n E) (e : Ex H H') : NBAt H' C n E := fun d h' e' nd hd => x d h' (e.trans e') (fresh_back e nd) hd
/-- NoBranch.__init__ -/
def spNB (C : Addr) : Sp := fun vs H Q _ => ∃ a n, vs = [.ref a, .int n] ∧ H a = some (exo a C none) ∧ ∀ dx, H dx = none → dx ≠ a → Q .non (upd (upd H dx (exd dx [(("at" : Str), .int n)])) a (exo a C (some dx)))
theorem nb_made {C : Addr} {n : Int} {ta : TA} {σ : L2.St} {h : Hp} {Q : XK} (x : EvA ta σ h [.int n]) (q : NBAt h C n Q) : tMkO C (spNB C) [] ta σ h Q := x h (Ex.refl h) _ fun h1 e1 => by
  refine ⟨by show 1 ≤ 1000; decide, fun a ha => ?_⟩
  refine ⟨a, n, rfl, upd_same, fun dx hdx hne => ⟨rfl, dx, [(("at" : Str), .int n)], upd_same, ?_, ?_, ?_⟩⟩
  · rw [upd_ne hne, upd_same]
  · rw [upd_ne hne] at hdx
    exact hdx
  · have hdx' : h1 dx = none := by
      rw [upd_ne hne] at hdx
      exact hdx
    refine q dx _ (fun b o hb => ?_) (fresh_back e1 hdx') upd_same
    have hb1 := e1 b o hb
    have n1 : b ≠ a := ne_of_none hb1 ha
    have n2 : b ≠ dx := ne_of_none hb1 hdx'
    rw [upd_ne n2, del_ne n1, upd_ne n1, upd_ne n2, upd_ne n1]
    exact hb1
/-! ### ways -/
def Pl.tg : Pl → List Int
  | .draw _ bs => bs.map (·.2)
  | .side _ _ ts => ts
theorem tg_len (p : Pl) : p.tg.length = p.bd.length := by
  cases p with
  | draw g bs =>
    show (bs.map (·.2)).length = (bs.map brD).length
    rw [List.length_map, List.length_map]
  | side g o ts =>
    show ts.length = (ts.map PyData.int).length
    rw [List.length_map]
def plAt (G : List Pl) (x : Nat) : Pl := G.getD x (.side (0, 1) true [])
theorem plAt_get {G : List Pl} {x : Nat} (h : x < G.length) : G[x]? = some (plAt G x) := by
  unfold plAt
  rw [List.getD_eq_getElem?_getD, List.getElem?_eq_getElem h]
  rfl
def stepT (G : List Pl) (x : Nat) (n : Int) : Nat := ((plAt G x).tg.getD n.toNat 0).toNat
def okB (G : List Pl) (x : Nat) (n : Int) : Prop := 0 ≤ n ∧ n < ((plAt G x).tg.length : Int)
instance (G : List Pl) (x : Nat) (n : Int) : Decidable (okB G x n) := by unfold okB; exact inferInstance
def lastF (G : List Pl) : Nat → List Int → Nat
  | x, [] => x
  | x, n :: r => lastF G (stepT G x n) r
def pathF (G : List Pl) : Nat → List Int → List Nat
  | x, [] => [x]
  | x, n :: r => x :: pathF G (stepT G x n) r
theorem lastF_app (G : List Pl) : ∀ (r : List Int) (x : Nat) (n : Int), lastF G x (r ++ [n]) = stepT G (lastF G x r) n
  | [], x, n => rfl
  | m :: r, x, n => lastF_app G r (stepT G x m) n
theorem pathF_app (G : List Pl) : ∀ (r : List Int) (x : Nat) (n : Int), pathF G x (r ++ [n]) = pathF G x r ++ [stepT G (lastF G x r) n]
  | [], x, n => rfl
  | m :: r, x, n => by
    show x :: pathF G (stepT G x m) (r ++ [n]) = x :: (pathF G (stepT G x m) r ++ [stepT G (lastF G (stepT G x m) r) n])
    rw [pathF_app G r]
theorem pathF_len (G : List Pl) : ∀ (r : List Int) (x : Nat), (pathF G x r).length = r.length + 1
  | [], x => rfl
  | m :: r, x => congrArg Nat.succ (pathF_len G r (stepT G x m))
theorem pathF_get (G : List Pl) : ∀ (r : List Int) (x j : Nat), j ≤ r.length → (pathF G x r)[j]? = some (lastF G x (r.take j))
  | [], x, 0, _ => rfl
  | [], x, j + 1, h => by simp at h
  | m :: r, x, 0, _ => rfl
  | m :: r, x, j + 1, h => by
    show (pathF G (stepT G x m) r)[j]? = some (lastF G (stepT G x m) (r.take j))
    exact pathF_get G r (stepT G x m) j (by simpa using h)
theorem pathF_last (G : List Pl) : ∀ (r : List Int) (x : Nat), ∃ l, pathF G x r = l ++ [lastF G x r]
  | [], x => ⟨[], rfl⟩
  | m :: r, x => by
    obtain ⟨l, hl⟩ := pathF_last G r (stepT G x m)
    exact ⟨x :: l, by show x :: pathF G (stepT G x m) r = _; rw [hl]; rfl⟩
/-- targets are places -/
def WfT (G : List Pl) : Prop := G.length ≤ 12 ∧ ∀ p ∈ G, ∀ t ∈ p.tg, 0 ≤ t ∧ t < (G.length : Int)
theorem wfT_of {G : List Pl} (h : WfG G) : WfT G := ⟨h.2.1, fun p hp t ht => by
  have hw := h.2.2 p hp
  cases p with
  | draw g bs =>
    obtain ⟨q, hq, rfl⟩ := List.mem_map.mp ht
    exact hw.2.2.2.1 q hq
  | side g o ts => exact hw.2.2.2 t ht⟩
theorem stepT_lt {G : List Pl} {x : Nat} {n : Int} (h : WfT G) (hx : x < G.length) (hn : okB G x n) : stepT G x n < G.length ∧ ((stepT G x n : Nat) : Int) = (plAt G x).tg.getD n.toNat 0 := by
  unfold stepT
  have hl : n.toNat < (plAt G x).tg.length := by have := hn.1; have := hn.2; omega
  have hm : (plAt G x).tg.getD n.toNat 0 ∈ (plAt G x).tg := by
    rw [List.getD_eq_getElem?_getD, List.getElem?_eq_getElem hl]
    exact List.getElem_mem hl
  have := h.2 _ (List.mem_of_getElem? (plAt_get hx)) _ hm
  omega
/-- each number up to the i-th is a branch -/
def OkTo (G : List Pl) (x : Nat) (r : List Int) (i : Nat) : Prop := ∀ j n, j < i → r[j]? = some n → okB G (lastF G x (r.take j)) n
theorem lastF_lt {G : List Pl} (h : WfT G) : ∀ (r : List Int) (x : Nat), x < G.length → OkTo G x r r.length → lastF G x r < G.length
  | [], x, hx, _ => hx
  | n :: r, x, hx, ho => by
    have h0 : okB G x n := ho 0 n (Nat.zero_lt_succ _) rfl
    exact lastF_lt h r (stepT G x n) (stepT_lt h hx h0).1 fun j m hj hm => ho (j + 1) m (Nat.succ_lt_succ hj) (by simpa using hm)
theorem OkTo.take {G : List Pl} {x : Nat} {r : List Int} {i : Nat} (h : OkTo G x r i) (hi : i ≤ r.length) : OkTo G x (r.take i) (r.take i).length := fun j n hj hn => by
  rw [List.length_take, Nat.min_eq_left hi] at hj
  rw [List.getElem?_take_of_lt hj] at hn
  rw [List.take_take, Nat.min_eq_left (Nat.le_of_lt hj)]
  exact h j n hj hn
theorem at_lt {G : List Pl} (h : WfT G) {x : Nat} {r : List Int} {i : Nat} (hx : x < G.length) (ho : OkTo G x r i) (hi : i ≤ r.length) : lastF G x (r.take i) < G.length := lastF_lt h _ _ hx (ho.take hi)
def intsD (l : List Int) : PyData := .list (l.map PyData.int)
def natsD (l : List Nat) : PyData := .list (l.map fun x : Nat => PyData.int (x : Int))
/-- targets_of -/
def spTargets (K : PySem.W.Frag) : Sp := fun vs h Q _ => ∃ (b : Hp) (p : Pl), Ex b h ∧ DtA K b vs [p.D] ∧ p.bd.length ≤ 6 ∧ ∀ v b' h', Gr b h b' h' → Dt K b' v (intsD p.tg) → Q v h'
/-- has_branch -/
def spHas (K : PySem.W.Frag) : Sp := fun vs h Q _ => ∃ (b : Hp) (p : Pl) (n : Int), Ex b h ∧ DtA K b vs [p.D, .int n] ∧ ∀ h', Ex h h' → Q (.bl (decide (0 ≤ n ∧ n < (p.tg.length : Int)))) h'
def spWhole : Sp := fun vs h Q _ => ∃ n : Int, vs = [.int n] ∧ Q (.bl true) h
/-- places_on: C is NoBranch -/
def spPlaces (K : PySem.W.Frag) (C : Addr) : Sp := fun vs h Q E => ∃ (b : Hp) (G : List Pl) (x : Nat) (r : List Int), Ex b h ∧ DtA K b vs [gameD G, .int (x : Int), intsD r] ∧ WfT G ∧ SmG G ∧ x < G.length ∧ r.length ≤ 1000 ∧
  (OkTo G x r r.length → ∀ v b' h', Gr b h b' h' → Dt K b' v (natsD (pathF G x r)) → Q v h') ∧
  (∀ j n, r[j]? = some n → OkTo G x r j → ¬ okB G (lastF G x (r.take j)) n → NBAt h C (j : Int) E)
section
variable {K : PySem.W.Frag} {σ : L2.St} {b h : Hp} {te ta tb tc : TE} {ts : TA} {ds : List PyData} {E : XK}
theorem ed_targets {p : Pl} (y : EDA K ts σ b [p.D]) (hl : p.bd.length ≤ 6) : ED K (tCall (spTargets K) [] E ts) σ b (intsD p.tg) := fun h e _ q =>
  y h e _ fun vs b2 h2 g2 hv => ⟨b2, p, g2.gi, by rw [List.append_nil]; exact hv, hl, fun v b3 h3 g3 hv3 => q v b3 h3 (g2.trans g3) hv3⟩
theorem ev_has {p : Pl} {n : Int} (y : EDA K ts σ b [p.D, .int n]) : Ev (tCall (spHas K) [] E ts) σ b (.bl (decide (0 ≤ n ∧ n < (p.tg.length : Int)))) := fun h e _ q =>
  y h e _ fun vs b2 h2 g2 hv => ⟨b2, p, n, g2.gi, by rw [List.append_nil]; exact hv, fun h3 e3 => q h3 (g2.gh.trans e3)⟩
theorem ev_whole {n : Int} (y : Ev te σ b (.int n)) : Ev (tCall spWhole [] E (tCons te tNil)) σ b (.bl true) := fun h e _ q => y h e _ fun h2 e2 => ⟨n, rfl, q h2 e2⟩
theorem ev_isiI {i : Int} {T : String} {r : Bool} (x : Ev te σ b (.int i)) (hk : kitB "int" T = some r) : Ev (tCB (rIsi K) (tCons te (tCons (tC (.ty T)) tNil))) σ b (.bl r) := fun h e _ q => x h e _ fun h2 e2 =>
  ⟨.int i, .ty T, .type "int", .type T, r, rfl, .ty _, .base (.int i), kit_ty hk, q h2 e2⟩
theorem ev_isiB {i : Bool} {T : String} {r : Bool} (x : Ev te σ b (.bl i)) (hk : kitB "bool" T = some r) : Ev (tCB (rIsi K) (tCons te (tCons (tC (.ty T)) tNil))) σ b (.bl r) := fun h e _ q => x h e _ fun h2 e2 =>
  ⟨.bl i, .ty T, .type "bool", .type T, r, rfl, .ty _, .base (.bl i), kit_ty hk, q h2 e2⟩
theorem ev_chain {f g : Int → Int → Bool} {i j k : Int} (x : Ev ta σ b (.int i)) (y : Ev tb σ b (.int j)) (z : Ev tc σ b (.int k)) : Ev (tChain (rI0 fun i j => .bl (f i j)) (rI0 fun i j => .bl (g i j)) ta tb tc) σ b (.bl (f i j && g j k)) := fun h e Q q =>
  x h e _ fun h2 e2 => y h2 (e.trans e2) _ fun h3 e3 => ⟨i, j, rfl, rfl, f i j, rfl, by
    cases hf : f i j with
    | false =>
      rw [if_neg Bool.false_ne_true]
      have q' := q h3 (e2.trans e3)
      rwa [hf, Bool.false_and] at q'
    | true =>
      rw [if_pos rfl]
      refine z h3 ((e.trans e2).trans e3) _ fun h4 e4 => ⟨j, k, rfl, rfl, ?_⟩
      have q' := q h4 ((e2.trans e3).trans e4)
      rwa [hf, Bool.true_and] at q'⟩
theorem at_pre (l : List V) (v : V) : L2.atI (l ++ [v]) (-1) = some v := atI_last l v
theorem nats_at {l : List Nat} {j x : Nat} {z : Int} (e : z = (j : Int)) (h : l[j]? = some x) : L2.atI (l.map fun x : Nat => PyData.int (x : Int)) z = some (.int (x : Int)) := by
  subst e
  exact atI_nat (by rw [List.getElem?_map, h] <;> rfl)
end
theorem kind_is_draw {p : Pl} (h : p.kind = "draw") : ∃ g bs, p = .draw g bs := by
  cases p with
  | draw g bs => exact ⟨g, bs, rfl⟩
  | side g o ts =>
    exfalso
    cases o with
    | true => exact absurd h (by show ¬ (("ours" : Str) = "draw"); decide +kernel)
    | false => exact absurd h (by show ¬ (("theirs" : Str) = "draw"); decide +kernel)
theorem not_draw {p : Pl} (h : ¬ p.kind = "draw") : p.bd = p.tg.map PyData.int := by
  cases p with
  | draw g bs => exact absurd rfl h
  | side g o ts => rfl
/-- it keeps its promise; it may raise -/
def HasX (P : Program) (w : World) (K : PySem.W.Frag) (mg : Str → Option Value) (base : Heap) (k : Nat) (x : Str) (ps : List Str) (sp : Sp) : Prop :=
  ∃ f fd, FnOk P w K mg base (L2.CX P w) k f fd ps sp ∧ mg x = some (.ref f) ∧ PySem.W.keepIn K (.ref f) = true ∧ Binds K fd ps []
theorem take_more1 {α : Type} {l : List α} {i : Nat} {x : α} (h : l[i]? = some x) : l.take (i + 1) = l.take i ++ [x] := by
  rw [List.take_succ, h]
  rfl
theorem DtA.nats {K : PySem.W.Frag} {b : Hp} : ∀ l : List Nat, DtA K b (l.map fun x : Nat => V.int (x : Int)) (l.map fun x : Nat => PyData.int (x : Int))
  | [] => DtA.nil
  | x :: l => DtA.cons (Dt.int _) (DtA.nats l)
/-- the second items of a list of branches -/
theorem ed_lcTg {K : PySem.W.Frag} {σ : L2.St} {b : Hp} {tl : TE} {g : Int × Int} {bs : List ((Int × Int) × Int)} {vs : List Nat} {i j : Nat} (x : ED K tl σ b (.list (Pl.draw g bs).bd)) (hl : (Pl.draw g bs).bd.length ≤ 6)
    (hw : ∀ x y, wipe (((wipe σ vs).set i (some x)).set j (some y)) vs = wipe σ vs) (hj : ∀ x y, (((wipe σ vs).set i (some x)).set j (some y))[j]? = some (some y) := by intros; rfl) :
    ED K (tLc (iList K tl) (gTup K 2 (gCons (gName i) (gCons (gName j) gNil))) tYes (tVar j) vs) σ b (intsD (Pl.draw g bs).tg) := by
  have hbl : (bs.map brD).length ≤ 6 := hl
  have e : givenD (bs.map brD).length (fun _ => true) (fun i => PyData.int ((bs.getD i ((0, 1), 0)).2)) = (bs.map (·.2)).map PyData.int := by
    rw [givenD_all, List.length_map]
    refine List.ext_getElem? fun i => ?_
    rw [List.getElem?_map, List.getElem?_map, List.getElem?_map]
    by_cases h : i < bs.length
    · rw [List.getElem?_range h, List.getElem?_eq_getElem h]
      show some (PyData.int ((bs.getD i ((0, 1), 0)).2)) = some (PyData.int (bs[i].2))
      rw [List.getD_eq_getElem?_getD, List.getElem?_eq_getElem h]
      rfl
    · rw [List.getElem?_eq_none (by rw [List.length_range]; omega), List.getElem?_eq_none (by omega)]
      rfl
  unfold intsD
  rw [show (Pl.draw g bs).tg = bs.map (·.2) from rfl, ← e]
  refine EN.ed (en_lcG x (Nat.le_trans hbl (by decide)) (fun _ => true) _ fun n d y b2 h2 e2 e3 hd hx Q q => ?_)
  have hd' : (bs.map brD)[n]? = some d := hd
  rw [List.getElem?_map] at hd'
  cases z : bs[n]? with
  | none =>
    rw [z] at hd'
    cases hd'
  | some bb =>
    rw [z] at hd'
    cases hd'
    refine g_two (d1 := nD bb.1) (d2 := .int bb.2) hx e3 fun w1 w2 q1 q2 => ?_
    refine q _ (hw w1 w2) et_yes fun _ => ?_
    have e5 : PyData.int ((bs.getD n ((0, 1), 0)).2) = .int bb.2 := by
      rw [List.getD_eq_getElem?_getD, z] <;> rfl
    rw [e5]
    exact ed_var (hj w1 w2) q2
/-- the places of a way -/
def spPath (K : PySem.W.Frag) : Sp := fun vs h Q _ => ∃ (b : Hp) (G : List Pl) (x : Nat) (r : List Int), Ex b h ∧ DtA K b vs [gameD G, .int (x : Int), intsD r] ∧ WfT G ∧ SmG G ∧ x < G.length ∧ r.length ≤ 1000 ∧ OkTo G x r r.length ∧
  ∀ v b' h', Gr b h b' h' → Dt K b' v (natsD (pathF G x r)) → Q v h'
/-- zip of two lists of data, walked by a comprehension -/
theorem en_lcZ {K : PySem.W.Frag} {σ : L2.St} {b : Hp} {ta tb te : TE} {t : TT} {vs : List Nat} {i j n : Nat} {ds es : List PyData} (x : ED K ta σ b (.list ds)) (y : ED K tb σ b (.list es)) (hn : n = min ds.length es.length) (hz : n ≤ 40000) (f : Nat → Bool) (r : Nat → PyData)
    (hw : ∀ x y, wipe (((wipe σ vs).set i (some x)).set j (some y)) vs = wipe σ vs)
    (hs : ∀ k d1 d2 v1 v2 b2, Ex b b2 → ds[k]? = some d1 → es[k]? = some d2 → Dt K b2 v1 d1 → Dt K b2 v2 d2 →
      EvT t (((wipe σ vs).set i (some v1)).set j (some v2)) b2 (f k) ∧ (f k = true → ED K te (((wipe σ vs).set i (some v1)).set j (some v2)) b2 (r k))) :
    EN K (tLc (iZip K (tCons ta (tCons tb tNil))) (gTup K 2 (gCons (gName i) (gCons (gName j) gNil))) t te vs) σ b (givenD n f r) := fun h e _ q =>
  x h e _ fun v1 b1 h1 g1 hv1 => y.up g1.gb h1 g1.gi _ fun v2 b2 h2 g2 hv2 => by
    obtain ⟨a1, xs, rfl, k1, k2⟩ := hv1.listI
    obtain ⟨a2, ys, rfl, l1, l2⟩ := hv2.listI
    have G2 := g1.trans g2
    have s1 : ∀ h, Ex h2 h → SqL K h a1 xs := fun h e => sq_of (e _ _ (g2.gi _ _ (g2.gb _ _ k1)))
    have s2 : ∀ h, Ex h2 h → SqL K h a2 ys := fun h e => sq_of (e _ _ (g2.gi _ _ l1))
    refine ⟨a1, a2, xs, ys, rfl, s1 h2 (Ex.refl _), s2 h2 (Ex.refl _), fun Dl hD => ?_⟩
    refine lc_data (walk_zip (xs := xs) (ys := ys) (n := n) (by rw [k2.length, l2.length]; exact hn)) f r g2.gi hD hz (fun h' e' => ⟨s1 h' e', s2 h' e'⟩) (fun k z b3 h3 h4 hk e3 g3 hy => ?_) (fun b3 h3 us g3 nb hu hA => q Dl us b3 h3 (gone G2 hD) nb (G2.trans g3) hu hA)
    obtain ⟨T, w1, w2, rfl, nT, rfl, hw1, hw2⟩ := hy
    obtain ⟨d1, hd1, q1⟩ := k2.getV hw1
    obtain ⟨d2, hd2, q2⟩ := l2.getV hw2
    have g4 := Gr.new (o := .tup [w1, w2]) g3.gi nT
    have q1' := ((q1.up g2.gb).up g3.gb).up g4.gb
    have q2' := (q2.up g3.gb).up g4.gb
    refine ⟨_, g4, fun Q kk => ?_⟩
    refine g_two (Dt.tuple (st_of upd_same) (DtA.cons q1' (DtA.one q2'))) g4.gi fun u1 u2 p1 p2 => ?_
    have z := hs k d1 d2 u1 u2 _ (((g1.gb.trans g2.gb).trans g3.gb).trans g4.gb) hd1 hd2 p1 p2
    exact kk _ (hw u1 u2) z.1 z.2
theorem DtA.boolsI {K : PySem.W.Frag} {b : Hp} : ∀ {bs : List Bool} {vs : List V}, DtA K b vs (bs.map PyData.bool) → vs = bs.map V.bl
  | [], _, h => by cases h; rfl
  | n :: ns, _, h => by
    cases h with
    | cons h1 h2 => rw [h1.boolI, h2.boolsI]; rfl
theorem ev_all {K : PySem.W.Frag} {σ : L2.St} {b : Hp} {te : TE} {bs : List Bool} (x : ED K te σ b (.list (bs.map PyData.bool))) : Ev (tCB (rAll K) (tCons te tNil)) σ b (.bl (bs.all id)) := fun h e _ q => x h e _ fun v b2 h2 g2 hv => by
  obtain ⟨a, xs, rfl, k1, k2⟩ := hv.listI
  rw [k2.boolsI] at k1
  exact ⟨a, bs, rfl, sq_of (g2.gi _ _ k1), q h2 g2.gh⟩
theorem all_filter (f e : Nat → Bool) : ∀ l : List Nat, ((l.filter f).map e).all id = l.all (fun j => !(f j && !e j))
  | [] => rfl
  | x :: l => by
    have ih := all_filter f e l
    rw [List.filter_cons, List.all_cons]
    cases hf : f x with
    | true =>
      rw [if_pos rfl, List.map_cons, List.all_cons, ih]
      cases e x <;> rfl
    | false =>
      rw [if_neg Bool.false_ne_true, ih]
      rfl
theorem kind_side {p : Pl} (h : p.kind ≠ "draw") (h2 : ¬ p.kind = "theirs") : p.kind = "ours" := by
  cases p with
  | draw g bs => exact absurd rfl h
  | side g o ts =>
    cases o with
    | true => rfl
    | false => exact absurd rfl h2
/-- a way that takes some told branches -/
def spToldWay (K : PySem.W.Frag) : Sp := fun vs h Q _ => ∃ (b : Hp) (G : List Pl) (x : Nat) (So St : List (Option Nat)) (ds : List Int), Ex b h ∧ DtA K b vs [gameD G, .int (x : Int), stD So, stD St, .list (ds.map PyData.int)] ∧ WfG G ∧ x < G.length ∧
  WfS "ours" G So ∧ WfS "theirs" G St ∧ (∀ d ∈ ds, 0 ≤ d ∧ d < 1000) ∧ ds.length ≤ 1000 ∧ ∀ v b' h' r, Gr b h b' h' → r.length = ds.length → OkTo G x r r.length → Dt K b' v (intsD r) → Q v h'
/-- does the way follow: at the k-th step -/
def fK (G : List Pl) (y : Str) (x : Nat) (r : List Int) (k : Nat) : Bool := decide (V.str (plAt G (lastF G x (r.take k))).kind = V.str y)
def eK (G : List Pl) (S : List (Option Nat)) (x : Nat) (r : List Int) (k : Nat) : Bool := decide (V.int (r.getD k 0) = svV (S.getD (lastF G x (r.take k)) none))
def folF (G : List Pl) (y : Str) (S : List (Option Nat)) (x : Nat) (r : List Int) : Bool := (List.range r.length).all fun k => !(fK G y x r k && !eK G S x r k)
def spFollows (K : PySem.W.Frag) (C : Addr) : Sp := fun vs h Q E => ∃ (b : Hp) (G : List Pl) (x : Nat) (r : List Int) (y : Str) (S : List (Option Nat)), Ex b h ∧ DtA K b vs [gameD G, .int (x : Int), intsD r, .str y, stD S] ∧ WfT G ∧ SmG G ∧ x < G.length ∧ r.length ≤ 1000 ∧ WfS y G S ∧
  (OkTo G x r r.length → ∀ h', Ex h h' → Q (.bl (folF G y S x r)) h') ∧ (∀ j n, r[j]? = some n → OkTo G x r j → ¬ okB G (lastF G x (r.take j)) n → NBAt h C (j : Int) E)
def spRefused (K : PySem.W.Frag) : Sp := fun vs h Q _ => ∃ (b : Hp) (G : List Pl) (x : Nat) (r : List Int) (S : List (Option Nat)), Ex b h ∧ DtA K b vs [gameD G, .int (x : Int), intsD r, stD S] ∧ WfT G ∧ SmG G ∧ x < G.length ∧ r.length ≤ 1000 ∧ WfS "ours" G S ∧
  (OkTo G x r r.length → ∀ h', Ex h h' → Q .non h') ∧ (∀ j n, r[j]? = some n → OkTo G x r j → ¬ okB G (lastF G x (r.take j)) n → ∀ h', Ex h h' → Q (.int (j : Int)) h')
theorem ev_refused {K : PySem.W.Frag} {σ : L2.St} {b : Hp} {ts : TA} {E : XK} {G : List Pl} {x : Nat} {r : List Int} {S : List (Option Nat)} {j : Nat} {n : Int} (y : EDA K ts σ b [gameD G, .int (x : Int), intsD r, stD S]) (hW : WfT G) (hsm : SmG G) (hx : x < G.length) (hr : r.length ≤ 1000) (hS : WfS "ours" G S)
    (hj : r[j]? = some n) (ho : OkTo G x r j) (hb : ¬ okB G (lastF G x (r.take j)) n) : Ev (tCall (spRefused K) [] E ts) σ b (.int (j : Int)) := fun h e _ q =>
  y h e _ fun vs b2 h2 g2 hv => ⟨b2, G, x, r, S, g2.gi, by rw [List.append_nil]; exact hv, hW, hsm, hx, hr, hS, (fun hok => absurd (hok j n ((List.getElem?_eq_some_iff.mp hj).1) hj) hb), fun j' n' hj' ho' hb' h3 e3 => by
    have : j' = j := by
      rcases Nat.lt_trichotomy j' j with z | z | z
      · exact absurd (ho j' n' z hj') hb'
      · exact z
      · exact absurd (ho' j n z hj) hb
    rw [this]
    exact q h3 (g2.gh.trans e3)⟩
/-- positional arguments, then keywords, of fixed numbers -/
def gK (n m : Nat) {α : Type} (us ws : List α) : List α := if us.length = n ∧ ws.length = m then us ++ ws else []
theorem kb_of {K : PySem.W.Frag} {x : Str} {st : Stmt} {f : Addr} {fd : FuncData} {ps ks : List Str} {n m : Nat} (F : Fun K x x st f fd) (hp : 0 < ps.length)
    (h : ∀ (kV doc pm : Value) (an : Option Addr) (cdv ct : Value) (us ws : List Value), us.length = n → ws.length = m → bindArgs (PySem.W.fnOf x x (defArgs st) (defBody st) (defScope st) .none kV doc pm an cdv ct) ⟨us, ks.zip ws⟩ = pure (ps.zip (us ++ ws))) :
    KBinds K fd ps ks (gK n m) (gK n m) := by
  obtain ⟨oc, od, kV, doc, pm, an, cdv, ct, osl, rfl, lk, hcd⟩ := F.ex
  refine ⟨fun s us ws kin hl => ?_, fun {vs us zs ws} r1 r2 => ?_⟩
  · by_cases z : us.length = n ∧ ws.length = m
    · have e : gK n m us ws = us ++ ws := if_pos z
      rw [e]
      exact .of_eq (h kV doc pm an cdv ct us ws z.1 z.2)
    · have e : gK n m us ws = [] := if_neg z
      rw [e] at hl
      have hl' : 0 = ps.length := hl
      omega
  · unfold gK
    rw [r1.length, r2.length]
    split
    · exact r1.append r2
    · exact .nil
section
variable {K : PySem.W.Frag} {σ : L2.St} {b b' h : Hp} {te t1 t2 : TE} {ts tk : TA} {E : XK} {P P1 P2 : PyData → Prop}
theorem EX.up (x : EX K te σ b P) (e : Ex b b') : EX K te σ b' P := fun h e1 _ q => x h (e.trans e1) _ fun v b2 h2 d g hp hv => by
  obtain ⟨b3, g3, e3, _⟩ := g.back e e1
  exact q v b3 h2 d g3 hp (hv.up e3)
theorem ex_lst2 (x1 : EX K t1 σ b P1) (x2 : EX K t2 σ b P2) : EX K (tLst (tCons t1 (tCons t2 tNil))) σ b (fun d => ∃ d1 d2, d = .list [d1, d2] ∧ P1 d1 ∧ P2 d2) := fun h e _ q =>
  x1 h e _ fun v1 b1 h1 d1 g1 p1 k1 => x2.up g1.gb h1 g1.gi _ fun v2 b2 h2 d2 g2 p2 k2 => ⟨by show 2 ≤ sizeLine; decide, fun p hp =>
    have G := (g1.trans g2).trans (Gr.new (o := .lst [v1, v2]) g2.gi hp)
    have e3 : Ex b2 (upd b2 p (.lst [v1, v2])) := Ex.new (none_of g2.gi hp)
    q (.ref p) _ _ (.list [d1, d2]) G ⟨d1, d2, rfl, p1, p2⟩ (Dt.list upd_same (DtA.cons ((k1.up g2.gb).up e3) (DtA.one (k2.up e3))))⟩
theorem ex_strategy {G : List Pl} {x : Str} {es : List Int} (y : EDA K ts σ b [gameD G, .str x, .list (es.map PyData.int)]) (h1 : WfG G) (h2 : G.length ≤ es.length) (h3 : ∀ d ∈ es, 0 ≤ d ∧ d < 1000) :
    EX K (tCall (spStrategy K) [] E ts) σ b (fun d => ∃ S, WfS x G S ∧ d = stD S) := fun h e _ q =>
  y h e _ fun vs b2 h2' g2 hv => ⟨b2, G, x, es, g2.gi, by rw [List.append_nil]; exact hv, h1, h2, h3, fun v b3 h3 S g3 hS hv3 => q v b3 h3 (stD S) (g2.trans g3) ⟨S, hS, rfl⟩ hv3⟩
theorem ed_path {G : List Pl} {x : Nat} {r : List Int} (y : EDA K ts σ b [gameD G, .int (x : Int), intsD r]) (h1 : WfT G) (h2 : SmG G) (h3 : x < G.length) (h4 : r.length ≤ 1000) (h5 : OkTo G x r r.length) : ED K (tCall (spPath K) [] E ts) σ b (natsD (pathF G x r)) := fun h e _ q =>
  y h e _ fun vs b2 h2' g2 hv => ⟨b2, G, x, r, g2.gi, by rw [List.append_nil]; exact hv, h1, h2, h3, h4, h5, fun v b3 h3 g3 hv3 => q v b3 h3 (g2.trans g3) hv3⟩
theorem gK_app {b : Hp} {n m : Nat} {vs zs : List V} {ds : List PyData} (h1 : vs.length = n) (h2 : zs.length = m) (h : DtA K b (vs ++ zs) ds) : DtA K b (gK n m vs zs) ds := by
  unfold gK
  rw [if_pos ⟨h1, h2⟩]
  exact h
/-- follows, called by keywords on a way whose numbers are all branches -/
theorem ev_follows {C : Addr} {G : List Pl} {x : Nat} {r : List Int} {y : Str} {S : List (Option Nat)} (a : EDA K ts σ b [gameD G, .int (x : Int), intsD r]) (c : EDA K tk σ b [.str y, stD S]) (h1 : WfT G) (h2 : SmG G) (h3 : x < G.length) (h4 : r.length ≤ 1000) (h5 : WfS y G S) (h6 : OkTo G x r r.length) :
    Ev (L2.tCallK (spFollows K C) (gK 3 2) E0 ts tk) σ b (.bl (folF G y S x r)) := fun h e _ q =>
  a h e _ fun vs b2 h2' g2 hv => c.up g2.gb h2' g2.gi _ fun zs b3 h3' g3 hz => ⟨b3, G, x, r, y, S, g3.gi, gK_app hv.length hz.length ((hv.up g3.gb).append hz), h1, h2, h3, h4, h5, fun _ h4' e4 => q h4' ((g2.gh.trans g3.gh).trans e4), fun j n hj _ hb => absurd (h6 j n (List.getElem?_eq_some_iff.mp hj).1 hj) hb⟩
end
theorem cut_take {ds : List Int} {a : Nat} (h : a ≤ ds.length) : cutD (ds.map PyData.int) none (some (a : Int)) = (ds.take a).map PyData.int := by
  unfold cutD
  rw [List.length_map, HT.sIx_none, sIx_of _ h, List.drop_zero, Nat.sub_zero, List.map_take]
theorem cut_drop {ds : List Int} {a : Nat} (h : a ≤ ds.length) : cutD (ds.map PyData.int) (some (a : Int)) none = (ds.drop a).map PyData.int := by
  unfold cutD
  rw [List.length_map, HT.sIx_none, sIx_of _ h, ← List.map_drop, ← List.map_take, List.take_of_length_le (by rw [List.length_drop]; exact Nat.le_refl _)]
theorem okTo_pre {G : List Pl} {x : Nat} {r r' : List Int} {a : Nat} (h : OkTo G x r r.length) (ha : a ≤ r.length) (hr : r'.take a = r.take a) : OkTo G x r' a := fun j n hj hn => by
  have e1 : r'[j]? = r[j]? := by
    have := congrArg (fun l : List Int => l[j]?) hr
    rwa [List.getElem?_take_of_lt hj, List.getElem?_take_of_lt hj] at this
  have e2 : r'.take j = r.take j := by
    have := congrArg (List.take j) hr
    rwa [List.take_take, List.take_take, Nat.min_eq_left (Nat.le_of_lt hj)] at this
  rw [e2]
  exact h j n (by omega) (by rw [← e1]; exact hn)
theorem ok_ints {G : List Pl} {x : Nat} {r : List Int} (hsm : SmG G) (hW : WfT G) (hx : x < G.length) (h : OkTo G x r r.length) : ∀ n ∈ r, 0 ≤ n ∧ n < 7 := fun n hn => by
  obtain ⟨j, hj, e⟩ := List.mem_iff_getElem.mp hn
  have e' : r[j]? = some n := by rw [List.getElem?_eq_getElem hj, e]
  have hk := h j n hj e'
  have hcl := at_lt hW hx (fun i m hi hm => h i m (by omega) hm) (Nat.le_of_lt hj)
  have := hsm.2 _ (List.mem_of_getElem? (plAt_get hcl))
  have t := tg_len (plAt G (lastF G x (r.take j)))
  have := hk.1
  have := hk.2
  omega
theorem nice_ints {r : List Int} (h : ∀ n ∈ r, 0 ≤ n ∧ n < 7) (hl : r.length ≤ 1000) : Nice 1 22000 (intsD r) := by
  refine (nice_list (k := 0) (L := 19) (n := 1000) (fun d hd => ?_) (by rw [List.length_map]; exact hl)).mono (by decide) (by decide)
  obtain ⟨q, hq, rfl⟩ := List.mem_map.mp hd
  have := h q hq
  exact nice_int (Nat.lt_trans (show q.natAbs < 1000 by omega) (by decide))
def IsDef0 (K : PySem.W.Frag) (mg : Str → Option Value) (x : Str) (st : Stmt) : Prop := ∃ f fd, Fun K x x st f fd ∧ mg x = some (.ref f)
/-- with keywords alone behind n arguments; it may raise -/
def HasXK (P : Program) (w : World) (K : PySem.W.Frag) (mg : Str → Option Value) (base : Heap) (k : Nat) (x : Str) (ps ks : List Str) (n m : Nat) (sp : Sp) : Prop :=
  ∃ f fd, FnOk P w K mg base (L2.CX P w) k f fd ps sp ∧ mg x = some (.ref f) ∧ PySem.W.keepIn K (.ref f) = true ∧ KBinds K fd ps ks (gK n m) (gK n m)
end Md


set_option Elab.async false
set_option linter.all false
set_option maxRecDepth 100000
set_option maxHeartbeats 2000000
namespace Md
open PySem L2 Evl
/-! ### numbers in lowest terms -/
theorem cast_dvd {g : Nat} {n : Int} (h : g ∣ n.natAbs) : (g : Int) ∣ n := Int.natAbs_dvd_natAbs.mp (by rw [Int.natAbs_natCast]; exact h)
def Red (p : Int × Int) : Prop := 1 ≤ p.2 ∧ Nat.gcd p.1.natAbs p.2.natAbs = 1
theorem red_small {p : Int × Int} (h : SmallN p) : Red p := ⟨h.1, h.2.2.2⟩
theorem num_pos {n d : Int} (h : 0 < d) : num n d = (n / ((Nat.gcd n.natAbs d.natAbs : Nat) : Int), d / ((Nat.gcd n.natAbs d.natAbs : Nat) : Int)) := by
  unfold num
  rw [if_neg (by omega), if_neg (by omega)]
theorem num_cross {n d : Int} (h : 0 < d) : (num n d).1 * d = n * (num n d).2 := by
  rw [num_pos h]
  show n / ((Nat.gcd n.natAbs d.natAbs : Nat) : Int) * d = n * (d / ((Nat.gcd n.natAbs d.natAbs : Nat) : Int))
  have h1 : ((Nat.gcd n.natAbs d.natAbs : Nat) : Int) ∣ n := cast_dvd (Nat.gcd_dvd_left _ _)
  have h2 : ((Nat.gcd n.natAbs d.natAbs : Nat) : Int) ∣ d := cast_dvd (Nat.gcd_dvd_right _ _)
  have g0 : ((Nat.gcd n.natAbs d.natAbs : Nat) : Int) ≠ 0 := by
    have := Nat.gcd_pos_of_pos_right n.natAbs (show 0 < d.natAbs by omega)
    omega
  generalize ((Nat.gcd n.natAbs d.natAbs : Nat) : Int) = g at h1 h2 g0
  obtain ⟨a, rfl⟩ := h1
  obtain ⟨c, rfl⟩ := h2
  rw [Int.mul_ediv_cancel_left _ g0, Int.mul_ediv_cancel_left _ g0]
  rw [Int.mul_left_comm, Int.mul_assoc]
theorem num_red {n d : Int} (h : 0 < d) : Red (num n d) := by
  rw [num_pos h]
  have hg := Nat.gcd_pos_of_pos_right n.natAbs (show 0 < d.natAbs by omega)
  obtain ⟨a, ha⟩ := Nat.gcd_dvd_left n.natAbs d.natAbs
  obtain ⟨c, hc⟩ := Nat.gcd_dvd_right n.natAbs d.natAbs
  generalize hgg : Nat.gcd n.natAbs d.natAbs = g at *
  have hac : Nat.gcd a c = 1 := by
    have := Nat.gcd_mul_left g a c
    rw [← ha, ← hc, hgg] at this
    exact Nat.eq_of_mul_eq_mul_left hg (by omega)
  have e1 : (n / (g : Int)).natAbs = a := by
    rcases Int.natAbs_eq n with z | z
    · rw [z, ha, Int.natCast_mul, Int.mul_ediv_cancel_left _ (by omega), Int.natAbs_natCast]
    · rw [z, ha, Int.natCast_mul, ← Int.mul_neg, Int.mul_ediv_cancel_left _ (by omega), Int.natAbs_neg, Int.natAbs_natCast]
  have e2 : d / (g : Int) = (c : Int) := by
    have z : d = ((d.natAbs : Nat) : Int) := by omega
    rw [z, hc, Int.natCast_mul, Int.mul_ediv_cancel_left _ (by omega)]
  have hc0 : 0 < c := by
    rcases Nat.eq_zero_or_pos c with z | z
    · subst z; omega
    · exact z
  refine ⟨?_, ?_⟩
  · show 1 ≤ d / (g : Int)
    rw [e2]
    omega
  · show Nat.gcd (n / (g : Int)).natAbs (d / (g : Int)).natAbs = 1
    rw [e1, e2, Int.natAbs_natCast]
    exact hac
theorem red_ext {p q : Int × Int} (hp : Red p) (hq : Red q) (h : p.1 * q.2 = q.1 * p.2) : p = q := by
  obtain ⟨p1, p2⟩ := hp
  obtain ⟨q1, q2⟩ := hq
  have hn : p.1.natAbs * q.2.natAbs = q.1.natAbs * p.2.natAbs := by rw [← Int.natAbs_mul, ← Int.natAbs_mul, h]
  have d1 : p.2.natAbs ∣ q.2.natAbs := by
    have c : Nat.Coprime p.2.natAbs p.1.natAbs := by rw [Nat.coprime_comm]; exact p2
    exact c.dvd_of_dvd_mul_left ⟨q.1.natAbs, by rw [hn, Nat.mul_comm]⟩
  have d2 : q.2.natAbs ∣ p.2.natAbs := by
    have c : Nat.Coprime q.2.natAbs q.1.natAbs := by rw [Nat.coprime_comm]; exact q2
    exact c.dvd_of_dvd_mul_left ⟨p.1.natAbs, by rw [← hn, Nat.mul_comm]⟩
  have e : p.2.natAbs = q.2.natAbs := Nat.dvd_antisymm d1 d2
  have e2 : p.2 = q.2 := by omega
  rw [e2] at h
  have e1 : p.1 = q.1 := Int.eq_of_mul_eq_mul_right (by omega) h
  exact Prod.ext e1 e2
theorem num_of_red {p : Int × Int} {n d : Int} (hp : Red p) (hd : 0 < d) (h : p.1 * d = n * p.2) : num n d = p := by
  refine red_ext (num_red hd) hp ?_
  have hc := num_cross (n := n) hd
  have hd' : d ≠ 0 := by omega
  refine Int.eq_of_mul_eq_mul_right hd' ?_
  calc (num n d).1 * p.2 * d = (num n d).1 * d * p.2 := by rw [Int.mul_right_comm]
    _ = n * (num n d).2 * p.2 := by rw [hc]
    _ = n * p.2 * (num n d).2 := by rw [Int.mul_right_comm]
    _ = p.1 * d * (num n d).2 := by rw [h]
    _ = p.1 * (num n d).2 * d := by rw [Int.mul_right_comm]
def plusN (a b : Int × Int) : Int × Int := num (a.1 * b.2 + b.1 * a.2) (a.2 * b.2)
def timesN (a b : Int × Int) : Int × Int := num (a.1 * b.1) (a.2 * b.2)
def sumN (l : List (Int × Int)) : Int × Int := l.foldl plusN (0, 1)
theorem mul_pos' {a b : Int} (ha : 1 ≤ a) (hb : 1 ≤ b) : 0 < a * b := Int.mul_pos (by omega) (by omega)
theorem plusN_red {a b : Int × Int} (ha : Red a) (hb : Red b) : Red (plusN a b) := num_red (mul_pos' ha.1 hb.1)
theorem timesN_red {a b : Int × Int} (ha : Red a) (hb : Red b) : Red (timesN a b) := num_red (mul_pos' ha.1 hb.1)
/-- reduced crosswise -/
def crossN (a b : Int × Int) : Int × Int :=
  (a.1 / ((Nat.gcd a.1.natAbs b.2.natAbs : Nat) : Int) * (b.1 / ((Nat.gcd b.1.natAbs a.2.natAbs : Nat) : Int)), a.2 / ((Nat.gcd b.1.natAbs a.2.natAbs : Nat) : Int) * (b.2 / ((Nat.gcd a.1.natAbs b.2.natAbs : Nat) : Int)))
theorem cop_mul {a b c d : Nat} (h1 : Nat.gcd a c = 1) (h2 : Nat.gcd a d = 1) (h3 : Nat.gcd b c = 1) (h4 : Nat.gcd b d = 1) : Nat.gcd (a * b) (c * d) = 1 := by
  have k1 : Nat.Coprime a (c * d) := Nat.Coprime.mul_right h1 h2
  have k2 : Nat.Coprime b (c * d) := Nat.Coprime.mul_right h3 h4
  exact Nat.Coprime.mul_left k1 k2
theorem cross_eq {a b : Int × Int} (ha : Red a) (hb : Red b) : crossN a b = timesN a b := by
  obtain ⟨a1, a2⟩ := a
  obtain ⟨b1, b2⟩ := b
  obtain ⟨pa, ca⟩ := ha
  obtain ⟨pb, cb⟩ := hb
  simp only at pa ca pb cb
  have l0 : 0 < Nat.gcd a1.natAbs b2.natAbs := Nat.gcd_pos_of_pos_right _ (by omega)
  have r0 : 0 < Nat.gcd b1.natAbs a2.natAbs := Nat.gcd_pos_of_pos_right _ (by omega)
  obtain ⟨x, hx⟩ : ((Nat.gcd a1.natAbs b2.natAbs : Nat) : Int) ∣ a1 := cast_dvd (Nat.gcd_dvd_left _ _)
  obtain ⟨y, hy⟩ : ((Nat.gcd a1.natAbs b2.natAbs : Nat) : Int) ∣ b2 := cast_dvd (Nat.gcd_dvd_right _ _)
  obtain ⟨u, hu⟩ : ((Nat.gcd b1.natAbs a2.natAbs : Nat) : Int) ∣ b1 := cast_dvd (Nat.gcd_dvd_left _ _)
  obtain ⟨v, hv⟩ : ((Nat.gcd b1.natAbs a2.natAbs : Nat) : Int) ∣ a2 := cast_dvd (Nat.gcd_dvd_right _ _)
  generalize hl : Nat.gcd a1.natAbs b2.natAbs = l at *
  generalize hr : Nat.gcd b1.natAbs a2.natAbs = r at *
  have li : (l : Int) ≠ 0 := by omega
  have ri : (r : Int) ≠ 0 := by omega
  have nx : a1.natAbs = l * x.natAbs := by rw [hx, Int.natAbs_mul, Int.natAbs_natCast]
  have ny : b2.natAbs = l * y.natAbs := by rw [hy, Int.natAbs_mul, Int.natAbs_natCast]
  have nu : b1.natAbs = r * u.natAbs := by rw [hu, Int.natAbs_mul, Int.natAbs_natCast]
  have nv : a2.natAbs = r * v.natAbs := by rw [hv, Int.natAbs_mul, Int.natAbs_natCast]
  have cxy : Nat.gcd x.natAbs y.natAbs = 1 := by
    have := Nat.gcd_mul_left l x.natAbs y.natAbs
    rw [← nx, ← ny, hl] at this
    exact Nat.eq_of_mul_eq_mul_left l0 (by omega)
  have cuv : Nat.gcd u.natAbs v.natAbs = 1 := by
    have := Nat.gcd_mul_left r u.natAbs v.natAbs
    rw [← nu, ← nv, hr] at this
    exact Nat.eq_of_mul_eq_mul_left r0 (by omega)
  have cxv : Nat.gcd x.natAbs v.natAbs = 1 := by
    have h1 : x.natAbs ∣ a1.natAbs := ⟨l, by rw [nx, Nat.mul_comm]⟩
    have h2 : v.natAbs ∣ a2.natAbs := ⟨r, by rw [nv, Nat.mul_comm]⟩
    exact Nat.Coprime.coprime_dvd_left h1 (Nat.Coprime.coprime_dvd_right h2 ca)
  have cuy : Nat.gcd u.natAbs y.natAbs = 1 := by
    have h1 : u.natAbs ∣ b1.natAbs := ⟨r, by rw [nu, Nat.mul_comm]⟩
    have h2 : y.natAbs ∣ b2.natAbs := ⟨l, by rw [ny, Nat.mul_comm]⟩
    exact Nat.Coprime.coprime_dvd_left h1 (Nat.Coprime.coprime_dvd_right h2 cb)
  have hv1 : 1 ≤ v := by
    rcases (show 0 < v ∨ v ≤ 0 by omega) with z | z
    · omega
    · exfalso
      have : (r : Int) * v ≤ 0 := Int.mul_nonpos_of_nonneg_of_nonpos (by omega) z
      omega
  have hy1 : 1 ≤ y := by
    rcases (show 0 < y ∨ y ≤ 0 by omega) with z | z
    · omega
    · exfalso
      have : (l : Int) * y ≤ 0 := Int.mul_nonpos_of_nonneg_of_nonpos (by omega) z
      omega
  have e : crossN (a1, a2) (b1, b2) = (x * u, v * y) := by
    unfold crossN
    simp only [hl, hr]
    rw [hx, hy, hu, hv, Int.mul_ediv_cancel_left _ li, Int.mul_ediv_cancel_left _ li, Int.mul_ediv_cancel_left _ ri, Int.mul_ediv_cancel_left _ ri]
  rw [e]
  symm
  refine num_of_red ⟨?_, ?_⟩ (mul_pos' pa pb) ?_
  · have := mul_pos' hv1 hy1
    show 1 ≤ v * y
    omega
  · show Nat.gcd (x * u).natAbs (v * y).natAbs = 1
    rw [Int.natAbs_mul, Int.natAbs_mul]
    exact cop_mul cxv cxy cuv cuy
  · show x * u * (a2 * b2) = a1 * b1 * (v * y)
    rw [hx, hy, hu, hv]
    simp only [Int.mul_assoc, Int.mul_left_comm, Int.mul_comm]
/-! ### how great they are -/
def Big (k : Nat) (p : Int × Int) : Prop := p.1.natAbs < 2 ^ k ∧ p.2.natAbs < 2 ^ k
theorem Big.mono {j k : Nat} {p : Int × Int} (h : Big j p) (hk : j ≤ k) : Big k p := ⟨Nat.lt_of_lt_of_le h.1 (Nat.pow_le_pow_right (by decide) hk), Nat.lt_of_lt_of_le h.2 (Nat.pow_le_pow_right (by decide) hk)⟩
theorem big_small {p : Int × Int} (h : SmallN p) : Big 10 p := ⟨Nat.lt_trans h.2.2.1 (by decide), Nat.lt_trans (show p.2.natAbs < 1000 by have := h.1; have := h.2.1; omega) (by decide)⟩
theorem pow_mul_lt {a b j k : Nat} (ha : a < 2 ^ j) (hb : b < 2 ^ k) : a * b < 2 ^ (j + k) := by
  rw [Nat.pow_add]
  exact Nat.mul_lt_mul'' ha hb
theorem big_plus_raw {j k : Nat} {a b : Int × Int} (ha : Big j a) (hb : Big k b) : (a.1 * b.2 + b.1 * a.2).natAbs < 2 ^ (j + k + 1) ∧ (a.2 * b.2).natAbs < 2 ^ (j + k) := by
  have h1 : (a.1 * b.2).natAbs < 2 ^ (j + k) := by rw [Int.natAbs_mul]; exact pow_mul_lt ha.1 hb.2
  have h2 : (b.1 * a.2).natAbs < 2 ^ (j + k) := by rw [Int.natAbs_mul, Nat.mul_comm]; exact pow_mul_lt ha.2 hb.1
  have h3 : (a.2 * b.2).natAbs < 2 ^ (j + k) := by rw [Int.natAbs_mul]; exact pow_mul_lt ha.2 hb.2
  refine ⟨?_, h3⟩
  rw [Nat.pow_succ]
  have := Int.natAbs_add_le (a.1 * b.2) (b.1 * a.2)
  omega
theorem big_num {k : Nat} {n d : Int} (h0 : d ≠ 0) (h1 : n.natAbs < 2 ^ k) (h2 : d.natAbs < 2 ^ k) : Big k (num n d) := ⟨Nat.lt_of_le_of_lt (num_le h0).1 h1, Nat.lt_of_le_of_lt (num_le h0).2 h2⟩
theorem big_plus {j k : Nat} {a b : Int × Int} (ra : Red a) (rb : Red b) (ha : Big j a) (hb : Big k b) : Big (j + k + 1) (plusN a b) := by
  have h := big_plus_raw ha hb
  have hp := mul_pos' ra.1 rb.1
  exact big_num (by omega) h.1 (Nat.lt_of_lt_of_le h.2 (Nat.pow_le_pow_right (by decide) (by omega)))
theorem big_times {j k : Nat} {a b : Int × Int} (ra : Red a) (rb : Red b) (ha : Big j a) (hb : Big k b) : Big (j + k) (timesN a b) := by
  have hp := mul_pos' ra.1 rb.1
  exact big_num (by omega) (by rw [Int.natAbs_mul]; exact pow_mul_lt ha.1 hb.1) (by rw [Int.natAbs_mul]; exact pow_mul_lt ha.2 hb.2)
/-! ### promises of the defs that reckon -/
def spLowest (K : PySem.W.Frag) : Sp := fun vs h Q _ => ∃ (b : Hp) (n d : Int), Ex b h ∧ DtA K b vs [.int n, .int d] ∧ 0 < d ∧ d.natAbs < 2 ^ 8000 ∧ ∀ v b' h', Gr b h b' h' → Dt K b' v (nD (num n d)) → Q v h'
def spNum2 (K : PySem.W.Frag) (g : Int × Int → Int × Int → Int × Int) : Sp := fun vs h Q _ => ∃ (b : Hp) (p q : Int × Int), Ex b h ∧ DtA K b vs [nD p, nD q] ∧ Red p ∧ Red q ∧ Big 900 p ∧ Big 900 q ∧ ∀ v b' h', Gr b h b' h' → Dt K b' v (nD (g p q)) → Q v h'
def numsD (l : List (Int × Int)) : PyData := .list (l.map nD)
def SmL (l : List (Int × Int)) : Prop := l.length ≤ 60 ∧ ∀ p ∈ l, Red p ∧ Big 10 p
def spTotal (K : PySem.W.Frag) : Sp := fun vs h Q _ => ∃ (b : Hp) (l : List (Int × Int)), Ex b h ∧ DtA K b vs [numsD l] ∧ SmL l ∧ ∀ v b' h', Gr b h b' h' → Dt K b' v (nD (sumN l)) → Q v h'
section
variable {K : PySem.W.Frag} {σ : L2.St} {b h : Hp} {te ta tb : TE} {ts : TA} {E : XK} {p q : Int × Int} {l : List (Int × Int)}
theorem ed_lowest {n d : Int} (x : Ev ta σ b (.int n)) (y : Ev tb σ b (.int d)) (h0 : 0 < d) (h1 : d.natAbs < 2 ^ 8000) : ED K (tCall (spLowest K) [] E (tCons ta (tCons tb tNil))) σ b (nD (num n d)) := fun h e _ qq =>
  eda_cons (ed_int x) (eda_cons (ed_int y) eda_nil) h e _ fun vs b2 h2 g2 hv => ⟨b2, n, d, g2.gi, by rw [List.append_nil]; exact hv, h0, h1, fun v b3 h3 g3 hv3 => qq v b3 h3 (g2.trans g3) hv3⟩
theorem ed_num2 {g : Int × Int → Int × Int → Int × Int} (y : EDA K ts σ b [nD p, nD q]) (h1 : Red p) (h2 : Red q) (h3 : Big 900 p) (h4 : Big 900 q) : ED K (tCall (spNum2 K g) [] E ts) σ b (nD (g p q)) := fun h e _ qq =>
  y h e _ fun vs b2 h2' g2 hv => ⟨b2, p, q, g2.gi, by rw [List.append_nil]; exact hv, h1, h2, h3, h4, fun v b3 h3 g3 hv3 => qq v b3 h3 (g2.trans g3) hv3⟩
theorem ed_total (y : EDA K ts σ b [numsD l]) (h1 : SmL l) : ED K (tCall (spTotal K) [] E ts) σ b (nD (sumN l)) := fun h e _ qq =>
  y h e _ fun vs b2 h2' g2 hv => ⟨b2, l, g2.gi, by rw [List.append_nil]; exact hv, h1, fun v b3 h3 g3 hv3 => qq v b3 h3 (g2.trans g3) hv3⟩
theorem ev_num0 (x : ED K te σ b (nD p)) : Ev (tOp (rIxT K) te (tC (V.int 0))) σ b (.int p.1) := ev_int (ed_ixT x ev_c (by rfl))
theorem ev_num1 (x : ED K te σ b (nD p)) : Ev (tOp (rIxT K) te (tC (V.int 1))) σ b (.int p.2) := ev_int (ed_ixT x ev_c (by rfl))
theorem cmulW {i j : Int} (hi : i.natAbs < 2 ^ 2000) (hj : j.natAbs < 2 ^ 2000) : CMulW i j := wide_mul (a := 2000) (b := 2000) hi hj (by decide) (by decide) (by decide)
theorem rGcd_ev {i j : Int} (x : Ev ta σ b (.int i)) (y : Ev tb σ b (.int j)) : Ev (tCB rGcd (tCons ta (tCons tb tNil))) σ b (.int ((Nat.gcd i.natAbs j.natAbs : Nat) : Int)) := fun h e _ q => x h e _ fun h2 e2 => y h2 (e.trans e2) _ fun h3 e3 => ⟨i, j, rfl, q h3 (e2.trans e3)⟩
end
theorem one_red : Red (0, 1) := ⟨by decide, by decide⟩
theorem sumN_take {l : List (Int × Int)} {i : Nat} {p : Int × Int} (h : l[i]? = some p) : sumN (l.take (i + 1)) = plusN (sumN (l.take i)) p := by
  unfold sumN
  rw [take_more1 h, List.foldl_append]
  rfl
theorem sumN_ok {l : List (Int × Int)} (h : ∀ p ∈ l, Red p ∧ Big 10 p) : ∀ i, i ≤ l.length → Red (sumN (l.take i)) ∧ Big (11 * i + 1) (sumN (l.take i))
  | 0, _ => by
    rw [List.take_zero]
    exact ⟨one_red, by show (0 : Int).natAbs < 2 ^ 1; decide, by show (1 : Int).natAbs < 2 ^ 1; decide⟩
  | i + 1, hi => by
    obtain ⟨p, hp⟩ : ∃ p, l[i]? = some p := ⟨_, List.getElem?_eq_getElem hi⟩
    have ih := sumN_ok h i (Nat.le_of_succ_le hi)
    have hq := h p (List.mem_of_getElem? hp)
    rw [sumN_take hp]
    exact ⟨plusN_red ih.1 hq.1, (big_plus ih.1 hq.1 ih.2 hq.2).mono (by omega)⟩
end Md


set_option Elab.async false
set_option linter.all false
set_option maxRecDepth 100000
set_option maxHeartbeats 2000000
namespace Md
open PySem L2 Evl
/-! ### isinstance of data -/
def kindD : PyData → String
  | .none => "NoneType" | .bool _ => "bool" | .int _ => "int" | .str _ => "str" | .list _ => "list" | .tuple _ => "tuple" | .dict _ => "dict"
def isNo : PyData → Bool
  | .none => true
  | _ => false
theorem Dt.ty {K : PySem.W.Frag} {H : Hp} : ∀ {d : PyData} {v : V}, Dt K H v d → TyX K H v (.type (kindD d))
  | .none, _, h => by cases h; exact .base .non
  | .bool b, _, h => by cases h; exact .base (.bl b)
  | .int i, _, h => by cases h; exact .base (.int i)
  | .str x, _, h => by cases h; exact .base (.str x)
  | .list ds, _, h => by
    cases h with
    | list h1 h2 => exact .base (.lst h1)
  | .tuple ds, _, h => by
    cases h with
    | tuple h1 h2 =>
      rcases h1 with (h1 | ⟨o, h1⟩) | ⟨o, its, n, h1, h3, _⟩
      · exact .base (.tup h1)
      · exact .fTuple h1
      · exact .kTuple h1 h3
  | .dict _, _, h => by cases h
section
variable {K : PySem.W.Frag} {σ : L2.St} {b h : Hp} {te ta tb : TE} {d : PyData} {ds : List PyData} {E : XK} {ts : TA}
theorem ev_isiD {T : String} {r : Bool} (x : ED K te σ b d) (hk : kitB (kindD d) T = some r) : Ev (tCB (rIsi K) (tCons te (tCons (tC (.ty T)) tNil))) σ b (.bl r) := fun h e _ q => x h e _ fun v b2 h2 g2 hv =>
  ⟨v, .ty T, .type (kindD d), .type T, r, rfl, .ty _, (hv.up g2.gi).ty, kit_ty hk, q h2 g2.gh⟩
theorem ev_isN (x : ED K te σ b d) {r : Bool} (hr : isNo d = r) : Ev (tOp rIsN te (tC .non)) σ b (.bl r) := fun h e _ q => x h e _ fun v b2 h2 g2 hv => by
  refine ⟨rfl, ?_⟩
  have e1 : decide (v = V.non) = r := by
    rw [← hr]
    cases d with
    | none => rw [hv.noneI] <;> rfl
    | bool k => rw [hv.boolI] <;> rfl
    | int k => rw [hv.intI] <;> rfl
    | str k => rw [hv.strI] <;> rfl
    | list k => obtain ⟨a, xs, rfl, _⟩ := hv.listI; rfl
    | tuple k => obtain ⟨a, xs, rfl, _⟩ := hv.tupleI; rfl
    | dict k => cases hv
  rw [e1]
  exact q h2 g2.gh
/-! ### the same data are found the same -/
/-- of depth below n, with lists that are short enough -/
def Dep : Nat → PyData → Prop
  | 0, _ => False
  | n + 1, .list ds => ds.length ≤ 30000 ∧ ∀ d ∈ ds, Dep n d
  | n + 1, .tuple ds => ds.length ≤ 30000 ∧ ∀ d ∈ ds, Dep n d
  | _ + 1, .dict _ => False
  | _ + 1, _ => True
def spSame (K : PySem.W.Frag) (n : Nat) : Sp := fun vs h Q _ => ∃ (b : Hp) (d : PyData), Ex b h ∧ DtA K b vs [d, d] ∧ Dep n d ∧ ∀ h', Ex h h' → Q (.bl true) h'
theorem ev_sameD {n : Nat} (y : EDA K ts σ b [d, d]) (hd : Dep n d) : Ev (tCall (spSame K n) [] E ts) σ b (.bl true) := fun h e _ q =>
  y h e _ fun vs b2 h2 g2 hv => ⟨b2, d, g2.gi, by rw [List.append_nil]; exact hv, hd, fun h3 e3 => q h3 (g2.gh.trans e3)⟩
theorem all_true (n : Nat) : ((List.range n).map fun _ => true).all id = true := by
  rw [List.all_eq_true]
  intro x hx
  obtain ⟨_, _, rfl⟩ := List.mem_map.mp hx
  rfl
theorem givenD_true (n : Nat) : givenD n (fun _ => true) (fun _ => PyData.bool true) = ((List.range n).map fun _ => true).map PyData.bool := by
  rw [givenD_all, List.map_map]
  rfl
end
/-- no level is needed for a promise that is never asked -/
theorem fn_never {P : Program} {w : World} {K : PySem.W.Frag} {mg : Str → Option Value} {base : Heap} {CX : CXT} {k : Nat} {f : Addr} {fd : FuncData} {ps : List Str} {sp : Sp} (h : ∀ vs H Q E, ¬ sp vs H Q E) : FnOk P w K mg base CX k f fd ps sp :=
  ⟨fun vs H Q E x => absurd x (h vs H Q E), fun A outer s H args us vs Q E _ _ _ _ x => absurd x (h vs H Q E)⟩
/-! ### a def behind an expression is called -/
def HeldX (P : Program) (w : World) (K : PySem.W.Frag) (mg : Str → Option Value) (base : Heap) (kk : Nat) (f : Addr) (sp : Sp) : Prop :=
  ∃ k fd ps, k ≤ kk ∧ FnOk P w K mg base (L2.CX P w) k f fd ps sp ∧ PySem.W.keepIn K (.ref f) = true ∧ Binds K fd ps []
def tCallF (M : Addr → Sp → Prop) (E : L2.St → XK) (tf : TE) (t : TA) : TE := fun σ H Q => tf σ H fun y H1 => ∃ f sp, y = V.ref f ∧ M f sp ∧ t σ H1 fun vs H2 => sp vs H2 Q (E σ)
theorem pe_callF {X : Cx} {kk : Nat} {E : L2.St → XK} {fe e : Expr} {es : List Expr} {pos : Pos} {tf : TE} {t : TA} (hr : Room kk X.A) (hx : ∀ σ, PassesAt (L2.CX X.prog X.w) X σ (E σ)) (hf : PE X fe tf) (ha : PA X (e :: es) t)
    (ht : eval (.Call fe (e :: es) [] pos) X.env = (do callWith pos (← eval fe X.env) [] (backTo pos (starEach (e :: es) X.env)) (backToKw pos (keywordEach [] X.env))) := by rfl)
    (he : starEach (e :: es) X.env = (false, eval e X.env) :: starEach es X.env := by rfl) (hpl : (backTo pos (starEach es X.env)).any (·.1) = false := by rfl) :
    PE X (.Call fe (e :: es) [] pos) (tCallF (HeldX X.prog X.w X.K X.mg X.base kk) E tf t) := by
  refine ⟨fun pins s σ H Q I h => ?_⟩
  refine PyProof.Rows.Call_ (thn (hf.run pins s σ H _ I h) fun u s1 ⟨y, H1, I1, ry, f, sp, ey, ⟨k, fd, ps, hk, F, hkp, hb⟩, q⟩ => ?_) ht
  subst ey
  obtain rfl : u = Value.ref f := ry
  exact PySem.W.callWith_K (h₀ := X.base) I1.ok.mod.kin hkp (thn (ha.run pos pins s1 σ H1 _ I1 q) fun us s2 ⟨vs, H2, I2, r, q2⟩ => ⟨I2.kIn, run_fnS F (hr.mono hk) hb (hx σ) I2 r q2⟩) he hpl
/-! ### isinstance of a caught error that has fields -/
def rIsX (K : PySem.W.Frag) (D a : Addr) (cls : Value) (d : Option Addr) : List V → Hp → VK → Prop := fun xs H Q => ∃ (c : V) (cv : Value) (b : Bool) (dd : Addr) (fs : List (Str × V)), xs = [.ref a, c] ∧ (∀ u, RelV c u → u = cv) ∧ cls = .ref D ∧ d = some dd ∧ H dd = some (.xd fs) ∧
  PySem.W.kitOne K (.ref D) cv = some b ∧ Q (.bl b) H
theorem call_isX {X : Cx} {a D : Addr} {oe : Obj} {cls : Value} {d : Option Addr} {pn : List (Addr × Obj)} (C : ExcC X.K D) (hz : Zc cls d oe) (hf : ∃ vs, oe.data = .fields vs) : CallR (X.suite a ((a, oe) :: pn)) (.builtin "isinstance") (rIsX X.K D a cls d) := by
  intro pins s σ H xs us Q I r h
  obtain ⟨c, cv, b, dd, fs, rfl, hcv, rfl, rfl, hx, e, q⟩ := h
  obtain ⟨u1, u2, rfl, r1, r2⟩ := vals2 r
  obtain rfl : u1 = Value.ref a := r1
  obtain rfl := hcv _ r2
  obtain ⟨ha, _⟩ := I.pin (a, oe) (List.mem_append_left _ List.mem_cons_self)
  obtain ⟨vs, hd⟩ := hf
  obtain ⟨mA, hns, _⟩ := I.hok dd _ hx
  obtain ⟨od, ho, _⟩ := lookIn_ns hns
  have J : PySem.W.InstAt s.heap a oe D (some od) := ⟨ha, hz.1, by unfold PySem.W.notCls; rw [hd], by rw [hz.2]; exact ho⟩
  have hcl : (PySem.W.clsIn X.K D).isSome = true := by
    obtain ⟨cd, hc, _⟩ := PySem.W.any_some C.hd
    rw [hc]
    rfl
  exact PySem.W.kia_one (PySem.W.kitx_exc hcl C.hg C.hk C.hs C.ha C.hn C.ht C.hm) I.kIn J e (fun z => nomatch z) fun tk => ⟨.bl b, H, I.kept (t' := tk) fun _ _ z => z, rfl, q⟩
theorem isX_K {X : Cx} {K : PySem.W.Frag} {a D : Addr} {oe : Obj} {cls : Value} {d : Option Addr} {pn : List (Addr × Obj)} (h : X.K = K) (C : ExcC K D) (hz : Zc cls d oe) (hf : ∃ vs, oe.data = .fields vs) : CallR (X.suite a ((a, oe) :: pn)) (.builtin "isinstance") (rIsX K D a cls d) := by
  subst h
  exact call_isX C hz hf
/-! ### a list without its last item -/
theorem cut_last {ds : List PyData} : cutD ds none (some (-1)) = ds.take (ds.length - 1) := by
  unfold cutD
  have e : HT.sIx ds.length ds.length (some (-1)) = ds.length - 1 := by
    show (if (-1 : Int) < 0 then ((-1 : Int) + (ds.length : Int)).toNat else min (-1 : Int).toNat ds.length) = _
    rw [if_pos (by decide)]
    omega
  rw [e, HT.sIx_none, List.drop_zero, Nat.sub_zero]
/-! ### gains and chances on a way -/
def gainsF (G : List Pl) (x : Nat) (r : List Int) : List (Int × Int) := ((pathF G x r).take r.length).map fun y => (plAt G y).gain
def chN : Pl → Int → Option (Int × Int)
  | .draw _ bs, n => some (bs.getD n.toNat ((1, 1), 0)).1
  | .side _ _ _, _ => none
def chStep (p : Pl) (n : Int) (c : Int × Int) : Int × Int := match chN p n with
  | some q => timesN c q
  | none => c
def chanceF (G : List Pl) (x : Nat) (r : List Int) : Nat → Int × Int
  | 0 => (1, 1)
  | i + 1 => chStep (plAt G (lastF G x (r.take i))) (r.getD i 0) (chanceF G x r i)
theorem wf_gain {many : Int} {p : Pl} (h : WfP many p) : SmallN p.gain := by
  cases p with
  | draw g bs => exact h.1
  | side g o ts => exact h.1
theorem plAt_wf {G : List Pl} (h : WfG G) {x : Nat} (hx : x < G.length) : WfP (G.length : Int) (plAt G x) := h.2.2 _ (List.mem_of_getElem? (plAt_get hx))
theorem wf_chance {many : Int} {g : Int × Int} {bs : List ((Int × Int) × Int)} (h : WfP many (.draw g bs)) {q : (Int × Int) × Int} (hq : q ∈ bs) : SmallN q.1 := by
  obtain ⟨_, h1, h2, _, ws, hw, hr, he⟩ := h
  have : q.1 ∈ bs.map (·.1) := List.mem_map.mpr ⟨q, hq, rfl⟩
  rw [he] at this
  obtain ⟨w, hw2, e⟩ := List.mem_map.mp this
  rw [← e]
  have s1 := sum_small hr
  have s2 := sum_pos hr
  have := hr w hw2
  exact num_small (by omega) (by omega) (by omega)
theorem one_one : Red (1, 1) := ⟨by decide, by decide⟩
theorem chN_ok {many : Int} {p : Pl} (h : WfP many p) {n : Int} (hn : 0 ≤ n ∧ n < (p.tg.length : Int)) {q : Int × Int} (e : chN p n = some q) : SmallN q := by
  cases p with
  | side g o ts => cases e
  | draw g bs =>
    have hl : n.toNat < bs.length := by
      have : (bs.map (·.2)).length = bs.length := List.length_map _
      have h2 : n < ((bs.map (·.2)).length : Int) := hn.2
      omega
    have e' : (bs.getD n.toNat ((1, 1), 0)).1 = q := Option.some.inj e
    rw [List.getD_eq_getElem?_getD, List.getElem?_eq_getElem hl] at e'
    rw [← e']
    exact wf_chance h (List.getElem_mem hl)
theorem chance_ok {G : List Pl} (h : WfG G) {x : Nat} {r : List Int} (hx : x < G.length) : ∀ i, i ≤ r.length → OkTo G x r i → Red (chanceF G x r i) ∧ Big (10 * i + 1) (chanceF G x r i)
  | 0, _, _ => ⟨one_one, by show (1 : Int).natAbs < 2 ^ 1; decide, by show (1 : Int).natAbs < 2 ^ 1; decide⟩
  | i + 1, hi, ho => by
    have ih := chance_ok h hx i (Nat.le_of_succ_le hi) fun j n hj hn => ho j n (by omega) hn
    have hcl := at_lt (wfT_of h) hx (i := i) (r := r) (fun j n hj hn => ho j n (by omega) hn) (Nat.le_of_succ_le hi)
    have hn : r[i]? = some (r.getD i 0) := by rw [List.getD_eq_getElem?_getD, List.getElem?_eq_getElem hi]; rfl
    have hk := ho i _ (Nat.lt_succ_self i) hn
    show Red (chStep _ _ _) ∧ Big (10 * (i + 1) + 1) (chStep _ _ _)
    unfold chStep
    cases e : chN (plAt G (lastF G x (r.take i))) (r.getD i 0) with
    | none => exact ⟨ih.1, ih.2.mono (by omega)⟩
    | some q =>
      have hq := chN_ok (plAt_wf h hcl) hk e
      exact ⟨timesN_red ih.1 (red_small hq), (big_times ih.1 (red_small hq) ih.2 (big_small hq)).mono (by omega)⟩
theorem gains_ok {G : List Pl} (h : WfG G) {x : Nat} {r : List Int} (hx : x < G.length) (ho : OkTo G x r r.length) (hl : r.length ≤ 60) : SmL (gainsF G x r) := by
  refine ⟨by unfold gainsF; rw [List.length_map, List.length_take]; omega, fun p hp => ?_⟩
  obtain ⟨y, hy, rfl⟩ := List.mem_map.mp hp
  obtain ⟨j, hj, e⟩ := List.mem_iff_getElem.mp (List.mem_of_mem_take hy)
  rw [pathF_len] at hj
  have e2 : (pathF G x r)[j]? = some y := by rw [List.getElem?_eq_getElem (by rw [pathF_len]; exact hj), e]
  rw [pathF_get G r x j (by omega)] at e2
  have := at_lt (wfT_of h) hx (i := j) (r := r) (fun k n hk hn => ho k n (by omega) hn) (by omega)
  rw [Option.some.inj e2] at this
  have w := wf_gain (plAt_wf h this)
  exact ⟨red_small w, big_small w⟩
/-! ### promises -/
/-- a drawn way -/
def spWay (K : PySem.W.Frag) : Sp := fun vs h Q _ => ∃ (b : Hp) (G : List Pl) (x : Nat) (ds : List Int), Ex b h ∧ DtA K b vs [gameD G, .int (x : Int), .list (ds.map PyData.int)] ∧ WfG G ∧ x < G.length ∧ (∀ d ∈ ds, 0 ≤ d ∧ d < 1000) ∧ ds.length ≤ 1000 ∧
  ∀ v b' h' r, Gr b h b' h' → r.length = ds.length → OkTo G x r r.length → Dt K b' v (intsD r) → Q v h'
/-- something about a way, or NoBranch -/
def spOnWay (K : PySem.W.Frag) (C : Addr) (F : List Pl → Nat → List Int → PyData) : Sp := fun vs h Q E => ∃ (b : Hp) (G : List Pl) (x : Nat) (r : List Int), Ex b h ∧ DtA K b vs [gameD G, .int (x : Int), intsD r] ∧ WfG G ∧ x < G.length ∧ r.length ≤ 60 ∧
  (OkTo G x r r.length → ∀ v b' h', Gr b h b' h' → Dt K b' v (F G x r) → Q v h') ∧
  (∀ j n, r[j]? = some n → OkTo G x r j → ¬ okB G (lastF G x (r.take j)) n → NBAt h C (j : Int) E)
def wayD (G : List Pl) (x : Nat) (r : List Int) : PyData := natsD (pathF G x r)
def sumD (G : List Pl) (x : Nat) (r : List Int) : PyData := nD (sumN (gainsF G x r))
def chanceD (G : List Pl) (x : Nat) (r : List Int) : PyData := nD (chanceF G x r r.length)
def toldD (n : Nat) : List Pl → Nat → List Int → PyData := if n = 0 then wayD else if n = 1 then sumD else chanceD
def refusedD (j : Nat) : PyData := .list [.str "refused", .int (j : Int), .bool true]
def spTold4 (K : PySem.W.Frag) : Sp := fun vs h Q _ => ∃ (b : Hp) (m : Nat) (G : List Pl) (x : Nat) (r : List Int), Ex b h ∧ DtA K b vs [.int (m : Int), gameD G, .int (x : Int), intsD r] ∧ m < 3 ∧ WfG G ∧ x < G.length ∧ r.length ≤ 60 ∧
  (OkTo G x r r.length → ∀ v b' h', Gr b h b' h' → Dt K b' v (toldD m G x r) → Q v h') ∧
  (∀ j n, r[j]? = some n → OkTo G x r j → ¬ okB G (lastF G x (r.take j)) n → ∀ v b' h', Gr b h b' h' → Dt K b' v (refusedD j) → Q v h')
end Md
namespace Md
open PySem L2 Evl
theorem map_getDn {α β : Type} (l : List α) (d : α) (f : α → β) : (List.range l.length).map (fun i => f (l.getD i d)) = l.map f := by
  refine List.ext_getElem? fun i => ?_
  rw [List.getElem?_map, List.getElem?_map]
  by_cases h : i < l.length
  · rw [List.getElem?_range h, List.getElem?_eq_getElem h]
    show some (f (l.getD i d)) = some (f l[i])
    rw [List.getD_eq_getElem?_getD, List.getElem?_eq_getElem h]
    rfl
  · rw [List.getElem?_eq_none (by rw [List.length_range]; omega), List.getElem?_eq_none (by omega)]
    rfl
/-- [te for j in a list of data] -/
theorem en_mapD {K : PySem.W.Frag} {σ : L2.St} {b : Hp} {tl te : TE} {j : Nat} {vs : List Nat} {α : Type} {D f : α → PyData} {l : List α} (x : ED K tl σ b (.list (l.map D))) (hz : l.length ≤ 40000) (hw : ∀ x, wipe ((wipe σ vs).set j (some x)) vs = wipe σ vs)
    (hs : ∀ y ∈ l, ∀ v b2, Ex b b2 → Dt K b2 v (D y) → ED K te ((wipe σ vs).set j (some v)) b2 (f y)) : EN K (tLc (iList K tl) (gName j) tYes te vs) σ b (l.map f) := by
  by_cases hl : l = []
  · subst hl
    exact en_lcL x hz (fun _ => true) (fun _ => .none) hw fun i d v b2 e hd _ => by
      rw [List.map_nil] at hd
      simp at hd
  · obtain ⟨a0, ha0⟩ : ∃ a0, a0 ∈ l := List.exists_mem_of_ne_nil l hl
    have e : givenD (l.map D).length (fun _ => true) (fun i => f (l.getD i a0)) = l.map f := by
      rw [givenD_all, List.length_map, map_getDn]
    rw [← e]
    refine en_lcL x (by rw [List.length_map]; exact hz) (fun _ => true) _ hw fun i d v b2 e hd hv => ⟨et_yes, fun _ => ?_⟩
    rw [List.getElem?_map] at hd
    cases z : l[i]? with
    | none => rw [z] at hd; cases hd
    | some y =>
      rw [z] at hd
      cases hd
      have e2 : l.getD i a0 = y := by rw [List.getD_eq_getElem?_getD, z] <;> rfl
      rw [e2]
      exact hs y (List.mem_of_getElem? z) v b2 e hv
theorem natsD_map (l : List Nat) : natsD l = .list (l.map fun x : Nat => PyData.int (x : Int)) := rfl
theorem cut_nats (l : List Nat) : cutD (l.map fun x : Nat => PyData.int (x : Int)) none (some (-1)) = (l.take (l.length - 1)).map fun x : Nat => PyData.int (x : Int) := by
  rw [cut_last, List.length_map, List.map_take]
theorem path_mem_lt {G : List Pl} (h : WfT G) {x : Nat} {r : List Int} (hx : x < G.length) (ho : OkTo G x r r.length) : ∀ y ∈ pathF G x r, y < G.length := fun y hy => by
  obtain ⟨j, hj, e⟩ := List.mem_iff_getElem.mp hy
  rw [pathF_len] at hj
  have e2 : (pathF G x r)[j]? = some y := by rw [List.getElem?_eq_getElem (by rw [pathF_len]; exact hj), e]
  rw [pathF_get G r x j (by omega)] at e2
  have := at_lt h hx (i := j) (r := r) (fun k n hk hn => ho k n (by omega) hn) (by omega)
  rw [Option.some.inj e2] at this
  exact this
/-- [game[x][0] for x in places[:-1]] -/
theorem ed_gains {K : PySem.W.Frag} {σ : L2.St} {b : Hp} {tg tp : TE} {j : Nat} {vs : List Nat} {G : List Pl} {x : Nat} {r : List Int} (h : WfT G) (hx : x < G.length) (ho : OkTo G x r r.length) (hl : r.length ≤ 1000) (hp : ED K tp σ b (natsD (pathF G x r)))
    (hg : ∀ v b2, Ex b b2 → ED K tg ((wipe σ vs).set j (some v)) b2 (gameD G)) (hw : ∀ x, wipe ((wipe σ vs).set j (some x)) vs = wipe σ vs) (hj : ∀ v, ((wipe σ vs).set j (some v))[j]? = some (some v)) :
    ED K (tLc (iList K (tSl (rSlL K) tp tNoPart (tPart (tUn (rU fun i => V.int (-i)) (tC (V.int 1)))))) (gName j) tYes (tOp (rIxT K) (tOp (rIxL K) tg (tVar j)) (tC (V.int 0))) vs) σ b (numsD (gainsF G x r)) := by
  have hs := EN.ed (en_sl (th := tPart (tUn (rU fun i => V.int (-i)) (tC (V.int 1)))) (hi := some (-1)) hp eo_none (eo_some (ev_un ev_c ru_neg)))
  rw [cut_nats, pathF_len, Nat.add_sub_cancel] at hs
  have e : (gainsF G x r).map nD = ((pathF G x r).take r.length).map fun y => nD (plAt G y).gain := by
    unfold gainsF
    rw [List.map_map]
    rfl
  unfold numsD
  rw [e]
  refine EN.ed (en_mapD (D := fun x : Nat => PyData.int (x : Int)) hs (by rw [List.length_take]; omega) hw fun y hy v b2 e2 hv => ?_)
  have hyl := path_mem_lt h hx ho y (List.mem_of_mem_take hy)
  obtain rfl := hv.intI
  exact ed_ixT (ed_ixL (hg _ b2 e2) (ev_var (hj _)) (game_at (plAt_get hyl))) ev_c (by rfl)
theorem ed_wayV {K : PySem.W.Frag} {σ : L2.St} {b : Hp} {ts : TA} {E : XK} {C : Addr} {F : List Pl → Nat → List Int → PyData} {G : List Pl} {x : Nat} {r : List Int} (y : EDA K ts σ b [gameD G, .int (x : Int), intsD r]) (h1 : WfG G) (h3 : x < G.length) (h4 : r.length ≤ 60) (h5 : OkTo G x r r.length) :
    ED K (tCall (spOnWay K C F) [] E ts) σ b (F G x r) := fun h e _ q =>
  y h e _ fun vs b2 h2' g2 hv => ⟨b2, G, x, r, g2.gi, by rw [List.append_nil]; exact hv, h1, h3, h4, fun _ v b3 h3 g3 hv3 => q v b3 h3 (g2.trans g3) hv3, fun j n hj _ hb => absurd (h5 j n (List.getElem?_eq_some_iff.mp hj).1 hj) hb⟩
theorem ex_way {K : PySem.W.Frag} {σ : L2.St} {b : Hp} {ts : TA} {E : XK} {G : List Pl} {x : Nat} {ds : List Int} (y : EDA K ts σ b [gameD G, .int (x : Int), .list (ds.map PyData.int)]) (h1 : WfG G) (h3 : x < G.length) (h4 : ∀ d ∈ ds, 0 ≤ d ∧ d < 1000) (h5 : ds.length ≤ 1000) :
    EX K (tCall (spWay K) [] E ts) σ b (fun d => ∃ r, r.length = ds.length ∧ OkTo G x r r.length ∧ d = intsD r) := fun h e _ q =>
  y h e _ fun vs b2 h2' g2 hv => ⟨b2, G, x, ds, g2.gi, by rw [List.append_nil]; exact hv, h1, h3, h4, h5, fun v b3 h3 r g3 hl ho hv3 => q v b3 h3 (intsD r) (g2.trans g3) ⟨r, hl, ho, rfl⟩ hv3⟩
end Md
namespace Md
open PySem L2 Evl
/-- what is asked of a caught NoBranch -/
structure NBIs (K : PySem.W.Frag) (mg : Str → Option Value) (C cg : Addr) : Prop where
  mG : mg "GainError" = some (.ref cg)
  mV : mg "ValueError" = none
  ec : ExcC K C
  kG : PySem.W.kitOne K (.ref C) (.ref cg) = some true
  kV : PySem.W.kitOne K (.ref C) (.type "ValueError") = some true
section
variable {K : PySem.W.Frag} {σ : L2.St} {b h : Hp} {te ta : TE} {C cg a : Addr} {cls : Value} {d : Option Addr} {dd : Addr} {fs : List (Str × V)}
theorem ev_xf {f : Str} {v : V} (x : Ev te σ b (.ref a)) (hc : cls = .ref C) (hd : d = some dd) (hb : b dd = some (.xd fs)) (hl : fs.lookup f = some v) : Ev (tXf a cls d C f te) σ b v := fun h e _ q => x h e _ fun h2 e2 => ⟨rfl, hc, dd, fs, v, hd, (e.trans e2) _ _ hb, hl, q h2 e2⟩
theorem ev_isX {c : V} {cv : Value} (x : Ev te σ b (.ref a)) (hcv : ∀ u, RelV c u → u = cv) (hc : cls = .ref C) (hd : d = some dd) (hb : b dd = some (.xd fs)) {r : Bool} (hk : PySem.W.kitOne K (.ref C) cv = some r) : Ev (tCB (rIsX K C a cls d) (tCons te (tCons (tC c) tNil))) σ b (.bl r) :=
  fun h e _ q => x h e _ fun h2 e2 => ⟨c, cv, r, dd, fs, rfl, hcv, hc, hd, (e.trans e2) _ _ hb, hk, q h2 e2⟩
/-- ['refused', e.at, isinstance(e, GainError) and isinstance(e, ValueError)] -/
def tRefused (K : PySem.W.Frag) (C cg : Addr) (i : Nat) (a : Addr) (cls : Value) (d : Option Addr) : TS := tRet (tLst (tCons (tC (V.str "refused")) (tCons (tXf a cls d C "at" (tVar i)) (tCons (tAndV (tCB (rIsX K C a cls d) (tCons (tVar i) (tCons (tC (.ref cg)) tNil))) (tCB (rIsX K C a cls d) (tCons (tVar i) (tCons (tC (.ty "ValueError")) tNil)))) tNil))))
theorem s_refused {mg : Str → Option Value} {i j : Nat} {D : Ends} {h0 : Hp} (NI : NBIs K mg C cg) (eb : Ex b h0) (e : Ex h0 h) (hs : σ[i]? = some (some (.ref a))) (hc : cls = .ref C) (hd : d = some dd) (n0 : h0 dd = none) (hx : h dd = some (.xd [(("at" : Str), .int (j : Int))]))
    (k : ∀ v b' h', Gr b h0 b' h' → Dt K b' v (refusedD j) → D.rt v h') : tRefused K C cg i a cls d D σ h := by
  have g : Gr b h0 (upd b dd (.xd [(("at" : Str), .int (j : Int))])) h := (Gr.stay eb e).tell n0 (none_of eb n0) hx
  refine r_ret (K := K) (d := refusedD j) (EN.ed (en_lst (eda_cons (ed_str ev_c) (eda_cons (ed_int (ev_xf (v := .int (j : Int)) (ev_var hs) hc hd upd_same rfl)) (eda_cons (ed_bool (k := true) (ev_andV (b := true) (ev_isX (c := .ref cg) (cv := .ref cg) (r := true) (ev_var hs) (fun u hu => hu) hc hd upd_same NI.kG) fun _ => ev_isX (c := .ty "ValueError") (cv := .type "ValueError") (r := true) (ev_var hs) (fun u hu => hu) hc hd upd_same NI.kV)) eda_nil))) (by show 3 ≤ 100000; decide))) g.gi fun v b' h' g2 hv => k v b' h' (g.trans g2) hv
end
end Md
namespace Md
open PySem L2 Evl
section
variable {K : PySem.W.Frag} {σ : L2.St} {b : Hp} {ts : TA} {E : XK} {G : List Pl} {x m : Nat} {r : List Int}
theorem ed_told4 (y : EDA K ts σ b [.int (m : Int), gameD G, .int (x : Int), intsD r]) (h0 : m < 3) (h1 : WfG G) (h3 : x < G.length) (h4 : r.length ≤ 60) (h5 : OkTo G x r r.length) : ED K (tCall (spTold4 K) [] E ts) σ b (toldD m G x r) := fun h e _ q =>
  y h e _ fun vs b2 h2' g2 hv => ⟨b2, m, G, x, r, g2.gi, by rw [List.append_nil]; exact hv, h0, h1, h3, h4, fun _ v b3 h3 g3 hv3 => q v b3 h3 (g2.trans g3) hv3, fun j n hj _ hb => absurd (h5 j n (List.getElem?_eq_some_iff.mp hj).1 hj) hb⟩
theorem ed_told4R {j : Nat} {n : Int} (y : EDA K ts σ b [.int (m : Int), gameD G, .int (x : Int), intsD r]) (h0 : m < 3) (h1 : WfG G) (h3 : x < G.length) (h4 : r.length ≤ 60) (hj : r[j]? = some n) (ho : OkTo G x r j) (hb : ¬ okB G (lastF G x (r.take j)) n) :
    ED K (tCall (spTold4 K) [] E ts) σ b (refusedD j) := fun h e _ q =>
  y h e _ fun vs b2 h2' g2 hv => ⟨b2, m, G, x, r, g2.gi, by rw [List.append_nil]; exact hv, h0, h1, h3, h4, fun hok => absurd (hok j n (List.getElem?_eq_some_iff.mp hj).1 hj) hb, fun j' n' hj' ho' hb' v b3 h3 g3 hv3 => by
    have : j' = j := by
      rcases Nat.lt_trichotomy j' j with z | z | z
      · exact absurd (ho j' n' z hj') hb'
      · exact z
      · exact absurd (ho' j n z hj) hb
    rw [this] at hv3
    exact q v b3 h3 (g2.trans g3) hv3⟩
end
theorem dep_int (n : Nat) (i : Int) : Dep (n + 1) (.int i) := trivial
theorem dep_str (n : Nat) (i : Str) : Dep (n + 1) (.str i) := trivial
theorem dep_bool (n : Nat) (i : Bool) : Dep (n + 1) (.bool i) := trivial
theorem dep_nats (n : Nat) {l : List Nat} (h : l.length ≤ 30000) : Dep (n + 2) (natsD l) := ⟨by rw [List.length_map]; exact h, fun d hd => by
  obtain ⟨y, _, rfl⟩ := List.mem_map.mp hd
  exact dep_int _ _⟩
theorem dep_ints (n : Nat) {l : List Int} (h : l.length ≤ 30000) : Dep (n + 2) (intsD l) := ⟨by rw [List.length_map]; exact h, fun d hd => by
  obtain ⟨y, _, rfl⟩ := List.mem_map.mp hd
  exact dep_int _ _⟩
theorem dep_num (n : Nat) (p : Int × Int) : Dep (n + 2) (nD p) := ⟨by show 2 ≤ 30000; decide, fun d hd => by
  simp only [List.mem_cons, List.not_mem_nil, or_false] at hd
  rcases hd with rfl | rfl
  · exact dep_int _ _
  · exact dep_int _ _⟩
theorem dep_refused (n : Nat) (j : Nat) : Dep (n + 2) (refusedD j) := ⟨by show 3 ≤ 30000; decide, fun d hd => by
  simp only [List.mem_cons, List.not_mem_nil, or_false] at hd
  rcases hd with rfl | rfl | rfl
  · exact dep_str _ _
  · exact dep_int _ _
  · exact dep_bool _ _⟩
theorem dep_told (m : Nat) {G : List Pl} {x : Nat} {r : List Int} (h : r.length ≤ 60) : Dep 2 (toldD m G x r) := by
  unfold toldD
  split
  · exact dep_nats 0 (by rw [pathF_len]; omega)
  · split
    · exact dep_num 0 _
    · exact dep_num 0 _
end Md
namespace Md
open PySem L2 Evl
theorem kit_sub {K : PySem.W.Frag} {C G : Addr} (hd : PySem.W.hasDictIn K G = true) (ht : PySem.W.typeIn K (.ref G) = some (.type "type")) (hs : PySem.W.subIn K (.ref C) (.ref G) = some true) : PySem.W.kitOne K (.ref C) (.ref G) = some true := by
  unfold PySem.W.kitOne
  split
  · rfl
  · obtain ⟨cd, hc, _⟩ := PySem.W.any_some hd
    show (if ((PySem.W.clsIn K G).isSome && PySem.W.typeIn K (.ref G) == some (.type "type")) = true then PySem.W.subIn K (.ref C) (.ref G) else none) = some true
    rw [hc, ht, hs]
    rfl
theorem kit_subT {K : PySem.W.Frag} {C : Addr} {T : String} (hm : PySem.W.kitMeta T = true) (hs : PySem.W.subIn K (.ref C) (.type T) = some true) : PySem.W.kitOne K (.ref C) (.type T) = some true := by
  unfold PySem.W.kitOne
  split
  · rfl
  · show (if PySem.W.kitMeta T = true then PySem.W.subIn K (.ref C) (.type T) else none) = some true
    rw [if_pos hm, hs]
end Md


set_option Elab.async false
set_option linter.all false
set_option maxRecDepth 100000
set_option maxHeartbeats 2000000
namespace Md
open PySem L2 Evl
/-! ### numbers as rationals -/
def qN (p : Int × Int) : Rat := (p.1 : Rat) / (p.2 : Rat)
theorem cast_ne {z : Int} (h : z ≠ 0) : (z : Rat) ≠ 0 := fun e => h (Rat.intCast_inj.mp (by rw [e]; rfl))
theorem red_ne {p : Int × Int} (h : Red p) : (p.2 : Rat) ≠ 0 := cast_ne (by have := h.1; omega)
theorem div_eq_of {a b c d : Rat} (hb : b ≠ 0) (hd : d ≠ 0) (h : a * d = c * b) : a / b = c / d := by grind
theorem cross_of_div {a b c d : Rat} (hb : b ≠ 0) (hd : d ≠ 0) (h : a / b = c / d) : a * d = c * b := by grind
theorem q_inj {p r : Int × Int} (hp : Red p) (hr : Red r) (h : qN p = qN r) : p = r := by
  refine red_ext hp hr ?_
  have h1 := cross_of_div (red_ne hp) (red_ne hr) h
  rw [← Rat.intCast_mul, ← Rat.intCast_mul] at h1
  exact Rat.intCast_inj.mp h1
theorem q_num {n d : Int} (h : 0 < d) : qN (num n d) = (n : Rat) / (d : Rat) := by
  refine div_eq_of (red_ne (num_red h)) (cast_ne (by omega)) ?_
  rw [← Rat.intCast_mul, ← Rat.intCast_mul, num_cross h]
theorem q_plus {a b : Int × Int} (ha : Red a) (hb : Red b) : qN (plusN a b) = qN a + qN b := by
  unfold plusN
  rw [q_num (mul_pos' ha.1 hb.1), Rat.intCast_add, Rat.intCast_mul, Rat.intCast_mul, Rat.intCast_mul]
  have h1 := red_ne ha
  have h2 := red_ne hb
  unfold qN
  grind
theorem q_times {a b : Int × Int} (ha : Red a) (hb : Red b) : qN (timesN a b) = qN a * qN b := by
  unfold timesN
  rw [q_num (mul_pos' ha.1 hb.1), Rat.intCast_mul, Rat.intCast_mul]
  have h1 := red_ne ha
  have h2 := red_ne hb
  unfold qN
  grind
theorem q_zero : qN (0, 1) = 0 := by
  unfold qN
  rw [Rat.div_def]
  exact Rat.zero_mul _
theorem sumN_from : ∀ (l : List (Int × Int)) (a : Int × Int), Red a → (∀ p ∈ l, Red p) → Red (l.foldl plusN a) ∧ qN (l.foldl plusN a) = qN a + (l.map qN).sum
  | [], a, ha, _ => ⟨ha, by rw [List.map_nil, List.sum_nil, Rat.add_zero] <;> rfl⟩
  | p :: l, a, ha, h => by
    have hp := h p List.mem_cons_self
    have ih := sumN_from l (plusN a p) (plusN_red ha hp) fun q hq => h q (List.mem_cons_of_mem _ hq)
    refine ⟨ih.1, ?_⟩
    show qN (l.foldl plusN (plusN a p)) = _
    rw [ih.2, q_plus ha hp, List.map_cons, List.sum_cons, Rat.add_assoc]
theorem q_sum {l : List (Int × Int)} (h : ∀ p ∈ l, Red p) : qN (sumN l) = (l.map qN).sum := by
  have := (sumN_from l (0, 1) one_red h).2
  rw [q_zero, Rat.zero_add] at this
  exact this
theorem sumN_red {l : List (Int × Int)} (h : ∀ p ∈ l, Red p) : Red (sumN l) := (sumN_from l (0, 1) one_red h).1
/-- divided -/
def divN (a b : Int × Int) : Int × Int := num (a.1 * b.2) (a.2 * b.1)
theorem divN_red {a b : Int × Int} (ha : Red a) (hb : 0 < b.1) : Red (divN a b) := num_red (Int.mul_pos (by have := ha.1; omega) hb)
theorem q_div {a b : Int × Int} (ha : Red a) (hb : 0 < b.1) (hb2 : Red b) : qN (divN a b) = qN a / qN b := by
  unfold divN
  rw [q_num (Int.mul_pos (by have := ha.1; omega) hb), Rat.intCast_mul, Rat.intCast_mul]
  have h1 := red_ne ha
  have h2 := red_ne hb2
  have h3 : (b.1 : Rat) ≠ 0 := cast_ne (by omega)
  unfold qN
  grind
theorem sum_dup (l : List Rat) : (l ++ l).sum = 2 * l.sum := by
  rw [List.sum_append]
  grind
end Md


set_option Elab.async false
set_option linter.all false
set_option maxRecDepth 100000
set_option maxHeartbeats 4000000
namespace Md
open PySem PySem.Spec PyProof.Rows L2 Evl
/-! ### an own plain error, made without arguments -/
theorem pmk_own0 {X : Cx} {C : Addr} {ms : List Value} {B ni ii : String} {x : Str} {p pos : Pos} (F : ExcBaseFacts B ni ii ms) (ex : PySem.W.excIn X.K C ms ni = true) (hm : X.mg x = some (.ref C)) (hk : PySem.W.keepIn X.K (.ref C) = true)
    (hr : Raises X (.ref C)) (hg : Gl X x) (hd : (x == ("__debug__" : Str)) = false := by decide) : PMk X (.Call (.Name x p) [] [] pos) (fun _ H Q => Q (.ref C) none H) := fun pins s σ H Q I h => by
  refine wpAny_Call_Name_kw (ld_glob I hg hm (PySem.W.callWith_K0 I.kIn hk ?_) hd)
  obtain ⟨_, _, _, _, _, _, _, _, _, _, _, _, _, _, _, _, _, g1, g2, g3⟩ := exc_obj I.kIn ex
  exact wpAny_call_exc_subT F g3.2 g1 g2 g3.1 (fun _ _ made => mk_of I made hr h (I.hok.gone made.new)) (Nat.zero_le _)
/-! ### try, with a clause that names the error and one that does not -/
/-- what the second clause wishes -/
def wSnd (K : PySem.W.Frag) (c : Value) (ts : Addr → Value → Option Addr → TS) (D : Ends) : WX := fun cls d σ H => PySem.W.exmOne K cls c = some true ∧ ∀ a, H a = none → ts a cls d D σ H
theorem ps_try_two {X : Cx} {x1 x2 n : Str} {c1 c2 : Value} {i : Nat} {body r1 r2 : List Stmt} {s1 s2 : Stmt} {p1 p2 q1 q2 pos : Pos} {tb : WX → TS} {t1 t2 : Addr → Value → Option Addr → TS} (hs : X.stack = X.env :: X.outer) (hf : X.env.frame = some X.env.locals)
    (hN : X.N.Nodup) (hi : X.N[i]? = some n) (hl : X.env.kindOf n = some .local) (n1 : Names X x1 c1) (n2 : Names X x2 c2)
    (hb : ∀ (W : WX) (pn : List (Addr × Obj)) (xe : Value → Shared → Prop), Takes (X.tr pn xe) W → PassesOwn (model X.prog X.w) X.A X.env xe → PSs (X.tr pn xe) body (tb W))
    (k1 : ∀ (a : Addr) (oe : Obj) (cls : Value) (d : Option Addr) (pn : List (Addr × Obj)), Zc cls d oe → (∃ vs, oe.data = .fields vs) → PSs (X.suite a ((a, oe) :: pn)) (s1 :: r1) (t1 a cls d))
    (k2 : ∀ (a : Addr) (oe : Obj) (cls : Value) (d : Option Addr) (pn : List (Addr × Obj)), Zc cls d oe → (∃ vs, oe.data = .fields vs) → PSs (X.suite a ((a, oe) :: pn)) (s2 :: r2) (t2 a cls d)) :
    PS X (.Try body [.ExceptHandler (some (.Name x1 p1)) (some n) (s1 :: r1) q1, .ExceptHandler (some (.Name x2 p2)) none (s2 :: r2) q2] [] [] pos) (fun D σ H => tb (wAs X.K c1 i t1 (wSnd X.K c2 t2 D) D) D σ H) := by
  refine ⟨fun pins s σ H D I h => wpAny_Try_except ?_⟩
  have ok := I.ok
  have fr : X.A.frames = some (X.env :: X.outer) := by rw [ok.frames, hs]
  let land : Value → Shared → Prop := fun e z1 => wpAny (model X.prog X.w) X.A (noteFrame e X.env) (fun _ z2 => wpAny (model X.prog X.w) X.A (setFlight e none) (fun _ z3 =>
    wpAny (model X.prog X.w) X.A (handleBy e X.env [.ExceptHandler (some (.Name x1 p1)) (some n) (s1 :: r1) q1, .ExceptHandler (some (.Name x2 p2)) none (s2 :: r2) q2]) (SP X pins D) X.xe z3) X.xe z2) X.xe z1
  refine wpAny_mono ((hb (wAs X.K c1 i t1 (wSnd X.K c2 t2 D) D) (X.pn ++ pins) land (fun u s' got => ?_) PassesOwn.looking).run [] s σ H D (I.toTry _) h) (fun f z sp => ?_) (fun _ _ he => he)
  · obtain ⟨a, B, sI, pn', σ', H', cls, d, rfl, JT, nb, up, sky, na, os, ag, bo, hb1, yes, no⟩ := got
    have J : Inv X pins σ' H' sI := JT.ofTry ok
    have sk : Sky B (X.env :: X.outer) a (Zc cls d) X.env.locals s'.heap := by rw [← hs]; exact sky
    show wpAny (model X.prog X.w) X.A (noteFrame (.ref a) X.env) _ _ _
    refine Sky.land Zc.steady fr hf sk fun hA fl upA => ?_
    have JA : Inv X pins σ' H' { s' with heap := hA } := J.landed nb fl.1 (up.trans upA) os ag
    obtain ⟨oA, vA, gA, zA, dA⟩ := fl.there
    have off : ∀ {hh : Heap} {o : Obj} {vs : Array Value}, hh.FunFrames B (X.env :: X.outer) → hh.get? a = some o → o.data = .fields vs → a ∉ frs (X.env :: X.outer) := fun ff e dd m => by
      obtain ⟨_, o2, e2, bad⟩ := ff.mem m
      rw [e] at e2
      cases e2
      exact bad _ dd
    have nf := off fl.2.2.1 gA dA
    have nL : a ≠ X.env.locals := fun z => nf (List.mem_filterMap.mpr ⟨X.env, List.mem_cons_self, by rw [hf, z]⟩)
    have nF : a ∉ X.fs := fun m => by
      obtain ⟨e, he, q⟩ := List.mem_filterMap.mp m
      exact nf (List.mem_filterMap.mpr ⟨e, List.mem_cons_of_mem _ he, q⟩)
    have SA := JA.suite gA dA na nL nF
    have cl : PySem.W.Looks (model X.prog X.w) hA (typeOf (.ref a)) cls := fun _ _ _ _ k q => wpAny_typeOf_ref (k _ _ gA) (by rw [zA.1]; exact q)
    have ask : ∀ {x : Str} {c : Value} {np : Pos} {Q E : Value → Shared → Prop}, Names X x c → Q c { s' with heap := hA } → wpAny (model X.prog X.w) (X.A.mark (some (.ref a))) (eval (.Name x np) X.env) Q E { s' with heap := hA } := fun nm q => by
      obtain ⟨g, dbg, m | ⟨m, v, nn⟩⟩ := nm
      · exact ld_glob (X := X.suite a ((a, oA) :: (X.pn ++ pins))) SA g m q dbg
      · exact ld_blt (X := X.suite a ((a, oA) :: (X.pn ++ pins))) SA g m v q nn dbg
    refine wpAny_handleBy_cons (codeAny_handlers_test (ask n1 ((PySem.W.exm_one JA.kIn cl hb1).here ?_))) (by intro q; cases q)
    cases bo with
    | true =>
      refine codeAny_handlers_suite_as (HandSPX.lands_againZ fl fun hB flB upB => ?_)
      have JB : Inv X pins σ' H' { s' with heap := hB } := J.landed nb flB.1 ((up.trans upA).trans upB) os ag
      obtain ⟨oB, vB, gB, zB, dB⟩ := flB.there
      have SB := JB.suite gB dB na nL nF
      refine store_ok (X := X.suite a ((a, oB) :: (X.pn ++ pins))) (v := .ref a) SB hN hi (.inl hl) rfl (fun sC SC => ?_) (.inr hl)
      refine wpAny_mono ((k1 a oB cls d (X.pn ++ pins) zB ⟨_, dB⟩).run [] sC _ H' _ SC (yes rfl a na)) (fun f sD sp => ?_) (fun _ _ z => z.elim)
      have fin : ∀ {σD : L2.St} {HD : Hp} {Q : Shared → Prop}, Inv (X.suite a ((a, oB) :: (X.pn ++ pins))) [] σD HD sD → (∀ z, Inv X pins (σD.set i none) HD z → Q z) →
          wpAny (model X.prog X.w) X.A (do bindName X.env n .none; unbindBehindTheSuite X.env n q1) (fun _ z => Q z) X.xe sD := fun SD hq => gone_ok (SD.unsuite ok) hN hi hl hq
      cases f with
      | next => obtain ⟨σD, HD, SD, q⟩ := sp; exact fin SD fun z JZ => ⟨_, _, JZ, q⟩
      | brk => obtain ⟨σD, HD, SD, q⟩ := sp; exact fin SD fun z JZ => ⟨_, _, JZ, q⟩
      | cont => obtain ⟨σD, HD, SD, q⟩ := sp; exact fin SD fun z JZ => ⟨_, _, JZ, q⟩
      | ret u => obtain ⟨v, σD, HD, SD, r, q⟩ := sp; exact fin SD fun z JZ => ⟨_, _, _, JZ, r, q⟩
    | false =>
      obtain ⟨hb2, yes2⟩ := no rfl
      refine wpAny_handleBy_cons (codeAny_handlers_test (ask n2 ((PySem.W.exm_one JA.kIn cl hb2).here ?_))) (by intro q; cases q)
      refine codeAny_handlers_suite (HandSPX.lands_againZ fl fun hB flB upB => ?_)
      have JB : Inv X pins σ' H' { s' with heap := hB } := J.landed nb flB.1 ((up.trans upA).trans upB) os ag
      obtain ⟨oB, vB, gB, zB, dB⟩ := flB.there
      refine wpAny_mono ((k2 a oB cls d (X.pn ++ pins) zB ⟨_, dB⟩).run [] _ _ H' _ (JB.suite gB dB na nL nF) (yes2 a na)) (fun f sD sp => ?_) (fun _ _ z => z.elim)
      cases f with
      | next => obtain ⟨σD, HD, SD, q⟩ := sp; exact ⟨_, _, SD.unsuite ok, q⟩
      | brk => obtain ⟨σD, HD, SD, q⟩ := sp; exact ⟨_, _, SD.unsuite ok, q⟩
      | cont => obtain ⟨σD, HD, SD, q⟩ := sp; exact ⟨_, _, SD.unsuite ok, q⟩
      | ret u => obtain ⟨v, σD, HD, SD, r, q⟩ := sp; exact ⟨_, _, _, SD.unsuite ok, r, q⟩
  · cases f with
    | next => obtain ⟨σ', H', J', q⟩ := sp; exact wpAny_execs_nil ⟨σ', H', J'.ofTry ok, q⟩
    | brk => obtain ⟨σ', H', J', q⟩ := sp; exact ⟨σ', H', J'.ofTry ok, q⟩
    | cont => obtain ⟨σ', H', J', q⟩ := sp; exact ⟨σ', H', J'.ofTry ok, q⟩
    | ret u => obtain ⟨v, σ', H', J', r, q⟩ := sp; exact ⟨v, σ', H', J'.ofTry ok, r, q⟩
end Md


set_option Elab.async false
set_option linter.all false
set_option maxRecDepth 100000
set_option maxHeartbeats 2000000
namespace Md
open PySem L2 Evl
/-! ### ways, put together -/
def okA (G : List Pl) : Nat → List Int → Prop
  | _, [] => True
  | x, n :: r => okB G x n ∧ okA G (stepT G x n) r
def gainsR (G : List Pl) : Nat → List Int → List (Int × Int)
  | _, [] => []
  | x, n :: r => (plAt G x).gain :: gainsR G (stepT G x n) r
theorem lastF_append (G : List Pl) : ∀ (r s : List Int) (x : Nat), lastF G x (r ++ s) = lastF G (lastF G x r) s
  | [], s, x => rfl
  | n :: r, s, x => lastF_append G r s (stepT G x n)
theorem okA_of {G : List Pl} : ∀ {r : List Int} {x : Nat}, OkTo G x r r.length → okA G x r
  | [], _, _ => trivial
  | n :: r, x, h => ⟨h 0 n (Nat.zero_lt_succ _) rfl, okA_of fun j m hj hm => h (j + 1) m (Nat.succ_lt_succ hj) (by simpa using hm)⟩
theorem okTo_of {G : List Pl} : ∀ {r : List Int} {x : Nat}, okA G x r → OkTo G x r r.length
  | [], _, _ => fun j n hj => absurd hj (Nat.not_lt_zero _)
  | n :: r, x, h => fun j m hj hm => by
    cases j with
    | zero =>
      simp only [List.getElem?_cons_zero, Option.some.injEq] at hm
      subst hm
      exact h.1
    | succ j =>
      simp only [List.getElem?_cons_succ] at hm
      exact okTo_of h.2 j m (Nat.lt_of_succ_lt_succ hj) hm
theorem okA_append {G : List Pl} : ∀ {r s : List Int} {x : Nat}, okA G x (r ++ s) ↔ okA G x r ∧ okA G (lastF G x r) s
  | [], s, x => ⟨fun h => ⟨trivial, h⟩, fun h => h.2⟩
  | n :: r, s, x => ⟨fun h => ⟨⟨h.1, (okA_append.mp h.2).1⟩, (okA_append.mp h.2).2⟩, fun h => ⟨h.1.1, okA_append.mpr ⟨h.1.2, h.2⟩⟩⟩
theorem gainsF_eq (G : List Pl) : ∀ (r : List Int) (x : Nat), gainsF G x r = gainsR G x r
  | [], x => rfl
  | n :: r, x => by
    show List.map (fun y => (plAt G y).gain) (List.take (r.length + 1) (x :: pathF G (stepT G x n) r)) = _
    rw [List.take_succ_cons, List.map_cons]
    exact congrArg _ (gainsF_eq G r (stepT G x n))
theorem gainsR_append (G : List Pl) : ∀ (r s : List Int) (x : Nat), gainsR G x (r ++ s) = gainsR G x r ++ gainsR G (lastF G x r) s
  | [], s, x => rfl
  | n :: r, s, x => congrArg ((plAt G x).gain :: ·) (gainsR_append G r s (stepT G x n))
theorem gainsR_red {G : List Pl} (h : WfG G) : ∀ {r : List Int} {x : Nat}, x < G.length → okA G x r → ∀ p ∈ gainsR G x r, Red p
  | [], _, _, _ => fun p hp => by cases hp
  | n :: r, x, hx, ho => fun p hp => by
    rcases List.mem_cons.mp hp with rfl | hp
    · exact red_small (wf_gain (plAt_wf h hx))
    · exact gainsR_red h (stepT_lt (wfT_of h) hx ho.1).1 ho.2 p hp
theorem lastA_lt {G : List Pl} (h : WfT G) {r : List Int} {x : Nat} (hx : x < G.length) (ho : okA G x r) : lastF G x r < G.length := lastF_lt h r x hx (okTo_of ho)
/-! ### the gain per step -/
def gainAns (G : List Pl) (y : Nat) (s : List Int) : Int × Int := divN (sumN (gainsF G y s)) ((s.length : Int), 1)
def qSum (G : List Pl) (y : Nat) (s : List Int) : Rat := ((gainsR G y s).map qN).sum
theorem len_pos {s : List Int} (h : s ≠ []) : 0 < (s.length : Int) := by
  cases s with
  | nil => exact absurd rfl h
  | cons a l => rw [List.length_cons]; omega
theorem len_red (n : Nat) : Red ((n : Int), 1) := ⟨by show (1 : Int) ≤ 1; decide, Nat.gcd_one_right _⟩
theorem gainAns_red {G : List Pl} (h : WfG G) {y : Nat} {s : List Int} (hy : y < G.length) (ho : okA G y s) (hs : s ≠ []) : Red (gainAns G y s) := by
  refine divN_red (sumN_red ?_) (len_pos hs)
  rw [gainsF_eq]
  exact gainsR_red h hy ho
theorem q_gainAns {G : List Pl} (h : WfG G) {y : Nat} {s : List Int} (hy : y < G.length) (ho : okA G y s) (hs : s ≠ []) : qN (gainAns G y s) = qSum G y s / (s.length : Rat) := by
  have hr := gainsR_red h hy ho
  unfold gainAns
  rw [gainsF_eq, q_div (sumN_red hr) (len_pos hs) (len_red _), q_sum hr]
  have : qN ((s.length : Int), 1) = (s.length : Rat) := by
    unfold qN
    show ((s.length : Int) : Rat) / ((1 : Int) : Rat) = _
    have e1 : ((1 : Int) : Rat) = 1 := rfl
    have e2 : ((s.length : Int) : Rat) = (s.length : Rat) := rfl
    rw [e1, e2]
    grind
  rw [this]
  rfl
theorem gain_same {G : List Pl} (h : WfG G) {y z : Nat} {s t : List Int} (hy : y < G.length) (ho : okA G y s) (hs : s ≠ []) (hz : z < G.length) (ho2 : okA G z t) (ht : t ≠ []) (e : qSum G y s * (t.length : Rat) = qSum G z t * (s.length : Rat)) : gainAns G y s = gainAns G z t := by
  refine q_inj (gainAns_red h hy ho hs) (gainAns_red h hz ho2 ht) ?_
  rw [q_gainAns h hy ho hs, q_gainAns h hz ho2 ht]
  have n1 : (s.length : Rat) ≠ 0 := by
    have := cast_ne (z := (s.length : Int)) (by have := len_pos hs; omega)
    exact this
  have n2 : (t.length : Rat) ≠ 0 := by
    have := cast_ne (z := (t.length : Int)) (by have := len_pos ht; omega)
    exact this
  exact div_eq_of n1 n2 e
theorem qSum_append (G : List Pl) (y : Nat) (s t : List Int) : qSum G y (s ++ t) = qSum G y s + qSum G (lastF G y s) t := by
  unfold qSum
  rw [gainsR_append, List.map_append, List.sum_append]
/-- a circle gone round twice -/
theorem gain_twice {G : List Pl} (h : WfG G) {y : Nat} {s : List Int} (hy : y < G.length) (ho : okA G y s) (hs : s ≠ []) (hc : lastF G y s = y) : okA G y (s ++ s) ∧ lastF G y (s ++ s) = y ∧ gainAns G y (s ++ s) = gainAns G y s := by
  have o2 : okA G y (s ++ s) := okA_append.mpr ⟨ho, by rw [hc]; exact ho⟩
  refine ⟨o2, by rw [lastF_append, hc, hc], gain_same h hy o2 (by intro z; exact hs (List.append_eq_nil_iff.mp z).1) hy ho hs ?_⟩
  rw [qSum_append, hc, List.length_append]
  push_cast
  grind
/-- begun at another of its places -/
theorem gain_turned {G : List Pl} (h : WfG G) {y : Nat} {s t : List Int} (hy : y < G.length) (ho : okA G y (s ++ t)) (hs : s ++ t ≠ []) (hc : lastF G y (s ++ t) = y) : okA G (lastF G y s) (t ++ s) ∧ lastF G (lastF G y s) (t ++ s) = lastF G y s ∧ gainAns G (lastF G y s) (t ++ s) = gainAns G y (s ++ t) := by
  obtain ⟨o1, o2⟩ := okA_append.mp ho
  have hc' : lastF G (lastF G y s) t = y := by rw [← lastF_append]; exact hc
  have o3 : okA G (lastF G y s) (t ++ s) := okA_append.mpr ⟨o2, by rw [hc']; exact o1⟩
  refine ⟨o3, by rw [lastF_append, hc'], gain_same h (lastA_lt (wfT_of h) hy o1) o3 ?_ hy ho hs ?_⟩
  · intro z
    obtain ⟨z1, z2⟩ := List.append_eq_nil_iff.mp z
    exact hs (by rw [z1, z2] <;> rfl)
  · rw [qSum_append, qSum_append, hc', List.length_append, List.length_append]
    push_cast
    grind
end Md
namespace Md
open PySem L2 Evl
/-! ### truth of a list -/
def tTru (K : PySem.W.Frag) (ta : TE) : TT := fun σ H Q => ta σ H fun x H' => ∃ k, TruV K x H' k ∧ Q k H'
theorem pt_tru {X : Cx} {K : PySem.W.Frag} {a : Expr} {ta : TE} (h : X.K = K) (ha : PE X a ta) (he : ∀ whole, isTrue a X.env whole = (do let v ← whole; standAt a.pos; holding [v] (truthy v)) := by intro _; rfl) : PT X a (tTru K ta) := h ▸ pt_truth ha he
theorem et_tru {K : PySem.W.Frag} {σ : L2.St} {b : Hp} {te : TE} {ds : List PyData} (x : ED K te σ b (.list ds)) : EvT (tTru K te) σ b (!ds.isEmpty) := fun h e _ q => x h e _ fun v b2 h2 g2 hv => by
  obtain ⟨a, xs, rfl, h1, k2⟩ := hv.listI
  refine ⟨_, .inl ⟨xs, sq_of (g2.gi _ _ h1), rfl⟩, ?_⟩
  have : xs.isEmpty = ds.isEmpty := by
    cases k2 with
    | nil => rfl
    | cons _ _ => rfl
  rw [this]
  exact q h2 g2.gh
/-! ### NoCircle -/
structure NCs (K : PySem.W.Frag) (mg : Str → Option Value) (N C : Addr) : Prop where
  mN : mg "NoCircle" = some (.ref N)
  ex : PySem.W.excIn K N [.type "ValueError", .type "Exception", .type "BaseException", .type "object"] "ValueError.__new__" = true
  kp : PySem.W.keepIn K (.ref N) = true
  sb : PySem.W.subIn K (.ref N) (.type "BaseException") = some true
  ty : PySem.W.typeIn K (.ref N) = some (.type "type")
def NCAt (h : Hp) (N : Addr) (E : XK) : Prop := ∀ h', Ex h h' → E (.ref N) none h'
theorem NCAt.up {H H' : Hp} {N : Addr} {E : XK} (x : NCAt H N E) (e : Ex H H') : NCAt H' N E := fun h' e' => x h' (e.trans e')
/-! ### promises -/
def spDiv (K : PySem.W.Frag) : Sp := fun vs h Q _ => ∃ (b : Hp) (p q : Int × Int), Ex b h ∧ DtA K b vs [nD p, nD q] ∧ Red p ∧ Red q ∧ 0 < q.1 ∧ Big 900 p ∧ Big 900 q ∧ ∀ v b' h', Gr b h b' h' → Dt K b' v (nD (divN p q)) → Q v h'
inductive ResG (G : List Pl) (x : Nat) (r s : List Int) : PyData → Prop
  | good : okA G x (r ++ s) → s ≠ [] → lastF G x (r ++ s) = lastF G x r → ResG G x r s (nD (gainAns G (lastF G x r) s))
def NoC (G : List Pl) (x : Nat) (r s : List Int) : Prop := okA G x (r ++ s) ∧ (s = [] ∨ lastF G x (r ++ s) ≠ lastF G x r)
def BadAt (G : List Pl) (x : Nat) (r : List Int) (j : Nat) : Prop := ∃ n, r[j]? = some n ∧ OkTo G x r j ∧ ¬ okB G (lastF G x (r.take j)) n
theorem bad_ok {G : List Pl} {x : Nat} {r : List Int} {j : Nat} (h : BadAt G x r j) (ho : okA G x r) : False := by
  obtain ⟨n, hj, _, hb⟩ := h
  exact hb (okTo_of ho j n (List.getElem?_eq_some_iff.mp hj).1 hj)
theorem bad_det {G : List Pl} {x : Nat} {r : List Int} {i j : Nat} (h : BadAt G x r i) (h2 : BadAt G x r j) : i = j := by
  obtain ⟨n, hj, ho, hb⟩ := h
  obtain ⟨m, hj2, ho2, hb2⟩ := h2
  rcases Nat.lt_trichotomy i j with z | z | z
  · exact absurd (ho2 i n z hj) hb
  · exact z
  · exact absurd (ho j m z hj2) hb2
def spGain (K : PySem.W.Frag) (C N : Addr) : Sp := fun vs h Q E => ∃ (b : Hp) (G : List Pl) (x : Nat) (r s : List Int), Ex b h ∧ DtA K b vs [gameD G, .int (x : Int), intsD r, intsD s] ∧ WfG G ∧ x < G.length ∧ r.length + s.length ≤ 60 ∧
  (okA G x (r ++ s) → s ≠ [] → lastF G x (r ++ s) = lastF G x r → ∀ v b' h', Gr b h b' h' → Dt K b' v (nD (gainAns G (lastF G x r) s)) → Q v h') ∧ (NoC G x r s → NCAt h N E) ∧ (∀ j, BadAt G x (r ++ s) j → NBAt h C (j : Int) E)
inductive Res5 (G : List Pl) (x : Nat) (r s : List Int) : PyData → Prop
  | good : okA G x (r ++ s) → s ≠ [] → lastF G x (r ++ s) = lastF G x r → Res5 G x r s (nD (gainAns G (lastF G x r) s))
  | circle : NoC G x r s → Res5 G x r s (.tuple [.str "raised", .str "circle"])
  | branch (j : Nat) : BadAt G x (r ++ s) j → Res5 G x r s (.tuple [.str "raised", .str "branch", .int (j : Int)])
theorem Res5.det {G : List Pl} {x : Nat} {r s : List Int} {d e : PyData} (h : Res5 G x r s d) (h2 : Res5 G x r s e) : d = e := by
  cases h with
  | good a1 a2 a3 =>
    cases h2 with
    | good _ _ _ => rfl
    | circle c => rcases c.2 with z | z
                  · exact absurd z a2
                  · exact absurd a3 z
    | branch j c => exact (bad_ok c a1).elim
  | circle a =>
    cases h2 with
    | good b1 b2 b3 => rcases a.2 with z | z
                       · exact absurd z b2
                       · exact absurd b3 z
    | circle _ => rfl
    | branch j c => exact (bad_ok c a.1).elim
  | branch i a =>
    cases h2 with
    | good b1 _ _ => exact (bad_ok a b1).elim
    | circle c => exact (bad_ok a c.1).elim
    | branch j c => rw [bad_det a c]
def spTold5 (K : PySem.W.Frag) : Sp := fun vs h Q _ => ∃ (b : Hp) (G : List Pl) (x : Nat) (r s : List Int), Ex b h ∧ DtA K b vs [gameD G, .int (x : Int), intsD r, intsD s] ∧ WfG G ∧ x < G.length ∧ r.length + s.length ≤ 60 ∧ ∀ d, Res5 G x r s d → ∀ v b' h', Gr b h b' h' → Dt K b' v d → Q v h'
section
variable {K : PySem.W.Frag} {σ : L2.St} {b : Hp} {ts : TA} {E : XK} {G : List Pl} {x : Nat} {r s : List Int} {d : PyData} {p q : Int × Int}
theorem ed_div (y : EDA K ts σ b [nD p, nD q]) (h1 : Red p) (h2 : Red q) (h0 : 0 < q.1) (h3 : Big 900 p) (h4 : Big 900 q) : ED K (tCall (spDiv K) [] E ts) σ b (nD (divN p q)) := fun h e _ qq =>
  y h e _ fun vs b2 h2' g2 hv => ⟨b2, p, q, g2.gi, by rw [List.append_nil]; exact hv, h1, h2, h0, h3, h4, fun v b3 h3 g3 hv3 => qq v b3 h3 (g2.trans g3) hv3⟩
theorem ed_told5 (y : EDA K ts σ b [gameD G, .int (x : Int), intsD r, intsD s]) (h1 : WfG G) (h3 : x < G.length) (h4 : r.length + s.length ≤ 60) (h5 : Res5 G x r s d) : ED K (tCall (spTold5 K) [] E ts) σ b d := fun h e _ q =>
  y h e _ fun vs b2 h2' g2 hv => ⟨b2, G, x, r, s, g2.gi, by rw [List.append_nil]; exact hv, h1, h3, h4, fun d2 hd v b3 h3 g3 hv3 => q v b3 h3 (g2.trans g3) (hd.det h5 ▸ hv3)⟩
end
theorem path_at {G : List Pl} {x : Nat} (r s : List Int) : (pathF G x (r ++ s))[r.length]? = some (lastF G x r) := by
  rw [pathF_get G (r ++ s) x r.length (by rw [List.length_append]; omega), List.take_append_of_le_length (Nat.le_refl _), List.take_length]
theorem path_last {G : List Pl} {x : Nat} (r : List Int) : L2.atI ((pathF G x r).map fun x : Nat => PyData.int (x : Int)) (-1) = some (.int ((lastF G x r : Nat) : Int)) := by
  obtain ⟨l, hl⟩ := pathF_last G r x
  rw [hl, List.map_append]
  exact atI_last _ _
end Md
namespace Md
open PySem L2 Evl
theorem r_retS {K : PySem.W.Frag} {σ : L2.St} {b h : Hp} {ts : TA} {ds : List PyData} {sp : Sp} {E : L2.St → XK} {D : Ends} (y : EDA K ts σ b ds) (e : Ex b h) (k : ∀ vs b' h', Gr b h b' h' → DtA K b' vs ds → sp vs h' (fun v h2 => D.rt v h2) (E σ)) : tRet (tCallS sp E ts) D σ h := y h e _ fun vs b' h' g hv => k vs b' h' g hv
end Md


set_option Elab.async false
set_option linter.all false
set_option maxRecDepth 100000
set_option maxHeartbeats 2000000
namespace Md
open PySem L2 Evl
theorem pigeon : ∀ (n N : Nat) (p : Nat → Nat), (∀ i, i < N → p i < n) → (∀ i j, i < j → j < N → p i ≠ p j) → N ≤ n
  | 0, N, p, h, _ => by
    rcases Nat.eq_zero_or_pos N with z | z
    · omega
    · exact absurd (h 0 z) (Nat.not_lt_zero _)
  | n + 1, N, p, h, d => by
    by_cases hx : ∃ i, i < N ∧ p i = n
    · obtain ⟨i0, h0, e0⟩ := hx
      have ih := pigeon n (N - 1) (fun j => if j < i0 then p j else p (j + 1)) (fun j hj => ?_) (fun i j hij hj => ?_)
      · omega
      · show (if j < i0 then p j else p (j + 1)) < n
        split
        · rename_i z
          have h1 := h j (by omega)
          have h2 := d j i0 z h0
          omega
        · rename_i z
          have h1 := h (j + 1) (by omega)
          have h2 := d i0 (j + 1) (by omega) (by omega)
          omega
      · show (if i < i0 then p i else p (i + 1)) ≠ (if j < i0 then p j else p (j + 1))
        split
        · split
          · exact d i j hij (by omega)
          · exact d i (j + 1) (by omega) (by omega)
        · rw [if_neg (by omega)]
          exact d (i + 1) (j + 1) (by omega) (by omega)
    · have ih := pigeon n N p (fun i hi => ?_) d
      · omega
      · have h1 := h i hi
        have h2 : p i ≠ n := fun z => hx ⟨i, hi, z⟩
        omega
theorem least_of {P : Nat → Prop} : ∀ n, P n → ∃ m, m ≤ n ∧ P m ∧ ∀ k, k < m → ¬ P k := by
  intro n
  induction n using Nat.strongRecOn with
  | ind n ih =>
    intro h
    by_cases hx : ∃ k, k < n ∧ P k
    · obtain ⟨k, hk, pk⟩ := hx
      obtain ⟨m, hm, pm, hl⟩ := ih k hk pk
      exact ⟨m, by omega, pm, hl⟩
    · exact ⟨n, Nat.le_refl _, h, fun k hk pk => hx ⟨k, hk, pk⟩⟩
/-- the place behind k steps -/
def atK (G : List Pl) (x : Nat) (r : List Int) (k : Nat) : Nat := lastF G x (r.take k)
theorem atK_lt {G : List Pl} (h : WfT G) {x : Nat} {r : List Int} (hx : x < G.length) (ho : okA G x r) (k : Nat) : atK G x r k < G.length := by
  have e := List.take_append_drop k r
  have ho' : okA G x (r.take k ++ r.drop k) := by rw [e]; exact ho
  exact lastA_lt h hx (okA_append.mp ho').1
theorem path_loop {G : List Pl} (h : WfT G) {x : Nat} {r : List Int} (hx : x < G.length) (ho : okA G x r) (hl : G.length ≤ r.length) :
    ∃ m f, f < m ∧ m ≤ r.length ∧ atK G x r f = atK G x r m ∧ ∀ i k, i < k → k < m → atK G x r i ≠ atK G x r k := by
  have ex : ∃ n, n ≤ r.length ∧ ∃ i, i < n ∧ atK G x r i = atK G x r n := by
    apply Classical.byContradiction
    intro no
    have := pigeon G.length (r.length + 1) (atK G x r) (fun i _ => atK_lt h hx ho i) (fun i j hij hj e => no ⟨j, by omega, i, hij, e⟩)
    omega
  obtain ⟨n, hn, pn⟩ := ex
  obtain ⟨m, hm, ⟨f, hf, e⟩, hmin⟩ := least_of (P := fun n => ∃ i, i < n ∧ atK G x r i = atK G x r n) n pn
  exact ⟨m, f, hf, by omega, e, fun i k hik hk e2 => hmin k hk ⟨i, hik, e2⟩⟩
theorem path_getK {G : List Pl} {x : Nat} {r : List Int} {k : Nat} (h : k ≤ r.length) : (pathF G x r)[k]? = some (atK G x r k) := pathF_get G r x k h
theorem mem_takeK {G : List Pl} {x : Nat} {r : List Int} {k v : Nat} (h : k ≤ r.length) : v ∈ (pathF G x r).take k ↔ ∃ i, i < k ∧ atK G x r i = v := by
  constructor
  · intro hv
    obtain ⟨i, hi, e⟩ := List.mem_iff_getElem.mp hv
    rw [List.length_take] at hi
    refine ⟨i, by omega, ?_⟩
    have e2 : ((pathF G x r).take k)[i]? = some v := by rw [List.getElem?_eq_getElem (by rw [List.length_take]; exact hi), e]
    rw [List.getElem?_take_of_lt (by omega), path_getK (by omega)] at e2
    exact Option.some.inj e2
  · rintro ⟨i, hi, rfl⟩
    have e2 : ((pathF G x r).take k)[i]? = some (atK G x r i) := by rw [List.getElem?_take_of_lt hi, path_getK (by omega)]
    exact List.mem_of_getElem? e2
theorem take_split {α : Type} (r : List α) {f m : Nat} (h : f ≤ m) : r.take m = r.take f ++ (r.drop f).take (m - f) := by
  have e : m = f + (m - f) := by omega
  conv => lhs; rw [e]
  exact List.take_add ..
theorem okA_take {G : List Pl} {x : Nat} {r : List Int} (ho : okA G x r) (k : Nat) : okA G x (r.take k) := by
  have ho' : okA G x (r.take k ++ r.drop k) := by rw [List.take_append_drop]; exact ho
  exact (okA_append.mp ho').1
/-- the places of a part of a way -/
theorem path_part {G : List Pl} {x : Nat} {r : List Int} {f m : Nat} (hf : f ≤ m) (hm : m ≤ r.length) : ((pathF G x r).drop f).take (m - f) = (pathF G (atK G x r f) ((r.drop f).take (m - f))).take ((r.drop f).take (m - f)).length := by
  have hlen : ((r.drop f).take (m - f)).length = m - f := by rw [List.length_take, List.length_drop]; omega
  refine List.ext_getElem? fun j => ?_
  by_cases hj : j < m - f
  · rw [List.getElem?_take_of_lt hj, List.getElem?_drop, path_getK (by omega), List.getElem?_take_of_lt (by omega), path_getK (by omega)]
    unfold atK
    rw [← lastF_append, List.take_take, Nat.min_eq_left (by omega)]
    have := take_split r (show f ≤ f + j by omega)
    rw [this, Nat.add_sub_cancel_left]
  · rw [List.getElem?_eq_none (by rw [List.length_take, List.length_drop, pathF_len]; omega), List.getElem?_eq_none (by rw [List.length_take, hlen]; omega)]
/-! ### reading lists of places -/
section
variable {K : PySem.W.Frag} {σ : L2.St} {b : Hp} {te ta tb : TE} {l : List Nat} {x : Nat}
theorem eqV_nat (i j : Nat) : eqV (V.int (i : Int)) (V.int (j : Int)) = decide (i = j) := by
  show ((i : Int) == (j : Int)) = decide (i = j)
  rw [Bool.eq_iff_iff, beq_iff_eq, decide_eq_true_iff]
  omega
theorem DtA.natsI {vs : List V} (h : DtA K b vs (l.map fun x : Nat => PyData.int (x : Int))) : vs = l.map fun x : Nat => V.int (x : Int) := by
  have e : (l.map fun x : Nat => PyData.int (x : Int)) = (l.map fun x : Nat => (x : Int)).map PyData.int := by
    rw [List.map_map]
    rfl
  rw [e] at h
  rw [h.intsI, List.map_map]
  rfl
theorem inV_nat : inV (V.int (x : Int)) (l.map fun x : Nat => V.int (x : Int)) = decide (x ∈ l) := by
  unfold inV
  rw [List.any_map, Bool.eq_iff_iff, List.any_eq_true, decide_eq_true_iff]
  constructor
  · rintro ⟨y, hy, e⟩
    have e' : eqV (V.int (y : Int)) (V.int (x : Int)) = true := e
    rw [eqV_nat, decide_eq_true_iff] at e'
    rw [← e']
    exact hy
  · intro hx
    refine ⟨x, hx, ?_⟩
    show eqV (V.int (x : Int)) (V.int (x : Int)) = true
    rw [eqV_nat, decide_eq_true_iff]
theorem flat_nats : (l.map fun x : Nat => V.int (x : Int)).all flatV = true := by
  rw [List.all_map, List.all_eq_true]
  intro y _
  rfl
theorem ev_inN {neg : Bool} (h : Ev ta σ b (.int (x : Int))) (hl : ED K tb σ b (natsD l)) : Ev (tOp (rIn K neg) ta tb) σ b (.bl (if neg then !decide (x ∈ l) else decide (x ∈ l))) := fun hh e _ q => h hh e _ fun h1 e1 => hl h1 (e.trans e1) _ fun v b2 h2 g2 hv => by
  obtain ⟨a, xs, rfl, k1, k2⟩ := hv.listI
  have hxs := k2.natsI
  subst hxs
  refine ⟨a, _, rfl, .inl (sq_of (g2.gi _ _ k1)), rfl, flat_nats, ?_⟩
  rw [inV_nat]
  exact q h2 (e1.trans g2.gh)
theorem pe_indexK {X : Cx} {o e : Expr} {to : TE} {ts : TA} {apos cpos : Pos} (h : X.K = K) (ho : PE X o to) (ha : PA X [e] ts) (hbase : attributeBase o "index" X.env (eval o X.env) = eval o X.env := by rfl)
    (hfew : ((backTo cpos (starEach [e] X.env)).all (fun x => !x.1) && (backToKw cpos (keywordEach [] X.env)).all (fun x => x.1.isSome) && decide ([e].length + ([] : List Keyword).length + (if ([] : List Keyword).isEmpty then 0 else 1) < 30)) = true := by rfl)
    (hline : (apos.endLine == cpos.line) = true := by rfl) (hs : starEach [e] X.env = (false, eval e X.env) :: starEach [] X.env := by rfl) (hp : (backTo cpos (starEach [] X.env)).any (·.1) = false := by rfl) :
    PE X (.Call (.Attribute o "index" apos) [e] [] cpos) (tBM K "list" (rIndex K) to ts) :=
  h ▸ pe_bm PySem.F.plainAttrs_list PySem.F.slot_list_index PySem.F.type_list_index mt_index ho ha hbase hfew hline hs hp
theorem ev_indexN {j : Nat} (hl : ED K te σ b (natsD l)) (h : Ev ta σ b (.int (x : Int))) (hj : l[j]? = some x) (hno : ∀ m, m < j → l[m]? ≠ some x) : Ev (tBM K "list" (rIndex K) te (tCons ta tNil)) σ b (.int (j : Int)) := fun hh e _ q => hl hh e _ fun v b2 h2 g2 hv => by
  obtain ⟨a, xs, rfl, k1, k2⟩ := hv.listI
  have hxs := k2.natsI
  subst hxs
  refine ⟨Or.inl ⟨rfl, _, sq_of (g2.gi _ _ k1)⟩, h h2 (e.trans g2.gh) _ fun h3 e3 => ?_⟩
  refine ⟨a, _, .int (x : Int), j, .int (x : Int), rfl, rfl, sq_of (e3 _ _ (g2.gi _ _ k1)), rfl, flat_nats, by rw [List.getElem?_map, hj] <;> rfl, by rw [eqV_nat, decide_eq_true_iff], fun m z hm hz => ?_, q h3 (g2.gh.trans e3)⟩
  rw [List.getElem?_map] at hz
  cases hq : l[m]? with
  | none => rw [hq] at hz; cases hz
  | some y =>
    rw [hq] at hz
    cases hz
    rw [eqV_nat, decide_eq_false_iff_not]
    intro z
    rw [z] at hq
    exact hno m hm hq
theorem ev_min {ns : List Int} {m : Int} (hl : ED K te σ b (.list (ns.map PyData.int))) (hm : m ∈ ns) (hle : ∀ y ∈ ns, m ≤ y) : Ev (tCB (rMin K) (tCons te tNil)) σ b (.int m) := fun hh e _ q => hl hh e _ fun v b2 h2 g2 hv => by
  obtain ⟨a, xs, rfl, k1, k2⟩ := hv.listI
  have hxs := k2.intsI
  subst hxs
  refine ⟨a, ns, rfl, sq_of (g2.gi _ _ k1), List.length_pos_of_mem hm, fun m' hm' hle' => ?_⟩
  have e1 := hle m' hm'
  have e2 := hle' m hm
  have : m' = m := by omega
  rw [this]
  exact q h2 g2.gh
end
theorem cut_takeN {l : List Nat} {a : Nat} (h : a ≤ l.length) : cutD (l.map fun x : Nat => PyData.int (x : Int)) none (some (a : Int)) = (l.take a).map fun x : Nat => PyData.int (x : Int) := by
  unfold cutD
  rw [List.length_map, HT.sIx_none, sIx_of _ h, List.drop_zero, Nat.sub_zero, List.map_take]
theorem cut_midN {l : List Nat} {a c : Nat} (h1 : a ≤ c) (h : c ≤ l.length) : cutD (l.map fun x : Nat => PyData.int (x : Int)) (some (a : Int)) (some (c : Int)) = ((l.drop a).take (c - a)).map fun x : Nat => PyData.int (x : Int) := by
  unfold cutD
  rw [List.length_map, sIx_of _ (Nat.le_trans h1 h), sIx_of _ h, ← List.map_drop, ← List.map_take]
theorem cut_mid {l : List Int} {a c : Nat} (h1 : a ≤ c) (h : c ≤ l.length) : cutD (l.map PyData.int) (some (a : Int)) (some (c : Int)) = ((l.drop a).take (c - a)).map PyData.int := by
  unfold cutD
  rw [List.length_map, sIx_of _ (Nat.le_trans h1 h), sIx_of _ h, ← List.map_drop, ← List.map_take]
end Md
namespace Md
open PySem L2 Evl
section
variable {K : PySem.W.Frag} {σ : L2.St} {b h : Hp} {te ta tb : TE} {ts : TA} {E : XK} {D : Ends} {tz : TS} {d1 d2 : PyData}
theorem r_par {i j : Nat} (x : EDA K ts σ b [d1, d2]) (e : Ex b h) (k : ∀ v1 v2 b' h', Gr b h b' h' → Dt K b' v1 d1 → Dt K b' v2 d2 → tz D ((σ.set i (some v1)).set j (some v2)) h') : tSeq (tPar i j ts) tz D σ h := x h e _ fun vs b' h' g hv => by
  cases hv with
  | cons q1 hv =>
    cases hv with
    | cons q2 hv =>
      cases hv
      exact ⟨_, _, rfl, k _ _ b' h' g q1 q2⟩
theorem ed_number {n d : Int} (x : Ev ta σ b (.int n)) (y : Ev tb σ b (.int d)) (h0 : d ≠ 0) (h1 : n.natAbs < 2 ^ 1900) (h2 : d.natAbs < 2 ^ 1900) : ED K (tCall (spNumber K) [] E (tCons ta (tCons tb tNil))) σ b (nD (num n d)) :=
  ed_call (eda_cons (ed_int x) (eda_cons (ed_int y) eda_nil)) rfl ⟨n, d, rfl, h0, h1, h2⟩ fun e he => he n d rfl
/-- [game[x][0] for x in some places] -/
theorem ed_gainsL {tg tl : TE} {j : Nat} {vs : List Nat} {G : List Pl} {l : List Nat} (hl : ED K tl σ b (natsD l)) (hz : l.length ≤ 40000) (hlt : ∀ y ∈ l, y < G.length) (hg : ∀ v b2, Ex b b2 → ED K tg ((wipe σ vs).set j (some v)) b2 (gameD G)) (hw : ∀ x, wipe ((wipe σ vs).set j (some x)) vs = wipe σ vs) (hj : ∀ v, ((wipe σ vs).set j (some v))[j]? = some (some v)) :
    ED K (tLc (iList K tl) (gName j) tYes (tOp (rIxT K) (tOp (rIxL K) tg (tVar j)) (tC (V.int 0))) vs) σ b (numsD (l.map fun y => (plAt G y).gain)) := by
  have e : (l.map fun y => (plAt G y).gain).map nD = l.map fun y => nD (plAt G y).gain := by
    rw [List.map_map]
    rfl
  unfold numsD
  rw [e]
  refine EN.ed (en_mapD (D := fun x : Nat => PyData.int (x : Int)) hl hz hw fun y hy v b2 e2 hv => ?_)
  obtain rfl := hv.intI
  exact ed_ixT (ed_ixL (hg _ b2 e2) (ev_var (hj _)) (game_at (plAt_get (hlt y hy)))) ev_c (by rfl)
end
def circleT : PyData := .tuple [.str "raised", .str "circle"]
def branchT (j : Nat) : PyData := .tuple [.str "raised", .str "branch", .int (j : Int)]
theorem dep_branch (n j : Nat) : Dep (n + 2) (branchT j) := ⟨by show 3 ≤ 30000; decide, fun d hd => by
  simp only [List.mem_cons, List.not_mem_nil, or_false] at hd
  rcases hd with rfl | rfl | rfl
  · exact dep_str _ _
  · exact dep_str _ _
  · exact dep_int _ _⟩
theorem nice_circle : Nice 1 1000 circleT := (nice_tup (k := 0) (L := 20) (n := 2) (fun d hd => by
  simp only [List.mem_cons, List.not_mem_nil, or_false] at hd
  rcases hd with rfl | rfl
  · exact nice_str (by decide +kernel) (by decide +kernel)
  · exact nice_str (by decide +kernel) (by decide +kernel)) (by show 2 ≤ 2; decide)).mono (by decide) (by decide)
theorem bad_set {G : List Pl} {x a : Nat} {n : Int} {s : List Int} (ho : okA G x s) (ha : a < s.length) (hb : ¬ okB G (lastF G x (s.take a)) n) : BadAt G x (s.set a n) a := by
  have e : (s.set a n).take a = s.take a := by
    rw [List.take_set_of_le (Nat.le_refl _)]
  refine ⟨n, by rw [List.getElem?_set_self ha], okTo_pre (okTo_of ho) (Nat.le_of_lt ha) e, ?_⟩
  rw [e]
  exact hb
theorem bad_take {G : List Pl} {x a f : Nat} {s : List Int} (h : BadAt G x s a) (ha : a < f) : BadAt G x (s.take f) a := by
  obtain ⟨n, hj, ho, hb⟩ := h
  have e : (s.take f).take a = s.take a := by rw [List.take_take, Nat.min_eq_left (Nat.le_of_lt ha)]
  refine ⟨n, by rw [List.getElem?_take_of_lt ha]; exact hj, fun j m hjj hm => ?_, by rw [e]; exact hb⟩
  rw [List.getElem?_take_of_lt (by omega)] at hm
  have := ho j m hjj hm
  rwa [List.take_take, Nat.min_eq_left (by omega)]
end Md


set_option Elab.async false
set_option linter.all false
set_option maxRecDepth 100000
set_option maxHeartbeats 2000000
namespace Md
open PySem L2 Evl
/-! ### plays of two strategies -/
def NoDraw (G : List Pl) : Prop := ∀ p ∈ G, p.kind ≠ "draw"
def tbr (So St : List (Option Nat)) (p : Pl) (y : Nat) : Nat := if p.kind = "ours" then (So.getD y none).getD 0 else (St.getD y none).getD 0
def playR (G : List Pl) (So St : List (Option Nat)) (x : Nat) : Nat → List Int
  | 0 => []
  | n + 1 => playR G So St x n ++ [((tbr So St (plAt G (lastF G x (playR G So St x n))) (lastF G x (playR G So St x n)) : Nat) : Int)]
def hereR (G : List Pl) (So St : List (Option Nat)) (x n : Nat) : Nat := lastF G x (playR G So St x n)
structure Two (G : List Pl) (So St : List (Option Nat)) : Prop where
  wf : WfG G
  nd : NoDraw G
  so : WfS "ours" G So
  st : WfS "theirs" G St
section
variable {G : List Pl} {So St : List (Option Nat)} {x : Nat}
theorem playR_len : ∀ n, (playR G So St x n).length = n
  | 0 => rfl
  | n + 1 => by
    show (playR G So St x n ++ [_]).length = n + 1
    rw [List.length_append, playR_len n]
    rfl
theorem playR_take {n : Nat} : ∀ {k}, k ≤ n → (playR G So St x n).take k = playR G So St x k := by
  induction n with
  | zero =>
    intro k hk
    obtain rfl : k = 0 := by omega
    rfl
  | succ n ih =>
    intro k hk
    rcases Nat.lt_or_ge n k with z | z
    · obtain rfl : k = n + 1 := by omega
      rw [List.take_of_length_le (by rw [playR_len]; exact Nat.le_refl _)]
    · show (playR G So St x n ++ [_]).take k = _
      rw [List.take_append_of_le_length (by rw [playR_len]; exact z)]
      exact ih z
/-- the told branch stands in the list -/
theorem tbr_ok (h : Two G So St) {y : Nat} (hy : y < G.length) : tbr So St (plAt G y) y < (plAt G y).bd.length ∧
    ((plAt G y).kind = "ours" → So[y]? = some (some (tbr So St (plAt G y) y))) ∧ (¬ (plAt G y).kind = "ours" → St[y]? = some (some (tbr So St (plAt G y) y))) := by
  have hp := plAt_get hy
  have hnd := h.nd _ (List.mem_of_getElem? hp)
  by_cases hk : (plAt G y).kind = "ours"
  · obtain ⟨j, hj, hl⟩ := (h.so.2 y _ hp).1 hk
    have e : tbr So St (plAt G y) y = j := by
      unfold tbr
      rw [if_pos hk, List.getD_eq_getElem?_getD, hj]
      rfl
    rw [e]
    exact ⟨hl, fun _ => hj, fun z => absurd hk z⟩
  · have hk2 : (plAt G y).kind = "theirs" := by
      by_cases z : (plAt G y).kind = "theirs"
      · exact z
      · exact absurd (kind_side hnd z) hk
    obtain ⟨j, hj, hl⟩ := (h.st.2 y _ hp).1 hk2
    have e : tbr So St (plAt G y) y = j := by
      unfold tbr
      rw [if_neg hk, List.getD_eq_getElem?_getD, hj]
      rfl
    rw [e]
    exact ⟨hl, fun z => absurd z hk, fun _ => hj⟩
theorem playR_ok (h : Two G So St) (hx : x < G.length) : ∀ n, okA G x (playR G So St x n) ∧ hereR G So St x n < G.length
  | 0 => ⟨trivial, hx⟩
  | n + 1 => by
    obtain ⟨h1, h2⟩ := playR_ok h hx n
    have t := (tbr_ok h h2).1
    have hb : okB G (hereR G So St x n) ((tbr So St (plAt G (hereR G So St x n)) (hereR G So St x n) : Nat) : Int) := ⟨by omega, by rw [tg_len]; omega⟩
    have h3 : okA G x (playR G So St x (n + 1)) := okA_append.mpr ⟨h1, hb, trivial⟩
    exact ⟨h3, lastA_lt (wfT_of h.wf) hx h3⟩
theorem hereR_succ (n : Nat) : hereR G So St x (n + 1) = stepT G (hereR G So St x n) ((tbr So St (plAt G (hereR G So St x n)) (hereR G So St x n) : Nat) : Int) := lastF_app G _ _ _
theorem atK_play {n k : Nat} (h : k ≤ n) : atK G x (playR G So St x n) k = hereR G So St x k := by
  unfold atK hereR
  rw [playR_take h]
/-- the first place that comes twice -/
structure Lp (G : List Pl) (So St : List (Option Nat)) (x m f : Nat) : Prop where
  lt : f < m
  le : m ≤ G.length
  eq : hereR G So St x f = hereR G So St x m
  di : ∀ i k, i < k → k < m → hereR G So St x i ≠ hereR G So St x k
theorem play_loop (h : Two G So St) (hx : x < G.length) : ∃ m f, Lp G So St x m f := by
  have ho := (playR_ok h hx G.length).1
  obtain ⟨m, f, h1, h2, h3, h4⟩ := path_loop (wfT_of h.wf) hx ho (by rw [playR_len]; exact Nat.le_refl _)
  rw [playR_len] at h2
  refine ⟨m, f, h1, h2, ?_, fun i k hik hk => ?_⟩
  · rw [atK_play (by omega), atK_play h2] at h3
    exact h3
  · have := h4 i k hik hk
    rw [atK_play (by omega), atK_play (by omega)] at this
    exact this
end
/-- two new lists in a tuple -/
def OwnP (K : PySem.W.Frag) (h b' : Hp) (v : V) : Prop := ∃ t l1 l2 us1 us2, v = V.ref t ∧ SqT K b' t [.ref l1, .ref l2] ∧ h l1 = none ∧ h l2 = none ∧ l1 ≠ l2 ∧ b' l1 = some (.lst us1) ∧ b' l2 = some (.lst us2) ∧ us1.length ≤ 60 ∧ us2.length ≤ 60
theorem tup2N {K : PySem.W.Frag} {σ : L2.St} {b h : Hp} {t1 t2 : TE} {ds1 ds2 : List PyData} {Q : VK} (x1 : EN K t1 σ b ds1) (x2 : EN K t2 σ b ds2) (e : Ex b h) (hl1 : ds1.length ≤ 60) (hl2 : ds2.length ≤ 60)
    (k : ∀ v b' h', Gr b h b' h' → Dt K b' v (.tuple [.list ds1, .list ds2]) → OwnP K h b' v → Q v h') : tTup (tCons t1 (tCons t2 tNil)) σ h Q :=
  x1 h e _ fun l us b1 h1 nl nb g1 hl hus => by
    have g1' := g1.tell nl nb hl
    refine (x2.up g1'.gb) h1 g1'.gi _ fun l2 us2 b2 h2 nl2 nb2 g2 hll hus2 => ?_
    have g2' := g2.tell nl2 nb2 hll
    have G2 := g1'.trans g2'
    refine ⟨by show 2 ≤ sizeLine; decide, fun t ht => ?_⟩
    have G3 := G2.trans (Gr.new (o := .tup [.ref l, .ref l2]) G2.gi ht)
    have nt : (upd b2 l2 (.lst us2)) t = none := none_of G2.gi ht
    have e1 : (upd b1 l (.lst us)) l = some (.lst us) := upd_same
    have e2 : (upd b2 l2 (.lst us2)) l = some (.lst us) := g2'.gb _ _ e1
    have e3 : (upd (upd b2 l2 (.lst us2)) t (.tup [.ref l, .ref l2])) l = some (.lst us) := Ex.new nt _ _ e2
    have e4 : (upd (upd b2 l2 (.lst us2)) t (.tup [.ref l, .ref l2])) l2 = some (.lst us2) := Ex.new nt _ _ upd_same
    have hu1 : DtA K (upd (upd b2 l2 (.lst us2)) t (.tup [.ref l, .ref l2])) us ds1 := (((hus.up (Ex.new nb)).up g2'.gb).up (Ex.new nt))
    have hu2 : DtA K (upd (upd b2 l2 (.lst us2)) t (.tup [.ref l, .ref l2])) us2 ds2 := ((hus2.up (Ex.new nb2)).up (Ex.new nt))
    have hne : l ≠ l2 := ne_of_none hl nl2
    exact k (.ref t) _ _ G3 (Dt.tuple (st_of upd_same) (DtA.cons (Dt.list e3 hu1) (DtA.one (Dt.list e4 hu2)))) ⟨t, l, l2, us, us2, rfl, st_of upd_same, nl, fresh_back g1'.gh nl2, hne, e3, e4, by rw [hus.length]; exact hl1, by rw [hus2.length]; exact hl2⟩
/-- the play of two strategies -/
def spPlay (K : PySem.W.Frag) : Sp := fun vs h Q _ => ∃ (b : Hp) (G : List Pl) (x : Nat) (So St : List (Option Nat)) (m f : Nat), Ex b h ∧ DtA K b vs [gameD G, .int (x : Int), stD So, stD St] ∧ Two G So St ∧ x < G.length ∧ Lp G So St x m f ∧
  ∀ v b' h', Gr b h b' h' → Dt K b' v (.tuple [intsD ((playR G So St x m).take f), intsD ((playR G So St x m).drop f)]) → OwnP K h b' v → Q v h'
/-! ### games without draws -/
def plainP (k : Nat) : Pl → Pl
  | .draw g bs => .side g (decide (k % 2 = 0)) (bs.map (·.2))
  | .side g o ts => .side g o ts
def plainG : Nat → List Pl → List Pl
  | _, [] => []
  | k, p :: G => plainP k p :: plainG (k + 1) G
theorem plainG_len : ∀ (G : List Pl) (k : Nat), (plainG k G).length = G.length
  | [], _ => rfl
  | p :: G, k => congrArg Nat.succ (plainG_len G (k + 1))
theorem plainG_get : ∀ (G : List Pl) (k i : Nat) (p : Pl), G[i]? = some p → (plainG k G)[i]? = some (plainP (k + i) p)
  | [], _, _, _, h => by simp at h
  | q :: G, k, 0, p, h => by
    simp only [List.getElem?_cons_zero, Option.some.injEq] at h
    subst h
    rfl
  | q :: G, k, i + 1, p, h => by
    simp only [List.getElem?_cons_succ] at h
    have := plainG_get G (k + 1) i p h
    rw [show k + (i + 1) = k + 1 + i by omega]
    exact this
theorem plainG_more {G : List Pl} {i : Nat} {p : Pl} (h : G[i]? = some p) : (plainG 0 G).take (i + 1) = (plainG 0 G).take i ++ [plainP i p] := by
  have := plainG_get G 0 i p h
  rw [Nat.zero_add] at this
  exact take_more1 this
theorem plainP_wf {many : Int} {k : Nat} {p : Pl} (h : WfP many p) : WfP many (plainP k p) := by
  cases p with
  | side g o ts => exact h
  | draw g bs =>
    obtain ⟨h1, h2, h3, h4, _⟩ := h
    refine ⟨h1, by rw [List.length_map]; exact h2, by rw [List.length_map]; exact h3, fun t ht => ?_⟩
    obtain ⟨q, hq, rfl⟩ := List.mem_map.mp ht
    exact h4 q hq
theorem plain_mem : ∀ {G : List Pl} {k : Nat} {p : Pl}, p ∈ plainG k G → ∃ q ∈ G, ∃ j, p = plainP j q
  | [], _, _, h => by cases h
  | q :: G, k, p, h => by
    rcases List.mem_cons.mp h with rfl | h
    · exact ⟨q, List.mem_cons_self, k, rfl⟩
    · obtain ⟨q', hq, j, e⟩ := plain_mem h
      exact ⟨q', List.mem_cons_of_mem _ hq, j, e⟩
theorem plain_wf {G : List Pl} (h : WfG G) : WfG (plainG 0 G) := by
  refine ⟨by rw [plainG_len]; exact h.1, by rw [plainG_len]; exact h.2.1, fun p hp => ?_⟩
  obtain ⟨q, hq, j, rfl⟩ := plain_mem hp
  rw [plainG_len]
  exact plainP_wf (h.2.2 q hq)
theorem plain_nd {G : List Pl} : NoDraw (plainG 0 G) := fun p hp => by
  obtain ⟨q, hq, j, rfl⟩ := plain_mem hp
  have hs : ∀ (g : Int × Int) (o : Bool) (ts : List Int), (Pl.side g o ts).kind ≠ "draw" := fun g o ts => by
    cases o with
    | true => exact (by decide +kernel : ("ours" : Str) ≠ "draw")
    | false => exact (by decide +kernel : ("theirs" : Str) ≠ "draw")
  cases q with
  | draw g bs => exact hs _ _ _
  | side g o ts => exact hs _ _ _
def spPlain (K : PySem.W.Frag) : Sp := fun vs h Q _ => ∃ (b : Hp) (G : List Pl), Ex b h ∧ DtA K b vs [gameD G] ∧ WfG G ∧ ∀ v b' h', Gr b h b' h' → Dt K b' v (gameD (plainG 0 G)) → Q v h'
end Md
namespace Md
open PySem L2 Evl
theorem r_retP {K : PySem.W.Frag} {σ : L2.St} {b h : Hp} {t1 t2 : TE} {ds1 ds2 : List PyData} {D : Ends} (x1 : EN K t1 σ b ds1) (x2 : EN K t2 σ b ds2) (e : Ex b h) (hl1 : ds1.length ≤ 60) (hl2 : ds2.length ≤ 60)
    (k : ∀ v b' h', Gr b h b' h' → Dt K b' v (.tuple [.list ds1, .list ds2]) → OwnP K h b' v → D.rt v h') : tRet (tTup (tCons t1 (tCons t2 tNil))) D σ h := tup2N x1 x2 e hl1 hl2 k
theorem ev_if {σ : L2.St} {b : Hp} {t : TT} {ta tb : TE} {v : V} {c : Bool} (x : EvT t σ b c) (h1 : c = true → Ev ta σ b v) (h2 : c = false → Ev tb σ b v) : Ev (tIf t ta tb) σ b v := fun h e Q q => x h e _ fun h' e' => by
  cases hc : c with
  | true =>
    show (if true = true then _ else _)
    rw [if_pos rfl]
    exact h1 hc h' (e.trans e') _ fun h2' e2 => q h2' (e'.trans e2)
  | false =>
    show (if false = true then _ else _)
    rw [if_neg Bool.false_ne_true]
    exact h2 hc h' (e.trans e') _ fun h2' e2 => q h2' (e'.trans e2)
/-- by keywords behind n arguments; nothing is raised -/
def HasK (P : Program) (w : World) (K : PySem.W.Frag) (mg : Str → Option Value) (base : Heap) (k : Nat) (x : Str) (ps ks : List Str) (n m : Nat) (sp : Sp) : Prop :=
  ∃ f fd, FnOk P w K mg base CX0 k f fd ps sp ∧ mg x = some (.ref f) ∧ PySem.W.keepIn K (.ref f) = true ∧ KBinds K fd ps ks (gK n m) (gK n m)
theorem not_mem_loop {G : List Pl} {So St : List (Option Nat)} {x m f i : Nat} (h : Lp G So St x m f) (hi : i < m) : ¬ hereR G So St x i ∈ (List.range i).map (hereR G So St x) := fun z => by
  obtain ⟨j, hj, e⟩ := List.mem_map.mp z
  exact h.di j i (List.mem_range.mp hj) hi e
theorem ours_dec (p : Pl) : decide (V.str p.kind = V.str "ours") = decide (p.kind = "ours") := by
  rw [Bool.eq_iff_iff, decide_eq_true_iff, decide_eq_true_iff]
  exact ⟨fun z => by injection z, fun z => by rw [z]⟩
end Md
namespace Md
open PySem L2 Evl
section
variable {K : PySem.W.Frag} {σ : L2.St} {b h : Hp} {te ta tb t1 t2 : TE} {ts tk : TA} {D : Ends} {tz : TS} {ds1 ds2 : List PyData} {E : XK}
theorem ev_differQ {p : Int × Int} (x : ED K ta σ b (nD p)) (y : ED K tb σ b (nD p)) : Ev (tOp (rNeD K) ta tb) σ b (.bl false) := by
  have hs : SeqAt.shaped (nD p) = true := rfl
  have := ev_neD x y hs hs
  rwa [PySem.SeqAt.eqv_refl (nD p) rfl] at this
theorem r_parN {i j : Nat} (x1 : EN K t1 σ b ds1) (x2 : EN K t2 σ b ds2) (e : Ex b h) (k : ∀ p us q vs b' h', h p = none → h q = none → p ≠ q → b' p = none → b' q = none → Gr b h b' h' → h' p = some (.lst us) → h' q = some (.lst vs) → DtA K b' us ds1 → DtA K b' vs ds2 → tz D ((σ.set i (some (.ref p))).set j (some (.ref q))) h') :
    tSeq (tPar i j (tCons t1 (tCons t2 tNil))) tz D σ h := x1 h e _ fun p us b1 h1 np nb g1 hp hus => (x2.up g1.gb) h1 g1.gi _ fun q vs b2 h2 nq nbq g2 hq hvs =>
  ⟨_, _, rfl, k p us q vs b2 h2 np (fresh_back g1.gh nq) (ne_of_none hp nq) (g2.gf p nb (by rw [hp]; intro z; cases z)) nbq (g1.trans g2) (g2.gh _ _ hp) hq (hus.up g2.gb) hvs⟩
/-- ns[i], the index of a list that is not spoken of -/
theorem ev_ixM {ns : List Int} {z : Int} (j : Nat) (x : ED K ta σ b (.list (ns.map PyData.int))) (e : Ex b h) (y : Ev tb σ h (.int z)) (hz : z = (j : Int)) (hj : j < ns.length) : Ev (tOp (rIxL K) ta tb) σ h (.int (ns.getD j 0)) := fun h1 e1 Q q =>
  x h1 (e.trans e1) _ fun v b2 h2 g2 hv => y h2 (e1.trans g2.gh) _ fun h3 e3 => by
    obtain ⟨a, xs, rfl, k1, k2⟩ := hv.listI
    obtain ⟨v, hv, hd⟩ := k2.atI (at_ints hz hj)
    rw [hd.intI] at hv
    exact ⟨a, xs, z, _, rfl, rfl, sq_of (e3 _ _ (g2.gi _ _ k1)), hv, q h3 (g2.gh.trans e3)⟩
theorem r_callK {sp : Sp} {i n m : Nat} (x : EDA K ts σ b ds1) (y : EDA K tk σ b ds2) (e : Ex b h) (hn : ds1.length = n) (hm : ds2.length = m) (k : ∀ vs b' h', Gr b h b' h' → DtA K b' vs (ds1 ++ ds2) → sp vs h' (fun v h2 => tz D (σ.set i (some v)) h2) E) :
    tSeq (tAsg (L2.tCallK sp (gK n m) E ts tk) (gName i)) tz D σ h := x h e _ fun vs b1 h1 g1 hv => y.up g1.gb h1 g1.gi _ fun zs b2 h2 g2 hz => k _ b2 h2 (g1.trans g2) (gK_app (by rw [hv.length, hn]) (by rw [hz.length, hm]) ((hv.up g2.gb).append hz))
theorem ev_notB {c d : Bool} (x : Ev ta σ b (.bl c)) (y : Ev tb σ b (.bl d)) : Ev (tOp rNotB ta tb) σ b (.bl (!decide (c = d))) := fun h e _ q => x h e _ fun h1 e1 => y h1 (e.trans e1) _ fun h2 e2 => ⟨c, d, rfl, rfl, q h2 (e1.trans e2)⟩
theorem ed_gain {C N : Addr} {G : List Pl} {x : Nat} {r s : List Int} (y : EDA K ts σ b [gameD G, .int (x : Int), intsD r, intsD s]) (h1 : WfG G) (h3 : x < G.length) (h4 : r.length + s.length ≤ 60) (h5 : okA G x (r ++ s)) (h6 : s ≠ []) (h7 : lastF G x (r ++ s) = lastF G x r) :
    ED K (tCall (spGain K C N) [] E ts) σ b (nD (gainAns G (lastF G x r) s)) := fun h e _ q =>
  y h e _ fun vs b2 h2' g2 hv => ⟨b2, G, x, r, s, g2.gi, by rw [List.append_nil]; exact hv, h1, h3, h4, fun _ _ _ v b3 h3 g3 hv3 => q v b3 h3 (g2.trans g3) hv3, fun hc => by
    rcases hc.2 with z | z
    · exact absurd z h6
    · exact absurd h7 z, fun j hj => (bad_ok hj h5).elim⟩
theorem ex_plain {G : List Pl} (y : EDA K ts σ b [gameD G]) (h1 : WfG G) : ED K (tCall (spPlain K) [] E ts) σ b (gameD (plainG 0 G)) := fun h e _ q =>
  y h e _ fun vs b2 h2' g2 hv => ⟨b2, G, g2.gi, by rw [List.append_nil]; exact hv, h1, fun v b3 h3 g3 hv3 => q v b3 h3 (g2.trans g3) hv3⟩
theorem ex_game {ds : List Int} {most : Int} (y : EDA K ts σ b [.list (ds.map PyData.int), .int most]) (h1 : 1 ≤ most) (h2 : most ≤ 12) (h3 : 1 + 15 * most ≤ (ds.length : Int)) (h4 : ∀ d ∈ ds, 0 ≤ d ∧ d < 1000) : EX K (tCall (spGame K) [] E ts) σ b (fun d => ∃ G, WfG G ∧ (G.length : Int) ≤ most ∧ d = gameD G) := fun h e _ q =>
  y h e _ fun vs b2 h2' g2 hv => ⟨b2, ds, most, g2.gi, by rw [List.append_nil]; exact hv, h1, h2, h3, h4, fun v b3 h3' G g3 hW hl hv3 => q v b3 h3' (gameD G) (g2.trans g3) ⟨G, hW, hl, rfl⟩ hv3⟩
end
section
variable {G : List Pl} {So St : List (Option Nat)} {x m f : Nat}
theorem path_play (n : Nat) : pathF G x (playR G So St x n) = (List.range (n + 1)).map (hereR G So St x) := by
  refine List.ext_getElem? fun k => ?_
  by_cases hk : k ≤ n
  · rw [path_getK (by rw [playR_len]; exact hk), atK_play hk, List.getElem?_map, List.getElem?_range (by omega)]
    rfl
  · rw [List.getElem?_eq_none (by rw [pathF_len, playR_len]; omega), List.getElem?_eq_none (by rw [List.length_map, List.length_range]; omega)]
theorem playR_get {n k : Nat} (h : k < n) : (playR G So St x n)[k]? = some ((tbr So St (plAt G (hereR G So St x k)) (hereR G So St x k) : Nat) : Int) := by
  have e := playR_take (G := G) (So := So) (St := St) (x := x) (n := n) (k := k + 1) h
  have e2 := congrArg (fun l : List Int => l[k]?) e
  rw [List.getElem?_take_of_lt (Nat.lt_succ_self k)] at e2
  rw [e2]
  show (playR G So St x k ++ [_])[k]? = _
  rw [List.getElem?_append_right (by rw [playR_len]; exact Nat.le_refl _), playR_len, Nat.sub_self]
  rfl
theorem here_again (h : Lp G So St x m f) : ∀ j, hereR G So St x (m + j) = hereR G So St x (f + j)
  | 0 => h.eq.symm
  | j + 1 => by
    rw [← Nat.add_assoc, ← Nat.add_assoc, hereR_succ, hereR_succ, here_again h j]
/-- the circle once more -/
theorem play_again (h : Lp G So St x m f) : playR G So St x (m + (m - f)) = (playR G So St x m).take f ++ (playR G So St x m).drop f ++ (playR G So St x m).drop f := by
  have hlt := h.lt
  rw [List.take_append_drop]
  refine List.ext_getElem? fun k => ?_
  rcases Nat.lt_or_ge k m with z | z
  · rw [List.getElem?_append_left (by rw [playR_len]; exact z), playR_get (by omega), playR_get z]
  · rw [List.getElem?_append_right (by rw [playR_len]; exact z), playR_len, List.getElem?_drop]
    rcases Nat.lt_or_ge k (m + (m - f)) with z2 | z2
    · rw [playR_get z2, playR_get (by omega)]
      have := here_again h (k - m)
      rw [show m + (k - m) = k by omega] at this
      rw [this]
    · rw [List.getElem?_eq_none (by rw [playR_len]; exact z2), List.getElem?_eq_none (by rw [playR_len]; omega)]
theorem fol_play (h : Two G So St) (hx : x < G.length) (n : Nat) : folF G "ours" So x (playR G So St x n) = true ∧ folF G "theirs" St x (playR G So St x n) = true := by
  have key : ∀ k, k < n → lastF G x ((playR G So St x n).take k) = hereR G So St x k := fun k hk => by
    rw [playR_take (Nat.le_of_lt hk)]
    rfl
  constructor
  · unfold folF
    rw [List.all_eq_true]
    intro k hk
    have hkn := List.mem_range.mp hk
    rw [playR_len] at hkn
    unfold fK eK
    rw [key k hkn]
    have hy := (playR_ok h hx k).2
    obtain ⟨t1, t2, t3⟩ := tbr_ok h hy
    by_cases hkd : (plAt G (hereR G So St x k)).kind = "ours"
    · rw [List.getD_eq_getElem?_getD, playR_get hkn, List.getD_eq_getElem?_getD, t2 hkd]
      show (!(_ && !decide (V.int _ = V.int _))) = true
      simp
    · have e : decide (V.str (plAt G (hereR G So St x k)).kind = V.str "ours") = false := by
        rw [ours_dec]
        exact decide_eq_false hkd
      rw [e]
      rfl
  · unfold folF
    rw [List.all_eq_true]
    intro k hk
    have hkn := List.mem_range.mp hk
    rw [playR_len] at hkn
    unfold fK eK
    rw [key k hkn]
    have hy := (playR_ok h hx k).2
    obtain ⟨t1, t2, t3⟩ := tbr_ok h hy
    by_cases hkd : (plAt G (hereR G So St x k)).kind = "ours"
    · have e : decide (V.str (plAt G (hereR G So St x k)).kind = V.str "theirs") = false := by
        rw [hkd]
        exact decide_eq_false (fun z => by injection z with z; exact kd_ou z)
      rw [e]
      rfl
    · rw [List.getD_eq_getElem?_getD, playR_get hkn, List.getD_eq_getElem?_getD, t3 hkd]
      show (!(_ && !decide (V.int _ = V.int _))) = true
      simp
end
theorem dep_pair (n : Nat) {l1 l2 : List Int} (h1 : l1.length ≤ 30000) (h2 : l2.length ≤ 30000) : Dep (n + 3) (.tuple [intsD l1, intsD l2]) := ⟨by show 2 ≤ 30000; decide, fun d hd => by
  simp only [List.mem_cons, List.not_mem_nil, or_false] at hd
  rcases hd with rfl | rfl
  · exact dep_ints _ h1
  · exact dep_ints _ h2⟩
end Md
namespace Md
open PySem L2 Evl
section
variable {K : PySem.W.Frag} {σ : L2.St} {b h : Hp} {te t1 t2 : TE} {D : Ends} {tz : TS} {E : XK} {P1 P2 : PyData → Prop}
theorem ex_plainG {most : Int} (x : EX K te σ b (fun d => ∃ G, WfG G ∧ (G.length : Int) ≤ most ∧ d = gameD G)) : EX K (tCall (spPlain K) [] E (tCons te tNil)) σ b (fun d => ∃ G, WfG G ∧ (G.length : Int) ≤ most ∧ d = gameD (plainG 0 G)) := fun h e _ q =>
  x h e _ fun v b2 h2 d g2 hd hv => by
    obtain ⟨G, hW, hl, rfl⟩ := hd
    exact ⟨b2, G, g2.gi, DtA.one hv, hW, fun v b3 h3 g3 hv3 => q v b3 h3 _ (g2.trans g3) ⟨G, hW, hl, rfl⟩ hv3⟩
theorem r_par2X {i j : Nat} (x1 : EX K t1 σ b P1) (x2 : EX K t2 σ b P2) (e : Ex b h) (k : ∀ v1 v2 d1 d2 b' h', Gr b h b' h' → P1 d1 → P2 d2 → Dt K b' v1 d1 → Dt K b' v2 d2 → tz D ((σ.set i (some v1)).set j (some v2)) h') : tSeq (tPar i j (tCons t1 (tCons t2 tNil))) tz D σ h :=
  x1 h e _ fun v1 b1 h1 d1 g1 p1 k1 => x2.up g1.gb h1 g1.gi _ fun v2 b2 h2 d2 g2 p2 k2 => ⟨_, _, rfl, k v1 v2 d1 d2 b2 h2 (g1.trans g2) p1 p2 (k1.up g2.gb) k2⟩
end
theorem two_side {G : List Pl} {So St : List (Option Nat)} (h : Two G So St) {y : Nat} (hy : y < G.length) : ∃ S : List (Option Nat), L2.atI [stD So, stD St] (if decide (V.str (plAt G y).kind = V.str "theirs") = true then 1 else 0) = some (.list (S.map svD)) ∧ L2.atI (S.map svD) (y : Int) = some (.int ((tbr So St (plAt G y) y : Nat) : Int)) := by
  obtain ⟨t1, t2, t3⟩ := tbr_ok h hy
  by_cases hk : (plAt G y).kind = "ours"
  · refine ⟨So, ?_, atI_nat (by rw [List.getElem?_map, t2 hk] <;> rfl)⟩
    rw [if_neg (by
      intro z
      have z' := of_decide_eq_true z
      injection z' with z'
      rw [hk] at z'
      exact kd_ou z')]
    rw [stD_eq]
    rfl
  · have hk2 : (plAt G y).kind = "theirs" := by
      by_cases z : (plAt G y).kind = "theirs"
      · exact z
      · exact absurd (kind_side (h.nd _ (List.mem_of_getElem? (plAt_get hy))) z) hk
    refine ⟨St, ?_, atI_nat (by rw [List.getElem?_map, t3 hk] <;> rfl)⟩
    rw [if_pos (decide_eq_true (by rw [hk2]))]
    rw [stD_eq, stD_eq]
    rfl
end Md
namespace Md
open PySem L2 Evl
/-- x, y = (one new list, another), by way of a tuple -/
theorem r_unN {K : PySem.W.Frag} {σ : L2.St} {b h : Hp} {t1 t2 : TE} {D : Ends} {tz : TS} {ds1 ds2 : List PyData} {i j : Nat} (x1 : EN K t1 σ b ds1) (x2 : EN K t2 σ b ds2) (e : Ex b h)
    (k : ∀ p us q vs b' h', h p = none → h q = none → p ≠ q → b' p = none → b' q = none → Gr b h b' h' → h' p = some (.lst us) → h' q = some (.lst vs) → DtA K b' us ds1 → DtA K b' vs ds2 → tz D ((σ.set i (some (.ref p))).set j (some (.ref q))) h') :
    tSeq (tAsg (tTup (tCons t1 (tCons t2 tNil))) (gTup K 2 (gCons (gName i) (gCons (gName j) gNil)))) tz D σ h := x1 h e _ fun p us b1 h1 np nb g1 hp hus => (x2.up g1.gb) h1 g1.gi _ fun q vs b2 h2 nq nbq g2 hq hvs => by
  refine ⟨by show 2 ≤ sizeLine; decide, fun t ht => ?_⟩
  have G := (g1.trans g2).trans (Gr.hid (o := .tup [.ref p, .ref q]) g2.gi ht)
  have hp2 := g2.gh _ _ hp
  refine ⟨t, _, rfl, st_of upd_same, rfl, _, _, rfl, _, _, rfl, rfl, ?_⟩
  exact k p us q vs b2 _ np (fresh_back g1.gh nq) (ne_of_none hp nq) (g2.gf p nb (by rw [hp]; intro z; cases z)) nbq G (by rw [upd_ne (ne_of_none hp2 ht)]; exact hp2) (by rw [upd_ne (ne_of_none hq ht)]; exact hq) (hus.up g2.gb) hvs
end Md


set_option Elab.async false
set_option linter.all false
set_option maxRecDepth 100000
set_option maxHeartbeats 2000000
namespace Md
open PySem L2 Evl
/-! ### ways unrolled -/
def fstI : List Nat → Nat → Nat
  | [], _ => 0
  | z :: l, y => if z = y then 0 else fstI l y + 1
theorem fst_spec : ∀ {l : List Nat} {y : Nat}, y ∈ l → l[fstI l y]? = some y ∧ ∀ m, m < fstI l y → l[m]? ≠ some y
  | [], _, h => by cases h
  | z :: l, y, h => by
    by_cases e : z = y
    · have e0 : fstI (z :: l) y = 0 := if_pos e
      rw [e0]
      exact ⟨by rw [List.getElem?_cons_zero, e], fun m hm => absurd hm (Nat.not_lt_zero _)⟩
    · have e1 : fstI (z :: l) y = fstI l y + 1 := if_neg e
      rw [e1]
      have hm : y ∈ l := by
        rcases List.mem_cons.mp h with z2 | z2
        · exact absurd z2.symm e
        · exact z2
      obtain ⟨h1, h2⟩ := fst_spec hm
      refine ⟨by rw [List.getElem?_cons_succ]; exact h1, fun m hm => ?_⟩
      cases m with
      | zero =>
        rw [List.getElem?_cons_zero]
        intro q
        exact e (Option.some.inj q)
      | succ m =>
        rw [List.getElem?_cons_succ]
        exact h2 m (by omega)
theorem fst_of {l : List Nat} {y j : Nat} (h : l[j]? = some y) (hno : ∀ m, m < j → l[m]? ≠ some y) : fstI l y = j := by
  obtain ⟨h1, h2⟩ := fst_spec (List.mem_of_getElem? h)
  rcases Nat.lt_trichotomy (fstI l y) j with z | z | z
  · exact absurd h1 (hno _ z)
  · exact z
  · exact absurd h (h2 j z)
abbrev US := List Int × List (Nat × List Int)
def unrS (G : List Pl) (x : Nat) (s : US) (n : Int) : US :=
  if lastF G x (s.1 ++ [n]) ∈ pathF G x s.1 then ((s.1 ++ [n]).take (fstI (pathF G x s.1) (lastF G x (s.1 ++ [n]))), s.2 ++ [(lastF G x (s.1 ++ [n]), (s.1 ++ [n]).drop (fstI (pathF G x s.1) (lastF G x (s.1 ++ [n]))))])
  else (s.1 ++ [n], s.2)
def unrF (G : List Pl) (x : Nat) (r : List Int) : US := r.foldl (unrS G x) ([], [])
theorem unrF_more {G : List Pl} {x : Nat} {r : List Int} {i : Nat} {n : Int} (h : r[i]? = some n) : unrF G x (r.take (i + 1)) = unrS G x (unrF G x (r.take i)) n := by
  unfold unrF
  rw [take_more1 h, List.foldl_append]
  rfl
/-- a circle: its place and its branches -/
structure Circ (G : List Pl) (n : Nat) (p : Nat × List Int) : Prop where
  lt : p.1 < G.length
  ok : okA G p.1 p.2
  cy : lastF G p.1 p.2 = p.1
  di : ∀ i k, i < k → k < p.2.length → atK G p.1 p.2 i ≠ atK G p.1 p.2 k
  le : p.2.length ≤ n
def cSum (G : List Pl) (C : List (Nat × List Int)) : Rat := (C.map fun p => qSum G p.1 p.2).sum
def cLen (C : List (Nat × List Int)) : Nat := (C.map fun p => p.2.length).sum
structure UInv (G : List Pl) (x : Nat) (r : List Int) (s : US) : Prop where
  ok : okA G x s.1
  di : ∀ i k, i < k → k ≤ s.1.length → atK G x s.1 i ≠ atK G x s.1 k
  last : lastF G x s.1 = lastF G x r
  len : s.1.length + cLen s.2 = r.length
  sum : qSum G x s.1 + cSum G s.2 = qSum G x r
  circ : ∀ p ∈ s.2, Circ G r.length p
  many : s.2.length ≤ r.length
theorem atK_take {G : List Pl} {x : Nat} {r : List Int} {k n : Nat} (h : k ≤ n) : atK G x (r.take n) k = atK G x r k := by
  unfold atK
  rw [List.take_take, Nat.min_eq_left h]
theorem atK_app {G : List Pl} {x : Nat} {r s : List Int} {k : Nat} (h : k ≤ r.length) : atK G x (r ++ s) k = atK G x r k := by
  unfold atK
  rw [List.take_append_of_le_length h]
theorem atK_drop {G : List Pl} {x : Nat} {r : List Int} {a k : Nat} (h : a + k ≤ r.length) : atK G (atK G x r a) (r.drop a) k = atK G x r (a + k) := by
  unfold atK
  rw [← lastF_append]
  congr 1
  rw [List.take_add]
theorem atK_all {G : List Pl} {x : Nat} {r : List Int} : atK G x r r.length = lastF G x r := by
  unfold atK
  rw [List.take_length]
theorem sum_snoc (l : List Rat) (a : Rat) : (l ++ [a]).sum = l.sum + a := by
  rw [List.sum_append, List.sum_cons, List.sum_nil, Rat.add_zero]
theorem nsum_snoc (l : List Nat) (a : Nat) : (l ++ [a]).sum = l.sum + a := by
  rw [List.sum_append, List.sum_cons, List.sum_nil, Nat.add_zero]
theorem unr_step {G : List Pl} (h : WfG G) {x : Nat} (hx : x < G.length) {r : List Int} {s : US} {n : Int} (u : UInv G x r s) (hn : okB G (lastF G x r) n) : UInv G x (r ++ [n]) (unrS G x s n) := by
  obtain ⟨u1, u2, u3, u4, u5, u6, u7⟩ := u
  have hP : okA G x (s.1 ++ [n]) := okA_append.mpr ⟨u1, by rw [u3]; exact hn, trivial⟩
  have hl : lastF G x (s.1 ++ [n]) = lastF G x (r ++ [n]) := by rw [lastF_app, lastF_app, u3]
  have hs : qSum G x (s.1 ++ [n]) + cSum G s.2 = qSum G x (r ++ [n]) := by
    rw [qSum_append, qSum_append, u3, ← u5]
    grind
  have hc : ∀ p ∈ s.2, Circ G (r ++ [n]).length p := fun p hp => by
    obtain ⟨c1, c2, c3, c4, c5⟩ := u6 p hp
    exact ⟨c1, c2, c3, c4, by rw [List.length_append]; omega⟩
  unfold unrS
  split
  · rename_i hm
    obtain ⟨f1, f2⟩ := fst_spec hm
    generalize hy : lastF G x (s.1 ++ [n]) = y at hm f1 f2 hl ⊢
    generalize fstI (pathF G x s.1) y = a at f1 f2 ⊢
    have hal : a ≤ s.1.length := by
      have := (List.getElem?_eq_some_iff.mp f1).1
      rw [pathF_len] at this
      omega
    have hya : atK G x s.1 a = y := by
      rw [path_getK hal] at f1
      exact Option.some.inj f1
    have hPl : (s.1 ++ [n]).length = s.1.length + 1 := by rw [List.length_append]; rfl
    have hya2 : atK G x (s.1 ++ [n]) a = y := by rw [atK_app hal]; exact hya
    have htk : (s.1 ++ [n]).take a ++ (s.1 ++ [n]).drop a = s.1 ++ [n] := List.take_append_drop a _
    have hok2 : okA G x ((s.1 ++ [n]).take a ++ (s.1 ++ [n]).drop a) := by rw [htk]; exact hP
    obtain ⟨ok1, okc⟩ := okA_append.mp hok2
    have hlt : lastF G x ((s.1 ++ [n]).take a) = y := hya2
    rw [hlt] at okc
    have hcy : lastF G y ((s.1 ++ [n]).drop a) = y := by
      have : lastF G x ((s.1 ++ [n]).take a ++ (s.1 ++ [n]).drop a) = y := by rw [htk]; exact hy
      rw [lastF_append, hlt] at this
      exact this
    have hsplit : qSum G x ((s.1 ++ [n]).take a) + qSum G y ((s.1 ++ [n]).drop a) = qSum G x (s.1 ++ [n]) := by
      have := qSum_append G x ((s.1 ++ [n]).take a) ((s.1 ++ [n]).drop a)
      rw [htk, hlt] at this
      exact this.symm
    have hyl : y < G.length := by rw [← hya]; exact atK_lt (wfT_of h) hx u1 a
    have hcr : Circ G (r ++ [n]).length (y, (s.1 ++ [n]).drop a) := by
      refine ⟨hyl, okc, hcy, fun i k hik hk => ?_, ?_⟩
      · have hk' : k < (s.1 ++ [n]).length - a := by
          have : k < ((s.1 ++ [n]).drop a).length := hk
          rwa [List.length_drop] at this
        rw [hPl] at hk'
        show atK G y ((s.1 ++ [n]).drop a) i ≠ atK G y ((s.1 ++ [n]).drop a) k
        rw [← hya2, atK_drop (by rw [hPl]; omega), atK_drop (by rw [hPl]; omega), atK_app (by omega), atK_app (by omega)]
        exact u2 _ _ (by omega) (by omega)
      · show ((s.1 ++ [n]).drop a).length ≤ _
        rw [List.length_drop, hPl, List.length_append]
        have : s.1.length ≤ r.length := by omega
        show _ ≤ _ + 1
        omega
    refine ⟨ok1, fun i k hik hk => ?_, by rw [hlt, hl], ?_, ?_, fun p hp => ?_, ?_⟩
    · have hk' : k ≤ a := by
        have : k ≤ ((s.1 ++ [n]).take a).length := hk
        rw [List.length_take] at this
        omega
      show atK G x ((s.1 ++ [n]).take a) i ≠ atK G x ((s.1 ++ [n]).take a) k
      rw [atK_take (by omega), atK_take hk', atK_app (by omega), atK_app (by omega)]
      exact u2 i k hik (by omega)
    · show ((s.1 ++ [n]).take a).length + cLen (s.2 ++ [_]) = _
      unfold cLen
      rw [List.map_append, List.map_cons, List.map_nil, nsum_snoc, List.length_append, List.length_take, List.length_drop, hPl]
      unfold cLen at u4
      show _ + _ = r.length + 1
      omega
    · show qSum G x ((s.1 ++ [n]).take a) + cSum G (s.2 ++ [_]) = _
      unfold cSum
      rw [List.map_append, List.map_cons, List.map_nil, sum_snoc]
      unfold cSum at hs
      rw [← hs, ← hsplit]
      grind
    · rcases List.mem_append.mp hp with hp | hp
      · exact hc p hp
      · rw [List.mem_singleton] at hp
        rw [hp]
        exact hcr
    · show (s.2 ++ [_]).length ≤ (r ++ [n]).length
      rw [List.length_append, List.length_append]
      show _ + 1 ≤ _ + 1
      omega
  · rename_i hm
    refine ⟨hP, fun i k hik hk => ?_, hl, ?_, hs, hc, by show s.2.length ≤ _; rw [List.length_append]; omega⟩
    · have hk' : k ≤ s.1.length + 1 := by
        have : k ≤ (s.1 ++ [n]).length := hk
        rwa [List.length_append] at this
      show atK G x (s.1 ++ [n]) i ≠ atK G x (s.1 ++ [n]) k
      rcases Nat.lt_or_ge s.1.length k with z | z
      · obtain rfl : k = s.1.length + 1 := by omega
        have e : atK G x (s.1 ++ [n]) (s.1.length + 1) = lastF G x (s.1 ++ [n]) := by
          have e2 : s.1.length + 1 = (s.1 ++ [n]).length := by rw [List.length_append]; rfl
          rw [e2, atK_all]
        rw [e, atK_app (by omega)]
        intro q
        refine hm ?_
        rw [← q]
        exact List.mem_of_getElem? (path_getK (by omega))
      · rw [atK_app (by omega), atK_app z]
        exact u2 i k hik z
    · show (s.1 ++ [n]).length + cLen s.2 = _
      rw [List.length_append, List.length_append]
      show _ + 1 + _ = _ + 1
      omega
theorem unr_inv {G : List Pl} (h : WfG G) {x : Nat} (hx : x < G.length) {r : List Int} (ho : okA G x r) : ∀ i, i ≤ r.length → UInv G x (r.take i) (unrF G x (r.take i))
  | 0, _ => by
    rw [List.take_zero]
    refine ⟨trivial, fun i k h1 h2 => ?_, rfl, rfl, ?_, fun p hp => (by cases hp), Nat.zero_le _⟩
    · have : k ≤ 0 := h2
      omega
    · show qSum G x [] + cSum G [] = qSum G x []
      unfold cSum
      rw [List.map_nil, List.sum_nil, Rat.add_zero]
  | i + 1, hi => by
    obtain ⟨n, hn⟩ : ∃ n, r[i]? = some n := ⟨_, List.getElem?_eq_getElem hi⟩
    rw [unrF_more hn, take_more1 hn]
    exact unr_step h hx (unr_inv h hx ho i (Nat.le_of_succ_le hi)) (okTo_of ho i n hi hn)
end Md

namespace Md
open PySem L2 Evl
def circD (p : Nat × List Int) : PyData := .tuple [.int (p.1 : Int), intsD p.2]
def unrD (s : US) : PyData := .tuple [intsD s.1, .list (s.2.map circD)]
def OwnC (K : PySem.W.Frag) (h b' : Hp) (v : V) : Prop := ∃ t c us y, v = V.ref t ∧ SqT K b' t [.int y, .ref c] ∧ h c = none ∧ b' c = some (.lst us) ∧ us.length ≤ 60
theorem OwnC.up {K : PySem.W.Frag} {h b b' : Hp} {v : V} (x : OwnC K h b v) (e : Ex b b') : OwnC K h b' v := by
  obtain ⟨t, c, us, y, h1, h2, h3, h4, h5⟩ := x
  exact ⟨t, c, us, y, h1, ex_t e h2, h3, e _ _ h4, h5⟩
theorem OwnC.back {K : PySem.W.Frag} {h h1 b : Hp} {v : V} (x : OwnC K h1 b v) (e : Ex h h1) : OwnC K h b v := by
  obtain ⟨t, c, us, y, q1, q2, q3, q4, q5⟩ := x
  exact ⟨t, c, us, y, q1, q2, fresh_back e q3, q4, q5⟩
def OwnU (K : PySem.W.Frag) (h b' : Hp) (v : V) : Prop := ∃ t l1 l2 us1 us2, v = V.ref t ∧ SqT K b' t [.ref l1, .ref l2] ∧ h l1 = none ∧ h l2 = none ∧ l1 ≠ l2 ∧ b' l1 = some (.lst us1) ∧ b' l2 = some (.lst us2) ∧ us1.length ≤ 60 ∧ us2.length ≤ 60 ∧ ∀ u ∈ us2, OwnC K h b' u
section
variable {K : PySem.W.Frag} {σ : L2.St} {b h : Hp} {te ta t1 t2 : TE} {ts : TA} {E : XK} {D : Ends} {tz : TS} {ds : List PyData} {y : Int} {q : Addr} {us : List V}
theorem tupC {Q : VK} (x1 : Ev t1 σ b (.int y)) (x2 : EN K t2 σ b ds) (e : Ex b h) (hl : ds.length ≤ 60) (k : ∀ v b' h', Gr b h b' h' → Dt K b' v (.tuple [.int y, .list ds]) → OwnC K h b' v → Q v h') : tTup (tCons t1 (tCons t2 tNil)) σ h Q :=
  x1 h e _ fun h1 e1 => x2 h1 (e.trans e1) _ fun l us b2 h2 nl nb g2 hl2 hus => by
    have g2' := g2.tell nl nb hl2
    refine ⟨by show 2 ≤ sizeLine; decide, fun t ht => ?_⟩
    have G3 := (Gr.stay e e1).trans (g2'.trans (Gr.new (o := .tup [.int y, .ref l]) g2'.gi ht))
    have nt : (upd b2 l (.lst us)) t = none := none_of g2'.gi ht
    have e3 : (upd (upd b2 l (.lst us)) t (.tup [.int y, .ref l])) l = some (.lst us) := Ex.new nt _ _ upd_same
    exact k (.ref t) _ _ G3 (Dt.tuple (st_of upd_same) (DtA.cons (Dt.int y) (DtA.one (Dt.list e3 ((hus.up (Ex.new nb)).up (Ex.new nt)))))) ⟨t, l, us, y, rfl, st_of upd_same, fresh_back e1 nl, e3, by rw [hus.length]; exact hl⟩
theorem r_appC (hq : h q = some (.lst us)) (ha : Ev ta σ h (.ref q)) (x1 : Ev t1 σ b (.int y)) (x2 : EN K t2 σ b ds) (e : Ex b h) (nb : b q = none) (hz : us.length < 100000) (hl : ds.length ≤ 60)
    (k : ∀ v b' h', Gr b h b' h' → b' q = none → h' q = some (.lst us) → Dt K b' v (.tuple [.int y, .list ds]) → OwnC K h b' v → tz D σ (upd h' q (.lst (us ++ [v])))) : tSeq (tDrop (tBM K "list" rAppend ta (tCons (tTup (tCons t1 (tCons t2 tNil))) tNil))) tz D σ h :=
  ha h (Ex.refl h) _ fun h1 e1 => ⟨Or.inl ⟨rfl, us, sq_of (e1 _ _ hq)⟩, tupC x1 x2 (e.trans e1) hl fun v b2 h2 g2 hv hw => ⟨q, us, v, rfl, rfl, g2.gh _ _ (e1 _ _ hq), sz_lt hz, k v b2 h2 ((Gr.stay e e1).trans g2) (g2.gf q nb (by rw [e1 _ _ hq]; intro z; cases z)) (g2.gh _ _ (e1 _ _ hq)) hv (hw.back e1)⟩⟩
/-- len of a list that is not spoken of -/
theorem ev_lenM (hq : h q = some (.lst us)) (ha : Ev ta σ h (.ref q)) : Ev (tCB (rLenS K) (tCons ta tNil)) σ h (.int (us.length : Int)) := fun h1 e _ k => ha h1 e _ fun h2 e2 => ⟨q, us, rfl, .inl (sq_of ((e.trans e2) _ _ hq)), k h2 e2⟩
end
def spUnr (K : PySem.W.Frag) (C : Addr) : Sp := fun vs h Q E => ∃ (b : Hp) (G : List Pl) (x : Nat) (r : List Int), Ex b h ∧ DtA K b vs [gameD G, .int (x : Int), intsD r] ∧ WfG G ∧ x < G.length ∧ r.length ≤ 50 ∧
  (okA G x r → ∀ v b' h', Gr b h b' h' → Dt K b' v (unrD (unrF G x r)) → OwnU K h b' v → Q v h') ∧ (∀ j, BadAt G x r j → NBAt h C (j : Int) E)
theorem cut_dropN {l : List Nat} {a : Nat} (h : a ≤ l.length) : cutD (l.map fun x : Nat => PyData.int (x : Int)) (some (a : Int)) none = (l.drop a).map fun x : Nat => PyData.int (x : Int) := by
  unfold cutD
  rw [List.length_map, HT.sIx_none, sIx_of _ h, ← List.map_drop, ← List.map_take, List.take_of_length_le (by rw [List.length_drop]; exact Nat.le_refl _)]
end Md
namespace Md
open PySem L2 Evl
theorem r_setN1 {K : PySem.W.Frag} {σ : L2.St} {b h : Hp} {te : TE} {D : Ends} {ds : List PyData} {i : Nat} (x : EN K te σ b ds) (e : Ex b h) (k : ∀ p us b' h', h p = none → b' p = none → Gr b h b' h' → h' p = some (.lst us) → DtA K b' us ds → D.nx (σ.set i (some (.ref p))) h') : tAsg te (gName i) D σ h := x h e _ fun p us b' h' np nb g hp hu => k p us b' h' np nb g hp hu
end Md
namespace Md
open PySem L2 Evl
def pairsR (G : List Pl) : Nat → List Int → List (Nat × Int)
  | _, [] => []
  | x, n :: r => (x, n) :: pairsR G (stepT G x n) r
def pairD (p : Nat × Int) : PyData := .tuple [.int (p.1 : Int), .int p.2]
theorem pairsR_app (G : List Pl) : ∀ (r : List Int) (x : Nat) (n : Int), pairsR G x (r ++ [n]) = pairsR G x r ++ [(lastF G x r, n)]
  | [], x, n => rfl
  | m :: r, x, n => congrArg ((x, m) :: ·) (pairsR_app G r (stepT G x m) n)
theorem pairsR_len (G : List Pl) : ∀ (r : List Int) (x : Nat), (pairsR G x r).length = r.length
  | [], x => rfl
  | m :: r, x => congrArg Nat.succ (pairsR_len G r (stepT G x m))
theorem pairsR_snd (G : List Pl) : ∀ (r : List Int) (x : Nat), (pairsR G x r).map (·.2) = r
  | [], x => rfl
  | m :: r, x => congrArg (m :: ·) (pairsR_snd G r (stepT G x m))
theorem pairsR_take (G : List Pl) : ∀ (r : List Int) (x a : Nat), (pairsR G x r).take a = pairsR G x (r.take a)
  | [], x, a => by rw [List.take_nil]; show List.take a [] = []; rw [List.take_nil]
  | m :: r, x, 0 => rfl
  | m :: r, x, a + 1 => by
    show (x, m) :: (pairsR G (stepT G x m) r).take a = _
    rw [pairsR_take G r (stepT G x m) a]
    rfl
theorem pairsR_get (G : List Pl) : ∀ (r : List Int) (x k : Nat) (n : Int), r[k]? = some n → (pairsR G x r)[k]? = some (atK G x r k, n)
  | [], x, k, n, h => by simp at h
  | m :: r, x, 0, n, h => by
    simp only [List.getElem?_cons_zero, Option.some.injEq] at h
    subst h
    rfl
  | m :: r, x, k + 1, n, h => by
    simp only [List.getElem?_cons_succ] at h
    have := pairsR_get G r (stepT G x m) k n h
    show (pairsR G (stepT G x m) r)[k]? = _
    rw [this]
    rfl
theorem cut_dropD {ds : List PyData} {a : Nat} (h : a ≤ ds.length) : cutD ds (some (a : Int)) none = ds.drop a := by
  unfold cutD
  rw [HT.sIx_none, sIx_of _ h, List.take_of_length_le (by rw [List.length_drop]; exact Nat.le_refl _)]
theorem cut_takeD {ds : List PyData} {a : Nat} (h : a ≤ ds.length) : cutD ds none (some (a : Int)) = ds.take a := by
  unfold cutD
  rw [HT.sIx_none, sIx_of _ h, List.drop_zero, Nat.sub_zero]
/-- [pair[1] for pair in pairs] -/
theorem en_snd {K : PySem.W.Frag} {σ : L2.St} {b : Hp} {tl : TE} {j : Nat} {vs : List Nat} {l : List (Nat × Int)} (x : ED K tl σ b (.list (l.map pairD))) (hz : l.length ≤ 40000) (hw : ∀ x, wipe ((wipe σ vs).set j (some x)) vs = wipe σ vs) (hj : ∀ v, ((wipe σ vs).set j (some v))[j]? = some (some v)) :
    EN K (tLc (iList K tl) (gName j) tYes (tOp (rIxT K) (tVar j) (tC (V.int 1))) vs) σ b ((l.map (·.2)).map PyData.int) := by
  have e : (l.map (·.2)).map PyData.int = l.map fun p => PyData.int p.2 := by
    rw [List.map_map]
    rfl
  rw [e]
  exact en_mapD (D := pairD) x hz hw fun p hp v b2 e2 hv => ed_ixT (ed_var (hj v) hv) ev_c (by rfl)
def spUnrD (K : PySem.W.Frag) : Sp := fun vs h Q _ => ∃ (b : Hp) (G : List Pl) (x : Nat) (r : List Int), Ex b h ∧ DtA K b vs [gameD G, .int (x : Int), intsD r] ∧ WfG G ∧ x < G.length ∧ r.length ≤ 50 ∧ okA G x r ∧ ∀ v b' h', Gr b h b' h' → Dt K b' v (unrD (unrF G x r)) → Q v h'
theorem ed_unrD {K : PySem.W.Frag} {σ : L2.St} {b : Hp} {ts : TA} {E : XK} {G : List Pl} {x : Nat} {r : List Int} (y : EDA K ts σ b [gameD G, .int (x : Int), intsD r]) (h1 : WfG G) (h3 : x < G.length) (h4 : r.length ≤ 50) (h5 : okA G x r) : ED K (tCall (spUnrD K) [] E ts) σ b (unrD (unrF G x r)) := fun h e _ q =>
  y h e _ fun vs b2 h2' g2 hv => ⟨b2, G, x, r, g2.gi, by rw [List.append_nil]; exact hv, h1, h3, h4, h5, fun v b3 h3 g3 hv3 => q v b3 h3 (g2.trans g3) hv3⟩
end Md
namespace Md
open PySem L2 Evl
theorem q_sumD {G : List Pl} (h : WfG G) {x : Nat} {r : List Int} (hx : x < G.length) (ho : okA G x r) : Red (sumN (gainsF G x r)) ∧ qN (sumN (gainsF G x r)) = qSum G x r := by
  have hr := gainsR_red h hx ho
  rw [gainsF_eq]
  exact ⟨sumN_red hr, q_sum hr⟩
theorem big_sumD {G : List Pl} (h : WfG G) {x : Nat} {r : List Int} (hx : x < G.length) (ho : okA G x r) (hl : r.length ≤ 60) : Big (11 * r.length + 1) (sumN (gainsF G x r)) := by
  have hg := gains_ok h hx (okTo_of ho) hl
  have hs := sumN_ok hg.2 (gainsF G x r).length (Nat.le_refl _)
  rw [List.take_length] at hs
  have hlen : (gainsF G x r).length = r.length := by
    unfold gainsF
    rw [List.length_map, List.length_take, pathF_len]
    omega
  rw [hlen] at hs
  exact hs.2
def spRefused7 (K : PySem.W.Frag) : Sp := fun vs h Q _ => ∃ (b : Hp) (G : List Pl) (x : Nat) (r : List Int), Ex b h ∧ DtA K b vs [gameD G, .int (x : Int), intsD r] ∧ WfG G ∧ x < G.length ∧ r.length ≤ 50 ∧ (okA G x r → ∀ h', Ex h h' → Q .non h') ∧ (∀ j, BadAt G x r j → ∀ h', Ex h h' → Q (.int (j : Int)) h')
section
variable {K : PySem.W.Frag} {σ : L2.St} {b : Hp} {te : TE} {ts : TA} {E : XK} {G : List Pl} {x : Nat} {r : List Int}
theorem ev_refused7 {j : Nat} (y : EDA K ts σ b [gameD G, .int (x : Int), intsD r]) (h1 : WfG G) (h3 : x < G.length) (h4 : r.length ≤ 50) (hj : BadAt G x r j) : Ev (tCall (spRefused7 K) [] E ts) σ b (.int (j : Int)) := fun h e _ q =>
  y h e _ fun vs b2 h2 g2 hv => ⟨b2, G, x, r, g2.gi, by rw [List.append_nil]; exact hv, h1, h3, h4, fun ho => (bad_ok hj ho).elim, fun j' hj' h3 e3 => by
    rw [bad_det hj' hj]
    exact q h3 (g2.gh.trans e3)⟩
theorem ev_any {bs : List Bool} (x : ED K te σ b (.list (bs.map PyData.bool))) : Ev (tCB (rAny K) (tCons te tNil)) σ b (.bl (bs.any id)) := fun h e _ q => x h e _ fun v b2 h2 g2 hv => by
  obtain ⟨a, xs, rfl, k1, k2⟩ := hv.listI
  rw [k2.boolsI] at k1
  exact ⟨a, bs, rfl, sq_of (g2.gi _ _ k1), q h2 g2.gh⟩
end
theorem dep_circ {n : Nat} {p : Nat × List Int} (h : p.2.length ≤ 30000) : Dep (n + 3) (circD p) := ⟨by show 2 ≤ 30000; decide, fun d hd => by
  simp only [List.mem_cons, List.not_mem_nil, or_false] at hd
  rcases hd with rfl | rfl
  · exact dep_int _ _
  · exact dep_ints _ h⟩
theorem dep_unr {s : US} (h1 : s.1.length ≤ 30000) (h2 : s.2.length ≤ 30000) (h3 : ∀ p ∈ s.2, p.2.length ≤ 30000) : Dep 5 (unrD s) := ⟨by show 2 ≤ 30000; decide, fun d hd => by
  simp only [List.mem_cons, List.not_mem_nil, or_false] at hd
  rcases hd with rfl | rfl
  · exact dep_ints 2 h1
  · refine ⟨by rw [List.length_map]; exact h2, fun d hd => ?_⟩
    obtain ⟨p, hp, rfl⟩ := List.mem_map.mp hd
    exact dep_circ (h3 p hp)⟩
/-- the ring of twelve places with ways back -/
def ringP (k : Nat) : Pl := .side ((k : Int), 1) false [((k : Int) + 1) % 12, ((k : Int) + 1) % 12, ((k : Int) + 1) % 12, 0]
def ringG : List Pl := (List.range 12).map ringP
theorem ring_wf : WfG ringG := by
  refine ⟨by decide, by decide, fun p hp => ?_⟩
  obtain ⟨k, hk, rfl⟩ := List.mem_map.mp hp
  have hk' := List.mem_range.mp hk
  have e : (ringG.length : Int) = 12 := by decide
  rw [e]
  refine ⟨⟨by show (1 : Int) ≤ 1; decide, by show (1 : Int) < 1000; decide, by show ((k : Int)).natAbs < 1000; omega, Nat.gcd_one_right _⟩, by show 1 ≤ 4; decide, by show 4 ≤ 6; decide, fun t ht => ?_⟩
  simp only [List.mem_cons, List.not_mem_nil, or_false] at ht
  rcases ht with rfl | rfl | rfl | rfl
  · omega
  · omega
  · omega
  · omega
end Md


set_option Elab.async false
set_option linter.all false
set_option maxRecDepth 100000
set_option maxHeartbeats 2000000
namespace L2
open PySem PySem.Spec PyProof.Rows
/-! ### math.lcm of ints of some length -/
section
variable {X : Cx}
def rLcm : List V → Hp → VK → Prop := fun vs H Q => ∃ a b : Int, vs = [.int a, .int b] ∧ a.natAbs < 2 ^ 13000 ∧ b.natAbs < 2 ^ 13000 ∧ Q (.int ((Nat.lcm a.natAbs b.natAbs : Nat) : Int)) H
theorem lcm_lt {a b j : Nat} (h1 : a < 2 ^ j) (h2 : b < 2 ^ j) : Nat.lcm a b < 2 ^ (j + j) := by
  have h : Nat.lcm a b ≤ a * b := Nat.div_le_self _ _
  rcases Nat.eq_zero_or_pos (a * b) with z | z
  · have := Nat.two_pow_pos (j + j)
    omega
  · have : a * b < 2 ^ j * 2 ^ j := Nat.mul_lt_mul'' h1 h2
    rw [Nat.pow_add]
    omega
theorem cr_lcm : CallR X (.builtin "math.lcm") rLcm := by
  intro pins s σ H vs us Q I r h
  obtain ⟨a, b, rfl, ha, hb, q⟩ := h
  obtain ⟨t, u, rfl⟩ := Vals.int2 r
  have h1 : (max 1 a.natAbs).log2 ≤ 12999 := PySem.W.mg_log (by
    have : (1 : Nat) < 2 ^ (12999 + 1) := Nat.lt_of_lt_of_le (by decide : 1 < 2 ^ 1) (Nat.pow_le_pow_right (by decide) (by decide))
    have ha' : a.natAbs < 2 ^ (12999 + 1) := ha
    generalize 2 ^ (12999 + 1) = N at this ha'
    omega)
  have h2 : (max a.natAbs b.natAbs).log2 ≤ 12999 := PySem.W.mg_log (by
    have ha' : a.natAbs < 2 ^ (12999 + 1) := ha
    have hb' : b.natAbs < 2 ^ (12999 + 1) := hb
    generalize 2 ^ (12999 + 1) = N at ha' hb'
    omega)
  have e1 : (Nat.lcm 1 a.natAbs).lcm b.natAbs = Nat.lcm a.natAbs b.natAbs := by rw [Nat.lcm_one_left]
  have hsz : ((((Nat.lcm 1 a.natAbs).lcm b.natAbs : Nat) : Int)).natAbs.log2 < bitsLine := by
    rw [e1, Int.natAbs_natCast]
    have h3 : (Nat.lcm a.natAbs b.natAbs).log2 ≤ 25999 := PySem.W.mg_log (lcm_lt ha hb)
    exact Nat.lt_of_le_of_lt h3 (by decide)
  refine call_function_meets PySem.W.MGF.kind_lcm PySem.W.MGF.plain_lcm PySem.W.MGF.entry_lcm (PySem.W.MGF.args_lcm _ _) (PySem.W.mg_run_lcm a t b u (by omega) (by omega) hsz).meets ?_
  rw [e1]
  exact ⟨.int _, H, I.tok _, ⟨_, rfl⟩, q⟩
end
end L2
namespace Md
open PySem L2 Evl
section
variable {K : PySem.W.Frag} {σ : L2.St} {b h : Hp} {te tl tl1 ta tb : TE} {ts : TA} {E : XK} {D : Ends} {tz : TS} {d : PyData} {ds : List PyData}
theorem rLcm_ev {i j : Int} (x : Ev ta σ b (.int i)) (y : Ev tb σ b (.int j)) (hi : i.natAbs < 2 ^ 13000) (hj : j.natAbs < 2 ^ 13000) : Ev (tCB rLcm (tCons ta (tCons tb tNil))) σ b (.int ((Nat.lcm i.natAbs j.natAbs : Nat) : Int)) := fun h e _ q => x h e _ fun h2 e2 => y h2 (e.trans e2) _ fun h3 e3 => ⟨i, j, rfl, hi, hj, q h3 (e2.trans e3)⟩
theorem pi_tupK {X : Cx} {tg e : Expr} {tl : TE} (h : X.K = K) (hl : PE X e tl) : PI X tg e (iTup K tl) := h ▸ pi_tup hl
theorem sortedI_K {X : Cx} (h : X.K = K) : CallR X (.builtin "sorted") (rSortedI K) := h ▸ cr_sortedI
theorem DtA.rep {v : V} {n : Nat} (x : Dt K b v d) : DtA K b (List.replicate n v) (List.replicate n d) := by
  induction n with
  | zero => exact DtA.nil
  | succ n ih => exact DtA.cons x ih
theorem flat_rep {α : Type} (n : Nat) (a : α) : (List.replicate n [a]).flatten = List.replicate n a := by
  induction n with
  | zero => rfl
  | succ n ih =>
    rw [List.replicate_succ, List.flatten_cons, ih]
    rfl
/-- [d] * n -/
theorem en_rep {n : Int} (ha : EN K ta σ b [d]) (hb : Ev tb σ b (.int n)) (hn : 0 ≤ n ∧ n ≤ 100000) : EN K (tOp rRep ta tb) σ b (List.replicate n.toNat d) := fun h e _ q =>
  ha h e _ fun p vs b2 h2 np nb g2 hp hvs => hb h2 (e.trans g2.gh) _ fun h3 e3 => by
    cases hvs with
    | cons h1 h2' =>
      cases h2'
      have g3 := g2.trans (Gr.stay g2.gi e3)
      refine ⟨p, n, _, rfl, rfl, e3 _ _ hp, by omega, by omega, ?_, fun l hl => ?_⟩
      · show 1 * n.toNat ≤ sizeLine
        exact sz_of (by omega)
      · rw [flat_rep]
        exact q l _ b2 _ (gone g3 hl) (none_of g3.gi hl) (g3.trans (Gr.hid g3.gi hl)) upd_same (DtA.rep h1)
/-- for over a tuple of data -/
theorem r_forT {g : TG} {tu : TS} {h0 : Hp} (x : ED K tl σ b (.tuple ds)) (e : Ex b h0)
    (k : ∀ a xs b1 h1, Gr b h0 b1 h1 → SqT K b1 a xs → DtA K b1 xs ds → ∃ Pv : Nat → L2.St → Hp → Prop, Pv 0 σ h1 ∧ (∀ i σ' h', Pv i σ' h' → Ex b1 h') ∧
      (∀ i d x σ' h', ds[i]? = some d → Dt K b1 x d → Pv i σ' h' → g x σ' h' fun σ2 h2 => tu { D with nx := Pv (i + 1), ct := Pv (i + 1), bk := D.nx } σ2 h2) ∧ ∀ σ' h', Pv ds.length σ' h' → D.nx σ' h') :
    tFor (iTup K tl) g tu D σ h0 := x h0 e _ fun v b1 h1 g1 hv => by
  obtain ⟨a, xs, rfl, k1, k2⟩ := hv.tupleI
  obtain ⟨Pv, p0, pe, ps, pd⟩ := k a xs b1 h1 g1 k1 k2
  refine ⟨a, rfl, ⟨xs, ex_t g1.gi k1⟩, for_tup Pv p0 (fun i σ' h' _ p => ex_t (pe i σ' h' p) k1) (fun i y σ' h' hy p => ?_) (fun σ' h' p => pd σ' h' (by rw [← k2.length]; exact p))⟩
  obtain ⟨dd, hdd, hx⟩ := k2.getV hy
  exact ps i dd y σ' h' hdd hx p
/-- [te for g in tl for g1 in tl1] -/
theorem en_lc2 {g g1 : TG} {vs vs1 : List Nat} (x : ED K tl σ b (.list ds)) (hz : ds.length ≤ 100) (es : Nat → List PyData) (r : PyData → PyData) (hel : ∀ i, (es i).length ≤ 100)
    (hs : ∀ (i : Nat) (d : PyData) (x : V) (b2 h2 : Hp), Ex b b2 → Ex b2 h2 → ds[i]? = some d → Dt K b2 x d → ∀ Q : L2.St → Hp → Prop, (∀ σ2, wipe σ2 vs = wipe σ vs → ED K tl1 σ2 b2 (.list (es i)) →
      (∀ (j : Nat) (e : PyData) (y : V) (b3 h3 : Hp), Ex b2 b3 → Ex b3 h3 → (es i)[j]? = some e → Dt K b3 y e → ∀ Q1 : L2.St → Hp → Prop, (∀ σ3, wipe σ3 vs1 = wipe σ2 vs1 → ED K te σ3 b3 (r e) → Q1 σ3 h3) → g1 y (wipe σ2 vs1) h3 Q1) → Q σ2 h2) → g x (wipe σ vs) h2 Q) :
    EN K (tLc2 (iList K tl) g tYes (iList K tl1) g1 tYes te vs vs1) σ b (((List.range ds.length).map fun i => (es i).map r).flatten) := fun h e _ q => x h e _ fun v b1 h1 g1' hv => by
  obtain ⟨a, xs, rfl, k1, k2⟩ := hv.listI
  refine ⟨a, rfl, ⟨xs, sq_of (g1'.gi _ _ k1)⟩, fun Dl hD => ?_⟩
  let acc : Nat → List PyData := fun n => ((List.range n).map fun i => (es i).map r).flatten
  have acc1 : ∀ n, acc (n + 1) = acc n ++ (es n).map r := fun n => by
    show ((List.range (n + 1)).map _).flatten = _
    rw [List.range_succ, List.map_append, List.flatten_append]
    simp [acc]
  have accl : ∀ n, (acc n).length ≤ 100 * n := by
    intro n
    induction n with
    | zero => exact Nat.le_refl _
    | succ n ih =>
      rw [acc1, List.length_append, List.length_map]
      have := hel n
      omega
  have hxl : xs.length = ds.length := k2.length
  let Inv : Nat → Hp → Prop := fun i H => ∃ b2 us, Gr b1 h1 b2 H ∧ b2 Dl = none ∧ H Dl = some (.lst us) ∧ DtA K b2 us (acc i)
  refine ⟨fun i m H => m = ds.length - i ∧ i ≤ ds.length ∧ Inv i H, ⟨ds.length, by simp, Nat.zero_le _, b1, [], Gr.hid g1'.gi hD, none_of g1'.gi hD, upd_same, DtA.nil⟩, ?_⟩
  rintro i m H ⟨rfl, hi, b2, us, g2, nb, hu, hA⟩
  have sqx : SqL K H a xs := sq_of (g2.gh _ _ (g1'.gi _ _ k1))
  by_cases hlt : i < ds.length
  · refine .inr ⟨walk_list.goes i H (by omega) sqx, Inv (i + 1), fun H' p' => ⟨ds.length - (i + 1), by omega, rfl, hlt, p'⟩, fun y H' hy => ?_⟩
    have hy2 := (walk_list (K := K) (a := a) (xs := xs)).yields i H y H' (by omega) sqx hy
    obtain rfl : H' = H := hy2.1
    replace hy : xs[i]? = some y := hy2.2
    obtain ⟨dd, hdd, hx⟩ := k2.getV hy
    refine hs i dd y b2 _ (g1'.gb.trans g2.gb) g2.gi hdd (hx.up g2.gb) _ fun σ2 hw htl hin => ⟨hw, ?_⟩
    refine tyes_of ?_
    refine htl _ g2.gi _ fun v1 b3 h3 g3 hv1 => ?_
    obtain ⟨a1, xs1, rfl, q1, q2⟩ := hv1.listI
    have hl1 : xs1.length = (es i).length := q2.length
    refine ⟨a1, rfl, ⟨xs1, sq_of (g3.gi _ _ q1)⟩, ?_⟩
    have G3 := g2.trans g3
    have nb3 : b3 Dl = none := g3.gf Dl nb (by rw [hu]; intro z; cases z)
    have hu3 := g3.gh _ _ hu
    let Inv1 : Nat → Hp → Prop := fun j H => ∃ b4 us, Gr b3 h3 b4 H ∧ b4 Dl = none ∧ H Dl = some (.lst us) ∧ DtA K b4 us (acc i ++ ((es i).take j).map r)
    have hDl3 : h3 Dl ≠ none := by
      rw [hu3]
      intro z
      cases z
    refine ⟨fun j k H => k = (es i).length - j ∧ j ≤ (es i).length ∧ (∃ b4 us, Gr b1 h1 b4 H ∧ Ex b3 b4 ∧ b4 Dl = none ∧ H Dl = some (.lst us) ∧ DtA K b4 us (acc i ++ ((es i).take j).map r)), ⟨(es i).length, by simp, Nat.zero_le _, b3, us, G3, Ex.refl _, nb3, hu3, by rw [List.take_zero, List.map_nil, List.append_nil]; exact hA.up g3.gb⟩, ?_⟩
    rintro j k H ⟨rfl, hj, b4, us4, g4, e4, nb4, hu4, hA4⟩
    have sq1 : SqL K H a1 xs1 := sq_of (g4.gi _ _ (e4 _ _ q1))
    by_cases hjlt : j < (es i).length
    · refine .inr ⟨walk_list.goes j H (by omega) sq1, fun H' => (∃ b4 us, Gr b1 h1 b4 H' ∧ Ex b3 b4 ∧ b4 Dl = none ∧ H' Dl = some (.lst us) ∧ DtA K b4 us (acc i ++ ((es i).take (j + 1)).map r)), fun H' p' => ⟨(es i).length - (j + 1), by omega, rfl, hjlt, p'⟩, fun y H' hy => ?_⟩
      have hy2 := (walk_list (K := K) (a := a1) (xs := xs1)).yields j H y H' (by omega) sq1 hy
      obtain rfl : H' = H := hy2.1
      replace hy : xs1[j]? = some y := hy2.2
      obtain ⟨ee, hee, hx1⟩ := q2.getV hy
      refine hin j ee y b4 _ (g3.gb.trans e4) g4.gi hee (hx1.up e4) _ fun σ3 hw3 hte => ⟨hw3, ?_⟩
      refine tyes_of ?_
      refine hte _ g4.gi _ fun y5 b5 h5 g5 hy5 => ⟨us4, g5.gh _ _ hu4, sz_lt ?_, ?_⟩
      · rw [hA4.length, List.length_append, List.length_map, List.length_take]
        have := accl i
        have := hel i
        omega
      · have nb5 : b5 Dl = none := g5.gf Dl nb4 (by rw [hu4]; intro z; cases z)
        refine ⟨b5, us4 ++ [y5], (g4.trans g5).mut hD nb5, e4.trans g5.gb, nb5, upd_same, ?_⟩
        rw [take_more1 hee, List.map_append, ← List.append_assoc]
        exact (hA4.up g5.gb).append (DtA.one hy5)
    · have e : j = (es i).length := by omega
      subst e
      refine .inl ⟨?_, ?_⟩
      · have := (walk_list (K := K) (a := a1) (xs := xs1)).stops H sq1
        rw [hl1] at this
        exact this
      · refine ⟨b4, us4, g4, nb4, hu4, ?_⟩
        rw [acc1]
        rw [List.take_length] at hA4
        exact hA4
  · have e : i = ds.length := by omega
    subst e
    refine .inl ⟨?_, ?_⟩
    · have := (walk_list (K := K) (a := a) (xs := xs)).stops H sqx
      rw [hxl] at this
      exact this
    · exact q Dl us b2 H (gone g1' hD) nb (g1'.trans g2) hu hA
end
end Md


set_option Elab.async false
set_option linter.all false
set_option maxRecDepth 100000
set_option maxHeartbeats 2000000
/-! Chains: numbers at places, means, first gains, masses; how great numbers are by what they are whole at. -/
namespace Md
open PySem L2 Evl
abbrev BrC := (Int × Int) × Nat
structure PlC where
  g : Int × Int
  bs : List BrC
def brC (q : BrC) : PyData := .tuple [nD q.1, .int (q.2 : Int)]
def PlC.D (p : PlC) : PyData := .tuple [nD p.g, .str "draw", .list (p.bs.map brC)]
def chD (C : List PlC) : PyData := .list (C.map PlC.D)
structure WfB (n : Nat) (p : PlC) : Prop where
  g : SmallN p.g
  l1 : 1 ≤ p.bs.length
  l6 : p.bs.length ≤ 6
  q : ∀ q ∈ p.bs, SmallN q.1 ∧ 0 < q.1.1 ∧ q.2 < n
  w : ∃ W : Nat, 0 < W ∧ W ≤ 24 ∧ ∀ q ∈ p.bs, q.1.2.natAbs ∣ W
  s : (p.bs.map fun q => qN q.1).sum = 1
structure WfC (C : List PlC) : Prop where
  l1 : 1 ≤ C.length
  l12 : C.length ≤ 12
  p : ∀ p ∈ C, WfB C.length p
def plC (C : List PlC) (k : Nat) : PlC := C.getD k ⟨(0, 1), []⟩
theorem plC_get {C : List PlC} {k : Nat} (h : k < C.length) : C[k]? = some (plC C k) := by
  unfold plC
  rw [List.getD_eq_getElem?_getD, List.getElem?_eq_getElem h]
  rfl
theorem plC_wf {C : List PlC} (h : WfC C) {k : Nat} (hk : k < C.length) : WfB C.length (plC C k) := h.p _ (List.mem_of_getElem? (plC_get hk))
theorem ch_at {C : List PlC} {k : Nat} (h : k < C.length) : L2.atI (C.map PlC.D) (k : Int) = some (plC C k).D := atI_nat (by rw [List.getElem?_map, plC_get h] <;> rfl)

/-! ### sums -/
def sumR (n : Nat) (f : Nat → Rat) : Rat := ((List.range n).map f).sum
theorem sumR_zero (f : Nat → Rat) : sumR 0 f = 0 := rfl
theorem sumR_succ (n : Nat) (f : Nat → Rat) : sumR (n + 1) f = sumR n f + f n := by
  unfold sumR
  rw [List.range_succ, List.map_append, List.map_cons, List.map_nil, sum_snoc]
theorem sumR_congr {n : Nat} {f g : Nat → Rat} (h : ∀ i, i < n → f i = g i) : sumR n f = sumR n g := by
  induction n with
  | zero => rfl
  | succ n ih => rw [sumR_succ, sumR_succ, ih fun i hi => h i (Nat.lt_succ_of_lt hi), h n (Nat.lt_succ_self n)]
theorem sumR_add (n : Nat) (f g : Nat → Rat) : sumR n (fun i => f i + g i) = sumR n f + sumR n g := by
  induction n with
  | zero => rw [sumR_zero, sumR_zero, sumR_zero, Rat.add_zero]
  | succ n ih => rw [sumR_succ, sumR_succ, sumR_succ, ih]; grind
theorem sumR_mul (n : Nat) (c : Rat) (f : Nat → Rat) : sumR n (fun i => c * f i) = c * sumR n f := by
  induction n with
  | zero => rw [sumR_zero, sumR_zero, Rat.mul_zero]
  | succ n ih => rw [sumR_succ, sumR_succ, ih]; grind
theorem sumR_nonneg {n : Nat} {f : Nat → Rat} (h : ∀ i, i < n → 0 ≤ f i) : 0 ≤ sumR n f := by
  induction n with
  | zero => exact Rat.le_refl
  | succ n ih =>
    rw [sumR_succ]
    have h1 := ih fun i hi => h i (Nat.lt_succ_of_lt hi)
    have h2 := h n (Nat.lt_succ_self n)
    grind
theorem sumR_const0 (n : Nat) : sumR n (fun _ => 0) = 0 := by
  induction n with
  | zero => rfl
  | succ n ih => rw [sumR_succ, ih, Rat.add_zero]
theorem sumR_one {n k : Nat} (a : Rat) (h : k < n) : sumR n (fun j => if j = k then a else 0) = a := by
  induction n with
  | zero => omega
  | succ n ih =>
    rw [sumR_succ]
    by_cases e : k = n
    · subst e
      rw [if_pos rfl, sumR_congr (g := fun _ => 0) fun i hi => if_neg (by omega), sumR_const0, Rat.zero_add]
    · rw [ih (by omega), if_neg (fun z => e z.symm), Rat.add_zero]
/-- one of them is at most the sum of those that are not below 0 -/
theorem sumR_ge {n k : Nat} {f : Nat → Rat} (h : ∀ i, i < n → 0 ≤ f i) (hk : k < n) : f k ≤ sumR n f := by
  induction n with
  | zero => omega
  | succ n ih =>
    rw [sumR_succ]
    have h2 := h n (Nat.lt_succ_self n)
    have h1 := sumR_nonneg fun i hi => h i (Nat.lt_succ_of_lt hi)
    by_cases e : k = n
    · subst e
      grind
    · have := ih (fun i hi => h i (Nat.lt_succ_of_lt hi)) (by omega)
      grind
def wsum (bs : List BrC) (f : Nat → Rat) : Rat := (bs.map fun q => qN q.1 * f q.2).sum
theorem wsum_nil (f : Nat → Rat) : wsum [] f = 0 := rfl
theorem wsum_cons (q : BrC) (bs : List BrC) (f : Nat → Rat) : wsum (q :: bs) f = qN q.1 * f q.2 + wsum bs f := by
  unfold wsum
  rw [List.map_cons, List.sum_cons]
theorem wsum_snoc (q : BrC) (bs : List BrC) (f : Nat → Rat) : wsum (bs ++ [q]) f = wsum bs f + qN q.1 * f q.2 := by
  unfold wsum
  rw [List.map_append, List.map_cons, List.map_nil, sum_snoc]
theorem wsum_congr {bs : List BrC} {f g : Nat → Rat} (h : ∀ q ∈ bs, f q.2 = g q.2) : wsum bs f = wsum bs g := by
  induction bs with
  | nil => rfl
  | cons q bs ih => rw [wsum_cons, wsum_cons, ih fun q hq => h q (List.mem_cons_of_mem _ hq), h q (List.mem_cons_self ..)]
theorem wsum_add (bs : List BrC) (f g : Nat → Rat) : wsum bs (fun j => f j + g j) = wsum bs f + wsum bs g := by
  induction bs with
  | nil => rw [wsum_nil, wsum_nil, wsum_nil, Rat.add_zero]
  | cons q bs ih => rw [wsum_cons, wsum_cons, wsum_cons, ih]; grind
theorem wsum_mul (bs : List BrC) (c : Rat) (f : Nat → Rat) : wsum bs (fun j => c * f j) = c * wsum bs f := by
  induction bs with
  | nil => rw [wsum_nil, wsum_nil, Rat.mul_zero]
  | cons q bs ih => rw [wsum_cons, wsum_cons, ih]; grind
theorem wsum_one (bs : List BrC) : wsum bs (fun _ => 1) = (bs.map fun q => qN q.1).sum := by
  unfold wsum
  congr 1
  exact List.map_congr_left fun q _ => Rat.mul_one _
def meanC (C : List PlC) (f : Nat → Rat) (k : Nat) : Rat := wsum (plC C k).bs f
theorem mean_one {C : List PlC} (h : WfC C) {k : Nat} (hk : k < C.length) : meanC C (fun _ => 1) k = 1 := by
  unfold meanC
  rw [wsum_one]
  exact (plC_wf h hk).s
def gainC (C : List PlC) (k : Nat) : Rat := qN (plC C k).g
/-- the first gains of so many steps -/
def fgC (C : List PlC) : Nat → Nat → Rat
  | 0, _ => 0
  | n + 1, k => gainC C k + meanC C (fgC C n) k

/-! ### numbers that are whole when multiplied -/
def Zt (M : Nat) (r : Rat) : Prop := ∃ z : Int, r * ((M : Int) : Rat) = (z : Rat)
theorem Zt.add {M : Nat} {a b : Rat} (h : Zt M a) (g : Zt M b) : Zt M (a + b) := by
  obtain ⟨x, hx⟩ := h
  obtain ⟨y, hy⟩ := g
  exact ⟨x + y, by rw [Rat.intCast_add]; grind⟩
theorem Zt.mul {M N : Nat} {a b : Rat} (h : Zt M a) (g : Zt N b) : Zt (M * N) (a * b) := by
  obtain ⟨x, hx⟩ := h
  obtain ⟨y, hy⟩ := g
  refine ⟨x * y, ?_⟩
  rw [Int.natCast_mul, Rat.intCast_mul, Rat.intCast_mul, ← hx, ← hy]
  grind
theorem Zt.dvd {M N : Nat} {a : Rat} (h : Zt M a) (d : M ∣ N) : Zt N a := by
  obtain ⟨x, hx⟩ := h
  obtain ⟨c, rfl⟩ := d
  refine ⟨x * c, ?_⟩
  rw [Int.natCast_mul, Rat.intCast_mul, Rat.intCast_mul, ← hx]
  grind
theorem zt_zero (M : Nat) : Zt M 0 := ⟨0, by rw [Rat.zero_mul]; rfl⟩
theorem zt_int (M : Nat) (z : Int) : Zt M (z : Rat) := ⟨z * M, by rw [Rat.intCast_mul]⟩
theorem zt_den {p : Int × Int} (h : Red p) {M : Nat} (d : p.2.natAbs ∣ M) : Zt M (qN p) := by
  obtain ⟨c, rfl⟩ := d
  refine ⟨p.1 * c, ?_⟩
  have e : ((p.2.natAbs * c : Nat) : Int) = p.2 * (c : Int) := by
    rw [Int.natCast_mul, Int.natAbs_of_nonneg (by have := h.1; omega)]
  rw [e, Rat.intCast_mul, Rat.intCast_mul]
  have := red_ne h
  unfold qN
  grind
theorem nat_ne {M : Nat} (h : 0 < M) : ((M : Int) : Rat) ≠ 0 := cast_ne (by omega)
/-- a number in lowest terms that is whole at M has a d that divides M -/
theorem zt_dvd {p : Int × Int} (h : Red p) {M : Nat} (z : Zt M (qN p)) : p.2.natAbs ∣ M := by
  obtain ⟨x, hx⟩ := z
  have hp := red_ne h
  have e : (p.1 : Rat) * ((M : Int) : Rat) = (x : Rat) * (p.2 : Rat) := by
    unfold qN at hx
    grind
  rw [← Rat.intCast_mul, ← Rat.intCast_mul] at e
  have e2 : p.1 * (M : Int) = x * p.2 := Rat.intCast_inj.mp e
  have e3 : p.1.natAbs * M = x.natAbs * p.2.natAbs := by
    have := congrArg Int.natAbs e2
    rwa [Int.natAbs_mul, Int.natAbs_mul, Int.natAbs_natCast] at this
  have d : p.2.natAbs ∣ p.1.natAbs * M := ⟨x.natAbs, by rw [e3, Nat.mul_comm]⟩
  exact Nat.Coprime.dvd_of_dvd_mul_left (show Nat.Coprime p.2.natAbs p.1.natAbs by unfold Nat.Coprime; rw [Nat.gcd_comm]; exact h.2) d
theorem cast_le {a b : Int} (h : (a : Rat) ≤ (b : Rat)) : a ≤ b := Rat.intCast_le_intCast.mp h
theorem le_cast {a b : Int} (h : a ≤ b) : (a : Rat) ≤ (b : Rat) := Rat.intCast_le_intCast.mpr h
theorem cast_pos {a : Int} (h : 0 < a) : (0 : Rat) < (a : Rat) := Rat.intCast_lt_intCast.mpr h
theorem q_mul {p : Int × Int} (h : Red p) : qN p * (p.2 : Rat) = (p.1 : Rat) := by
  have := red_ne h
  unfold qN
  grind
theorem zt_big {p : Int × Int} (h : Red p) {M B : Nat} (hM : 0 < M) (z : Zt M (qN p)) (h1 : -((B : Int) : Rat) ≤ qN p) (h2 : qN p ≤ ((B : Int) : Rat)) : p.2.natAbs ≤ M ∧ p.1.natAbs ≤ B * M := by
  have d := Nat.le_of_dvd hM (zt_dvd h z)
  have hp : (0 : Rat) ≤ (p.2 : Rat) := Rat.le_of_lt (cast_pos (by have := h.1; omega))
  have e := q_mul h
  have u1 := Rat.mul_le_mul_of_nonneg_right h1 hp
  have u2 := Rat.mul_le_mul_of_nonneg_right h2 hp
  rw [e] at u1 u2
  have v2 : p.1 ≤ (B : Int) * p.2 := cast_le (by rw [Rat.intCast_mul]; exact u2)
  have v1 : -((B : Int) * p.2) ≤ p.1 := cast_le (by rw [Rat.intCast_neg, Rat.intCast_mul]; grind)
  have e2 : (p.2.natAbs : Int) = p.2 := Int.natAbs_of_nonneg (by have := h.1; omega)
  have h3 : p.1.natAbs ≤ B * p.2.natAbs := by
    have e3 : ((B * p.2.natAbs : Nat) : Int) = (B : Int) * p.2 := by rw [Int.natCast_mul, e2]
    omega
  exact ⟨d, Nat.le_trans h3 (Nat.mul_le_mul_left B d)⟩
/-- so it is not great -/
theorem zt_Big {p : Int × Int} (h : Red p) {M B j : Nat} (hM : 0 < M) (z : Zt M (qN p)) (h1 : -((B : Int) : Rat) ≤ qN p) (h2 : qN p ≤ ((B : Int) : Rat)) (hB : 1 ≤ B) (hj : B * M < 2 ^ j) : Big j p := by
  have := zt_big h hM z h1 h2
  have hm : M ≤ B * M := Nat.le_mul_of_pos_left M hB
  exact ⟨by omega, by omega⟩

/-! ### the least common denominator -/
def denL (l : List (Int × Int)) : Nat := l.foldl (fun d p => Nat.lcm d p.2.natAbs) 1
theorem denL_snoc (l : List (Int × Int)) (p : Int × Int) : denL (l ++ [p]) = Nat.lcm (denL l) p.2.natAbs := by
  unfold denL
  rw [List.foldl_append]
  rfl
theorem denL_from : ∀ (l : List (Int × Int)) (d : Nat), d ∣ l.foldl (fun d p => Nat.lcm d p.2.natAbs) d ∧ ∀ p ∈ l, p.2.natAbs ∣ l.foldl (fun d p => Nat.lcm d p.2.natAbs) d
  | [], d => ⟨Nat.dvd_refl d, fun p hp => (by cases hp)⟩
  | q :: l, d => by
    obtain ⟨h1, h2⟩ := denL_from l (Nat.lcm d q.2.natAbs)
    refine ⟨Nat.dvd_trans (Nat.dvd_lcm_left _ _) h1, fun p hp => ?_⟩
    rcases List.mem_cons.mp hp with rfl | hp
    · exact Nat.dvd_trans (Nat.dvd_lcm_right _ _) h1
    · exact h2 p hp
theorem denL_dvd {l : List (Int × Int)} {p : Int × Int} (h : p ∈ l) : p.2.natAbs ∣ denL l := (denL_from l 1).2 p h
/-- it divides what all of them divide -/
theorem denL_least : ∀ (l : List (Int × Int)) (d M : Nat), d ∣ M → (∀ p ∈ l, p.2.natAbs ∣ M) → l.foldl (fun d p => Nat.lcm d p.2.natAbs) d ∣ M
  | [], d, M, h, _ => h
  | q :: l, d, M, h, g => denL_least l _ M (Nat.lcm_dvd h (g q (List.mem_cons_self ..))) fun p hp => g p (List.mem_cons_of_mem _ hp)
theorem denL_to {l : List (Int × Int)} {M : Nat} (g : ∀ p ∈ l, p.2.natAbs ∣ M) : denL l ∣ M := denL_least l 1 M (Nat.one_dvd M) g
theorem denL_pos : ∀ {l : List (Int × Int)}, (∀ p ∈ l, 1 ≤ p.2) → 0 < denL l := by
  intro l
  unfold denL
  suffices ∀ d, 0 < d → (∀ p ∈ l, 1 ≤ p.2) → 0 < l.foldl (fun d p => Nat.lcm d p.2.natAbs) d from fun h => this 1 (by decide) h
  induction l with
  | nil => exact fun d h _ => h
  | cons q l ih => exact fun d h g => ih _ (Nat.lcm_pos h (by have := g q (List.mem_cons_self ..); omega)) fun p hp => g p (List.mem_cons_of_mem _ hp)
/-- the chances of all branches -/
def chances (C : List PlC) : List (Int × Int) := (C.map fun p => p.bs.map (·.1)).flatten
theorem chances_mem {C : List PlC} {p : PlC} {q : BrC} (hp : p ∈ C) (hq : q ∈ p.bs) : q.1 ∈ chances C := List.mem_flatten.mpr ⟨_, List.mem_map.mpr ⟨p, hp, rfl⟩, List.mem_map.mpr ⟨q, hq, rfl⟩⟩
theorem mem_chances {C : List PlC} {c : Int × Int} (h : c ∈ chances C) : ∃ p ∈ C, ∃ q ∈ p.bs, q.1 = c := by
  obtain ⟨l, hl, hc⟩ := List.mem_flatten.mp h
  obtain ⟨p, hp, rfl⟩ := List.mem_map.mp hl
  obtain ⟨q, hq, rfl⟩ := List.mem_map.mp hc
  exact ⟨p, hp, q, hq, rfl⟩
theorem denL_le : ∀ {C : List PlC} {n : Nat}, (∀ p ∈ C, WfB n p) → ∃ M : Nat, 0 < M ∧ M ≤ 24 ^ C.length ∧ ∀ c ∈ chances C, c.2.natAbs ∣ M
  | [], n, _ => ⟨1, by decide, by decide, fun c h => by
    obtain ⟨p, hp, _⟩ := mem_chances h
    cases hp⟩
  | p :: C, n, h => by
    obtain ⟨M, h0, h1, h2⟩ := denL_le (C := C) (n := n) fun p hp => h p (List.mem_cons_of_mem _ hp)
    obtain ⟨W, w0, w1, w2⟩ := (h p (List.mem_cons_self ..)).w
    refine ⟨M * W, Nat.mul_pos h0 w0, ?_, fun c hc => ?_⟩
    · rw [List.length_cons, Nat.pow_succ]
      exact Nat.mul_le_mul h1 w1
    · obtain ⟨p', hp', q, hq, rfl⟩ := mem_chances hc
      rcases List.mem_cons.mp hp' with rfl | hp'
      · exact Nat.dvd_trans (w2 q hq) (Nat.dvd_mul_left _ _)
      · exact Nat.dvd_trans (h2 _ (chances_mem hp' hq)) (Nat.dvd_mul_right _ _)
theorem scale_ok {C : List PlC} (h : WfC C) : 0 < denL (chances C) ∧ denL (chances C) ≤ 24 ^ C.length := by
  obtain ⟨M, h0, h1, h2⟩ := denL_le h.p
  refine ⟨denL_pos fun c hc => ?_, Nat.le_trans (Nat.le_of_dvd h0 (denL_to h2)) h1⟩
  obtain ⟨p, hp, q, hq, rfl⟩ := mem_chances hc
  exact ((h.p p hp).q q hq).1.1
def gainsC (C : List PlC) : List (Int × Int) := C.map (·.g)
theorem unit_le : ∀ {C : List PlC} {n : Nat}, (∀ p ∈ C, WfB n p) → ∃ M : Nat, 0 < M ∧ M ≤ 999 ^ C.length ∧ ∀ c ∈ gainsC C, c.2.natAbs ∣ M
  | [], n, _ => ⟨1, by decide, by decide, fun c h => by cases h⟩
  | p :: C, n, h => by
    obtain ⟨M, h0, h1, h2⟩ := unit_le (C := C) (n := n) fun p hp => h p (List.mem_cons_of_mem _ hp)
    have hg := (h p (List.mem_cons_self ..)).g
    refine ⟨M * p.g.2.natAbs, Nat.mul_pos h0 (by have := hg.1; omega), ?_, fun c hc => ?_⟩
    · rw [List.length_cons, Nat.pow_succ]
      exact Nat.mul_le_mul h1 (by have := hg.1; have := hg.2.1; omega)
    · rcases List.mem_cons.mp hc with rfl | hc
      · exact Nat.dvd_mul_left _ _
      · exact Nat.dvd_trans (h2 c hc) (Nat.dvd_mul_right _ _)
theorem unit_ok {C : List PlC} (h : WfC C) : 0 < denL (gainsC C) ∧ denL (gainsC C) ≤ 999 ^ C.length := by
  obtain ⟨M, h0, h1, h2⟩ := unit_le h.p
  refine ⟨denL_pos fun c hc => ?_, Nat.le_trans (Nat.le_of_dvd h0 (denL_to h2)) h1⟩
  obtain ⟨p, hp, rfl⟩ := List.mem_map.mp hc
  exact (h.p p hp).g.1
end Md


set_option Elab.async false
set_option linter.all false
set_option maxRecDepth 100000
set_option maxHeartbeats 2000000
/-! Chains: what the program's defs and the law's give of them; rationals as data. -/
namespace Md
open PySem L2 Evl
/-! ### a rational as a number in lowest terms -/
def canon (r : Rat) : Int × Int := (r.num, (r.den : Int))
theorem canon_red (r : Rat) : Red (canon r) := ⟨by have := r.den_pos; show (1 : Int) ≤ (r.den : Int); omega, r.reduced⟩
theorem q_canon (r : Rat) : qN (canon r) = r := by
  show (r.num : Rat) / ((r.den : Int) : Rat) = r
  rw [← Rat.divInt_eq_div]
  exact Rat.num_divInt_den r
theorem canon_of {p : Int × Int} {r : Rat} (h : Red p) (e : qN p = r) : p = canon r := q_inj h (canon_red r) (by rw [e, q_canon])
def nQ (r : Rat) : PyData := nD (canon r)
theorem plus_canon (a b : Rat) : plusN (canon a) (canon b) = canon (a + b) := canon_of (plusN_red (canon_red a) (canon_red b)) (by rw [q_plus (canon_red a) (canon_red b), q_canon, q_canon])
theorem times_canon (a b : Rat) : timesN (canon a) (canon b) = canon (a * b) := canon_of (timesN_red (canon_red a) (canon_red b)) (by rw [q_times (canon_red a) (canon_red b), q_canon, q_canon])
theorem canon_red_self {p : Int × Int} (h : Red p) : p = canon (qN p) := canon_of h rfl
theorem num_canon {n d : Int} (h : 0 < d) : num n d = canon ((n : Rat) / (d : Rat)) := canon_of (num_red h) (q_num h)
theorem canon_zero : canon 0 = (0, 1) := (canon_of one_red q_zero).symm
theorem q_one : qN (1, 1) = 1 := by show ((1 : Int) : Rat) / ((1 : Int) : Rat) = 1; decide +kernel
theorem canon_one : canon 1 = (1, 1) := (canon_of one_one q_one).symm
theorem canon_int (z : Int) : canon (z : Rat) = (z, 1) := rfl
/-- the list of the numbers for the places below n -/
def listQ (n : Nat) (f : Nat → Rat) : PyData := .list ((List.range n).map fun k => nQ (f k))
theorem listQ_nums (n : Nat) (f : Nat → Rat) : listQ n f = numsD ((List.range n).map fun k => canon (f k)) := by
  unfold listQ numsD
  rw [List.map_map]
  rfl
theorem listQ_congr {n : Nat} {f g : Nat → Rat} (h : ∀ k, k < n → f k = g k) : listQ n f = listQ n g := by
  unfold listQ
  congr 1
  exact List.map_congr_left fun k hk => by rw [h k (List.mem_range.mp hk)]
theorem listQ_at {n k : Nat} {f : Nat → Rat} (h : k < n) : L2.atI ((List.range n).map fun k => nQ (f k)) (k : Int) = some (nQ (f k)) := atI_nat (by rw [List.getElem?_map, List.getElem?_range h] <;> rfl)
/-! ### first gains over whole numbers -/
def gzC (C : List PlC) (U : Nat) (k : Nat) : Int := (plC C k).g.1 * ((U : Int) / (plC C k).g.2)
def smZ (S : Nat) (ns : List Int) (bs : List BrC) : Int := (bs.map fun q => q.1.1 * ((S : Int) / q.1.2) * ns.getD q.2 0).sum
def fzC (C : List PlC) (U S : Nat) : Nat → Nat → Int
  | 0, _ => 0
  | t + 1, k => gzC C U k * (S : Int) ^ (t + 1) + smZ S ((List.range C.length).map (fzC C U S t)) (plC C k).bs
theorem getD_range {n k : Nat} (f : Nat → Int) (h : k < n) : ((List.range n).map f).getD k 0 = f k := by
  rw [List.getD_eq_getElem?_getD, List.getElem?_map, List.getElem?_range h]
  rfl
/-- what is whole at M, times M -/
theorem whole_q {p : Int × Int} (h : Red p) {M : Nat} (d : p.2.natAbs ∣ M) : ((p.1 * ((M : Int) / p.2) : Int) : Rat) = qN p * ((M : Int) : Rat) := by
  have d2 : p.2 ∣ (M : Int) := Int.natAbs_dvd_natAbs.mp (by rw [Int.natAbs_natCast]; exact d)
  obtain ⟨c, hc⟩ := d2
  have hp : p.2 ≠ 0 := by have := h.1; omega
  rw [hc, Int.mul_ediv_cancel_left _ hp, Rat.intCast_mul, Rat.intCast_mul, ← Rat.mul_assoc, q_mul h]
theorem intsum_cast (l : List Int) : ((l.sum : Int) : Rat) = (l.map fun z : Int => (z : Rat)).sum := by
  induction l with
  | nil => rfl
  | cons a l ih => rw [List.sum_cons, List.map_cons, List.sum_cons, Rat.intCast_add, ih]
theorem smZ_cast {S : Nat} {ns : List Int} {bs : List BrC} {f : Nat → Rat} {c : Rat} (h : ∀ q ∈ bs, Red q.1 ∧ q.1.2.natAbs ∣ S ∧ ((ns.getD q.2 0 : Int) : Rat) = f q.2 * c) : ((smZ S ns bs : Int) : Rat) = wsum bs f * (c * ((S : Int) : Rat)) := by
  induction bs with
  | nil =>
    rw [wsum_nil, Rat.zero_mul]
    rfl
  | cons q bs ih =>
    have e : smZ S ns (q :: bs) = q.1.1 * ((S : Int) / q.1.2) * ns.getD q.2 0 + smZ S ns bs := by
      unfold smZ
      rw [List.map_cons, List.sum_cons]
    obtain ⟨h1, h2, h3⟩ := h q (List.mem_cons_self ..)
    rw [e, Rat.intCast_add, ih fun q hq => h q (List.mem_cons_of_mem _ hq), wsum_cons, Rat.intCast_mul, whole_q h1 h2, h3]
    grind
theorem pow_cast (S : Nat) (t : Nat) : (((S : Int) ^ t : Int) : Rat) = ((S : Int) : Rat) ^ t := by
  induction t with
  | zero => rfl
  | succ t ih => rw [Int.pow_succ, Rat.intCast_mul, ih, Rat.pow_succ]
theorem fz_cast {C : List PlC} (h : WfC C) {U S : Nat} (hU : ∀ p ∈ C, p.g.2.natAbs ∣ U) (hS : ∀ p ∈ C, ∀ q ∈ p.bs, q.1.2.natAbs ∣ S) : ∀ (t k : Nat), k < C.length → ((fzC C U S t k : Int) : Rat) = fgC C t k * (((U : Int) : Rat) * ((S : Int) : Rat) ^ t)
  | 0, k, _ => by
    show ((0 : Int) : Rat) = 0 * _
    rw [Rat.zero_mul]
    rfl
  | t + 1, k, hk => by
    have hp := plC_wf h hk
    have hm := List.mem_of_getElem? (plC_get hk)
    show ((gzC C U k * (S : Int) ^ (t + 1) + smZ S _ (plC C k).bs : Int) : Rat) = (gainC C k + meanC C (fgC C t) k) * _
    rw [Rat.intCast_add, Rat.intCast_mul, pow_cast]
    have e1 : ((gzC C U k : Int) : Rat) = gainC C k * ((U : Int) : Rat) := whole_q (red_small hp.g) (hU _ hm)
    have e2 : ((smZ S ((List.range C.length).map (fzC C U S t)) (plC C k).bs : Int) : Rat) = wsum (plC C k).bs (fgC C t) * ((((U : Int) : Rat) * ((S : Int) : Rat) ^ t) * ((S : Int) : Rat)) := smZ_cast fun q hq => ⟨red_small (hp.q q hq).1, hS _ hm q hq, by
      rw [getD_range _ (hp.q q hq).2.2]
      exact fz_cast h hU hS t _ (hp.q q hq).2.2⟩
    rw [e1, e2, Rat.pow_succ]
    unfold meanC
    grind
/-! ### bounds -/
theorem wsum_le {bs : List BrC} {f g : Nat → Rat} (h : ∀ q ∈ bs, 0 ≤ qN q.1 ∧ f q.2 ≤ g q.2) : wsum bs f ≤ wsum bs g := by
  induction bs with
  | nil => exact Rat.le_refl
  | cons q bs ih =>
    rw [wsum_cons, wsum_cons]
    have h1 := ih fun q hq => h q (List.mem_cons_of_mem _ hq)
    obtain ⟨h2, h3⟩ := h q (List.mem_cons_self ..)
    have := Rat.mul_le_mul_of_nonneg_left h3 h2
    grind
theorem q_pos {p : Int × Int} (h : Red p) (h0 : 0 < p.1) : 0 < qN p := by
  have h1 : (0 : Rat) < (p.2 : Rat) := cast_pos (by have := h.1; omega)
  have h2 : (0 : Rat) < (p.1 : Rat) := cast_pos h0
  unfold qN
  rw [Rat.div_def]
  exact Rat.mul_pos h2 (Rat.inv_pos.mpr h1)
theorem br_pos {C : List PlC} (h : WfC C) {k : Nat} (hk : k < C.length) {q : BrC} (hq : q ∈ (plC C k).bs) : 0 < qN q.1 := q_pos (red_small ((plC_wf h hk).q q hq).1) ((plC_wf h hk).q q hq).2.1
theorem mean_le {C : List PlC} (h : WfC C) {k : Nat} (hk : k < C.length) {f : Nat → Rat} {c : Rat} (hf : ∀ j, j < C.length → f j ≤ c) : meanC C f k ≤ c := by
  have h1 : meanC C f k ≤ meanC C (fun _ => c * 1) k := wsum_le fun q hq => ⟨Rat.le_of_lt (br_pos h hk hq), by rw [Rat.mul_one]; exact hf _ ((plC_wf h hk).q q hq).2.2⟩
  have h2 : meanC C (fun _ => c * 1) k = c * meanC C (fun _ => 1) k := wsum_mul _ _ _
  rw [mean_one h hk] at h2
  grind
theorem mean_ge {C : List PlC} (h : WfC C) {k : Nat} (hk : k < C.length) {f : Nat → Rat} {c : Rat} (hf : ∀ j, j < C.length → c ≤ f j) : c ≤ meanC C f k := by
  have h1 : meanC C (fun _ => c * 1) k ≤ meanC C f k := wsum_le fun q hq => ⟨Rat.le_of_lt (br_pos h hk hq), by rw [Rat.mul_one]; exact hf _ ((plC_wf h hk).q q hq).2.2⟩
  have h2 : meanC C (fun _ => c * 1) k = c * meanC C (fun _ => 1) k := wsum_mul _ _ _
  rw [mean_one h hk] at h2
  grind
theorem div_le' {a b c : Rat} (h : 0 < b) (g : a ≤ c * b) : a / b ≤ c := by
  have : ¬ c < a / b := fun z => by
    rw [Rat.lt_div_iff h] at z
    grind
  grind
theorem le_div' {a b c : Rat} (h : 0 < b) (g : c * b ≤ a) : c ≤ a / b := by
  have : ¬ a / b < c := fun z => by
    rw [Rat.div_lt_iff h] at z
    grind
  grind
theorem q_le {p : Int × Int} (h : Red p) {c : Int} (hc : p.1 ≤ c * p.2) : qN p ≤ (c : Rat) := by
  have h1 : (0 : Rat) < (p.2 : Rat) := cast_pos (by have := h.1; omega)
  unfold qN
  refine div_le' h1 ?_
  rw [← Rat.intCast_mul]
  exact le_cast hc
theorem q_ge {p : Int × Int} (h : Red p) {c : Int} (hc : c * p.2 ≤ p.1) : (c : Rat) ≤ qN p := by
  have h1 : (0 : Rat) < (p.2 : Rat) := cast_pos (by have := h.1; omega)
  unfold qN
  refine le_div' h1 ?_
  rw [← Rat.intCast_mul]
  exact le_cast hc
theorem q_small {p : Int × Int} (h : SmallN p) : -(1000 : Rat) ≤ qN p ∧ qN p ≤ 1000 := by
  obtain ⟨h1, h2, h3, h4⟩ := h
  have hr : Red p := ⟨h1, h4⟩
  constructor
  · have := q_ge hr (c := -1000) (by omega)
    exact this
  · have := q_le hr (c := 1000) (by omega)
    exact this
theorem fg_bound {C : List PlC} (h : WfC C) : ∀ (t k : Nat), k < C.length → -(((1000 * t : Nat) : Int) : Rat) ≤ fgC C t k ∧ fgC C t k ≤ (((1000 * t : Nat) : Int) : Rat)
  | 0, k, _ => ⟨by show -((0 : Int) : Rat) ≤ 0; decide +kernel, by show (0 : Rat) ≤ ((0 : Int) : Rat); decide +kernel⟩
  | t + 1, k, hk => by
    have g := q_small (plC_wf h hk).g
    have e : (((1000 * (t + 1) : Nat) : Int) : Rat) = (((1000 * t : Nat) : Int) : Rat) + 1000 := by
      have : ((1000 * (t + 1) : Nat) : Int) = ((1000 * t : Nat) : Int) + 1000 := by omega
      rw [this, Rat.intCast_add]
      rfl
    have m1 := mean_ge h hk (f := fgC C t) (c := -(((1000 * t : Nat) : Int) : Rat)) fun j hj => (fg_bound h t j hj).1
    have m2 := mean_le h hk (f := fgC C t) (c := (((1000 * t : Nat) : Int) : Rat)) fun j hj => (fg_bound h t j hj).2
    show _ ≤ gainC C k + meanC C (fgC C t) k ∧ gainC C k + meanC C (fgC C t) k ≤ _
    rw [e]
    unfold gainC
    constructor <;> grind
theorem fz_bound {C : List PlC} (h : WfC C) {U S : Nat} (hU : ∀ p ∈ C, p.g.2.natAbs ∣ U) (hS : ∀ p ∈ C, ∀ q ∈ p.bs, q.1.2.natAbs ∣ S) (t k : Nat) (hk : k < C.length) : (fzC C U S t k).natAbs ≤ 1000 * t * (U * S ^ t) := by
  obtain ⟨b1, b2⟩ := fg_bound h t k hk
  have e := fz_cast h hU hS t k hk
  have hM : ((U * S ^ t : Nat) : Int) = (U : Int) * (S : Int) ^ t := by rw [Int.natCast_mul, Int.natCast_pow]
  have e2 : ((fzC C U S t k : Int) : Rat) = fgC C t k * (((U * S ^ t : Nat) : Int) : Rat) := by rw [e, hM, Rat.intCast_mul, pow_cast]
  have hp : (0 : Rat) ≤ (((U * S ^ t : Nat) : Int) : Rat) := Rat.intCast_nonneg.mpr (by omega)
  have u1 := Rat.mul_le_mul_of_nonneg_right b1 hp
  have u2 := Rat.mul_le_mul_of_nonneg_right b2 hp
  rw [← e2] at u1 u2
  have v2 : fzC C U S t k ≤ ((1000 * t : Nat) : Int) * ((U * S ^ t : Nat) : Int) := cast_le (by rw [Rat.intCast_mul]; exact u2)
  have v1 : -(((1000 * t : Nat) : Int) * ((U * S ^ t : Nat) : Int)) ≤ fzC C U S t k := cast_le (by rw [Rat.intCast_neg, Rat.intCast_mul]; grind)
  have e3 : ((1000 * t * (U * S ^ t) : Nat) : Int) = ((1000 * t : Nat) : Int) * ((U * S ^ t : Nat) : Int) := Int.natCast_mul _ _
  generalize U * S ^ t = M at *
  generalize 1000 * t = T at *
  omega
/-! ### promises -/
def spIsN (K : PySem.W.Frag) : Sp := fun vs h Q _ => ∃ (b : Hp) (p : Int × Int), Ex b h ∧ DtA K b vs [nD p] ∧ Red p ∧ Big 1900 p ∧ ∀ h', Ex h h' → Q (.bl true) h'
def spIsL (K : PySem.W.Frag) : Sp := fun vs h Q _ => ∃ (b : Hp) (l : List (Int × Int)), Ex b h ∧ DtA K b vs [numsD l] ∧ l.length ≤ 1000 ∧ (∀ p ∈ l, Red p ∧ Big 1900 p) ∧ ∀ h', Ex h h' → Q (.bl true) h'
def spWalkC (K : PySem.W.Frag) : Sp := fun vs h Q _ => ∃ (b : Hp) (ds : List Int) (most : Int), Ex b h ∧ DtA K b vs [.list (ds.map PyData.int), .int most] ∧ 1 ≤ most ∧ most ≤ 12 ∧ 2 + 14 * most ≤ (ds.length : Int) ∧ (∀ d ∈ ds, 0 ≤ d ∧ d < 1000) ∧
  ∀ v b' h' C, Gr b h b' h' → WfC C → (C.length : Int) ≤ most → Dt K b' v (chD C) → Q v h'
def spDen (K : PySem.W.Frag) : Sp := fun vs h Q _ => ∃ (b : Hp) (l : List (Int × Int)), Ex b h ∧ DtA K b vs [numsD l] ∧ (∀ p ∈ l, 1 ≤ p.2) ∧ denL l < 2 ^ 13000 ∧ ∀ h', Ex h h' → Q (.int (denL l : Int)) h'
def spWhA (K : PySem.W.Frag) : Sp := fun vs h Q _ => ∃ (b : Hp) (p : Int × Int) (M : Int), Ex b h ∧ DtA K b vs [nD p, .int M] ∧ 1 ≤ p.2 ∧ p.1.natAbs < 2 ^ 13000 ∧ p.2.natAbs < 2 ^ 9000 ∧ M.natAbs < 2 ^ 13000 ∧ ∀ h', Ex h h' → Q (.int (p.1 * (M / p.2))) h'
def spGains (K : PySem.W.Frag) : Sp := fun vs h Q _ => ∃ (b : Hp) (C : List PlC), Ex b h ∧ DtA K b vs [chD C] ∧ C.length ≤ 100 ∧ ∀ v b' h', Gr b h b' h' → Dt K b' v (numsD (gainsC C)) → Q v h'
def spSM (K : PySem.W.Frag) : Sp := fun vs h Q _ => ∃ (b : Hp) (p : PlC) (ns : List Int) (S : Nat), Ex b h ∧ DtA K b vs [p.D, .list (ns.map PyData.int), .int (S : Int)] ∧ p.bs.length ≤ 6 ∧ S < 2 ^ 13000 ∧
  (∀ q ∈ p.bs, 1 ≤ q.1.2 ∧ q.1.1.natAbs < 2 ^ 13000 ∧ q.1.2.natAbs < 2 ^ 9000 ∧ q.2 < ns.length ∧ (ns.getD q.2 0).natAbs < 2 ^ 26000) ∧ ∀ h', Ex h h' → Q (.int (smZ S ns p.bs)) h'
/-- a list that is new -/
def OwnF (h b' : Hp) (v : V) : Prop := ∃ p us, v = V.ref p ∧ h p = none ∧ b' p = some (.lst us) ∧ us.length ≤ 60
theorem OwnF.back {h h1 b : Hp} {v : V} (x : OwnF h1 b v) (e : Ex h h1) : OwnF h b v := by
  obtain ⟨p, us, h1, h2, h3, h4⟩ := x
  exact ⟨p, us, h1, fresh_back e h2, h3, h4⟩
def spFG (K : PySem.W.Frag) : Sp := fun vs h Q _ => ∃ (b : Hp) (C : List PlC) (t : Nat), Ex b h ∧ DtA K b vs [chD C, .int (t : Int)] ∧ WfC C ∧ t ≤ 60 ∧ denL (gainsC C) * denL (chances C) ^ t < 2 ^ 3000 ∧
  ∀ v b' h', Gr b h b' h' → Dt K b' v (listQ C.length (fgC C t)) → OwnF h b' v → Q v h'
def spFw (K : PySem.W.Frag) : Sp := fun vs h Q _ => ∃ (b : Hp) (C : List PlC) (x t : Nat), Ex b h ∧ DtA K b vs [chD C, .int (x : Int), .int (t : Int)] ∧ WfC C ∧ x < C.length ∧ t * C.length ≤ 180 ∧ t ≤ 60 ∧ denL (gainsC C) * denL (chances C) ^ t < 2 ^ 875 ∧
  ∀ v b' h', Gr b h b' h' → Dt K b' v (nQ (fgC C t x)) → Q v h'
section
variable {K : PySem.W.Frag} {σ : L2.St} {b h : Hp} {te tl ta tb : TE} {ts tk : TA} {E : XK} {D : Ends} {tz : TS} {d : PyData} {ds : List PyData} {C : List PlC} {p q : Int × Int} {r s : Rat}
theorem r_retO (x : EN K te σ b ds) (e : Ex b h) (hl : ds.length ≤ 60) (k : ∀ v b' h', Gr b h b' h' → Dt K b' v (.list ds) → OwnF h b' v → D.rt v h') : tRet te D σ h := x h e _ fun p us b2 h2 np nb g2 hp hus =>
  k (.ref p) _ h2 (g2.tell np nb hp) (Dt.list upd_same (hus.up (Ex.new nb))) ⟨p, us, rfl, np, upd_same, by rw [hus.length]; exact hl⟩
theorem en_mapG {g : TG} {vs : List Nat} {α : Type} {D f : α → PyData} {l : List α} (x : ED K tl σ b (.list (l.map D))) (hz : l.length ≤ 40000)
    (hs : ∀ y ∈ l, ∀ x b2 h2, Ex b b2 → Ex b2 h2 → Dt K b2 x (D y) → ∀ Q : L2.St → Hp → Prop, (∀ σ2, wipe σ2 vs = wipe σ vs → ED K te σ2 b2 (f y) → Q σ2 h2) → g x (wipe σ vs) h2 Q) : EN K (tLc (iList K tl) g tYes te vs) σ b (l.map f) := by
  by_cases hl : l = []
  · subst hl
    exact en_lcG x hz (fun _ => true) (fun _ => .none) fun i d v b2 h2 e e2 hd _ => by
      rw [List.map_nil] at hd
      simp at hd
  · obtain ⟨a, l', rfl⟩ := List.exists_cons_of_ne_nil hl
    have e : (a :: l').map f = givenD ((a :: l').map D).length (fun _ => true) (fun i => f ((a :: l').getD i a)) := by
      rw [givenD_all, List.length_map, map_getDn]
    rw [e]
    refine en_lcG x (by rw [List.length_map]; exact hz) _ _ fun i d v b2 h2 e1 e2 hd hv Q k => ?_
    rw [List.getElem?_map] at hd
    cases hz2 : (a :: l')[i]? with
    | none => rw [hz2] at hd; cases hd
    | some y =>
      rw [hz2] at hd
      cases hd
      refine hs y (List.mem_of_getElem? hz2) v b2 h2 e1 e2 hv Q fun σ2 hw ht => k σ2 hw et_yes fun _ => ?_
      have : (a :: l').getD i a = y := by rw [List.getD_eq_getElem?_getD, hz2]; rfl
      rw [this]
      exact ht
theorem ev_den {l : List (Int × Int)} (y : EDA K ts σ b [numsD l]) (h1 : ∀ p ∈ l, 1 ≤ p.2) (h2 : denL l < 2 ^ 13000) : Ev (tCall (spDen K) [] E ts) σ b (.int (denL l : Int)) := fun h e _ qq =>
  y h e _ fun vs b2 h2' g2 hv => ⟨b2, l, g2.gi, by rw [List.append_nil]; exact hv, h1, h2, fun h3 e3 => qq h3 (g2.gh.trans e3)⟩
theorem ev_whA {M : Int} (y : EDA K ts σ b [nD p, .int M]) (h1 : 1 ≤ p.2) (h2 : p.1.natAbs < 2 ^ 13000) (h3 : p.2.natAbs < 2 ^ 9000) (h4 : M.natAbs < 2 ^ 13000) : Ev (tCall (spWhA K) [] E ts) σ b (.int (p.1 * (M / p.2))) := fun h e _ qq =>
  y h e _ fun vs b2 h2' g2 hv => ⟨b2, p, M, g2.gi, by rw [List.append_nil]; exact hv, h1, h2, h3, h4, fun h3 e3 => qq h3 (g2.gh.trans e3)⟩
theorem ed_gainsC (y : EDA K ts σ b [chD C]) (h1 : C.length ≤ 100) : ED K (tCall (spGains K) [] E ts) σ b (numsD (gainsC C)) := fun h e _ qq =>
  y h e _ fun vs b2 h2' g2 hv => ⟨b2, C, g2.gi, by rw [List.append_nil]; exact hv, h1, fun v b3 h3 g3 hv3 => qq v b3 h3 (g2.trans g3) hv3⟩
theorem ev_SM {c : PlC} {ns : List Int} {S : Nat} (y : EDA K ts σ b [c.D, .list (ns.map PyData.int), .int (S : Int)]) (h1 : c.bs.length ≤ 6) (h2 : S < 2 ^ 13000) (h3 : ∀ q ∈ c.bs, 1 ≤ q.1.2 ∧ q.1.1.natAbs < 2 ^ 13000 ∧ q.1.2.natAbs < 2 ^ 9000 ∧ q.2 < ns.length ∧ (ns.getD q.2 0).natAbs < 2 ^ 26000) :
    Ev (tCall (spSM K) [] E ts) σ b (.int (smZ S ns c.bs)) := fun h e _ qq =>
  y h e _ fun vs b2 h2' g2 hv => ⟨b2, c, ns, S, g2.gi, by rw [List.append_nil]; exact hv, h1, h2, h3, fun h3 e3 => qq h3 (g2.gh.trans e3)⟩
theorem ex_walkC {ds : List Int} {most : Int} (y : EDA K ts σ b [.list (ds.map PyData.int), .int most]) (h1 : 1 ≤ most) (h2 : most ≤ 12) (h3 : 2 + 14 * most ≤ (ds.length : Int)) (h4 : ∀ d ∈ ds, 0 ≤ d ∧ d < 1000) : EX K (tCall (spWalkC K) [] E ts) σ b (fun d => ∃ C, WfC C ∧ (C.length : Int) ≤ most ∧ d = chD C) := fun h e _ q =>
  y h e _ fun vs b2 h2' g2 hv => ⟨b2, ds, most, g2.gi, by rw [List.append_nil]; exact hv, h1, h2, h3, h4, fun v b3 h3 C g3 w l hv3 => q v b3 h3 (chD C) (g2.trans g3) ⟨C, w, l, rfl⟩ hv3⟩
theorem ed_Fw {x t : Nat} (y : EDA K ts σ b [chD C, .int (x : Int), .int (t : Int)]) (h1 : WfC C) (h2 : x < C.length) (h3 : t * C.length ≤ 180) (h4 : t ≤ 60) (h5 : denL (gainsC C) * denL (chances C) ^ t < 2 ^ 875) : ED K (tCall (spFw K) [] E ts) σ b (nQ (fgC C t x)) := fun h e _ qq =>
  y h e _ fun vs b2 h2' g2 hv => ⟨b2, C, x, t, g2.gi, by rw [List.append_nil]; exact hv, h1, h2, h3, h4, h5, fun v b3 h3 g3 hv3 => qq v b3 h3 (g2.trans g3) hv3⟩
theorem ev_isN1 (y : EDA K ts σ b [nD p]) (h1 : Red p) (h2 : Big 1900 p) : Ev (tCall (spIsN K) [] E ts) σ b (.bl true) := fun h e _ qq =>
  y h e _ fun vs b2 h2' g2 hv => ⟨b2, p, g2.gi, by rw [List.append_nil]; exact hv, h1, h2, fun h3 e3 => qq h3 (g2.gh.trans e3)⟩
theorem ev_isL1 {l : List (Int × Int)} (y : EDA K ts σ b [numsD l]) (h1 : l.length ≤ 1000) (h2 : ∀ p ∈ l, Red p ∧ Big 1900 p) : Ev (tCall (spIsL K) [] E ts) σ b (.bl true) := fun h e _ qq =>
  y h e _ fun vs b2 h2' g2 hv => ⟨b2, l, g2.gi, by rw [List.append_nil]; exact hv, h1, h2, fun h3 e3 => qq h3 (g2.gh.trans e3)⟩
/-- _law_plus and _law_times, of rationals -/
theorem ed_plusQ (y : EDA K ts σ b [nQ r, nQ s]) (h1 : Big 900 (canon r)) (h2 : Big 900 (canon s)) : ED K (tCall (spNum2 K plusN) [] E ts) σ b (nQ (r + s)) := by
  unfold nQ
  rw [← plus_canon]
  exact ed_num2 y (canon_red r) (canon_red s) h1 h2
theorem ed_timesQ (y : EDA K ts σ b [nQ r, nQ s]) (h1 : Big 900 (canon r)) (h2 : Big 900 (canon s)) : ED K (tCall (spNum2 K timesN) [] E ts) σ b (nQ (r * s)) := by
  unfold nQ
  rw [← times_canon]
  exact ed_num2 y (canon_red r) (canon_red s) h1 h2
end
theorem small_Q {p : Int × Int} (h : SmallN p) : canon (qN p) = p := (canon_red_self (red_small h)).symm
theorem big_canon_small {p : Int × Int} (h : SmallN p) : Big 10 (canon (qN p)) := by rw [small_Q h]; exact big_small h
/-! ### a list of numbers is equal to itself -/
def lay0 : PyData → Prop := fun d => d.canLay0 = true
theorem lay_all : ∀ {ds : List PyData}, (∀ d ∈ ds, d.canLay0 = true) → PyData.canLayAll0 ds = true
  | [], _ => rfl
  | d :: ds, h => by
    show (d.canLay0 && PyData.canLayAll0 ds) = true
    rw [h d (List.mem_cons_self ..), lay_all fun e he => h e (List.mem_cons_of_mem _ he)]
    rfl
theorem dep_all : ∀ {ds : List PyData} {k : Nat}, (∀ d ∈ ds, d.depth ≤ k) → PyData.depthAll ds ≤ k
  | [], _, _ => Nat.zero_le _
  | d :: ds, k, h => Nat.max_le.mpr ⟨h d (List.mem_cons_self ..), dep_all fun e he => h e (List.mem_cons_of_mem _ he)⟩
theorem lay_nums (l : List (Int × Int)) : (numsD l).canLay0 = true ∧ (numsD l).depth ≤ 2 := by
  constructor
  · show PyData.canLayAll0 (l.map nD) = true
    exact lay_all fun d hd => by
      obtain ⟨p, _, rfl⟩ := List.mem_map.mp hd
      rfl
  · show PyData.depthAll (l.map nD) + 1 ≤ 2
    have := dep_all (k := 1) (ds := l.map nD) fun d hd => by
      obtain ⟨p, _, rfl⟩ := List.mem_map.mp hd
      exact Nat.le_refl _
    omega
theorem ev_differL {K : PySem.W.Frag} {σ : L2.St} {b : Hp} {ta tb : TE} {l : List (Int × Int)} (x : ED K ta σ b (numsD l)) (y : ED K tb σ b (numsD l)) : Ev (tOp (rNeD K) ta tb) σ b (.bl false) := by
  have hl := lay_nums l
  have hs : SeqAt.shaped (numsD l) = true := by
    unfold SeqAt.shaped
    rw [hl.1, decide_eq_true (Nat.le_trans hl.2 (by decide))] <;> rfl
  have := ev_neD x y hs hs
  rwa [PySem.SeqAt.eqv_refl (numsD l) hl.1] at this
/-! ### the chain as a game, for repr -/
def plG (p : PlC) : Pl := .draw p.g (p.bs.map fun q => (q.1, (q.2 : Int)))
theorem chD_game (C : List PlC) : chD C = gameD (C.map plG) := by
  unfold chD gameD
  congr 1
  rw [List.map_map]
  refine List.map_congr_left fun p _ => ?_
  show PyData.tuple [nD p.g, .str "draw", .list (p.bs.map brC)] = PyData.tuple [nD p.g, .str "draw", .list ((p.bs.map fun q => (q.1, (q.2 : Int))).map brD)]
  rw [List.map_map]
  rfl
theorem nice_chain {C : List PlC} (h : WfC C) : Nice 5 25000 (chD C) := by
  rw [chD_game]
  refine nice_game ⟨by rw [List.length_map]; exact h.l12, fun p hp => ?_⟩
  obtain ⟨c, hc, rfl⟩ := List.mem_map.mp hp
  have w := h.p c hc
  refine ⟨ok_small w.g, by rw [List.length_map]; exact w.l6, fun x hx => ?_⟩
  obtain ⟨q, hq, rfl⟩ := List.mem_map.mp hx
  have := w.q q hq
  have := h.l12
  refine ⟨ok_small (w.q q hq).1, ?_⟩
  show ((q.2 : Int)).natAbs < 10 ^ 18
  have h3 := (w.q q hq).2.2
  exact Nat.lt_trans (show ((q.2 : Int)).natAbs < 100 by omega) (by decide)
end Md
namespace Md
open PySem L2 Evl
def fstD : PyData → PyData
  | .tuple (d :: _) => d
  | d => d
theorem map_plC {β : Type} (C : List PlC) (f : PlC → β) : (List.range C.length).map (fun i => f (plC C i)) = C.map f := map_getDn C _ f
theorem chances_data (C : List PlC) : ((List.range (C.map PlC.D).length).map fun i => ((plC C i).bs.map brC).map fstD).flatten = (chances C).map nD := by
  rw [List.length_map, map_plC C fun p => (p.bs.map brC).map fstD]
  unfold chances
  rw [List.map_flatten, List.map_map]
  congr 1
  refine List.map_congr_left fun p _ => ?_
  show (p.bs.map brC).map fstD = (p.bs.map (·.1)).map nD
  rw [List.map_map, List.map_map]
  rfl
theorem ed_chances {K : PySem.W.Frag} {σ : L2.St} {b : Hp} {C : List PlC} {tl tl1 te : TE} {g g1 : TG} {vs vs1 : List Nat} (x : ED K tl σ b (chD C)) (h1 : C.length ≤ 100) (h2 : ∀ p ∈ C, p.bs.length ≤ 6)
    (hs : ∀ (p : PlC) (x : V) (b2 h2 : Hp), Ex b b2 → Ex b2 h2 → p ∈ C → Dt K b2 x p.D → ∀ Q : L2.St → Hp → Prop, (∀ σ2, wipe σ2 vs = wipe σ vs → ED K tl1 σ2 b2 (.list (p.bs.map brC)) →
      (∀ (q : BrC) (y : V) (b3 h3 : Hp), Ex b2 b3 → Ex b3 h3 → q ∈ p.bs → Dt K b3 y (brC q) → ∀ Q1 : L2.St → Hp → Prop, (∀ σ3, wipe σ3 vs1 = wipe σ2 vs1 → ED K te σ3 b3 (nD q.1) → Q1 σ3 h3) → g1 y (wipe σ2 vs1) h3 Q1) → Q σ2 h2) → g x (wipe σ vs) h2 Q) :
    ED K (tLc2 (iList K tl) g tYes (iList K tl1) g1 tYes te vs vs1) σ b (numsD (chances C)) := by
  unfold numsD
  rw [← chances_data]
  refine EN.ed (en_lc2 x (by rw [List.length_map]; exact h1) (fun i => (plC C i).bs.map brC) fstD (fun i => ?_) fun i d x b2 h3 e1 e2 hd hx Q k => ?_)
  · rw [List.length_map]
    rcases Nat.lt_or_ge i C.length with z | z
    · have := h2 _ (List.mem_of_getElem? (plC_get z))
      omega
    · have : plC C i = ⟨(0, 1), []⟩ := by
        unfold plC
        rw [List.getD_eq_getElem?_getD, List.getElem?_eq_none z]
        rfl
      rw [this]
      exact Nat.zero_le _
  · have hi : i < C.length := by
      have := (List.getElem?_eq_some_iff.mp hd).1
      rwa [List.length_map] at this
    have hp := plC_get hi
    rw [List.getElem?_map, hp] at hd
    cases hd
    refine hs (plC C i) x b2 h3 e1 e2 (List.mem_of_getElem? hp) hx Q fun σ2 w1 w2 w3 => k σ2 w1 w2 fun j e y b4 h4 e3 e4 he hy Q1 k1 => ?_
    rw [List.getElem?_map] at he
    cases hz : (plC C i).bs[j]? with
    | none => rw [hz] at he; cases he
    | some q =>
      rw [hz] at he
      cases he
      exact w3 q y b4 h4 e3 e4 (List.mem_of_getElem? hz) hy Q1 k1
theorem gz_bound {C : List PlC} (h : WfC C) {U k : Nat} (hk : k < C.length) : (gzC C U k).natAbs ≤ 1000 * U := by
  have g := (plC_wf h hk).g
  unfold gzC
  rw [Int.natAbs_mul]
  have h1 : ((U : Int) / (plC C k).g.2).natAbs ≤ U := by
    have := Int.natAbs_ediv_le_natAbs (U : Int) (plC C k).g.2
    rwa [Int.natAbs_natCast] at this
  exact Nat.mul_le_mul (by have := g.2.2.1; omega) h1
theorem lt_pow_mul {a b c i j : Nat} (h : a ≤ b * c) (hb : b ≤ 2 ^ i) (hc : c < 2 ^ j) : a < 2 ^ (i + j) := by
  rw [Nat.pow_add]
  have h1 : b * c ≤ 2 ^ i * c := Nat.mul_le_mul_right c hb
  have h2 : 2 ^ i * c < 2 ^ i * 2 ^ j := Nat.mul_lt_mul_of_pos_left hc (Nat.two_pow_pos i)
  omega
end Md
namespace Md
open PySem L2 Evl
theorem num_dvd {n d : Int} (h : 0 < d) : (num n d).2.natAbs ∣ d.natAbs := by
  rw [num_pos h]
  show (d / _).natAbs ∣ d.natAbs
  obtain ⟨c, hc⟩ := cast_dvd (g := Nat.gcd n.natAbs d.natAbs) (n := d) (Nat.gcd_dvd_right _ _)
  have hg : 0 < Nat.gcd n.natAbs d.natAbs := Nat.gcd_pos_of_pos_right _ (by omega)
  generalize ((Nat.gcd n.natAbs d.natAbs : Nat) : Int) = g at hc
  rcases Int.lt_or_le 0 g with z | z
  · have e : d / g = c := by rw [hc]; exact Int.mul_ediv_cancel_left _ (by omega)
    rw [e]
    exact ⟨g.natAbs, by rw [hc, Int.natAbs_mul, Nat.mul_comm]⟩
  · rcases Int.lt_or_eq_of_le z with z | z
    · have e : d / g = c := by rw [hc]; exact Int.mul_ediv_cancel_left _ (by omega)
      rw [e]
      exact ⟨g.natAbs, by rw [hc, Int.natAbs_mul, Nat.mul_comm]⟩
    · rw [z, Int.zero_mul] at hc
      omega
theorem num_pos1 {n d : Int} (hn : 0 < n) (h : 0 < d) : 0 < (num n d).1 := by
  have e := num_cross (n := n) h
  have r := (num_red (n := n) h).1
  rcases Int.lt_or_le 0 (num n d).1 with z | z
  · exact z
  · have h1 : (num n d).1 * d ≤ 0 := Int.mul_nonpos_of_nonpos_of_nonneg z (by omega)
    have h2 : 0 < n * (num n d).2 := Int.mul_pos hn (by omega)
    omega
theorem div_sum (ws : List Int) (c : Rat) : (ws.map fun w : Int => (w : Rat) / c).sum = ((ws.sum : Int) : Rat) / c := by
  induction ws with
  | nil =>
    rw [List.map_nil, List.sum_nil, List.sum_nil]
    show (0 : Rat) = ((0 : Int) : Rat) / c
    rw [Rat.div_def]
    exact (Rat.zero_mul _).symm
  | cons w ws ih => rw [List.map_cons, List.sum_cons, ih, List.sum_cons, Rat.intCast_add]; grind
theorem chance_sum {ws : List Int} (h : 0 < ws.sum) : ((List.range ws.length).map fun j => qN (num (ws.getD j 0) ws.sum)).sum = 1 := by
  rw [map_getD ws fun w => qN (num w ws.sum)]
  have e : (ws.map fun w => qN (num w ws.sum)) = ws.map fun w : Int => (w : Rat) / ((ws.sum : Int) : Rat) := List.map_congr_left fun w _ => q_num h
  rw [e, div_sum]
  rw [Rat.div_def]
  exact Rat.mul_inv_cancel _ (cast_ne (by omega))
theorem sum4 : ∀ {ws : List Int}, (∀ w ∈ ws, 1 ≤ w ∧ w ≤ 4) → (ws.length : Int) ≤ ws.sum ∧ ws.sum ≤ 4 * ws.length
  | [], _ => ⟨by decide, by decide⟩
  | w :: ws, h => by
    have h1 := h w (List.mem_cons_self ..)
    have h2 := sum4 fun w hw => h w (List.mem_cons_of_mem _ hw)
    rw [List.sum_cons, List.length_cons]
    omega
/-- a draw made of weights -/
def walkBr (ws : List Int) (tg : Nat → Nat) (j : Nat) : BrC := (num (ws.getD j 0) ws.sum, tg j)
theorem walk_wf {n : Nat} {g : Int × Int} {ws : List Int} {tg : Nat → Nat} (hg : SmallN g) (h1 : 1 ≤ ws.length) (h6 : ws.length ≤ 6) (hw : ∀ w ∈ ws, 1 ≤ w ∧ w ≤ 4) (ht : ∀ j, j < ws.length → tg j < n) :
    WfB n ⟨g, (List.range ws.length).map (walkBr ws tg)⟩ := by
  obtain ⟨s1, s2⟩ := sum4 hw
  have h0 : 0 < ws.sum := by omega
  have hq : ∀ q ∈ (List.range ws.length).map (walkBr ws tg), ∃ w ∈ ws, ∃ j, j < ws.length ∧ q = (num w ws.sum, tg j) := fun q hq => by
    obtain ⟨j, hj, rfl⟩ := List.mem_map.mp hq
    have hj := List.mem_range.mp hj
    refine ⟨ws.getD j 0, ?_, j, hj, rfl⟩
    rw [List.getD_eq_getElem?_getD, List.getElem?_eq_getElem hj]
    exact List.getElem_mem hj
  refine ⟨hg, by rw [List.length_map, List.length_range]; exact h1, by rw [List.length_map, List.length_range]; exact h6, fun q hqm => ?_, ⟨ws.sum.natAbs, by omega, by omega, fun q hqm => ?_⟩, ?_⟩
  · obtain ⟨w, hwm, j, hj, rfl⟩ := hq q hqm
    have := hw w hwm
    exact ⟨num_small (by omega) (by omega) (by omega), num_pos1 (by omega) h0, ht j hj⟩
  · obtain ⟨w, hwm, j, hj, rfl⟩ := hq q hqm
    exact num_dvd h0
  · show (((List.range ws.length).map (walkBr ws tg)).map fun q => qN q.1).sum = 1
    rw [List.map_map]
    exact chance_sum h0
end Md


set_option Elab.async false
set_option linter.all false
set_option maxRecDepth 100000
set_option maxHeartbeats 2000000
/-! Masses forwards; what an expression gives at one heap; a hidden list changed by place. -/
namespace Md
open PySem L2 Evl
/-! ### at one heap -/
def EDh (K : PySem.W.Frag) (te : TE) (σ : L2.St) (b h : Hp) (d : PyData) : Prop := ∀ h1, Ex h h1 → ∀ Q : VK, (∀ v b' h', Gr b h1 b' h' → Dt K b' v d → Q v h') → te σ h1 Q
def EDAh (K : PySem.W.Frag) (ta : TA) (σ : L2.St) (b h : Hp) (ds : List PyData) : Prop := ∀ h1, Ex h h1 → ∀ Q : List V → Hp → Prop, (∀ vs b' h', Gr b h1 b' h' → DtA K b' vs ds → Q vs h') → ta σ h1 Q
section
variable {K : PySem.W.Frag} {σ : L2.St} {b b' h h' : Hp} {te tr' ta tb : TE} {ts tr : TA} {E : XK} {D : Ends} {tz : TS} {d d' : PyData} {ds : List PyData} {v : V} {i : Int} {p q : Int × Int} {r s : Rat} {us : List V} {a : Addr}
theorem ED.at (x : ED K te σ b d) (e : Ex b h) : EDh K te σ b h d := fun h1 e1 Q q => x h1 (e.trans e1) Q q
theorem EDA.at (x : EDA K ts σ b ds) (e : Ex b h) : EDAh K ts σ b h ds := fun h1 e1 Q q => x h1 (e.trans e1) Q q
theorem edh_val (e : Ex b h) (hd : Dt K b v d) (he : Ev te σ h v) : EDh K te σ b h d := fun h1 e1 _ q => he h1 e1 _ fun h2 e2 => q v b h2 (Gr.stay (e.trans e1) e2) hd
theorem edah_cons (x : EDh K te σ b h d) (y : EDA K tr σ b ds) : EDAh K (tCons te tr) σ b h (d :: ds) := fun h1 e1 _ q => x h1 e1 _ fun v b2 h2 g2 hv => y.up g2.gb h2 g2.gi _ fun vs b3 h3 g3 hvs =>
  q (v :: vs) b3 h3 (g2.trans g3) (DtA.cons (hv.up g3.gb) hvs)
theorem edh_num2 {g : Int × Int → Int × Int → Int × Int} (y : EDAh K ts σ b h [nD p, nD q]) (h1 : Red p) (h2 : Red q) (h3 : Big 900 p) (h4 : Big 900 q) : EDh K (tCall (spNum2 K g) [] E ts) σ b h (nD (g p q)) := fun hh e _ qq =>
  y hh e _ fun vs b2 h2' g2 hv => ⟨b2, p, q, g2.gi, by rw [List.append_nil]; exact hv, h1, h2, h3, h4, fun v b3 h3 g3 hv3 => qq v b3 h3 (g2.trans g3) hv3⟩
theorem edh_plusQ (y : EDAh K ts σ b h [nQ r, nQ s]) (h1 : Big 900 (canon r)) (h2 : Big 900 (canon s)) : EDh K (tCall (spNum2 K plusN) [] E ts) σ b h (nQ (r + s)) := by
  unfold nQ
  rw [← plus_canon]
  exact edh_num2 y (canon_red r) (canon_red s) h1 h2
/-- an item of a list that is not spoken of -/
theorem edh_ixM {j : Nat} {i k : Nat} (e : Ex b h) (hq : h a = some (.lst us)) (hA : DtA K b us ds) (s1 : σ[i]? = some (some (.ref a))) (s2 : σ[k]? = some (some (.int (j : Int)))) (hd : ds[j]? = some d) : EDh K (tOp (rIxL K) (tVar i) (tVar k)) σ b h d := by
  obtain ⟨v, hv, hdv⟩ := hA.get hd
  exact edh_val e hdv (ev_op (ev_var s1) (ev_var s2) (rv_ixL (sq_of hq) (atI_nat hv)))
/-- q[j] = te -/
theorem r_setL {j i k : Nat} (x : EDh K te σ b h d) (hq : h a = some (.lst us)) (nb : b a = none) (s1 : σ[i]? = some (some (.ref a))) (s2 : σ[k]? = some (some (.int (j : Int)))) (hj : j < us.length)
    (kk : ∀ v b' h', Gr b h b' h' → b' a = none → h' a = some (.lst us) → Dt K b' v d → D.nx σ (upd h' a (.lst (us.set j v)))) : tAsg te (gSub (tVar i) (tVar k) rSetL) D σ h :=
  x h (Ex.refl h) _ fun v b2 h2 g2 hv => ⟨_, s1, _, s2, a, us, (j : Int), j, rfl, rfl, g2.gh _ _ hq, ixN_nat hj, kk v b2 h2 g2 (g2.gf a nb (by rw [hq]; intro z; cases z)) (g2.gh _ _ hq) hv⟩
theorem DtA.set : ∀ {ds : List PyData} {us : List V} (j : Nat), DtA K b us ds → Dt K b v d → DtA K b (us.set j v) (ds.set j d)
  | [], _, j, h, _ => by
    cases h
    exact DtA.nil
  | _ :: _, _, 0, h, g => by
    cases h with
    | cons h1 h2 => exact DtA.cons g h2
  | _ :: _, _, j + 1, h, g => by
    cases h with
    | cons h1 h2 => exact DtA.cons h1 (DtA.set j h2 g)
end
theorem range_set {β : Type} (n j : Nat) (f : Nat → β) (a : β) : ((List.range n).map f).set j a = (List.range n).map fun i => if i = j then a else f i := by
  refine List.ext_getElem? fun i => ?_
  rw [List.getElem?_set, List.getElem?_map]
  by_cases e : j = i
  · subst e
    rw [if_pos rfl, List.length_map, List.length_range, List.getElem?_map]
    split
    · rename_i z
      rw [List.getElem?_range z]
      show some a = some (if j = j then a else f j)
      rw [if_pos rfl]
    · rename_i z
      rw [List.getElem?_eq_none (by rw [List.length_range]; omega)]
      rfl
  · rw [if_neg e, List.getElem?_map]
    rcases Nat.lt_or_ge i n with z | z
    · rw [List.getElem?_range z]
      show some (f i) = some (if i = j then a else f i)
      rw [if_neg (fun z => e z.symm)]
    · rw [List.getElem?_eq_none (by rw [List.length_range]; exact z)]
      rfl
/-! ### masses -/
theorem sumR_upto {n k : Nat} {f : Nat → Rat} (h : ∀ i, i < n → 0 ≤ f i) (hk : k ≤ n) : sumR k f ≤ sumR n f := by
  induction n with
  | zero =>
    obtain rfl : k = 0 := by omega
    exact Rat.le_refl
  | succ n ih =>
    by_cases e : k = n + 1
    · subst e
      exact Rat.le_refl
    · rw [sumR_succ]
      have := ih (fun i hi => h i (Nat.lt_succ_of_lt hi)) (by omega)
      have := h n (Nat.lt_succ_self n)
      grind
theorem wsum_take {bs : List BrC} (h : ∀ q ∈ bs, 0 ≤ qN q.1) (i : Nat) : 0 ≤ wsum (bs.take i) (fun _ => 1) ∧ wsum (bs.take i) (fun _ => 1) ≤ wsum bs (fun _ => 1) := by
  induction bs generalizing i with
  | nil => rw [List.take_nil]; exact ⟨Rat.le_refl, Rat.le_refl⟩
  | cons q bs ih =>
    have h1 := h q (List.mem_cons_self ..)
    have h0 := (ih (fun q hq => h q (List.mem_cons_of_mem _ hq)) bs.length).1
    rw [List.take_length] at h0
    cases i with
    | zero =>
      rw [List.take_zero, wsum_nil, wsum_cons]
      grind
    | succ i =>
      have h2 := ih (fun q hq => h q (List.mem_cons_of_mem _ hq)) i
      rw [List.take_succ_cons, wsum_cons, wsum_cons]
      grind
/-- something added at one place -/
def addAt (l : Nat → Rat) (t : Nat) (c : Rat) : Nat → Rat := fun j => if j = t then l j + c else l j
theorem sumR_addAt {n t : Nat} (l f : Nat → Rat) (c : Rat) (h : t < n) : sumR n (fun j => addAt l t c j * f j) = sumR n (fun j => l j * f j) + c * f t := by
  have e : ∀ j, addAt l t c j * f j = l j * f j + (if j = t then c * f t else 0) := fun j => by
    unfold addAt
    by_cases z : j = t
    · subst z
      rw [if_pos rfl, if_pos rfl]
      grind
    · rw [if_neg z, if_neg z]
      grind
  rw [sumR_congr fun j _ => e j, sumR_add, sumR_one _ h]
structure Later (C : List PlC) (S : Nat) (m : Nat → Rat) (t k i : Nat) (l : Nat → Rat) : Prop where
  nn : ∀ j, j < C.length → 0 ≤ l j
  zt : ∀ j, j < C.length → Zt (S ^ (t + 1)) (l j)
  dot : ∀ f : Nat → Rat, sumR C.length (fun j => l j * f j) = sumR k (fun j => m j * meanC C f j) + m k * wsum ((plC C k).bs.take i) f
structure Mass (C : List PlC) (S : Nat) (t : Nat) (m : Nat → Rat) : Prop where
  nn : ∀ j, j < C.length → 0 ≤ m j
  zt : ∀ j, j < C.length → Zt (S ^ t) (m j)
  one : sumR C.length m = 1
theorem mass_le {C : List PlC} {S t : Nat} {m : Nat → Rat} (h : Mass C S t m) {k : Nat} (hk : k < C.length) : m k ≤ 1 := by
  rw [← h.one]
  exact sumR_ge h.nn hk
theorem later_le {C : List PlC} (hW : WfC C) {S t k i : Nat} {m l : Nat → Rat} (hm : Mass C S t m) (h : Later C S m t k i l) (hk : k < C.length) {j : Nat} (hj : j < C.length) : l j ≤ 1 := by
  have h1 := sumR_ge h.nn hj
  have h2 := h.dot fun _ => 1
  rw [sumR_congr (f := fun j => l j * 1) (g := l) fun j _ => Rat.mul_one _] at h2
  have e : sumR k (fun j => m j * meanC C (fun _ => 1) j) = sumR k m := sumR_congr fun j hj' => by rw [mean_one hW (by omega), Rat.mul_one]
  rw [e] at h2
  have h3 := wsum_take (fun q hq => Rat.le_of_lt (br_pos hW hk hq)) i
  have h4 : wsum (plC C k).bs (fun _ => 1) = 1 := mean_one hW hk
  have h5 := sumR_upto hm.nn (show k + 1 ≤ C.length by omega)
  rw [sumR_succ, hm.one] at h5
  have h6 := hm.nn k hk
  have h7 := Rat.mul_le_mul_of_nonneg_left (show wsum ((plC C k).bs.take i) (fun _ => 1) ≤ 1 from by have := h3.2; rwa [h4] at this) h6
  grind
theorem later_zero {C : List PlC} {S t : Nat} {m : Nat → Rat} : Later C S m t 0 0 (fun _ => 0) := ⟨fun _ _ => Rat.le_refl, fun _ _ => zt_zero _, fun f => by
  rw [sumR_congr (f := fun j => 0 * f j) (g := fun _ => 0) fun j _ => Rat.zero_mul _, sumR_const0, sumR_zero, List.take_zero, wsum_nil]
  grind⟩
theorem later_next {C : List PlC} {S t k : Nat} {m l : Nat → Rat} (h : Later C S m t k (plC C k).bs.length l) : Later C S m t (k + 1) 0 l := ⟨h.nn, h.zt, fun f => by
  have e := h.dot f
  rw [List.take_length] at e
  rw [e, sumR_succ, List.take_zero, wsum_nil]
  unfold meanC
  grind⟩
theorem later_br {C : List PlC} (hW : WfC C) {S t k i : Nat} {m l : Nat → Rat} (hS : ∀ p ∈ C, ∀ q ∈ p.bs, q.1.2.natAbs ∣ S) (hm : Mass C S t m) (h : Later C S m t k i l) (hk : k < C.length) {q : BrC} (hq : (plC C k).bs[i]? = some q) :
    Later C S m t k (i + 1) (addAt l q.2 (m k * qN q.1)) ∧ Zt (S ^ (t + 1)) (m k * qN q.1) ∧ 0 ≤ m k * qN q.1 ∧ m k * qN q.1 ≤ 1000 := by
  have hqm := List.mem_of_getElem? hq
  have hqw := (plC_wf hW hk).q q hqm
  have p0 := Rat.le_of_lt (br_pos hW hk hqm)
  have z1 : Zt (S ^ (t + 1)) (m k * qN q.1) := by
    rw [Nat.pow_succ]
    exact (hm.zt k hk).mul (zt_den (red_small hqw.1) (hS _ (List.mem_of_getElem? (plC_get hk)) q hqm))
  have n1 := Rat.mul_nonneg (hm.nn k hk) p0
  have m1 := mass_le hm hk
  have u1 := (q_small hqw.1).2
  have u2 := Rat.mul_le_mul_of_nonneg_right m1 p0
  refine ⟨⟨fun j hj => ?_, fun j hj => ?_, fun f => ?_⟩, z1, n1, by grind⟩
  · unfold addAt
    have := h.nn j hj
    split <;> grind
  · unfold addAt
    split
    · exact (h.zt j hj).add z1
    · exact h.zt j hj
  · rw [sumR_addAt _ _ _ hqw.2.2, h.dot f, take_more1 hq, wsum_snoc]
    grind
structure Booked (C : List PlC) (U S : Nat) (T x t k : Nat) (bk : Rat) : Prop where
  zt : Zt (U * S ^ t) bk
  lo : -(((1000 * (t * C.length + k) : Nat) : Int) : Rat) ≤ bk
  hi : bk ≤ (((1000 * (t * C.length + k) : Nat) : Int) : Rat)
theorem book_one {C : List PlC} (hW : WfC C) {U S T x t k : Nat} {m : Nat → Rat} {bk : Rat} (hU : ∀ p ∈ C, p.g.2.natAbs ∣ U) (hm : Mass C S t m) (h : Booked C U S T x t k bk) (hk : k < C.length) :
    Booked C U S T x t (k + 1) (bk + m k * gainC C k) ∧ Zt (U * S ^ t) (m k * gainC C k) ∧ -(1000 : Rat) ≤ m k * gainC C k ∧ m k * gainC C k ≤ 1000 := by
  have hg := (plC_wf hW hk).g
  have z1 : Zt (U * S ^ t) (m k * gainC C k) := by
    rw [Nat.mul_comm]
    exact (hm.zt k hk).mul (zt_den (red_small hg) (hU _ (List.mem_of_getElem? (plC_get hk))))
  obtain ⟨g1, g2⟩ := q_small hg
  have m0 := hm.nn k hk
  have m1 := mass_le hm hk
  have u1 := Rat.mul_le_mul_of_nonneg_left (show gainC C k ≤ 1000 from g2) m0
  have u2 := Rat.mul_le_mul_of_nonneg_left (show -(1000 : Rat) ≤ gainC C k from g1) m0
  have b1 : -(1000 : Rat) ≤ m k * gainC C k := by grind
  have b2 : m k * gainC C k ≤ 1000 := by grind
  have e : (((1000 * (t * C.length + (k + 1)) : Nat) : Int) : Rat) = (((1000 * (t * C.length + k) : Nat) : Int) : Rat) + 1000 := by
    have : ((1000 * (t * C.length + (k + 1)) : Nat) : Int) = ((1000 * (t * C.length + k) : Nat) : Int) + 1000 := by
      rw [← Nat.add_assoc]
      generalize t * C.length + k = z
      omega
    rw [this, Rat.intCast_add]
    rfl
  have l1 := h.lo
  have l2 := h.hi
  exact ⟨⟨h.zt.add z1, by rw [e]; grind, by rw [e]; grind⟩, z1, b1, b2⟩
/-- one turn -/
theorem turn_ok {C : List PlC} (hW : WfC C) {S t r : Nat} {m l : Nat → Rat} (hm : Mass C S t m) (h : Later C S m t C.length 0 l) :
    Mass C S (t + 1) l ∧ sumR C.length (fun j => m j * gainC C j) + sumR C.length (fun j => l j * fgC C r j) = sumR C.length (fun j => m j * fgC C (r + 1) j) := by
  refine ⟨⟨h.nn, h.zt, ?_⟩, ?_⟩
  · have h2 := h.dot fun _ => 1
    rw [sumR_congr (f := fun j => l j * 1) (g := l) fun j _ => Rat.mul_one _, List.take_zero, wsum_nil, Rat.mul_zero, Rat.add_zero] at h2
    rw [h2]
    refine Eq.trans ?_ hm.one
    exact sumR_congr fun j hj => by rw [mean_one hW hj, Rat.mul_one]
  · have h2 := h.dot (fgC C r)
    rw [List.take_zero, wsum_nil, Rat.mul_zero, Rat.add_zero] at h2
    rw [h2, ← sumR_add]
    refine sumR_congr fun j hj => ?_
    show _ = m j * (gainC C j + meanC C (fgC C r) j)
    grind
end Md


set_option Elab.async false
set_option linter.all false
set_option maxRecDepth 100000
set_option maxHeartbeats 2000000
/-! Determinants by their last column; Cramer's rule. c col row. -/
namespace Md
/-! ### sums -/
theorem sumR_neg (n : Nat) (f : Nat → Rat) : sumR n (fun i => -f i) = -sumR n f := by
  induction n with
  | zero => rw [sumR_zero, sumR_zero]; grind
  | succ n ih => rw [sumR_succ, sumR_succ, ih]; grind
theorem sumR_comm (n m : Nat) (f : Nat → Nat → Rat) : sumR n (fun i => sumR m (fun j => f i j)) = sumR m (fun j => sumR n (fun i => f i j)) := by
  induction n with
  | zero =>
    rw [sumR_zero, sumR_congr (f := fun j => sumR 0 fun i => f i j) (g := fun _ => 0) fun j _ => sumR_zero _, sumR_const0]
  | succ n ih =>
    rw [sumR_succ, ih, ← sumR_add]
    exact sumR_congr fun j _ => (sumR_succ _ _).symm
theorem sumR_anti {n : Nat} {w : Nat → Nat → Rat} (h : ∀ i j, i < n → j < n → w i j = -w j i) : sumR n (fun i => sumR n (fun j => w i j)) = 0 := by
  have e : sumR n (fun i => sumR n (fun j => w i j)) = -sumR n (fun i => sumR n (fun j => w i j)) := by
    conv => lhs; rw [sumR_comm]
    rw [← sumR_neg]
    refine sumR_congr fun j hj => ?_
    rw [← sumR_neg]
    exact sumR_congr fun i hi => h i j hi hj
  grind
theorem sumR_only {n k : Nat} {f : Nat → Rat} (hk : k < n) (h : ∀ i, i < n → i ≠ k → f i = 0) : sumR n f = f k := by
  rw [sumR_congr (g := fun i => if i = k then f k else 0) fun i hi => ?_, sumR_one _ hk]
  by_cases e : i = k
  · rw [if_pos e, e]
  · rw [if_neg e, h i hi e]
theorem sumR_zeros {n : Nat} {f : Nat → Rat} (h : ∀ i, i < n → f i = 0) : sumR n f = 0 := by
  rw [sumR_congr (g := fun _ => 0) h, sumR_const0]
/-! ### rows left out -/
def sk (i r : Nat) : Nat := if r < i then r else r + 1
def pd (i j : Nat) : Nat := if j < i then j else j - 1
theorem sk_lt {i r k : Nat} (h : r < k) : sk i r < k + 1 := by
  unfold sk
  split <;> omega
theorem sk_lo {i r : Nat} (h : r < i) : sk i r = r := if_pos h
theorem sk_hi {i r : Nat} (h : i ≤ r) : sk i r = r + 1 := if_neg (by omega)
theorem sk_sk {i j : Nat} (h : j < i) (r : Nat) : sk i (sk j r) = sk j (sk (i - 1) r) := by
  rcases Nat.lt_or_ge r j with z | z
  · rw [sk_lo z, sk_lo (by omega), sk_lo (show r < i - 1 by omega), sk_lo z]
  · rw [sk_hi z]
    rcases Nat.lt_or_ge r (i - 1) with y | y
    · rw [sk_lo (show r + 1 < i by omega), sk_lo y, sk_hi z]
    · rw [sk_hi (show i ≤ r + 1 by omega), sk_hi y, sk_hi (by omega)]
theorem skip_sum {n i : Nat} (g : Nat → Rat) (h : i ≤ n) : sumR n (fun m => g (sk i m)) = sumR (n + 1) (fun j => if j = i then 0 else g j) := by
  induction n with
  | zero =>
    obtain rfl : i = 0 := by omega
    rw [sumR_zero, sumR_succ, sumR_zero, if_pos rfl, Rat.add_zero]
  | succ n ih =>
    by_cases e : i = n + 1
    · subst e
      rw [sumR_succ (n + 1), if_pos rfl, Rat.add_zero]
      refine sumR_congr fun j hj => ?_
      rw [if_neg (by omega)]
      unfold sk
      rw [if_pos hj]
    · rw [sumR_succ, ih (by omega), sumR_succ (n + 1), if_neg (fun z => e z.symm)]
      congr 2
      unfold sk
      rw [if_neg (by omega)]
def sgn (n : Nat) : Rat := if n % 2 = 0 then 1 else -1
theorem sgn_succ (n : Nat) : sgn (n + 1) = -sgn n := by
  unfold sgn
  by_cases h : n % 2 = 0
  · rw [if_pos h, if_neg (by omega)]
  · rw [if_neg h, if_pos (by omega)]
    decide +kernel
theorem sgn_two (n : Nat) : sgn (n + n) = 1 := by
  unfold sgn
  rw [if_pos (by omega)]
def Fd : Nat → (Nat → Nat → Rat) → Rat
  | 0, _ => 1
  | k + 1, c => sumR (k + 1) fun i => sgn (i + k) * (c k i * Fd k (fun col r => c col (sk i r)))
theorem Fd_succ (k : Nat) (c : Nat → Nat → Rat) : Fd (k + 1) c = sumR (k + 1) fun i => sgn (i + k) * (c k i * Fd k (fun col r => c col (sk i r))) := rfl
theorem Fd_congr : ∀ (k : Nat) {c c' : Nat → Nat → Rat}, (∀ col r, col < k → r < k → c col r = c' col r) → Fd k c = Fd k c'
  | 0, _, _, _ => rfl
  | k + 1, c, c', h => by
    rw [Fd_succ, Fd_succ]
    refine sumR_congr fun i hi => ?_
    rw [h k i (Nat.lt_succ_self k) hi, Fd_congr k fun col r h1 h2 => h col (sk i r) (Nat.lt_succ_of_lt h1) (sk_lt h2)]
def upc (c : Nat → Nat → Rat) (j : Nat) (v : Nat → Rat) : Nat → Nat → Rat := fun col => if col = j then v else c col
theorem upc_same (c : Nat → Nat → Rat) (j : Nat) (v : Nat → Rat) : upc c j v j = v := if_pos rfl
theorem upc_ne {c : Nat → Nat → Rat} {j i : Nat} {v : Nat → Rat} (h : i ≠ j) : upc c j v i = c i := if_neg h
theorem upc_rows (c : Nat → Nat → Rat) (j i : Nat) (v : Nat → Rat) : (fun col r => upc c j v col (sk i r)) = upc (fun col r => c col (sk i r)) j (fun r => v (sk i r)) := by
  funext col r
  unfold upc
  split <;> rfl
theorem Fd_lin : ∀ (k : Nat) (c : Nat → Nat → Rat) (j : Nat) (v w : Nat → Rat) (a b : Rat), j < k → Fd k (upc c j (fun r => a * v r + b * w r)) = a * Fd k (upc c j v) + b * Fd k (upc c j w)
  | 0, _, _, _, _, _, _, h => by omega
  | k + 1, c, j, v, w, a, b, h => by
    rw [Fd_succ, Fd_succ, Fd_succ, ← sumR_mul, ← sumR_mul, ← sumR_add]
    refine sumR_congr fun i hi => ?_
    rw [upc_rows, upc_rows, upc_rows]
    by_cases e : j = k
    · subst e
      rw [upc_same, upc_same, upc_same]
      have hc : ∀ u : Nat → Rat, Fd j (upc (fun col r => c col (sk i r)) j u) = Fd j (fun col r => c col (sk i r)) := fun u => Fd_congr j fun col r h1 _ => by rw [upc_ne (by omega)]
      rw [hc, hc, hc]
      grind
    · rw [upc_ne (fun z => e z.symm), upc_ne (fun z => e z.symm), upc_ne (fun z => e z.symm), Fd_lin k _ j _ _ a b (by omega)]
      grind
theorem Fd_add (k : Nat) (c : Nat → Nat → Rat) (j : Nat) (v w : Nat → Rat) (h : j < k) : Fd k (upc c j (fun r => v r + w r)) = Fd k (upc c j v) + Fd k (upc c j w) := by
  have e := Fd_lin k c j v w 1 1 h
  rw [Rat.one_mul, Rat.one_mul] at e
  rw [← e]
  congr 1
  congr 1
  funext r
  rw [Rat.one_mul, Rat.one_mul]
theorem Fd_mul (k : Nat) (c : Nat → Nat → Rat) (j : Nat) (v : Nat → Rat) (a : Rat) (h : j < k) : Fd k (upc c j (fun r => a * v r)) = a * Fd k (upc c j v) := by
  have e := Fd_lin k c j v v a 0 h
  rw [Rat.zero_mul, Rat.add_zero] at e
  rw [← e]
  congr 1
  congr 1
  funext r
  rw [Rat.zero_mul, Rat.add_zero]
/-- two equal columns -/
def Alt (k : Nat) : Prop := ∀ (c : Nat → Nat → Rat) (i j : Nat), i < j → j < k → (∀ r, r < k → c i r = c j r) → Fd k c = 0
theorem alt_swap {k : Nat} (h : Alt k) (c : Nat → Nat → Rat) {i j : Nat} (hij : i < j) (hj : j < k) : Fd k (upc (upc c i (c j)) j (c i)) = -Fd k c := by
  have z : ∀ v : Nat → Rat, Fd k (upc (upc c i v) j v) = 0 := fun v => h _ i j hij hj fun r _ => by rw [upc_same, upc_ne (by omega), upc_same]
  have comm : ∀ v w : Nat → Rat, upc (upc c i v) j w = upc (upc c j w) i v := fun v w => by
    funext col
    unfold upc
    by_cases e1 : col = j
    · rw [if_pos e1, if_neg (by omega), if_pos e1]
    · rw [if_neg e1]
      by_cases e2 : col = i
      · rw [if_pos e2, if_pos e2]
      · rw [if_neg e2, if_neg e2, if_neg e1]
  have self : upc (upc c i (c i)) j (c j) = c := by
    funext col
    unfold upc
    by_cases e1 : col = j
    · rw [if_pos e1, e1]
    · rw [if_neg e1]
      by_cases e2 : col = i
      · rw [if_pos e2, e2]
      · rw [if_neg e2]
  have e := z (fun r => c i r + c j r)
  rw [Fd_add k _ j _ _ hj, comm, comm, Fd_add k _ i _ _ (by omega), Fd_add k _ i _ _ (by omega), ← comm, ← comm, ← comm, ← comm, z, z, self] at e
  grind
theorem alt_last {k : Nat} {c : Nat → Nat → Rat} (h : ∀ r, r < k + 2 → c k r = c (k + 1) r) : Fd (k + 2) c = 0 := by
  let w : Nat → Nat → Rat := fun i j => if j = i then 0 else sgn (i + (k + 1)) * (c k i * (sgn (pd i j + k) * (c k j * Fd k (fun col r => c col (sk i (sk (pd i j) r))))))
  have e : Fd (k + 2) c = sumR (k + 2) fun i => sumR (k + 2) fun j => w i j := by
    rw [Fd_succ]
    refine sumR_congr fun i hi => ?_
    rw [Fd_succ]
    have hp : ∀ m, pd i (sk i m) = m := fun m => by
      unfold pd sk
      by_cases y : m < i
      · rw [if_pos y, if_pos y]
      · rw [if_neg y, if_neg (show ¬ m + 1 < i by omega)]
        omega
    have e2 : sumR (k + 1) (fun m => sgn (m + k) * (c k (sk i m) * Fd k (fun col r => c col (sk i (sk m r))))) = sumR (k + 1) (fun m => (fun j => sgn (pd i j + k) * (c k j * Fd k (fun col r => c col (sk i (sk (pd i j) r))))) (sk i m)) := by
      refine sumR_congr fun m _ => ?_
      dsimp only
      rw [hp m]
    rw [e2, skip_sum (fun j => sgn (pd i j + k) * (c k j * Fd k (fun col r => c col (sk i (sk (pd i j) r))))) (show i ≤ k + 1 by omega), ← h i hi, ← sumR_mul, ← sumR_mul]
    refine sumR_congr fun j _ => ?_
    show _ = w i j
    show _ = if j = i then (0 : Rat) else _
    by_cases z : j = i
    · rw [if_pos z, if_pos z, Rat.mul_zero, Rat.mul_zero]
    · rw [if_neg z, if_neg z]
  rw [e]
  refine sumR_anti fun i j hi hj => ?_
  show (if j = i then (0 : Rat) else _) = -(if i = j then (0 : Rat) else _)
  by_cases z : j = i
  · rw [if_pos z, if_pos z.symm]
    grind
  · rw [if_neg z, if_neg (fun y => z y.symm)]
    have hr : ∀ r, sk i (sk (pd i j) r) = sk j (sk (pd j i) r) := fun r => by
      unfold pd
      rcases Nat.lt_or_gt_of_ne z with y | y
      · rw [if_pos y, if_neg (show ¬ i < j by omega)]
        exact sk_sk y r
      · rw [if_neg (show ¬ j < i by omega), if_pos y]
        exact (sk_sk y r).symm
    have hF : (fun col r => c col (sk i (sk (pd i j) r))) = fun col r => c col (sk j (sk (pd j i) r)) := by
      funext col r
      rw [hr]
    rw [hF]
    generalize Fd k (fun col r => c col (sk j (sk (pd j i) r))) = G
    have hs : sgn (i + (k + 1)) * sgn (pd i j + k) = -(sgn (j + (k + 1)) * sgn (pd j i + k)) := by
      unfold pd
      rcases Nat.lt_or_gt_of_ne z with y | y
      · rw [if_pos y, if_neg (by omega)]
        obtain ⟨i', rfl⟩ : ∃ i', i = i' + 1 := ⟨i - 1, by omega⟩
        have e1 : i' + 1 + (k + 1) = (i' + 1 - 1 + k) + 1 + 1 := by omega
        have e2 : j + (k + 1) = (j + k) + 1 := by omega
        rw [e1, e2, sgn_succ, sgn_succ, sgn_succ]
        grind
      · rw [if_neg (by omega), if_pos y]
        obtain ⟨j', rfl⟩ : ∃ j', j = j' + 1 := ⟨j - 1, by omega⟩
        have e1 : j' + 1 + (k + 1) = (j' + 1 - 1 + k) + 1 + 1 := by omega
        have e2 : i + (k + 1) = (i + k) + 1 := by omega
        rw [e1, e2, sgn_succ, sgn_succ, sgn_succ]
        grind
    generalize sgn (i + (k + 1)) = s1 at hs
    generalize sgn (pd i j + k) = s2 at hs
    generalize sgn (j + (k + 1)) = s3 at hs
    generalize sgn (pd j i + k) = s4 at hs
    have : s1 * (c k i * (s2 * (c k j * G))) = s1 * s2 * (c k i * c k j * G) := by grind
    rw [this, hs]
    grind
theorem alt_all : ∀ k, Alt k
  | 0 => fun _ _ _ _ h _ => by omega
  | k + 1 => fun c i j hij hj hr => by
    have ih := alt_all k
    rcases Nat.lt_or_ge j k with z | z
    · rw [Fd_succ]
      refine sumR_zeros fun m _ => ?_
      rw [ih (fun col r => c col (sk m r)) i j hij z fun r h => hr _ (sk_lt h), Rat.mul_zero, Rat.mul_zero]
    · obtain rfl : j = k := by omega
      obtain ⟨k', rfl⟩ : ∃ k', j = k' + 1 := ⟨j - 1, by omega⟩
      rcases Nat.lt_or_ge i k' with y | y
      · -- first bring the column i to the place k'
        have e : Fd (k' + 2) (upc (upc c i (c k')) k' (c i)) = -Fd (k' + 2) c := by
          rw [Fd_succ, Fd_succ, ← sumR_neg]
          refine sumR_congr fun m _ => ?_
          rw [upc_ne (by omega), upc_ne (by omega), upc_rows, upc_rows]
          have := alt_swap ih (fun col r => c col (sk m r)) y (Nat.lt_succ_self k')
          rw [this]
          grind
        have z2 : Fd (k' + 2) (upc (upc c i (c k')) k' (c i)) = 0 := alt_last fun r h => by
          rw [upc_same, upc_ne (by omega), upc_ne (by omega)]
          exact hr r h
        rw [z2] at e
        grind
      · obtain rfl : i = k' := by omega
        exact alt_last hr
theorem Fd_alt {k : Nat} {c : Nat → Nat → Rat} {i j : Nat} (hi : i < k) (hj : j < k) (hij : i ≠ j) (h : ∀ r, r < k → c i r = c j r) : Fd k c = 0 := by
  rcases Nat.lt_or_gt_of_ne hij with z | z
  · exact alt_all k c i j z hj h
  · exact alt_all k c j i z hi fun r hr => (h r hr).symm
theorem Fd_col0 (k : Nat) (c : Nat → Nat → Rat) (j : Nat) (h : j < k) : Fd k (upc c j (fun _ => 0)) = 0 := by
  have e := Fd_mul k c j (fun _ => 0) 0 h
  have e2 : (fun _ : Nat => (0 : Rat) * 0) = fun _ => 0 := by
    funext r
    exact Rat.mul_zero 0
  rw [e2] at e
  exact e.trans (Rat.zero_mul _)
theorem Fd_sum (k n : Nat) (c : Nat → Nat → Rat) (j : Nat) (t : Nat → Rat) (w : Nat → Nat → Rat) (h : j < k) : Fd k (upc c j (fun r => sumR n fun i => t i * w i r)) = sumR n fun i => t i * Fd k (upc c j (w i)) := by
  induction n with
  | zero =>
    rw [sumR_zero]
    exact Fd_col0 k c j h
  | succ n ih =>
    rw [sumR_succ, ← ih, ← Fd_mul k c j (w n) (t n) h, ← Fd_add k c j _ _ h]
    congr 1
    congr 1
    funext r
    rw [sumR_succ]
theorem cramer {k : Nat} {c : Nat → Nat → Rat} {t v : Nat → Rat} {d : Rat} (h : ∀ r, r < k → (sumR k fun i => t i * c i r) = d * v r) {j : Nat} (hj : j < k) : d * Fd k (upc c j v) = t j * Fd k c := by
  rw [← Fd_mul k c j v d hj]
  have e : Fd k (upc c j (fun r => d * v r)) = Fd k (upc c j (fun r => sumR k fun i => t i * c i r)) := Fd_congr k fun col r hc hr => by
    by_cases z : col = j
    · subst z
      rw [upc_same, upc_same]
      exact (h r hr).symm
    · rw [upc_ne z, upc_ne z]
  rw [e, Fd_sum k k c j t c hj, sumR_only hj]
  · congr 1
    congr 1
    funext col
    by_cases z : col = j
    · rw [z, upc_same]
    · rw [upc_ne z]
  · intro i hi hij
    rw [Fd_alt hi hj hij fun r _ => by rw [upc_ne hij, upc_same], Rat.mul_zero]
/-- the last column has but one number, at the last row -/
theorem Fd_unit {k : Nat} {c : Nat → Nat → Rat} {u : Rat} (h0 : ∀ r, r < k → c k r = 0) (h1 : c k k = u) : Fd (k + 1) c = u * Fd k c := by
  rw [Fd_succ, sumR_succ, sumR_zeros fun i hi => by rw [h0 i hi, Rat.zero_mul, Rat.mul_zero], Rat.zero_add, sgn_two, Rat.one_mul, h1]
  congr 1
  exact Fd_congr k fun col r _ hr => by
    unfold sk
    rw [if_pos hr]
theorem Zt1 {r : Rat} (h : Zt 1 r) : ∃ z : Int, r = (z : Rat) := by
  obtain ⟨z, hz⟩ := h
  refine ⟨z, ?_⟩
  rw [← hz]
  show r = r * ((1 : Int) : Rat)
  exact (Rat.mul_one r).symm
theorem zt_sum {M n : Nat} {f : Nat → Rat} (h : ∀ i, i < n → Zt M (f i)) : Zt M (sumR n f) := by
  induction n with
  | zero => exact zt_zero M
  | succ n ih =>
    rw [sumR_succ]
    exact (ih fun i hi => h i (Nat.lt_succ_of_lt hi)).add (h n (Nat.lt_succ_self n))
theorem zt_sgn (n : Nat) : Zt 1 (sgn n) := by
  unfold sgn
  split
  · exact (show Zt 1 ((1 : Int) : Rat) from zt_int 1 1)
  · exact (show Zt 1 ((-1 : Int) : Rat) from zt_int 1 (-1))
theorem Fd_int : ∀ (k : Nat) {c : Nat → Nat → Rat}, (∀ col r, col < k → r < k → Zt 1 (c col r)) → Zt 1 (Fd k c)
  | 0, _, _ => (show Zt 1 ((1 : Int) : Rat) from zt_int 1 1)
  | k + 1, c, h => by
    rw [Fd_succ]
    refine zt_sum fun i hi => ?_
    have := (zt_sgn (i + k)).mul ((h k i (Nat.lt_succ_self k) hi).mul (Fd_int k fun col r h1 h2 => h col (sk i r) (Nat.lt_succ_of_lt h1) (sk_lt h2)))
    exact this
/-! ### bounds -/
theorem mul_bd {x y a b : Rat} (h1 : -a ≤ x) (h2 : x ≤ a) (h3 : -b ≤ y) (h4 : y ≤ b) : -(a * b) ≤ x * y ∧ x * y ≤ a * b := by
  have p1 := Rat.mul_nonneg (show 0 ≤ a - x by grind) (show 0 ≤ b + y by grind)
  have p2 := Rat.mul_nonneg (show 0 ≤ a + x by grind) (show 0 ≤ b - y by grind)
  have p3 := Rat.mul_nonneg (show 0 ≤ a - x by grind) (show 0 ≤ b - y by grind)
  have p4 := Rat.mul_nonneg (show 0 ≤ a + x by grind) (show 0 ≤ b + y by grind)
  constructor <;> grind
theorem sum_bd {n : Nat} {f : Nat → Rat} {a : Rat} (h : ∀ i, i < n → -a ≤ f i ∧ f i ≤ a) : -(((n : Int) : Rat) * a) ≤ sumR n f ∧ sumR n f ≤ ((n : Int) : Rat) * a := by
  induction n with
  | zero =>
    rw [sumR_zero]
    have : (((0 : Nat) : Int) : Rat) = 0 := rfl
    rw [this, Rat.zero_mul]
    constructor <;> grind
  | succ n ih =>
    rw [sumR_succ]
    have e : (((n + 1 : Nat) : Int) : Rat) = ((n : Int) : Rat) + 1 := by rw [Int.natCast_add, Rat.intCast_add]; rfl
    have h1 := ih fun i hi => h i (Nat.lt_succ_of_lt hi)
    have h2 := h n (Nat.lt_succ_self n)
    rw [e]
    constructor <;> grind
def fbd (B : Rat) : Nat → Rat
  | 0 => 1
  | k + 1 => (((k + 1 : Nat) : Int) : Rat) * (B * fbd B k)
theorem Fd_bd {B : Rat} : ∀ (k : Nat) {c : Nat → Nat → Rat}, (∀ col r, col < k → r < k → -B ≤ c col r ∧ c col r ≤ B) → -fbd B k ≤ Fd k c ∧ Fd k c ≤ fbd B k
  | 0, _, _ => ⟨by show -(1 : Rat) ≤ 1; decide +kernel, Rat.le_refl⟩
  | k + 1, c, h => by
    rw [Fd_succ]
    refine sum_bd fun i hi => ?_
    have h1 := h k i (Nat.lt_succ_self k) hi
    have h2 := Fd_bd k (c := fun col r => c col (sk i r)) fun col r h1 h2 => h col (sk i r) (Nat.lt_succ_of_lt h1) (sk_lt h2)
    have h3 := mul_bd h1.1 h1.2 h2.1 h2.2
    unfold sgn
    split
    · rw [Rat.one_mul]
      exact h3
    · constructor <;> grind
end Md


set_option Elab.async false
set_option linter.all false
set_option maxRecDepth 100000
set_option maxHeartbeats 2000000
/-! Elimination over whole numbers: no division leaves a rest. a row col. -/
namespace Md
def qa (a : Nat → Nat → Int) (r l : Nat) : Rat := ((a r l : Int) : Rat)
/-- behind k steps; d: the pivot before -/
structure Elim (n : Nat) (a : Nat → Nat → Int) (k : Nat) (T : Nat → Nat → Int) (d : Int) : Prop where
  pos : 0 < d
  det : (d : Rat) = Fd k (fun col r => qa a r col)
  top : ∀ r l, r < k → l ≤ n → sumR k (fun j => qa T j l * qa a r j) = (d : Rat) * qa a r l
  bot : ∀ r l, k ≤ r → r < n → l ≤ n → qa T r l = (d : Rat) * qa a r l - sumR k (fun j => qa T j l * qa a r j)
def elimT (k : Nat) (T : Nat → Nat → Int) (d : Int) : Nat → Nat → Int := fun j l => if j = k then T k l else (T k k * T j l - T j k * T k l) / d
theorem elim_start (n : Nat) (a : Nat → Nat → Int) : Elim n a 0 a 1 := ⟨by decide, rfl, fun r l h => by omega, fun r l _ _ _ => by
  rw [sumR_zero]
  have : ((1 : Int) : Rat) = 1 := rfl
  rw [this]
  grind⟩
theorem elim_step {n : Nat} {a : Nat → Nat → Int} {k : Nat} {T : Nat → Nat → Int} {d : Int} (h : Elim n a k T d) (hk : k < n) (hp : 0 < T k k) :
    Elim n a (k + 1) (elimT k T d) (T k k) ∧ ∀ j l, j < n → l ≤ n → j ≠ k → d ∣ T k k * T j l - T j k * T k l := by
  have d0 : (d : Rat) ≠ 0 := cast_ne (by have := h.pos; omega)
  have p0 : ((T k k : Int) : Rat) ≠ 0 := cast_ne (by omega)
  let R : Nat → Nat → Rat := fun j l => if j = k then qa T k l else (qa T k k * qa T j l - qa T j k * qa T k l) / (d : Rat)
  have Rk : ∀ l, R k l = qa T k l := fun l => if_pos rfl
  have Rne : ∀ j l, j ≠ k → R j l = (qa T k k * qa T j l - qa T j k * qa T k l) / (d : Rat) := fun j l e => if_neg e
  have hsum : ∀ r l, sumR k (fun j => R j l * qa a r j) = (qa T k k * sumR k (fun j => qa T j l * qa a r j) - qa T k l * sumR k (fun j => qa T j k * qa a r j)) / (d : Rat) := fun r l => by
    have e : ∀ j, j < k → R j l * qa a r j = (qa T k k / (d : Rat)) * (qa T j l * qa a r j) + (-(qa T k l / (d : Rat))) * (qa T j k * qa a r j) := fun j hj => by
      rw [Rne j l (by omega)]
      grind
    rw [sumR_congr e, sumR_add, sumR_mul, sumR_mul]
    grind
  have top' : ∀ r l, r < k + 1 → l ≤ n → sumR (k + 1) (fun j => R j l * qa a r j) = qa T k k * qa a r l := fun r l hr hl => by
    rw [sumR_succ, hsum, Rk]
    rcases Nat.lt_or_ge r k with z | z
    · rw [h.top r l z hl, h.top r k z (by omega)]
      grind
    · obtain rfl : r = k := by omega
      have e1 := h.bot r l (Nat.le_refl _) hk hl
      have e2 := h.bot r r (Nat.le_refl _) hk (by omega)
      generalize sumR r (fun j => qa T j l * qa a r j) = S1 at *
      generalize sumR r (fun j => qa T j r * qa a r j) = S2 at *
      grind
  have bot' : ∀ r l, k + 1 ≤ r → r < n → l ≤ n → R r l = qa T k k * qa a r l - sumR (k + 1) (fun j => R j l * qa a r j) := fun r l hr hrn hl => by
    rw [sumR_succ, hsum, Rk, Rne r l (by omega)]
    have e1 := h.bot r l (by omega) hrn hl
    have e2 := h.bot r k (by omega) hrn (by omega)
    generalize sumR k (fun j => qa T j l * qa a r j) = S1 at *
    generalize sumR k (fun j => qa T j k * qa a r j) = S2 at *
    grind
  have det' : ((T k k : Int) : Rat) = Fd (k + 1) (fun col r => qa a r col) := by
    let c : Nat → Nat → Rat := fun col r => qa a r col
    show _ = Fd (k + 1) c
    let e : Nat → Rat := fun r => if r = k then qa T k k else 0
    have f1 : (d : Rat) * Fd (k + 1) c = Fd (k + 1) (upc c k (fun r => (d : Rat) * c k r)) := by
      rw [Fd_mul (k + 1) c k (c k) _ (Nat.lt_succ_self k)]
      congr 2
      funext col
      by_cases z : col = k
      · rw [z, upc_same]
      · rw [upc_ne z]
    have f2 : Fd (k + 1) (upc c k (fun r => (d : Rat) * c k r)) = Fd (k + 1) (upc c k (fun r => (sumR k fun j => qa T j k * c j r) + e r)) := Fd_congr _ fun col r hc hr => by
      by_cases z : col = k
      · subst z
        rw [upc_same, upc_same]
        show (d : Rat) * qa a r col = (sumR col fun j => qa T j col * qa a r j) + e r
        rcases Nat.lt_or_ge r col with y | y
        · rw [h.top r col y (by omega)]
          show _ = _ + (if r = col then _ else (0 : Rat))
          rw [if_neg (by omega), Rat.add_zero]
        · obtain rfl : r = col := by omega
          have := h.bot r r (Nat.le_refl _) hk (by omega)
          show _ = _ + (if r = r then _ else (0 : Rat))
          rw [if_pos rfl]
          grind
      · rw [upc_ne z, upc_ne z]
    rw [Fd_add _ _ _ _ _ (Nat.lt_succ_self k), Fd_sum _ _ _ _ _ _ (Nat.lt_succ_self k)] at f2
    have f3 : (sumR k fun i => qa T i k * Fd (k + 1) (upc c k (c i))) = 0 := sumR_zeros fun i hi => by
      rw [Fd_alt (i := i) (j := k) (by omega) (Nat.lt_succ_self k) (by omega) fun r _ => by rw [upc_ne (by omega), upc_same], Rat.mul_zero]
    have f4 : Fd (k + 1) (upc c k e) = qa T k k * (d : Rat) := by
      rw [Fd_unit (u := qa T k k) (fun r hr => by rw [upc_same]; exact if_neg (by omega)) (by rw [upc_same]; exact if_pos rfl), h.det]
      congr 1
      exact Fd_congr _ fun col r hc _ => by rw [upc_ne (by omega)]
    rw [f3, f4, Rat.zero_add] at f2
    rw [f2] at f1
    have e3 : (d : Rat) * Fd (k + 1) c = (d : Rat) * qa T k k := by rw [f1, Rat.mul_comm]
    have e4 := congrArg (fun z => (d : Rat)⁻¹ * z) e3
    rw [← Rat.mul_assoc, ← Rat.mul_assoc, Rat.inv_mul_cancel _ d0, Rat.one_mul, Rat.one_mul] at e4
    exact e4.symm
  have int1 : ∀ j l, j < k + 1 → l ≤ n → Zt 1 (R j l) := fun j l hj hl => by
    have e := cramer (k := k + 1) (c := fun col r => qa a r col) (t := fun i => R i l) (v := fun r => qa a r l) (d := qa T k k) (fun r hr => top' r l hr hl) hj
    rw [← det'] at e
    have e2 : R j l = Fd (k + 1) (upc (fun col r => qa a r col) j fun r => qa a r l) := by
      show R j l = _
      have e3 := congrArg (fun z => ((T k k : Int) : Rat)⁻¹ * z) e
      have e4 : qa T k k = ((T k k : Int) : Rat) := rfl
      rw [e4, ← Rat.mul_assoc, Rat.inv_mul_cancel _ p0, Rat.one_mul] at e3
      rw [e3]
      grind
    rw [e2]
    refine Fd_int _ fun col r _ _ => ?_
    by_cases z : col = j
    · rw [z, upc_same]
      exact zt_int 1 _
    · rw [upc_ne z]
      exact zt_int 1 _
  have int2 : ∀ j l, j < n → l ≤ n → Zt 1 (R j l) := fun j l hj hl => by
    rcases Nat.lt_or_ge j (k + 1) with z | z
    · exact int1 j l z hl
    · rw [bot' j l z hj hl]
      have s1 : Zt 1 (sumR (k + 1) fun i => R i l * qa a j i) := zt_sum fun i hi => (int1 i l hi hl).mul (show Zt 1 (qa a j i) from zt_int 1 _)
      have s2 : Zt 1 (qa T k k * qa a j l) := (show Zt 1 (qa T k k) from zt_int 1 _).mul (show Zt 1 (qa a j l) from zt_int 1 _)
      have s3 : Zt 1 ((-1 : Rat) * sumR (k + 1) fun i => R i l * qa a j i) := (show Zt 1 (((-1 : Int) : Rat)) from zt_int 1 (-1)).mul s1
      have : qa T k k * qa a j l - sumR (k + 1) (fun i => R i l * qa a j i) = qa T k k * qa a j l + (-1 : Rat) * sumR (k + 1) (fun i => R i l * qa a j i) := by grind
      rw [this]
      exact s2.add s3
  have dv : ∀ j l, j < n → l ≤ n → j ≠ k → ∃ z : Int, R j l = (z : Rat) ∧ T k k * T j l - T j k * T k l = d * z := fun j l hj hl hjk => by
    obtain ⟨z, hz⟩ := Zt1 (int2 j l hj hl)
    refine ⟨z, hz, ?_⟩
    rw [Rne j l hjk] at hz
    have e : (qa T k k * qa T j l - qa T j k * qa T k l) = (d : Rat) * (z : Rat) := by grind
    have e2 : ((T k k * T j l - T j k * T k l : Int) : Rat) = ((d * z : Int) : Rat) := by
      rw [Rat.intCast_sub, Rat.intCast_mul, Rat.intCast_mul, Rat.intCast_mul]
      exact e
    exact Rat.intCast_inj.mp e2
  have RT : ∀ j l, j < n → l ≤ n → qa (elimT k T d) j l = R j l := fun j l hj hl => by
    by_cases z : j = k
    · subst z
      rw [Rk]
      show (((if j = j then T j l else _) : Int) : Rat) = _
      rw [if_pos rfl]
      rfl
    · obtain ⟨y, h1, h2⟩ := dv j l hj hl z
      rw [h1]
      show (((if j = k then T k l else (T k k * T j l - T j k * T k l) / d) : Int) : Rat) = _
      rw [if_neg z, h2, Int.mul_ediv_cancel_left _ (by have := h.pos; omega)]
  refine ⟨⟨hp, det', fun r l hr hl => ?_, fun r l hr hrn hl => ?_⟩, fun j l hj hl hjk => ?_⟩
  · rw [sumR_congr fun j hj => by rw [RT j l (by omega) hl]]
    exact top' r l hr hl
  · rw [RT r l hrn hl, sumR_congr fun j hj => by rw [RT j l (by omega) hl]]
    exact bot' r l hr hrn hl
  · obtain ⟨y, _, h2⟩ := dv j l hj hl hjk
    exact ⟨y, h2⟩
/-- the next pivot is what this vector gives at the last row -/
theorem elim_pivot {n : Nat} {a : Nat → Nat → Int} {k : Nat} {T : Nat → Nat → Int} {d : Int} (h : Elim n a k T d) (hk : k < n) :
    let w : Nat → Rat := fun j => if j = k then (d : Rat) else -qa T j k
    (∀ r, r < k → sumR (k + 1) (fun j => qa a r j * w j) = 0) ∧ sumR (k + 1) (fun j => qa a k j * w j) = qa T k k := by
  intro w
  have hw : ∀ r, sumR (k + 1) (fun j => qa a r j * w j) = (d : Rat) * qa a r k - sumR k (fun j => qa T j k * qa a r j) := fun r => by
    rw [sumR_succ]
    have e : sumR k (fun j => qa a r j * w j) = -sumR k (fun j => qa T j k * qa a r j) := by
      rw [← sumR_neg]
      refine sumR_congr fun j hj => ?_
      show qa a r j * (if j = k then (d : Rat) else -qa T j k) = _
      rw [if_neg (by omega)]
      grind
    have e2 : w k = (d : Rat) := if_pos rfl
    rw [e, e2]
    grind
  refine ⟨fun r hr => ?_, ?_⟩
  · rw [hw, h.top r k hr (by omega)]
    grind
  · rw [hw, h.bot k k (Nat.le_refl _) hk (by omega)]
/-- what the end says -/
theorem elim_end {n : Nat} {a : Nat → Nat → Int} {T : Nat → Nat → Int} {d : Int} (h : Elim n a n T d) (r : Nat) (hr : r < n) : sumR n (fun j => qa a r j * (qa T j n / (d : Rat))) = qa a r n := by
  have d0 : (d : Rat) ≠ 0 := cast_ne (by have := h.pos; omega)
  have e := h.top r n hr (Nat.le_refl _)
  have e2 : sumR n (fun j => qa a r j * (qa T j n / (d : Rat))) = (1 / (d : Rat)) * sumR n (fun j => qa T j n * qa a r j) := by
    rw [← sumR_mul]
    exact sumR_congr fun j _ => by grind
  rw [e2, e]
  grind
end Md


set_option Elab.async false
set_option linter.all false
set_option maxRecDepth 100000
set_option maxHeartbeats 2000000
/-! Sums until places are left: the equations of a chain, solved. -/
namespace Md
/-- no part of these places is never left -/
def Out (C : List PlC) (L : List Nat) : Prop := ∀ Z : Nat → Prop, (∃ x, Z x) → (∀ x, Z x → x ∈ L) → ∃ x, Z x ∧ ∃ q ∈ (plC C x).bs, ¬ Z q.2
theorem Out.sub {C : List PlC} {L L' : List Nat} (h : Out C L) (hs : ∀ x ∈ L', x ∈ L) : Out C L' := fun Z h1 h2 => h Z h1 fun x hx => hs x (h2 x hx)
theorem max_list (f : Nat → Rat) : ∀ {L : List Nat}, L ≠ [] → ∃ x ∈ L, ∀ y ∈ L, f y ≤ f x
  | [], h => absurd rfl h
  | [x], _ => ⟨x, List.mem_singleton.mpr rfl, fun y hy => by
    rw [List.mem_singleton] at hy
    rw [hy]
    exact Rat.le_refl⟩
  | x :: y :: L, _ => by
    obtain ⟨z, h1, h2⟩ := max_list f (L := y :: L) (by simp)
    by_cases h : f x ≤ f z
    · exact ⟨z, List.mem_cons_of_mem _ h1, fun u hu => by
        rcases List.mem_cons.mp hu with rfl | hu
        · exact h
        · exact h2 u hu⟩
    · exact ⟨x, List.mem_cons_self .., fun u hu => by
        rcases List.mem_cons.mp hu with rfl | hu
        · exact Rat.le_refl
        · have := h2 u hu
          grind⟩
/-- a mean that is at least the greatest number: all are the greatest -/
theorem mean_max {bs : List BrC} {f : Nat → Rat} {M : Rat} (hp : ∀ q ∈ bs, 0 < qN q.1) (hf : ∀ q ∈ bs, f q.2 ≤ M) (h : M * wsum bs (fun _ => 1) ≤ wsum bs f) : ∀ q ∈ bs, f q.2 = M := by
  induction bs with
  | nil => intro q hq; cases hq
  | cons b bs ih =>
    rw [wsum_cons, wsum_cons] at h
    have p := hp b (List.mem_cons_self ..)
    have f1 := hf b (List.mem_cons_self ..)
    have hle : wsum bs f ≤ M * wsum bs (fun _ => 1) := by
      rw [← wsum_mul]
      refine wsum_le fun q hq => ⟨Rat.le_of_lt (hp q (List.mem_cons_of_mem _ hq)), ?_⟩
      rw [Rat.mul_one]
      exact hf q (List.mem_cons_of_mem _ hq)
    have u1 := Rat.mul_le_mul_of_nonneg_left f1 (Rat.le_of_lt p)
    have e1 : qN b.1 * f b.2 = qN b.1 * M := by grind
    have e2 : f b.2 = M := by
      have := congrArg (fun z => (qN b.1)⁻¹ * z) e1
      rw [← Rat.mul_assoc, ← Rat.mul_assoc, Rat.inv_mul_cancel _ (by grind), Rat.one_mul, Rat.one_mul] at this
      exact this
    intro q hq
    rcases List.mem_cons.mp hq with rfl | hq
    · exact e2
    · exact ih (fun q hq => hp q (List.mem_cons_of_mem _ hq)) (fun q hq => hf q (List.mem_cons_of_mem _ hq)) (by grind) q hq
theorem max_closed {C : List PlC} (hW : WfC C) {L : List Nat} (hL : ∀ x ∈ L, x < C.length) (hO : Out C L) {f : Nat → Rat} (h0 : ∀ y, y < C.length → y ∉ L → f y ≤ 0) (hf : ∀ x ∈ L, f x ≤ meanC C f x) : ∀ x ∈ L, f x ≤ 0 := by
  intro x hx
  obtain ⟨m, hm, hmax⟩ := max_list f (L := L) (List.ne_nil_of_mem hx)
  have hxm := hmax x hx
  by_cases hM : f m ≤ 0
  · grind
  · exfalso
    obtain ⟨z, ⟨hz, hzm⟩, q, hq, hnz⟩ := hO (fun y => y ∈ L ∧ f y = f m) ⟨m, hm, rfl⟩ fun y hy => hy.1
    have hzl := hL z hz
    have hw := plC_wf hW hzl
    have hall : ∀ y, y < C.length → f y ≤ f m := fun y hy => by
      by_cases hyL : y ∈ L
      · exact hmax y hyL
      · have := h0 y hy hyL
        grind
    have h1 : wsum (plC C z).bs (fun _ => 1) = 1 := mean_one hW hzl
    have e := mean_max (bs := (plC C z).bs) (f := f) (M := f m) (fun q hq => br_pos hW hzl hq) (fun q hq => hall _ (hw.q q hq).2.2) (by
      rw [h1, Rat.mul_one, ← hzm]
      exact hf z hz) q hq
    refine hnz ⟨?_, e⟩
    by_cases hqL : q.2 ∈ L
    · exact hqL
    · have := h0 _ (hw.q q hq).2.2 hqL
      grind
structure IsFill (C : List PlC) (L : List Nat) (e kn f : Nat → Rat) : Prop where
  eq : ∀ x ∈ L, f x = e x + meanC C f x
  out : ∀ y, y ∉ L → f y = kn y
theorem mean_sub (C : List PlC) (f g : Nat → Rat) (k : Nat) : meanC C (fun y => f y - g y) k = meanC C f k - meanC C g k := by
  have e : (fun y => f y - g y) = fun y => f y + (-1) * g y := by
    funext y
    grind
  unfold meanC
  rw [e, wsum_add, wsum_mul]
  grind
theorem fill_unique {C : List PlC} (hW : WfC C) {L : List Nat} (hL : ∀ x ∈ L, x < C.length) (hO : Out C L) {e kn f g : Nat → Rat} (hf : IsFill C L e kn f) (hg : IsFill C L e kn g) : ∀ y, f y = g y := by
  have key : ∀ {f g : Nat → Rat}, IsFill C L e kn f → IsFill C L e kn g → ∀ x ∈ L, f x - g x ≤ 0 := fun {f g} hf hg => max_closed hW hL hO (f := fun y => f y - g y) (fun y _ hy => by
    rw [hf.out y hy, hg.out y hy]
    grind) fun x hx => by
      rw [mean_sub, hf.eq x hx, hg.eq x hx]
      grind
  intro y
  by_cases hy : y ∈ L
  · have h1 := key hf hg y hy
    have h2 := key hg hf y hy
    grind
  · rw [hf.out y hy, hg.out y hy]
/-! ### the rows -/
def scaleC (C : List PlC) (x : Nat) : Nat := denL ((plC C x).bs.map (·.1))
def cz (s : Nat) (q : BrC) : Int := q.1.1 * ((s : Int) / q.1.2)
def rowZ (C : List PlC) (L : List Nat) (x y : Nat) : Int := (if y = x then (scaleC C x : Int) else 0) - ((plC C x).bs.map fun q => if q.2 = y then cz (scaleC C x) q else 0).sum
theorem scaleC_ok {C : List PlC} (h : WfC C) {x : Nat} (hx : x < C.length) : 0 < scaleC C x ∧ scaleC C x ≤ 24 ∧ ∀ q ∈ (plC C x).bs, q.1.2.natAbs ∣ scaleC C x := by
  have w := plC_wf h hx
  obtain ⟨W, h1, h2, h3⟩ := w.w
  refine ⟨denL_pos fun p hp => ?_, Nat.le_trans (Nat.le_of_dvd h1 (denL_to fun p hp => ?_)) h2, fun q hq => denL_dvd (List.mem_map.mpr ⟨q, hq, rfl⟩)⟩
  · obtain ⟨q, hq, rfl⟩ := List.mem_map.mp hp
    exact (w.q q hq).1.1
  · obtain ⟨q, hq, rfl⟩ := List.mem_map.mp hp
    exact h3 q hq
theorem cz_cast {s : Nat} {q : BrC} (h : Red q.1) (d : q.1.2.natAbs ∣ s) : ((cz s q : Int) : Rat) = qN q.1 * ((s : Int) : Rat) := whole_q h d
theorem rowZ_cast {C : List PlC} (h : WfC C) (L : List Nat) {x : Nat} (hx : x < C.length) (y : Nat) : ((rowZ C L x y : Int) : Rat) = ((scaleC C x : Int) : Rat) * ((if y = x then 1 else 0) - meanC C (fun z => if z = y then 1 else 0) x) := by
  obtain ⟨s0, s1, s2⟩ := scaleC_ok h hx
  have w := plC_wf h hx
  unfold rowZ meanC
  generalize scaleC C x = s at *
  have e : ∀ bs : List BrC, (∀ q ∈ bs, Red q.1 ∧ q.1.2.natAbs ∣ s) → (((bs.map fun q => if q.2 = y then cz s q else 0).sum : Int) : Rat) = ((s : Int) : Rat) * wsum bs (fun z => if z = y then 1 else 0) := by
    intro bs
    induction bs with
    | nil => intro _; rw [wsum_nil, Rat.mul_zero]; rfl
    | cons q bs ih =>
      intro hq
      have h1 := hq q (List.mem_cons_self ..)
      rw [List.map_cons, List.sum_cons, wsum_cons, Rat.intCast_add, ih fun q hq' => hq q (List.mem_cons_of_mem _ hq')]
      by_cases z : q.2 = y
      · rw [if_pos z, if_pos z, cz_cast h1.1 h1.2]
        grind
      · rw [if_neg z, if_neg z]
        have : ((0 : Int) : Rat) = 0 := rfl
        rw [this]
        grind
  rw [Rat.intCast_sub, e _ fun q hq => ⟨red_small (w.q q hq).1, s2 q hq⟩]
  by_cases z : y = x
  · rw [if_pos z, if_pos z]
    grind
  · rw [if_neg z, if_neg z]
    have : ((0 : Int) : Rat) = 0 := rfl
    rw [this]
    grind
/-- the numbers at the first m of the places, elsewhere 0 -/
def wt (L : List Nat) (m : Nat) (w : Nat → Rat) (y : Nat) : Rat := sumR m fun j => if y = L.getD j 0 then w j else 0
theorem nodup_getD {L : List Nat} (h : L.Nodup) {i j : Nat} (hi : i < L.length) (hj : j < L.length) (e : L.getD i 0 = L.getD j 0) : i = j := by
  rw [List.getD_eq_getElem?_getD, List.getD_eq_getElem?_getD, List.getElem?_eq_getElem hi, List.getElem?_eq_getElem hj] at e
  exact (List.getElem_inj h).mp (Option.some.inj (congrArg some e))
theorem wt_at {L : List Nat} (h : L.Nodup) {m r : Nat} (hm : m ≤ L.length) (hr : r < m) (w : Nat → Rat) : wt L m w (L.getD r 0) = w r := by
  unfold wt
  rw [sumR_only hr, if_pos rfl]
  intro i hi hir
  rw [if_neg]
  exact fun e => hir (nodup_getD h (by omega) (by omega) e.symm)
theorem getD_mem {L : List Nat} {j : Nat} (h : j < L.length) : L.getD j 0 ∈ L := by
  rw [List.getD_eq_getElem?_getD, List.getElem?_eq_getElem h]
  exact List.getElem_mem h
theorem getD_take {L : List Nat} {j m : Nat} (h : j < m) (hm : m ≤ L.length) : L.getD j 0 ∈ L.take m := by
  have : (L.take m)[j]? = some (L.getD j 0) := by
    rw [List.getElem?_take, if_pos h, List.getD_eq_getElem?_getD, List.getElem?_eq_getElem (by omega)]
    rfl
  exact List.mem_of_getElem? this
theorem take_getD {L : List Nat} {m x : Nat} (h : x ∈ L.take m) : ∃ j, j < m ∧ j < L.length ∧ L.getD j 0 = x := by
  obtain ⟨j, hj, e⟩ := List.mem_iff_getElem.mp h
  rw [List.length_take] at hj
  refine ⟨j, by omega, by omega, ?_⟩
  rw [List.getElem_take] at e
  rw [List.getD_eq_getElem?_getD, List.getElem?_eq_getElem (by omega)]
  exact e
theorem wt_out {L : List Nat} {m y : Nat} (hm : m ≤ L.length) (w : Nat → Rat) (h : y ∉ L.take m) : wt L m w y = 0 := sumR_zeros fun j hj => if_neg fun e => h (by
  rw [e]
  exact getD_take hj hm)
theorem mean_wt (C : List PlC) (L : List Nat) (m x : Nat) (w : Nat → Rat) : meanC C (wt L m w) x = sumR m fun j => meanC C (fun z => if z = L.getD j 0 then 1 else 0) x * w j := by
  induction m with
  | zero =>
    rw [sumR_zero]
    unfold meanC
    have : wt L 0 w = fun _ => 0 * 1 := by
      funext y
      rw [Rat.zero_mul]
      rfl
    rw [this, wsum_mul, Rat.zero_mul]
  | succ m ih =>
    rw [sumR_succ, ← ih]
    unfold meanC
    have : wt L (m + 1) w = fun y => wt L m w y + w m * (if y = L.getD m 0 then 1 else 0) := by
      funext y
      unfold wt
      rw [sumR_succ]
      by_cases z : y = L.getD m 0
      · rw [if_pos z, if_pos z, Rat.mul_one]
      · rw [if_neg z, if_neg z, Rat.mul_zero]
    rw [this, wsum_add, wsum_mul]
    grind
theorem row_dot {C : List PlC} (h : WfC C) {L : List Nat} (hn : L.Nodup) (hL : ∀ x ∈ L, x < C.length) {m r : Nat} (hm : m ≤ L.length) (hr : r < m) (w : Nat → Rat) :
    sumR m (fun j => ((rowZ C L (L.getD r 0) (L.getD j 0) : Int) : Rat) * w j) = ((scaleC C (L.getD r 0) : Int) : Rat) * (w r - meanC C (wt L m w) (L.getD r 0)) := by
  have hx := hL _ (getD_mem (L := L) (j := r) (by omega))
  have e : ∀ j, j < m → ((rowZ C L (L.getD r 0) (L.getD j 0) : Int) : Rat) * w j = ((scaleC C (L.getD r 0) : Int) : Rat) * ((if L.getD r 0 = L.getD j 0 then w j else 0) + (-1) * (meanC C (fun z => if z = L.getD j 0 then 1 else 0) (L.getD r 0) * w j)) := fun j hj => by
    rw [rowZ_cast h L hx]
    by_cases z : L.getD j 0 = L.getD r 0
    · rw [if_pos z, if_pos z.symm]
      grind
    · rw [if_neg z, if_neg fun y => z y.symm]
      grind
  rw [sumR_congr e, sumR_mul, sumR_add, sumR_mul, ← mean_wt]
  have := wt_at hn hm hr w
  unfold wt at this
  rw [this]
  grind
/-- the whole numbers of the equations -/
def matA (C : List PlC) (L : List Nat) (kr : Nat → Rat) (U : Nat) : Nat → Nat → Int := fun r l => if l < L.length then rowZ C L (L.getD r 0) (L.getD l 0) else (canon (kr r)).1 * ((U : Int) / (canon (kr r)).2)
theorem matA_lo {C : List PlC} {L : List Nat} {kr : Nat → Rat} {U r l : Nat} (h : l < L.length) : matA C L kr U r l = rowZ C L (L.getD r 0) (L.getD l 0) := if_pos h
theorem pivot_pos {C : List PlC} (h : WfC C) {L : List Nat} (hn : L.Nodup) (hL : ∀ x ∈ L, x < C.length) (hO : Out C L) {kr : Nat → Rat} {U k : Nat} {T : Nat → Nat → Int} {d : Int} (hE : Elim L.length (matA C L kr U) k T d) (hk : k < L.length) : 0 < T k k := by
  obtain ⟨p1, p2⟩ := elim_pivot hE hk
  generalize hw : (fun j => if j = k then (d : Rat) else -qa T j k) = w at p1 p2
  have hwk : w k = (d : Rat) := by rw [← hw]; exact if_pos rfl
  have hrow : ∀ r, r < k + 1 → sumR (k + 1) (fun j => qa (matA C L kr U) r j * w j) = ((scaleC C (L.getD r 0) : Int) : Rat) * (w r - meanC C (wt L (k + 1) w) (L.getD r 0)) := fun r hr => by
    rw [← row_dot h hn hL hk hr w]
    refine sumR_congr fun j hj => ?_
    unfold qa
    rw [matA_lo (by omega)]
  rcases Int.lt_or_le 0 (T k k) with z | z
  · exact z
  · exfalso
    have zq : qa T k k ≤ 0 := le_cast z
    have hle : ∀ r, r < k + 1 → w r ≤ meanC C (wt L (k + 1) w) (L.getD r 0) := fun r hr => by
      have hx := hL _ (getD_mem (L := L) (j := r) (by omega))
      have s0 : (0 : Rat) < ((scaleC C (L.getD r 0) : Int) : Rat) := cast_pos (by have := (scaleC_ok h hx).1; omega)
      have e := hrow r hr
      have e2 : sumR (k + 1) (fun j => qa (matA C L kr U) r j * w j) ≤ 0 := by
        rcases Nat.lt_or_ge r k with y | y
        · rw [p1 r y]
          exact Rat.le_refl
        · obtain rfl : r = k := by omega
          rw [p2]
          exact zq
      rw [e] at e2
      rcases (Rat.le_total : w r ≤ meanC C (wt L (k + 1) w) (L.getD r 0) ∨ _) with y | y
      · exact y
      · by_cases y2 : w r - meanC C (wt L (k + 1) w) (L.getD r 0) = 0
        · grind
        · have := Rat.mul_pos s0 (show 0 < w r - meanC C (wt L (k + 1) w) (L.getD r 0) by grind)
          grind
    have hsub : ∀ x ∈ L.take (k + 1), x ∈ L := fun x hx => List.mem_of_mem_take hx
    have key := max_closed h (L := L.take (k + 1)) (fun x hx => hL x (hsub x hx)) (hO.sub hsub) (f := wt L (k + 1) w) (fun y _ hy => by rw [wt_out hk w hy]; exact Rat.le_refl) (fun x hx => by
      obtain ⟨j, h1, h2, rfl⟩ := take_getD hx
      rw [wt_at hn hk h1]
      exact hle j h1) (L.getD k 0) (getD_take (Nat.lt_succ_self k) hk)
    rw [wt_at hn hk (Nat.lt_succ_self k), hwk] at key
    have : (0 : Rat) < (d : Rat) := cast_pos hE.pos
    grind
end Md


set_option Elab.async false
set_option linter.all false
set_option maxRecDepth 100000
set_option maxHeartbeats 2000000
/-! Sizes; the solution is the filled list; promises. -/
namespace Md
open PySem L2 Evl
def natR (n : Nat) : Rat := ((n : Int) : Rat)
theorem natR_add (a b : Nat) : natR (a + b) = natR a + natR b := by unfold natR; rw [Int.natCast_add, Rat.intCast_add]
theorem natR_mul (a b : Nat) : natR (a * b) = natR a * natR b := by unfold natR; rw [Int.natCast_mul, Rat.intCast_mul]
theorem natR_le {a b : Nat} (h : a ≤ b) : natR a ≤ natR b := le_cast (by omega)
theorem natR_nonneg (a : Nat) : 0 ≤ natR a := Rat.intCast_nonneg.mpr (by omega)
theorem natR_pos {a : Nat} (h : 0 < a) : 0 < natR a := cast_pos (by omega)
structure NB (M B : Nat) (r : Rat) : Prop where
  zt : Zt M r
  lo : -natR B ≤ r
  hi : r ≤ natR B
theorem NB.mono {M B M' B' : Nat} {r : Rat} (h : NB M B r) (hM : M ∣ M') (hB : B ≤ B') : NB M' B' r := ⟨h.zt.dvd hM, by have := natR_le hB; have := h.lo; grind, by have := natR_le hB; have := h.hi; grind⟩
theorem NB.big {M B j : Nat} {r : Rat} (h : NB M B r) (hM : 0 < M) (hB : 1 ≤ B) (hj : B * M < 2 ^ j) : Big j (canon r) := zt_Big (canon_red r) hM (by rw [q_canon]; exact h.zt) (by rw [q_canon]; exact h.lo) (by rw [q_canon]; exact h.hi) hB hj
theorem nb_zero (M B : Nat) : NB M B 0 := ⟨zt_zero M, by have := natR_nonneg B; grind, natR_nonneg B⟩
theorem natR_one : natR 1 = 1 := rfl
theorem nb_one {M B : Nat} (h : 1 ≤ B) : NB M B 1 := ⟨(show Zt M ((1 : Int) : Rat) from zt_int M 1), by have := natR_le h; rw [natR_one] at this; grind, by have := natR_le h; rw [natR_one] at this; exact this⟩
/-- a mean keeps within the bounds -/
theorem part_bd {bs : List BrC} {f : Nat → Rat} {B : Nat} (hp : ∀ q ∈ bs, 0 ≤ qN q.1) (hf : ∀ q ∈ bs, -natR B ≤ f q.2 ∧ f q.2 ≤ natR B) (h1 : wsum bs (fun _ => 1) ≤ 1) : -natR B ≤ wsum bs f ∧ wsum bs f ≤ natR B := by
  have u1 : wsum bs f ≤ wsum bs (fun _ => natR B * 1) := wsum_le fun q hq => ⟨hp q hq, by rw [Rat.mul_one]; exact (hf q hq).2⟩
  have u2 : wsum bs (fun _ => -natR B * 1) ≤ wsum bs f := wsum_le fun q hq => ⟨hp q hq, by rw [Rat.mul_one]; exact (hf q hq).1⟩
  rw [wsum_mul] at u1 u2
  have u3 := Rat.mul_le_mul_of_nonneg_left h1 (natR_nonneg B)
  constructor <;> grind
theorem part_zt {bs : List BrC} {f : Nat → Rat} {M W : Nat} (hq : ∀ q ∈ bs, Red q.1 ∧ q.1.2.natAbs ∣ W ∧ Zt M (f q.2)) : Zt (M * W) (wsum bs f) := by
  induction bs with
  | nil => exact zt_zero _
  | cons q bs ih =>
    rw [wsum_cons]
    obtain ⟨h1, h2, h3⟩ := hq q (List.mem_cons_self ..)
    refine Zt.add ?_ (ih fun q hq' => hq q (List.mem_cons_of_mem _ hq'))
    rw [Nat.mul_comm]
    exact (zt_den h1 h2).mul h3
theorem nb_part {n : Nat} {p : PlC} (hw : WfB n p) {f : Nat → Rat} {M B : Nat} (hf : ∀ q ∈ p.bs, NB M B (f q.2)) (i : Nat) : NB (M * denL (p.bs.map (·.1))) B (wsum (p.bs.take i) f) := by
  have hp : ∀ q ∈ p.bs, 0 ≤ qN q.1 := fun q hq => Rat.le_of_lt (q_pos (red_small (hw.q q hq).1) (hw.q q hq).2.1)
  have h1 := (wsum_take hp i).2
  have h2 : wsum p.bs (fun _ => 1) = 1 := by rw [wsum_one]; exact hw.s
  rw [h2] at h1
  have b := part_bd (bs := p.bs.take i) (f := f) (B := B) (fun q hq => hp q (List.mem_of_mem_take hq)) (fun q hq => ⟨(hf q (List.mem_of_mem_take hq)).lo, (hf q (List.mem_of_mem_take hq)).hi⟩) h1
  exact ⟨part_zt fun q hq => ⟨red_small (hw.q q (List.mem_of_mem_take hq)).1, denL_dvd (List.mem_map.mpr ⟨q, List.mem_of_mem_take hq, rfl⟩), (hf q (List.mem_of_mem_take hq)).zt⟩, b.1, b.2⟩
theorem scale_wf {n : Nat} {p : PlC} (hw : WfB n p) : 0 < denL (p.bs.map (·.1)) ∧ denL (p.bs.map (·.1)) ≤ 24 := by
  obtain ⟨W, h1, h2, h3⟩ := hw.w
  refine ⟨denL_pos fun c hc => ?_, Nat.le_trans (Nat.le_of_dvd h1 (denL_to fun c hc => ?_)) h2⟩
  · obtain ⟨q, hq, rfl⟩ := List.mem_map.mp hc
    exact (hw.q q hq).1.1
  · obtain ⟨q, hq, rfl⟩ := List.mem_map.mp hc
    exact h3 q hq
theorem nb_mean {C : List PlC} (hW : WfC C) {x : Nat} (hx : x < C.length) {f : Nat → Rat} {M B : Nat} (hf : ∀ y, y < C.length → NB M B (f y)) : NB (M * scaleC C x) B (meanC C f x) := by
  have hw := plC_wf hW hx
  have := nb_part hw (f := f) (M := M) (B := B) (fun q hq => hf _ (hw.q q hq).2.2) (plC C x).bs.length
  rw [List.take_length] at this
  exact this
/-! ### sizes of determinants -/
def fbN (B : Nat) : Nat → Nat
  | 0 => 1
  | k + 1 => (k + 1) * (B * fbN B k)
theorem fbd_nat (B : Nat) : ∀ k, fbd (natR B) k = natR (fbN B k)
  | 0 => rfl
  | k + 1 => by
    show natR (k + 1) * (natR B * fbd (natR B) k) = natR ((k + 1) * (B * fbN B k))
    rw [fbd_nat B k, natR_mul, natR_mul]
theorem fbN_le {B k : Nat} (h : k ≤ 12) : fbN B k ≤ (12 * B) ^ k := by
  induction k with
  | zero => exact Nat.le_refl _
  | succ k ih =>
    show (k + 1) * (B * fbN B k) ≤ (12 * B) ^ (k + 1)
    rw [Nat.pow_succ, ← Nat.mul_assoc, Nat.mul_comm ((12 * B) ^ k)]
    exact Nat.mul_le_mul (Nat.mul_le_mul_right B h) (ih (by omega))
theorem elim_col {n : Nat} {a : Nat → Nat → Int} {k : Nat} {T : Nat → Nat → Int} {d : Int} (h : Elim n a k T d) {j l : Nat} (hj : j < k) (hl : l ≤ n) : qa T j l = Fd k (upc (fun col r => qa a r col) j fun r => qa a r l) := by
  have d0 : (d : Rat) ≠ 0 := cast_ne (by have := h.pos; omega)
  have e := cramer (k := k) (c := fun col r => qa a r col) (t := fun i => qa T i l) (v := fun r => qa a r l) (d := (d : Rat)) (fun r hr => h.top r l hr hl) hj
  rw [← h.det] at e
  have e3 := congrArg (fun z => (d : Rat)⁻¹ * z) e
  rw [← Rat.mul_assoc, Rat.inv_mul_cancel _ d0, Rat.one_mul] at e3
  rw [e3]
  grind
theorem pow_le12 {b k : Nat} (hb : 1 ≤ b) (h : k ≤ 12) : b ^ k ≤ b ^ 12 := Nat.pow_le_pow_right hb h
theorem elim_d {n : Nat} {a : Nat → Nat → Int} {k : Nat} {T : Nat → Nat → Int} {d : Int} (h : Elim n a k T d) (hn : n ≤ 12) (hk : k ≤ n) {B : Nat} (hB : 1 ≤ B) (ha : ∀ r l, r < n → l < n → (a r l).natAbs ≤ B) : d ≤ ((12 * B) ^ 12 : Nat) := by
  have := (Fd_bd (B := natR B) k (c := fun col r => qa a r col) fun col r h1 h2 => by
    have := ha r col (by omega) (by omega)
    constructor
    · have e : -natR B = (((-(B : Int)) : Int) : Rat) := by rw [Rat.intCast_neg]; rfl
      rw [e]
      exact le_cast (by omega)
    · exact le_cast (by omega)).2
  rw [← h.det, fbd_nat] at this
  have e := cast_le this
  have e2 := Nat.le_trans (fbN_le (B := B) (k := k) (by omega)) (pow_le12 (by omega) (by omega))
  omega
theorem abs_of {z : Int} {X : Nat} (h1 : -natR X ≤ (z : Rat)) (h2 : (z : Rat) ≤ natR X) : z.natAbs ≤ X := by
  have e1 : z ≤ (X : Int) := cast_le h2
  have e2 : -(X : Int) ≤ z := cast_le (by rw [Rat.intCast_neg]; exact h1)
  omega
theorem abs_to {z : Int} {X : Nat} (h : z.natAbs ≤ X) : -natR X ≤ (z : Rat) ∧ (z : Rat) ≤ natR X := by
  constructor
  · have e : -natR X = (((-(X : Int)) : Int) : Rat) := by rw [Rat.intCast_neg]; rfl
    rw [e]
    exact le_cast (by omega)
  · exact le_cast (by omega)
theorem elim_bd {n : Nat} {a : Nat → Nat → Int} {k : Nat} {T : Nat → Nat → Int} {d : Int} (h : Elim n a k T d) (hn : n ≤ 12) (hk : k ≤ n) {B : Nat} (hB : 1 ≤ B) (ha : ∀ r l, r < n → l ≤ n → (a r l).natAbs ≤ B) {j l : Nat} (hj : j < n) (hl : l ≤ n) : (T j l).natAbs ≤ 13 * ((12 * B) ^ 12 * B) := by
  have top : ∀ i, i < k → (T i l).natAbs ≤ (12 * B) ^ 12 := fun i hi => by
    have e := elim_col h hi hl
    have := Fd_bd (B := natR B) k (c := upc (fun col r => qa a r col) i fun r => qa a r l) fun col r h1 h2 => by
      by_cases z : col = i
      · rw [z, upc_same]
        exact abs_to (ha r l (by omega) hl)
      · rw [upc_ne z]
        exact abs_to (ha r col (by omega) (by omega))
    rw [← e, fbd_nat] at this
    exact Nat.le_trans (abs_of this.1 this.2) (Nat.le_trans (fbN_le (by omega)) (pow_le12 (by omega) (by omega)))
  generalize hP : (12 * B) ^ 12 = P at *
  have hPB : P ≤ P * B := Nat.le_mul_of_pos_right P hB
  rcases Nat.lt_or_ge j k with z | z
  · have := top j z
    omega
  · have e := h.bot j l z hj hl
    have s := sum_bd (n := k) (f := fun i => qa T i l * qa a j i) (a := natR (P * B)) fun i hi => by
      have h1 := abs_to (top i hi)
      have h2 := abs_to (ha j i hj (by omega))
      rw [natR_mul]
      exact mul_bd h1.1 h1.2 h2.1 h2.2
    have dd := elim_d h hn hk hB fun r l h1 h2 => ha r l h1 (by omega)
    rw [hP] at dd
    have hd1 : -natR P ≤ (d : Rat) ∧ (d : Rat) ≤ natR P := abs_to (by have := h.pos; omega)
    have h2 := abs_to (ha j l hj hl)
    have m := mul_bd hd1.1 hd1.2 h2.1 h2.2
    have e13 : natR (13 * (P * B)) = 13 * natR (P * B) := by rw [natR_mul]; rfl
    have ek : ((k : Int) : Rat) * natR (P * B) ≤ 12 * natR (P * B) := Rat.mul_le_mul_of_nonneg_right (show natR k ≤ natR 12 from natR_le (by omega)) (natR_nonneg _)
    rw [← natR_mul] at m
    have hq : qa T j l = ((T j l : Int) : Rat) := rfl
    have hq2 : qa a j l = ((a j l : Int) : Rat) := rfl
    rw [hq2] at e
    refine abs_of ?_ ?_
    · rw [e13, ← hq, e]
      grind
    · rw [e13, ← hq, e]
      grind
/-! ### the solution is the filled list -/
theorem rowZ_bd {C : List PlC} (h : WfC C) (L : List Nat) {x : Nat} (hx : x < C.length) (y : Nat) : (rowZ C L x y).natAbs ≤ 24 := by
  obtain ⟨s0, s1, _⟩ := scaleC_ok h hx
  have e := rowZ_cast h L hx y
  have w := plC_wf h hx
  have m1 : 0 ≤ meanC C (fun z => if z = y then 1 else 0) x := mean_ge h hx fun j _ => by split <;> decide +kernel
  have m2 : meanC C (fun z => if z = y then 1 else 0) x ≤ 1 := mean_le h hx fun j _ => by split <;> decide +kernel
  have b : -(1 : Rat) ≤ (if y = x then 1 else 0) - meanC C (fun z => if z = y then 1 else 0) x ∧ (if y = x then 1 else 0) - meanC C (fun z => if z = y then 1 else 0) x ≤ 1 := by
    split <;> constructor <;> grind
  have s : -natR 24 ≤ ((scaleC C x : Int) : Rat) ∧ ((scaleC C x : Int) : Rat) ≤ natR 24 := abs_to (by omega)
  have := mul_bd s.1 s.2 b.1 b.2
  rw [← e, Rat.mul_one] at this
  exact abs_of this.1 this.2
theorem fill_of {C : List PlC} (hW : WfC C) {L : List Nat} (hn : L.Nodup) (hL : ∀ x ∈ L, x < C.length) {e kn : Nat → Rat} (hk0 : ∀ x ∈ L, kn x = 0) {U : Nat} (hU : 0 < U) {T : Nat → Nat → Int} {d : Int}
    (hd : ∀ r, r < L.length → (canon ((e (L.getD r 0) + meanC C kn (L.getD r 0)) * ((scaleC C (L.getD r 0) : Int) : Rat))).2.natAbs ∣ U)
    (hE : Elim L.length (matA C L (fun r => (e (L.getD r 0) + meanC C kn (L.getD r 0)) * ((scaleC C (L.getD r 0) : Int) : Rat)) U) L.length T d) :
    IsFill C L e kn (fun y => wt L L.length (fun j => qa T j L.length / ((d : Rat) * natR U)) y + kn y) := by
  have d0 : (d : Rat) ≠ 0 := cast_ne (by have := hE.pos; omega)
  have u0 : natR U ≠ 0 := nat_ne hU
  have hLt : ∀ y, y ∉ L → y ∉ L.take L.length := fun y hy => by rw [List.take_length]; exact hy
  refine ⟨fun x hx => ?_, fun y hy => by rw [wt_out (Nat.le_refl _) _ (hLt y hy), Rat.zero_add]⟩
  obtain ⟨r, hr, _, rfl⟩ := take_getD (m := L.length) (by rw [List.take_length]; exact hx)
  have hxl := hL _ hx
  have s0 : ((scaleC C (L.getD r 0) : Int) : Rat) ≠ 0 := cast_ne (by have := (scaleC_ok hW hxl).1; omega)
  rw [wt_at hn (Nat.le_refl _) hr, hk0 _ hx, Rat.add_zero]
  have em : meanC C (fun y => wt L L.length (fun j => qa T j L.length / ((d : Rat) * natR U)) y + kn y) (L.getD r 0) = meanC C (wt L L.length fun j => qa T j L.length / ((d : Rat) * natR U)) (L.getD r 0) + meanC C kn (L.getD r 0) := wsum_add _ _ _
  rw [em]
  have e1 := elim_end hE r hr
  have e2 : qa (matA C L (fun r => (e (L.getD r 0) + meanC C kn (L.getD r 0)) * ((scaleC C (L.getD r 0) : Int) : Rat)) U) r L.length = (e (L.getD r 0) + meanC C kn (L.getD r 0)) * ((scaleC C (L.getD r 0) : Int) : Rat) * natR U := by
    unfold qa matA
    rw [if_neg (Nat.lt_irrefl _), whole_q (canon_red _) (hd r hr), q_canon]
    rfl
  have e3 := row_dot hW hn hL (Nat.le_refl _) hr fun j => qa T j L.length / ((d : Rat) * natR U)
  have e4 : sumR L.length (fun j => ((rowZ C L (L.getD r 0) (L.getD j 0) : Int) : Rat) * (qa T j L.length / ((d : Rat) * natR U))) = (1 / natR U) * sumR L.length (fun j => qa (matA C L (fun r => (e (L.getD r 0) + meanC C kn (L.getD r 0)) * ((scaleC C (L.getD r 0) : Int) : Rat)) U) r j * (qa T j L.length / (d : Rat))) := by
    rw [← sumR_mul]
    refine sumR_congr fun j hj => ?_
    have : qa (matA C L (fun r => (e (L.getD r 0) + meanC C kn (L.getD r 0)) * ((scaleC C (L.getD r 0) : Int) : Rat)) U) r j = ((rowZ C L (L.getD r 0) (L.getD j 0) : Int) : Rat) := by
      unfold qa
      rw [matA_lo hj]
    rw [this]
    grind
  rw [e4, e1, e2] at e3
  generalize qa T r L.length / ((d : Rat) * natR U) = t at *
  generalize meanC C (wt L L.length fun j => qa T j L.length / ((d : Rat) * natR U)) (L.getD r 0) = m1 at *
  generalize meanC C kn (L.getD r 0) = m2 at *
  generalize e (L.getD r 0) = ee at *
  generalize ((scaleC C (L.getD r 0) : Int) : Rat) = s at *
  have e5 : (1 / natR U) * ((ee + m2) * s * natR U) = (ee + m2) * s := by grind
  rw [e5] at e3
  grind
theorem fill_nb {C : List PlC} (hW : WfC C) {L : List Nat} (hn : L.Nodup) (hl : L.length ≤ 12) (hL : ∀ x ∈ L, x < C.length) {kr : Nat → Rat} {U M B : Nat} (hU : 0 < U) (hUM : U ∣ M) {T : Nat → Nat → Int} {d : Int} (hB : 1 ≤ B)
    (hd : ∀ r, r < L.length → (canon (kr r)).2.natAbs ∣ U) (hk : ∀ r, r < L.length → -natR B ≤ kr r ∧ kr r ≤ natR B) (hE : Elim L.length (matA C L kr U) L.length T d) :
    d.toNat ≤ 288 ^ 12 ∧ ∀ j, j < L.length → NB (M * d.toNat) (B * 288 ^ 12) (qa T j L.length / ((d : Rat) * natR U)) := by
  have hp := hE.pos
  have d0 : (d : Rat) ≠ 0 := cast_ne (by omega)
  have u0 : natR U ≠ 0 := nat_ne hU
  have hlo : ∀ r l, r < L.length → l < L.length → (matA C L kr U r l).natAbs ≤ 24 := fun r l h1 h2 => by
    rw [matA_lo h2]
    exact rowZ_bd hW L (hL _ (getD_mem h1)) _
  have hdl := elim_d hE hl (Nat.le_refl _) (B := 24) (by decide) hlo
  have hdn : d.toNat ≤ 288 ^ 12 := by
    have : (12 * 24) ^ 12 = 288 ^ 12 := by decide
    rw [this] at hdl
    omega
  have ed : ((d.toNat : Nat) : Int) = d := Int.toNat_of_nonneg (by omega)
  refine ⟨hdn, fun j hj => ?_⟩
  -- the column of the constants, made small
  have hv : ∀ r, r < L.length → qa (matA C L kr U) r L.length = natR (U * B) * (kr r / natR B) := fun r hr => by
    have b0 : natR B ≠ 0 := nat_ne hB
    unfold qa matA
    rw [if_neg (Nat.lt_irrefl _), whole_q (canon_red _) (hd r hr), q_canon, natR_mul]
    show kr r * natR U = _
    grind
  have e1 := elim_col hE hj (Nat.le_refl L.length)
  have e2 : Fd L.length (upc (fun col r => qa (matA C L kr U) r col) j fun r => qa (matA C L kr U) r L.length) = natR (U * B) * Fd L.length (upc (fun col r => qa (matA C L kr U) r col) j fun r => kr r / natR B) := by
    rw [← Fd_mul _ _ _ _ _ hj]
    refine Fd_congr _ fun col r h1 h2 => ?_
    by_cases z : col = j
    · rw [z, upc_same, upc_same]
      exact hv r h2
    · rw [upc_ne z, upc_ne z]
  have bF := Fd_bd (B := natR 24) L.length (c := upc (fun col r => qa (matA C L kr U) r col) j fun r => kr r / natR B) fun col r h1 h2 => by
    by_cases z : col = j
    · rw [z, upc_same]
      have hBp := natR_pos hB
      have h3 := hk r h2
      have c1 : kr r / natR B ≤ 1 := div_le' hBp (by rw [Rat.one_mul]; exact h3.2)
      have c2 : (-1 : Rat) ≤ kr r / natR B := le_div' hBp (by grind)
      have : natR 24 = 24 := rfl
      rw [this]
      constructor <;> grind
    · rw [upc_ne z]
      exact abs_to (hlo r col h2 h1)
  rw [fbd_nat] at bF
  have f288 : natR (fbN 24 L.length) ≤ natR (288 ^ 12) := natR_le (Nat.le_trans (fbN_le (B := 24) hl) (Nat.le_trans (pow_le12 (by decide) hl) (by decide)))
  generalize hFe : Fd L.length (upc (fun col r => qa (matA C L kr U) r col) j fun r => kr r / natR B) = FF at *
  have et : qa T j L.length / ((d : Rat) * natR U) = natR B * FF * (1 / (d : Rat)) := by
    rw [e1, e2, natR_mul]
    grind
  have dpos : (0 : Rat) < (d : Rat) := cast_pos hp
  have done : (1 : Rat) ≤ (d : Rat) := (show ((1 : Int) : Rat) ≤ (d : Rat) from le_cast (by omega))
  have i1 : 1 / (d : Rat) ≤ 1 := div_le' dpos (by rw [Rat.one_mul]; exact done)
  have i0 : -(1 : Rat) ≤ 1 / (d : Rat) := le_div' dpos (by grind)
  have b1 := natR_nonneg B
  have m1 := mul_bd (x := natR B) (a := natR B) (y := FF) (b := natR (288 ^ 12)) (by grind) Rat.le_refl (by grind) (by grind)
  have m2 := mul_bd m1.1 m1.2 i0 i1
  rw [Rat.mul_one, ← natR_mul, ← et] at m2
  refine ⟨?_, m2.1, m2.2⟩
  obtain ⟨c, rfl⟩ := hUM
  refine Zt.dvd (M := U * d.toNat) ⟨T j L.length, ?_⟩ ⟨c, by rw [Nat.mul_assoc, Nat.mul_comm c, ← Nat.mul_assoc]⟩
  rw [Int.natCast_mul, ed, Rat.intCast_mul]
  show qa T j L.length / ((d : Rat) * natR U) * (natR U * (d : Rat)) = qa T j L.length
  grind
end Md


set_option Elab.async false
set_option linter.all false
set_option maxRecDepth 100000
set_option maxHeartbeats 2000000
/-! What the program's defs promise, of chains and equations. -/
namespace L2
open PySem PySem.Spec PyProof.Rows
def rGetN : V → V → Hp → VK → Prop := fun x y H Q => ∃ (p : Addr) (xs : List V) (j : Nat) (v : V), x = .ref p ∧ y = .int (j : Int) ∧ H p = some (.lst xs) ∧ xs[j]? = some v ∧ j < 100000 ∧ Q v H
theorem get_list {X : Cx} : PGet X rGetN := by
  intro pins s σ H o i ov iv Q I r1 r2 h
  obtain ⟨a, xs, j, v, rfl, rfl, hx, hv, hj, q⟩ := h
  cases r1
  obtain ⟨t, rfl⟩ := r2
  obtain ⟨its, rv, pl, hz⟩ := I.list (_root_.Evl.sq_of hx)
  obtain ⟨u, e, r⟩ := rv.get hv
  exact wpAny_getItem_list pl.isList (by omega) (by omega) (by simpa using e) ⟨v, H, I, r, q⟩
end L2
namespace Md
open PySem L2 Evl
def spNum2B (K : PySem.W.Frag) (j : Nat) (g : Int × Int → Int × Int → Int × Int) : Sp := fun vs h Q _ => ∃ (b : Hp) (p q : Int × Int), Ex b h ∧ DtA K b vs [nD p, nD q] ∧ Red p ∧ Red q ∧ Big j p ∧ Big j q ∧ ∀ v b' h', Gr b h b' h' → Dt K b' v (nD (g p q)) → Q v h'
theorem cmulL {i j : Int} (hi : i.natAbs < 2 ^ 4000) (hj : j.natAbs < 2 ^ 4000) : CMulW i j := wide_mul (a := 4000) (b := 4000) hi hj (by decide) (by decide) (by decide)
def ratsD (l : List Rat) : PyData := .list (l.map nQ)
def spTotR (K : PySem.W.Frag) : Sp := fun vs h Q _ => ∃ (b : Hp) (l : List Rat), Ex b h ∧ DtA K b vs [ratsD l] ∧ l.length ≤ 1000 ∧ (∀ i, i ≤ l.length → Big 3000 (canon (l.take i).sum)) ∧ (∀ r ∈ l, Big 3000 (canon r)) ∧ ∀ v b' h', Gr b h b' h' → Dt K b' v (nQ l.sum) → Q v h'
def spMeanAt (K : PySem.W.Frag) : Sp := fun vs h Q _ => ∃ (b : Hp) (n m : Nat) (p : PlC) (f : Nat → Rat) (M B : Nat), Ex b h ∧ DtA K b vs [p.D, listQ n f] ∧ WfB m p ∧ m ≤ n ∧ 0 < M ∧ 1 ≤ B ∧ B * (M * 24) < 2 ^ 2980 ∧ (∀ q ∈ p.bs, NB M B (f q.2)) ∧ ∀ v b' h', Gr b h b' h' → Dt K b' v (nQ (wsum p.bs f)) → Q v h'
def spScale (K : PySem.W.Frag) : Sp := fun vs h Q _ => ∃ (b : Hp) (m : Nat) (p : PlC), Ex b h ∧ DtA K b vs [p.D] ∧ WfB m p ∧ ∀ h', Ex h h' → Q (.int ((denL (p.bs.map (·.1)) : Nat) : Int)) h'
def spRow (K : PySem.W.Frag) : Sp := fun vs h Q _ => ∃ (b : Hp) (C : List PlC) (x : Nat) (L : List Nat), Ex b h ∧ DtA K b vs [chD C, .int (x : Int), natsD L, .int (scaleC C x : Int), nD (1, 1)] ∧ WfC C ∧ x < C.length ∧ L.Nodup ∧ L.length ≤ 12 ∧ ∀ v b' h', Gr b h b' h' → Dt K b' v (intsD (L.map (rowZ C L x))) → Q v h'
def rowD (n : Nat) (T : Nat → Nat → Int) (j : Nat) : PyData := .list ((List.range (n + 1)).map fun l => PyData.int (T j l))
def tabD (n : Nat) (T : Nat → Nat → Int) : PyData := .list ((List.range n).map (rowD n T))
def spCleared (K : PySem.W.Frag) : Sp := fun vs h Q _ => ∃ (b : Hp) (n : Nat) (T : Nat → Nat → Int) (k : Nat) (d : Int), Ex b h ∧ DtA K b vs [tabD n T, .int (k : Int), .int d] ∧ n ≤ 12 ∧ k < n ∧ 0 < d ∧ d.natAbs < 2 ^ 9000 ∧ (∀ j l, j < n → l ≤ n → (T j l).natAbs < 2 ^ 20000) ∧
  ∀ v b' h', Gr b h b' h' → Dt K b' v (tabD n (elimT k T d)) → Q v h'
def placeK (L : List Nat) (kx : Nat → Rat) : Nat → Rat := fun r => kx (L.getD r 0)
def unitK (L : List Nat) (kx : Nat → Rat) : Nat := denL (L.map fun x => canon (kx x))
def spSolved (K : PySem.W.Frag) : Sp := fun vs h Q _ => ∃ (b : Hp) (C : List PlC) (L : List Nat) (kx : Nat → Rat) (M B : Nat), Ex b h ∧ DtA K b vs [.list (L.map fun x => intsD (L.map (rowZ C L x))), ratsD (L.map kx)] ∧ WfC C ∧ L.Nodup ∧ L.length ≤ 12 ∧ (∀ x ∈ L, x < C.length) ∧ Out C L ∧
  0 < M ∧ 1 ≤ B ∧ B * M < 2 ^ 1000 ∧ (∀ x ∈ L, NB M B (kx x)) ∧
  ∀ v b' h' T d, Gr b h b' h' → Elim L.length (matA C L (placeK L kx) (unitK L kx)) L.length T d → Dt K b' v (ratsD ((List.range L.length).map fun j => qa T j L.length / ((d : Rat) * natR (unitK L kx)))) → Q v h'
def spFill (K : PySem.W.Frag) : Sp := fun vs h Q _ => ∃ (b : Hp) (C : List PlC) (L : List Nat) (e kn : Nat → Rat) (M B : Nat), Ex b h ∧ DtA K b vs [chD C, natsD L, listQ C.length e, listQ C.length kn, nD (1, 1)] ∧ WfC C ∧ L.Nodup ∧ (∀ x ∈ L, x < C.length) ∧ Out C L ∧
  0 < M ∧ 1 ≤ B ∧ B * M < 2 ^ 900 ∧ (∀ x ∈ L, NB M B (e x)) ∧ (∀ y, y < C.length → NB M B (kn y)) ∧ (∀ x ∈ L, kn x = 0) ∧
  ∀ v b' h' f D, Gr b h b' h' → IsFill C L e kn f → 0 < D → D ≤ 288 ^ 12 → (∀ y, y < C.length → NB (M * D) (B * 2 ^ 110) (f y)) → Dt K b' v (listQ C.length f) → OwnF h b' v → Q v h'
section
variable {K : PySem.W.Frag} {σ : L2.St} {b h : Hp} {te tl ta tb : TE} {ts tk : TA} {E : XK} {C : List PlC} {p q : Int × Int} {r s : Rat}
theorem ed_num2B {j : Nat} {g : Int × Int → Int × Int → Int × Int} (y : EDA K ts σ b [nD p, nD q]) (h1 : Red p) (h2 : Red q) (h3 : Big j p) (h4 : Big j q) : ED K (tCall (spNum2B K j g) [] E ts) σ b (nD (g p q)) := fun h e _ qq =>
  y h e _ fun vs b2 h2' g2 hv => ⟨b2, p, q, g2.gi, by rw [List.append_nil]; exact hv, h1, h2, h3, h4, fun v b3 h3 g3 hv3 => qq v b3 h3 (g2.trans g3) hv3⟩
theorem ed_plusR (y : EDA K ts σ b [nQ r, nQ s]) (h1 : Big 3000 (canon r)) (h2 : Big 3000 (canon s)) : ED K (tCall (spNum2B K 3000 plusN) [] E ts) σ b (nQ (r + s)) := by
  unfold nQ
  rw [← plus_canon]
  exact ed_num2B y (canon_red r) (canon_red s) h1 h2
theorem ed_timesR (y : EDA K ts σ b [nQ r, nQ s]) (h1 : Big 3000 (canon r)) (h2 : Big 3000 (canon s)) : ED K (tCall (spNum2B K 3000 timesN) [] E ts) σ b (nQ (r * s)) := by
  unfold nQ
  rw [← times_canon]
  exact ed_num2B y (canon_red r) (canon_red s) h1 h2
theorem ed_totR {l : List Rat} (y : EDA K ts σ b [ratsD l]) (h1 : l.length ≤ 1000) (h2 : ∀ i, i ≤ l.length → Big 3000 (canon (l.take i).sum)) (h3 : ∀ r ∈ l, Big 3000 (canon r)) : ED K (tCall (spTotR K) [] E ts) σ b (nQ l.sum) := fun h e _ qq =>
  y h e _ fun vs b2 h2' g2 hv => ⟨b2, l, g2.gi, by rw [List.append_nil]; exact hv, h1, h2, h3, fun v b3 h3 g3 hv3 => qq v b3 h3 (g2.trans g3) hv3⟩
theorem ed_meanAt {n m M B : Nat} {p : PlC} {f : Nat → Rat} (y : EDA K ts σ b [p.D, listQ n f]) (h1 : WfB m p) (h2 : m ≤ n) (h3 : 0 < M) (h4 : 1 ≤ B) (h5 : B * (M * 24) < 2 ^ 2980) (h6 : ∀ q ∈ p.bs, NB M B (f q.2)) : ED K (tCall (spMeanAt K) [] E ts) σ b (nQ (wsum p.bs f)) := fun h e _ qq =>
  y h e _ fun vs b2 h2' g2 hv => ⟨b2, n, m, p, f, M, B, g2.gi, by rw [List.append_nil]; exact hv, h1, h2, h3, h4, h5, h6, fun v b3 h3 g3 hv3 => qq v b3 h3 (g2.trans g3) hv3⟩
theorem ev_scale {m : Nat} {p : PlC} (y : EDA K ts σ b [p.D]) (h1 : WfB m p) : Ev (tCall (spScale K) [] E ts) σ b (.int ((denL (p.bs.map (·.1)) : Nat) : Int)) := fun h e _ qq =>
  y h e _ fun vs b2 h2' g2 hv => ⟨b2, m, p, g2.gi, by rw [List.append_nil]; exact hv, h1, fun h3 e3 => qq h3 (g2.gh.trans e3)⟩
theorem ed_row {x : Nat} {L : List Nat} (y : EDA K ts σ b [chD C, .int (x : Int), natsD L, .int (scaleC C x : Int), nD (1, 1)]) (h1 : WfC C) (h2 : x < C.length) (h3 : L.Nodup) (h4 : L.length ≤ 12) : ED K (tCall (spRow K) [] E ts) σ b (intsD (L.map (rowZ C L x))) := fun h e _ qq =>
  y h e _ fun vs b2 h2' g2 hv => ⟨b2, C, x, L, g2.gi, by rw [List.append_nil]; exact hv, h1, h2, h3, h4, fun v b3 h3 g3 hv3 => qq v b3 h3 (g2.trans g3) hv3⟩
theorem ed_cleared {n k : Nat} {T : Nat → Nat → Int} {d : Int} (y : EDA K ts σ b [tabD n T, .int (k : Int), .int d]) (h1 : n ≤ 12) (h2 : k < n) (h3 : 0 < d) (h4 : d.natAbs < 2 ^ 9000) (h5 : ∀ j l, j < n → l ≤ n → (T j l).natAbs < 2 ^ 20000) : ED K (tCall (spCleared K) [] E ts) σ b (tabD n (elimT k T d)) := fun h e _ qq =>
  y h e _ fun vs b2 h2' g2 hv => ⟨b2, n, T, k, d, g2.gi, by rw [List.append_nil]; exact hv, h1, h2, h3, h4, h5, fun v b3 h3 g3 hv3 => qq v b3 h3 (g2.trans g3) hv3⟩
end
theorem nb_prod {n : Nat} {p : PlC} (hw : WfB n p) {q : BrC} (hq : q ∈ p.bs) {f : Nat → Rat} {M B : Nat} (hf : NB M B (f q.2)) : NB (M * denL (p.bs.map (·.1))) (1000 * B) (qN q.1 * f q.2) := by
  have h := hw.q q hq
  have c := q_small h.1
  have e : (1000 : Rat) = natR 1000 := rfl
  rw [e] at c
  have m := mul_bd c.1 c.2 hf.lo hf.hi
  rw [← natR_mul] at m
  refine ⟨?_, m.1, m.2⟩
  rw [Nat.mul_comm]
  exact (zt_den (red_small h.1) (denL_dvd (List.mem_map.mpr ⟨q, hq, rfl⟩))).mul hf.zt
end Md
namespace Md
open PySem L2 Evl
section
variable {K : PySem.W.Frag} {σ : L2.St} {b h0 : Hp} {tl ta tb : TE} {ts : TA} {D : Ends} {tu : TS} {ds es : List PyData} {i j : Nat}
/-- for i, j in enumerate(data) -/
theorem r_forE (x : ED K tl σ b (.list ds)) (e : Ex b h0)
    (k : ∀ b1 h1, Gr b h0 b1 h1 → ∃ Pv : Nat → L2.St → Hp → Prop, Pv 0 σ h1 ∧ (∀ n σ' h', Pv n σ' h' → Ex b1 h') ∧
      (∀ n d xv σ' h' h2, ds[n]? = some d → Dt K b1 xv d → Pv n σ' h' → Ex h' h2 → tu { D with nx := Pv (n + 1), ct := Pv (n + 1), bk := D.nx } ((σ'.set i (some (.int (n : Int)))).set j (some xv)) h2) ∧ ∀ σ' h', Pv ds.length σ' h' → D.nx σ' h') :
    tFor (iEnum K (tCons tl tNil)) (gTup K 2 (gCons (gName i) (gCons (gName j) gNil))) tu D σ h0 := x h0 e _ fun v b1 h1 g1 hv => by
  obtain ⟨a, xs, rfl, k1, k2⟩ := hv.listI
  obtain ⟨Pv, p0, pe, ps, pd⟩ := k b1 h1 g1
  refine ⟨a, xs, rfl, sq_of (g1.gi _ _ k1), for_it walk_enum Pv p0 (fun n σ' h' _ p => sq_of (pe n σ' h' p _ _ k1)) (fun n y σ' h2 h3 hn p hy => ?_) (fun σ' h' p => pd σ' h' (by rw [← k2.length]; exact p))⟩
  obtain ⟨t, va, vb, rfl, nt, rfl, hva, hvb⟩ := hy
  cases (Option.some.inj hva)
  obtain ⟨dd, hdd, hx⟩ := k2.getV (show xs[n]? = some vb from hvb)
  exact ⟨t, _, rfl, st_of upd_same, rfl, _, _, rfl, _, _, rfl, rfl, ps n dd vb σ' h2 _ hdd hx p (Ex.new nt)⟩
/-- for i, j in zip(data, data) -/
theorem r_forZ (x : ED K ta σ b (.list ds)) (y : ED K tb σ b (.list es)) (hl : es.length = ds.length) (e : Ex b h0)
    (k : ∀ b1 h1, Gr b h0 b1 h1 → ∃ Pv : Nat → L2.St → Hp → Prop, Pv 0 σ h1 ∧ (∀ n σ' h', Pv n σ' h' → Ex b1 h') ∧
      (∀ n d1 d2 v1 v2 σ' h' h2, ds[n]? = some d1 → es[n]? = some d2 → Dt K b1 v1 d1 → Dt K b1 v2 d2 → Pv n σ' h' → Ex h' h2 → tu { D with nx := Pv (n + 1), ct := Pv (n + 1), bk := D.nx } ((σ'.set i (some v1)).set j (some v2)) h2) ∧ ∀ σ' h', Pv ds.length σ' h' → D.nx σ' h') :
    tFor (iZip K (tCons ta (tCons tb tNil))) (gTup K 2 (gCons (gName i) (gCons (gName j) gNil))) tu D σ h0 := x h0 e _ fun v1 b1 h1 g1 hv1 => y.up g1.gb h1 g1.gi _ fun v2 b2 h2 g2 hv2 => by
  obtain ⟨a1, xs, rfl, k1, k2⟩ := hv1.listI
  obtain ⟨a2, ys, rfl, l1, l2⟩ := hv2.listI
  obtain ⟨Pv, p0, pe, ps, pd⟩ := k b2 h2 (g1.trans g2)
  have s1 : ∀ h, Ex b2 h → SqL K h a1 xs := fun h e => sq_of (e _ _ (g2.gb _ _ k1))
  have s2 : ∀ h, Ex b2 h → SqL K h a2 ys := fun h e => sq_of (e _ _ l1)
  refine ⟨a1, a2, xs, ys, rfl, s1 _ g2.gi, s2 _ g2.gi, for_it (walk_zip (xs := xs) (ys := ys) (n := ds.length) (by rw [k2.length, l2.length, hl, Nat.min_self])) Pv p0 (fun n σ' h' _ p => ⟨s1 _ (pe n σ' h' p), s2 _ (pe n σ' h' p)⟩) (fun n z σ' h3 h4 hn p hy => ?_) pd⟩
  obtain ⟨t, va, vb, rfl, nt, rfl, hva, hvb⟩ := hy
  obtain ⟨d1, hd1, q1⟩ := k2.getV (show xs[n]? = some va from hva)
  obtain ⟨d2, hd2, q2⟩ := l2.getV (show ys[n]? = some vb from hvb)
  exact ⟨t, _, rfl, st_of upd_same, rfl, _, _, rfl, _, _, rfl, rfl, ps n d1 d2 va vb σ' h3 _ hd1 hd2 (q1.up g2.gb) q2 p (Ex.new nt)⟩
end
theorem row_at {n : Nat} {T : Nat → Nat → Int} {j l : Nat} (h : l ≤ n) : L2.atI ((List.range (n + 1)).map fun l => PyData.int (T j l)) (l : Int) = some (.int (T j l)) := atI_nat (by rw [List.getElem?_map, List.getElem?_range (by omega)] <;> rfl)
theorem tab_at {n : Nat} {T : Nat → Nat → Int} {j : Nat} (h : j < n) : L2.atI ((List.range n).map (rowD n T)) (j : Int) = some (rowD n T j) := atI_nat (by rw [List.getElem?_map, List.getElem?_range h] <;> rfl)
end Md
namespace Md
open PySem L2 Evl
theorem matA_bd {C : List PlC} (h : WfC C) {L : List Nat} (hL : ∀ x ∈ L, x < C.length) {kx : Nat → Rat} {M B : Nat} (hk : ∀ x ∈ L, NB M B (kx x)) (hM : 0 < M) (hB : 1 ≤ B) (hMB : B * M < 2 ^ 1000) :
    unitK L kx ∣ M ∧ 0 < unitK L kx ∧ (∀ r, r < L.length → (canon (placeK L kx r)).2.natAbs ∣ unitK L kx) ∧ ∀ r l, r < L.length → l ≤ L.length → (matA C L (placeK L kx) (unitK L kx) r l).natAbs ≤ 2 ^ 1000 := by
  have hmem : ∀ c ∈ L.map fun x => canon (kx x), ∃ x ∈ L, c = canon (kx x) := fun c hc => by
    obtain ⟨x, hx, rfl⟩ := List.mem_map.mp hc
    exact ⟨x, hx, rfl⟩
  have u1 : unitK L kx ∣ M := denL_to fun c hc => by
    obtain ⟨x, hx, rfl⟩ := hmem c hc
    exact zt_dvd (canon_red _) (by rw [q_canon]; exact (hk x hx).zt)
  have u2 : 0 < unitK L kx := denL_pos fun c hc => by
    obtain ⟨x, hx, rfl⟩ := hmem c hc
    exact (canon_red _).1
  have u3 : ∀ r, r < L.length → (canon (placeK L kx r)).2.natAbs ∣ unitK L kx := fun r hr => denL_dvd (List.mem_map.mpr ⟨_, getD_mem hr, rfl⟩)
  refine ⟨u1, u2, u3, fun r l hr hl => ?_⟩
  unfold matA
  split
  · exact Nat.le_trans (rowZ_bd h L (hL _ (getD_mem hr)) _) (Nat.le_trans (by decide : 24 ≤ 2 ^ 5) (Nat.pow_le_pow_right (by decide) (by decide)))
  · have e := whole_q (canon_red (placeK L kx r)) (u3 r hr)
    rw [q_canon] at e
    have b := hk _ (getD_mem hr)
    have hUM := Nat.le_of_dvd hM u1
    have m := mul_bd b.lo b.hi (show -natR (unitK L kx) ≤ (((unitK L kx : Nat) : Int) : Rat) by have := natR_nonneg (unitK L kx); have e : (((unitK L kx : Nat) : Int) : Rat) = natR (unitK L kx) := rfl; grind) (Rat.le_refl)
    have e2 : (((unitK L kx : Nat) : Int) : Rat) = natR (unitK L kx) := rfl
    have ek : placeK L kx r = kx (L.getD r 0) := rfl
    rw [ek] at e
    rw [e2] at m e
    rw [← natR_mul, ← e] at m
    have := abs_of m.1 m.2
    have h2 : B * unitK L kx ≤ B * M := Nat.mul_le_mul_left B hUM
    exact Nat.le_trans this (Nat.le_of_lt (Nat.lt_of_le_of_lt h2 hMB))
theorem last_at {n : Nat} {f : Nat → PyData} : L2.atI ((List.range (n + 1)).map f) (-1) = some (f n) := by
  rw [List.range_succ, List.map_append]
  exact atI_last _ _
theorem mat_row {C : List PlC} {L : List Nat} {kr : Nat → Rat} {U r : Nat} (hr : r < L.length) : (L.map (rowZ C L (L.getD r 0))).map PyData.int ++ [PyData.int ((canon (kr r)).1 * ((U : Int) / (canon (kr r)).2))] = (List.range (L.length + 1)).map fun l => PyData.int (matA C L kr U r l) := by
  rw [List.range_succ, List.map_append, List.map_map]
  congr 1
  · rw [← map_getDn L 0 (PyData.int ∘ rowZ C L (L.getD r 0))]
    refine List.map_congr_left fun l hl => ?_
    rw [matA_lo (List.mem_range.mp hl)]
    rfl
  · have e : matA C L kr U r L.length = (canon (kr r)).1 * ((U : Int) / (canon (kr r)).2) := if_neg (Nat.lt_irrefl _)
    show _ = [PyData.int (matA C L kr U r L.length)]
    rw [e]
end Md
namespace Md
open PySem L2 Evl
theorem elim_exists {C : List PlC} (h : WfC C) {L : List Nat} (hn : L.Nodup) (hL : ∀ x ∈ L, x < C.length) (hO : Out C L) (kr : Nat → Rat) (U : Nat) : ∀ k, k ≤ L.length → ∃ T d, Elim L.length (matA C L kr U) k T d
  | 0, _ => ⟨_, 1, elim_start _ _⟩
  | k + 1, hk => by
    obtain ⟨T, d, hE⟩ := elim_exists h hn hL hO kr U k (by omega)
    exact ⟨_, _, (elim_step hE hk (pivot_pos h hn hL hO hE hk)).1⟩
theorem zt_scale {M s : Nat} {r : Rat} (h : Zt (M * s) r) : Zt M (r * natR s) := by
  obtain ⟨z, hz⟩ := h
  refine ⟨z, ?_⟩
  rw [Int.natCast_mul, Rat.intCast_mul] at hz
  rw [← hz]
  unfold natR
  grind
/-- the constants, and what comes of them -/
def constK (C : List PlC) (e kn : Nat → Rat) (x : Nat) : Rat := (e x + meanC C kn x) * ((scaleC C x : Int) : Rat)
theorem const_nb {C : List PlC} (hW : WfC C) {e kn : Nat → Rat} {M B x : Nat} (hx : x < C.length) (he : NB M B (e x)) (hk : ∀ y, y < C.length → NB M B (kn y)) : NB (M * scaleC C x) (2 * B) (e x + meanC C kn x) ∧ NB M (48 * B) (constK C e kn x) := by
  have m := nb_mean hW hx hk
  obtain ⟨s0, s1, _⟩ := scaleC_ok hW hx
  have z : Zt (M * scaleC C x) (e x + meanC C kn x) := (he.zt.dvd (Nat.dvd_mul_right _ _)).add m.zt
  have b2 : natR (2 * B) = natR B + natR B := by rw [natR_mul]; have : natR 2 = 2 := rfl; rw [this]; grind
  have l1 := he.lo
  have l2 := he.hi
  have l3 := m.lo
  have l4 := m.hi
  have lo : -natR (2 * B) ≤ e x + meanC C kn x := by rw [b2]; grind
  have hi : e x + meanC C kn x ≤ natR (2 * B) := by rw [b2]; grind
  refine ⟨⟨z, lo, hi⟩, zt_scale z, ?_, ?_⟩
  · have := (mul_bd lo hi (show -natR 24 ≤ natR (scaleC C x) by have := natR_nonneg (scaleC C x); have := natR_nonneg 24; grind) (natR_le s1)).1
    rw [← natR_mul] at this
    have e48 : 2 * B * 24 = 48 * B := by omega
    rw [e48] at this
    exact this
  · have := (mul_bd lo hi (show -natR 24 ≤ natR (scaleC C x) by have := natR_nonneg (scaleC C x); have := natR_nonneg 24; grind) (natR_le s1)).2
    rw [← natR_mul] at this
    have e48 : 2 * B * 24 = 48 * B := by omega
    rw [e48] at this
    exact this
theorem fill_data {C : List PlC} (hW : WfC C) {L : List Nat} (hn : L.Nodup) (hl : L.length ≤ 12) (hL : ∀ x ∈ L, x < C.length) (hO : Out C L) {e kn : Nat → Rat} {M B : Nat} (hM : 0 < M) (hB : 1 ≤ B) (hMB : B * M < 2 ^ 900)
    (he : ∀ x ∈ L, NB M B (e x)) (hk : ∀ y, y < C.length → NB M B (kn y)) (h0 : ∀ x ∈ L, kn x = 0) :
    ∃ f D, IsFill C L e kn f ∧ 0 < D ∧ D ≤ 288 ^ 12 ∧ (∀ y, y < C.length → NB (M * D) (B * 2 ^ 110) (f y)) ∧
      ∀ T d, Elim L.length (matA C L (placeK L (constK C e kn)) (unitK L (constK C e kn))) L.length T d → ((List.range L.length).map fun j => qa T j L.length / ((d : Rat) * natR (unitK L (constK C e kn)))) = L.map f := by
  have hc : ∀ x ∈ L, NB M (48 * B) (constK C e kn x) := fun x hx => (const_nb hW (hL x hx) (he x hx) hk).2
  obtain ⟨u1, u2, u3, u4⟩ := matA_bd hW hL hc hM (by omega) (by
    rw [Nat.mul_assoc]
    exact Nat.lt_of_lt_of_le (lt_pow_mul (i := 6) (Nat.le_refl _) (by decide) hMB) (Nat.pow_le_pow_right (by decide) (by decide)))
  obtain ⟨T0, d0, hE0⟩ := elim_exists hW hn hL hO (placeK L (constK C e kn)) (unitK L (constK C e kn)) L.length (Nat.le_refl _)
  have hf0 := fill_of hW hn hL h0 u2 u3 hE0
  obtain ⟨hd, hnb⟩ := fill_nb hW hn hl hL u2 u1 (by omega : 1 ≤ 48 * B) u3 (fun r hr => ⟨(hc _ (getD_mem hr)).lo, (hc _ (getD_mem hr)).hi⟩) hE0
  have hdp : 0 < d0.toNat := by have := hE0.pos; omega
  refine ⟨_, d0.toNat, hf0, hdp, hd, fun y hy => ?_, fun T d hE => ?_⟩
  · by_cases hyL : y ∈ L
    · obtain ⟨j, hj, _, rfl⟩ := take_getD (m := L.length) (by rw [List.take_length]; exact hyL)
      show NB _ _ (wt L L.length _ (L.getD j 0) + kn (L.getD j 0))
      rw [wt_at hn (Nat.le_refl _) hj, h0 _ hyL, Rat.add_zero]
      refine (hnb j hj).mono (Nat.dvd_refl _) ?_
      have : 48 * 288 ^ 12 ≤ 2 ^ 110 := by decide
      have h2 := Nat.mul_le_mul_left B this
      have e2 : 48 * B * 288 ^ 12 = B * (48 * 288 ^ 12) := by rw [Nat.mul_comm 48 B, Nat.mul_assoc]
      rw [e2]
      exact h2
    · show NB _ _ (wt L L.length _ y + kn y)
      rw [wt_out (Nat.le_refl _) _ (by rw [List.take_length]; exact hyL), Rat.zero_add]
      exact (hk y hy).mono (Nat.dvd_mul_right _ _) (Nat.le_mul_of_pos_right B (Nat.two_pow_pos _))
  · have hf := fill_of hW hn hL h0 u2 u3 hE
    have key := fill_unique hW hL hO hf hf0
    rw [← map_getDn L 0]
    refine List.map_congr_left fun j hj => ?_
    have hj := List.mem_range.mp hj
    have e1 := key (L.getD j 0)
    rw [wt_at hn (Nat.le_refl _) hj, h0 _ (getD_mem hj), Rat.add_zero] at e1
    show _ = _ + kn (L.getD j 0)
    rw [h0 _ (getD_mem hj)]
    exact e1
theorem nats_get {L : List Nat} {r : Nat} (hr : r < L.length) : L[r]? = some (L.getD r 0) := by
  rw [List.getD_eq_getElem?_getD, List.getElem?_eq_getElem hr]
  rfl
/-- a row, part by part -/
def rowP (s x : Nat) (bs : List BrC) (y : Nat) : Int := (if y = x then (s : Int) else 0) - (bs.map fun q => if q.2 = y then cz s q else 0).sum
theorem rowP_all (C : List PlC) (L : List Nat) (x y : Nat) : rowP (scaleC C x) x (plC C x).bs y = rowZ C L x y := rfl
theorem intsum_snoc (l : List Int) (a : Int) : (l ++ [a]).sum = l.sum + a := by
  induction l with
  | nil => rw [List.nil_append, List.sum_cons, List.sum_nil]; omega
  | cons b l ih => rw [List.cons_append, List.sum_cons, List.sum_cons, ih]; omega
theorem rowP_snoc (s x : Nat) (bs : List BrC) (q : BrC) (y : Nat) : rowP s x (bs ++ [q]) y = rowP s x bs y - (if q.2 = y then cz s q else 0) := by
  unfold rowP
  rw [List.map_append, List.map_cons, List.map_nil, intsum_snoc]
  omega
theorem map_set_nodup {L : List Nat} (hn : L.Nodup) {j : Nat} (hj : j < L.length) {f g : Nat → Int} {v : Int} (h1 : g (L.getD j 0) = v) (h2 : ∀ y ∈ L, y ≠ L.getD j 0 → g y = f y) : ((L.map f).map V.int).set j (V.int v) = (L.map g).map V.int := by
  refine List.ext_getElem? fun i => ?_
  rw [List.getElem?_set, List.length_map, List.length_map, List.getElem?_map, List.getElem?_map, List.getElem?_map, List.getElem?_map]
  by_cases e : j = i
  · subst e
    rw [if_pos rfl, if_pos hj, nats_get hj]
    show some (V.int v) = some (V.int (g (L.getD j 0)))
    rw [h1]
  · rw [if_neg e]
    rcases Nat.lt_or_ge i L.length with z | z
    · rw [nats_get z]
      show some (V.int (f (L.getD i 0))) = some (V.int (g (L.getD i 0)))
      rw [h2 _ (getD_mem z) fun y => e (nodup_getD hn hj z y.symm)]
    · rw [List.getElem?_eq_none z]
      rfl
end Md
namespace Md
open PySem L2 Evl
section
variable {K : PySem.W.Frag} {σ : L2.St} {b h : Hp} {te tl ta tb : TE} {ts tk : TA} {E : XK} {C : List PlC}
theorem ed_solved {L : List Nat} {kx f : Nat → Rat} {M B : Nat} (y : EDA K ts σ b [.list (L.map fun x => intsD (L.map (rowZ C L x))), ratsD (L.map kx)]) (h1 : WfC C) (h2 : L.Nodup) (h3 : L.length ≤ 12) (h4 : ∀ x ∈ L, x < C.length) (h5 : Out C L) (h6 : 0 < M) (h7 : 1 ≤ B) (h8 : B * M < 2 ^ 1000) (h9 : ∀ x ∈ L, NB M B (kx x))
    (hd : ∀ T d, Elim L.length (matA C L (placeK L kx) (unitK L kx)) L.length T d → ((List.range L.length).map fun j => qa T j L.length / ((d : Rat) * natR (unitK L kx))) = L.map f) : ED K (tCall (spSolved K) [] E ts) σ b (ratsD (L.map f)) := fun h e _ qq =>
  y h e _ fun vs b2 h2' g2 hv => ⟨b2, C, L, kx, M, B, g2.gi, by rw [List.append_nil]; exact hv, h1, h2, h3, h4, h5, h6, h7, h8, h9, fun v b3 h3 T d g3 hE hv3 => qq v b3 h3 (g2.trans g3) (hd T d hE ▸ hv3)⟩
end
/-- part of the places filled in -/
def partF (L : List Nat) (f kn : Nat → Rat) (r : Nat) (y : Nat) : Rat := if y ∈ L.take r then f y else kn y
theorem partF_next {L : List Nat} {f kn : Nat → Rat} {r : Nat} (hr : r < L.length) (y : Nat) : partF L f kn (r + 1) y = if y = L.getD r 0 then f (L.getD r 0) else partF L f kn r y := by
  unfold partF
  rw [take_more1 (nats_get hr)]
  by_cases e : y = L.getD r 0
  · rw [if_pos e, if_pos (List.mem_append_right _ (by rw [e]; exact List.mem_singleton.mpr rfl)), e]
  · rw [if_neg e]
    by_cases z : y ∈ L.take r
    · rw [if_pos z, if_pos (List.mem_append_left _ z)]
    · rw [if_neg z, if_neg]
      intro h
      rcases List.mem_append.mp h with h | h
      · exact z h
      · exact e (List.mem_singleton.mp h)
end Md
namespace Md
theorem nodup_len {L : List Nat} {n : Nat} (h : L.Nodup) (hL : ∀ x ∈ L, x < n) : L.length ≤ n := by
  refine pigeon n L.length (fun i => L.getD i 0) (fun i hi => hL _ (getD_mem hi)) fun i j hij hj e => ?_
  have := nodup_getD h (by omega) hj e
  omega
end Md
namespace Md
open PySem L2 Evl
/-- a def with one default -/
def IsDefD (K : PySem.W.Frag) (mg : Str → Option Value) (x : Str) (st : Stmt) (ps : List Str) (u : V) : Prop := ∃ f fd, FunD K x x (defArgs st) (defBody st) (defScope st) [u] [] f fd ∧ mg x = some (.ref f) ∧ ∃ ds, Vals [u] ds ∧ Binds K fd ps ds
/-- it keeps its promise, called without the last argument -/
def HasD (P : Program) (w : World) (K : PySem.W.Frag) (mg : Str → Option Value) (base : Heap) (k : Nat) (x : Str) (ps : List Str) (du : PyData) (sp : Sp) : Prop :=
  ∃ (u : V) (ds : List Value) (f : Addr) (fd : FuncData), (∀ H, Dt K H u du) ∧ Vals [u] ds ∧ FnOk P w K mg base CX0 k f fd ps sp ∧ mg x = some (.ref f) ∧ PySem.W.keepIn K (.ref f) = true ∧ Binds K fd ps ds
section
variable {K : PySem.W.Frag} {σ : L2.St} {b h : Hp} {ts : TA} {E : XK} {D : Ends} {tz : TS} {ds : List PyData} {sp : Sp} {u : V} {du : PyData}
theorem r_callD {i : Nat} (hu : ∀ H, Dt K H u du) (x : EDA K ts σ b ds) (e : Ex b h) (k : ∀ vs b' h', Gr b h b' h' → DtA K b' vs (ds ++ [du]) → sp vs h' (fun v h2 => tz D (σ.set i (some v)) h2) E) : tSeq (tAsg (tCall sp [u] E ts) (gName i)) tz D σ h :=
  x h e _ fun vs b' h' g hv => k (vs ++ [u]) b' h' g (hv.append (DtA.one (hu b')))
end
end Md


set_option Elab.async false
set_option linter.all false
set_option maxRecDepth 100000
set_option maxHeartbeats 2000000
/-! What is reached; ways to a place. -/
namespace Md
open PySem L2 Evl
inductive Reach (C : List PlC) (x : Nat) : Nat → Prop
  | refl : Reach C x x
  | step {y : Nat} {q : BrC} : Reach C x y → q ∈ (plC C y).bs → Reach C x q.2
theorem Reach.trans {C : List PlC} {x y z : Nat} (h : Reach C x y) (g : Reach C y z) : Reach C x z := by
  induction g with
  | refl => exact h
  | step _ hq ih => exact ih.step hq
theorem Reach.lt {C : List PlC} (h : WfC C) {x y : Nat} (hx : x < C.length) (g : Reach C x y) : y < C.length := by
  induction g with
  | refl => exact hx
  | step _ hq ih => exact ((plC_wf h ih).q _ hq).2.2
noncomputable def reachL (C : List PlC) (x : Nat) : List Nat := (List.range C.length).filter fun y => @decide (Reach C x y) (Classical.propDecidable _)
theorem mem_reachL {C : List PlC} (h : WfC C) {x y : Nat} (hx : x < C.length) : y ∈ reachL C x ↔ Reach C x y := by
  unfold reachL
  rw [List.mem_filter, List.mem_range]
  exact ⟨fun z => @of_decide_eq_true _ (Classical.propDecidable _) z.2, fun z => ⟨z.lt h hx, @decide_eq_true _ (Classical.propDecidable _) z⟩⟩
theorem range_sorted (n : Nat) : (List.range n).Pairwise (· < ·) := List.pairwise_lt_range
theorem sorted_ext : ∀ {l m : List Int}, l.Pairwise (· < ·) → m.Pairwise (· < ·) → (∀ y, y ∈ l ↔ y ∈ m) → l = m
  | [], [], _, _, _ => rfl
  | [], b :: m, _, _, h => by
    have := (h b).mpr (List.mem_cons_self ..)
    cases this
  | a :: l, [], _, _, h => by
    have := (h a).mp (List.mem_cons_self ..)
    cases this
  | a :: l, b :: m, hl, hm, h => by
    rw [List.pairwise_cons] at hl hm
    have e : a = b := by
      have h1 := (h a).mp (List.mem_cons_self ..)
      have h2 := (h b).mpr (List.mem_cons_self ..)
      rcases List.mem_cons.mp h1 with z | z
      · exact z
      · rcases List.mem_cons.mp h2 with y | y
        · exact y.symm
        · have := hl.1 b y
          have := hm.1 a z
          omega
    subst e
    congr 1
    refine sorted_ext hl.2 hm.2 fun y => ⟨fun hy => ?_, fun hy => ?_⟩
    · rcases List.mem_cons.mp ((h y).mp (List.mem_cons_of_mem _ hy)) with z | z
      · have := hl.1 y hy
        omega
      · exact z
    · rcases List.mem_cons.mp ((h y).mpr (List.mem_cons_of_mem _ hy)) with z | z
      · have := hm.1 y hy
        omega
      · exact z
/-- the sorted list of what was found -/
theorem found_sorted {C : List PlC} (h : WfC C) {x : Nat} (hx : x < C.length) {fl : List Nat} (hn : fl.Nodup) (hm : ∀ y, y ∈ fl ↔ Reach C x y) {ns : List Int} (hp : ns.Perm (fl.map fun y : Nat => (y : Int))) (hs : ns.Pairwise (· ≤ ·)) : ns = (reachL C x).map fun y : Nat => (y : Int) := by
  have hnd : ns.Nodup := by
    refine hp.nodup_iff.mpr ?_
    exact List.Pairwise.map _ (fun a b hab e => hab (by omega)) hn
  refine sorted_ext ?_ ?_ fun y => ?_
  · have := hs.and hnd
    exact this.imp fun {a b} z => by
      have h1 := z.1
      have h2 := z.2
      omega
  · refine List.Pairwise.map _ (fun a b hab => ?_) ((range_sorted C.length).filter _)
    omega
  · rw [hp.mem_iff, List.mem_map, List.mem_map]
    constructor
    · rintro ⟨z, hz, rfl⟩
      exact ⟨z, (mem_reachL h hx).mpr ((hm z).mp hz), rfl⟩
    · rintro ⟨z, hz, rfl⟩
      exact ⟨z, (hm z).mpr ((mem_reachL h hx).mp hz), rfl⟩
/-! ### the chain that is stopped at a place -/
def stopP (x : Nat) : PlC := ⟨(0, 1), [((1, 1), x)]⟩
def stopC (C : List PlC) (x : Nat) : List PlC := C.set x (stopP x)
theorem stop_len (C : List PlC) (x : Nat) : (stopC C x).length = C.length := List.length_set
theorem stop_at {C : List PlC} {x : Nat} (h : x < C.length) : plC (stopC C x) x = stopP x := by
  unfold plC stopC
  rw [List.getD_eq_getElem?_getD, List.getElem?_set, if_pos rfl, if_pos h]
  rfl
theorem stop_ne {C : List PlC} {x y : Nat} (h : y ≠ x) : plC (stopC C x) y = plC C y := by
  unfold plC stopC
  rw [List.getD_eq_getElem?_getD, List.getD_eq_getElem?_getD, List.getElem?_set, if_neg (fun z => h z.symm)]
theorem small01 : SmallN (0, 1) := ⟨by decide, by decide, by decide, by decide⟩
theorem small11 : SmallN (1, 1) := ⟨by decide, by decide, by decide, by decide⟩
theorem stop_wf {C : List PlC} (h : WfC C) {x : Nat} (hx : x < C.length) : WfC (stopC C x) := by
  refine ⟨by rw [stop_len]; exact h.l1, by rw [stop_len]; exact h.l12, fun p hp => ?_⟩
  rw [stop_len]
  rcases List.mem_or_eq_of_mem_set hp with z | z
  · exact h.p p z
  · rw [z]
    refine ⟨small01, by show 1 ≤ 1; decide, by show 1 ≤ 6; decide, fun q hq => ?_, ⟨1, by decide, by decide, fun q hq => ?_⟩, ?_⟩
    · have : q = ((1, 1), x) := List.mem_singleton.mp hq
      rw [this]
      exact ⟨small11, (show (0 : Int) < 1 by decide), hx⟩
    · have : q = ((1, 1), x) := List.mem_singleton.mp hq
      rw [this]
      exact Nat.dvd_refl 1
    · show (qN (1, 1) + 0 : Rat) = 1
      rw [q_one, Rat.add_zero]
/-- from where the play surely comes to x -/
noncomputable def sureL (C : List PlC) (x : Nat) : List Nat := (List.range C.length).filter fun i => (reachL (stopC C x) i).all fun y => decide (x ∈ reachL (stopC C x) y)
theorem mem_sureL {C : List PlC} (h : WfC C) {x i : Nat} (hx : x < C.length) : i ∈ sureL C x ↔ i < C.length ∧ ∀ y, Reach (stopC C x) i y → Reach (stopC C x) y x := by
  have hw := stop_wf h hx
  unfold sureL
  rw [List.mem_filter, List.mem_range]
  constructor
  · rintro ⟨h1, h2⟩
    refine ⟨h1, fun y hy => ?_⟩
    have hyl := hy.lt hw (by rw [stop_len]; exact h1)
    have := List.all_eq_true.mp h2 y ((mem_reachL hw (by rw [stop_len]; exact h1)).mpr hy)
    exact (mem_reachL hw hyl).mp (of_decide_eq_true this)
  · rintro ⟨h1, h2⟩
    refine ⟨h1, List.all_eq_true.mpr fun y hy => decide_eq_true ?_⟩
    have hy' := (mem_reachL hw (by rw [stop_len]; exact h1)).mp hy
    exact (mem_reachL hw (hy'.lt hw (by rw [stop_len]; exact h1))).mpr (h2 y hy')
noncomputable def beforeL (C : List PlC) (x : Nat) : List Nat := (sureL C x).filter fun i => decide (i ≠ x)
theorem mem_beforeL {C : List PlC} {x i : Nat} : i ∈ beforeL C x ↔ i ∈ sureL C x ∧ i ≠ x := by
  unfold beforeL
  rw [List.mem_filter]
  exact ⟨fun z => ⟨z.1, of_decide_eq_true z.2⟩, fun z => ⟨z.1, decide_eq_true z.2⟩⟩
theorem sure_nodup (C : List PlC) (x : Nat) : (sureL C x).Nodup := List.nodup_range.filter _
theorem before_nodup (C : List PlC) (x : Nat) : (beforeL C x).Nodup := (sure_nodup C x).filter _
theorem sure_lt {C : List PlC} {x i : Nat} (h : i ∈ sureL C x) : i < C.length := by
  unfold sureL at h
  rw [List.mem_filter, List.mem_range] at h
  exact h.1
/-- from x itself the play is at x -/
theorem sure_self {C : List PlC} (h : WfC C) {x : Nat} (hx : x < C.length) : x ∈ sureL C x := by
  refine (mem_sureL h hx).mpr ⟨hx, fun y hy => ?_⟩
  have : y = x := by
    induction hy with
    | refl => rfl
    | step _ hq ih =>
      rw [ih, stop_at hx] at hq
      have := List.mem_singleton.mp hq
      rw [this]
  rw [this]
  exact .refl
/-- a part without x that is never left is not surely left -/
theorem out_before {C : List PlC} (h : WfC C) {x : Nat} (hx : x < C.length) : Out C (beforeL C x) := by
  intro Z ⟨z, hz⟩ hZ
  refine Classical.byContradiction fun hno => ?_
  have hcl : ∀ y, Z y → ∀ q ∈ (plC C y).bs, Z q.2 := fun y hy q hq => Classical.byContradiction fun hn => hno ⟨y, hy, q, hq, hn⟩
  have hzb := mem_beforeL.mp (hZ z hz)
  have key : ∀ y, Reach (stopC C x) z y → Z y := fun y hy => by
    induction hy with
    | refl => exact hz
    | step _ hq ih =>
      have := (mem_beforeL.mp (hZ _ ih)).2
      rw [stop_ne this] at hq
      exact hcl _ ih _ hq
  have := ((mem_sureL h hx).mp hzb.1).2 z .refl
  exact (mem_beforeL.mp (hZ x (key x this))).2 rfl
/-- the targets of a place before x are surely before x, or x -/
theorem sure_step {C : List PlC} (h : WfC C) {x i : Nat} (hx : x < C.length) (hi : i ∈ beforeL C x) {q : BrC} (hq : q ∈ (plC C i).bs) : q.2 ∈ sureL C x := by
  obtain ⟨h1, h2⟩ := mem_beforeL.mp hi
  obtain ⟨h3, h4⟩ := (mem_sureL h hx).mp h1
  refine (mem_sureL h hx).mpr ⟨((plC_wf h h3).q q hq).2.2, fun y hy => h4 y ?_⟩
  have : q ∈ (plC (stopC C x) i).bs := by rw [stop_ne h2]; exact hq
  exact (Reach.step .refl this).trans hy
/-! ### rules -/
section
variable {K : PySem.W.Frag} {σ : L2.St} {b h : Hp} {te tl ta tb : TE} {t : TT} {ts tk : TA} {E : XK} {D : Ends} {tz : TS} {C : List PlC} {d : PyData} {ds : List PyData} {a : Addr} {us : List V}
theorem ed_if {c : Bool} (x : EvT t σ b c) (h1 : c = true → ED K ta σ b d) (h2 : c = false → ED K tb σ b d) : ED K (tIf t ta tb) σ b d := fun h e Q q => x h e _ fun h' e' => by
  cases c with
  | true => exact h1 rfl h' (e.trans e') Q fun v b2 h2 g hv => q v b2 h2 ((Gr.stay e e').trans g) hv
  | false => exact h2 rfl h' (e.trans e') Q fun v b2 h2 g hv => q v b2 h2 ((Gr.stay e e').trans g) hv
theorem r_setLq {j i k : Nat} (x : EDh K te σ b h d) (hq : h a = some (.lst us)) (nb : b a = none) (s1 : σ[i]? = some (some (.ref a))) (s2 : σ[k]? = some (some (.int (j : Int)))) (hj : j < us.length)
    (kk : ∀ v b' h', Gr b h b' h' → b' a = none → h' a = some (.lst us) → Dt K b' v d → tz D σ (upd h' a (.lst (us.set j v)))) : tSeq (tAsg te (gSub (tVar i) (tVar k) rSetL)) tz D σ h := r_setL (D := { D with nx := tz D }) x hq nb s1 s2 hj kk
theorem en_lcE {vs : List Nat} {i j n : Nat} (x : ED K ta σ b (.list ds)) (hn : n = ds.length) (hz : n ≤ 40000) (f : Nat → Bool) (r : Nat → PyData) (hw : ∀ x y, wipe (((wipe σ vs).set i (some x)).set j (some y)) vs = wipe σ vs)
    (hs : ∀ (k : Nat) (d : PyData) (v : V) (b2 : Hp), Ex b b2 → ds[k]? = some d → Dt K b2 v d → EvT t (((wipe σ vs).set i (some (.int (k : Int)))).set j (some v)) b2 (f k) ∧ (f k = true → ED K te (((wipe σ vs).set i (some (.int (k : Int)))).set j (some v)) b2 (r k))) :
    EN K (tLc (iEnum K (tCons ta tNil)) (gTup K 2 (gCons (gName i) (gCons (gName j) gNil))) t te vs) σ b (givenD n f r) := fun h e _ q =>
  x h e _ fun v1 b1 h1 g1 hv1 => by
    obtain ⟨a1, xs, rfl, k1, k2⟩ := hv1.listI
    subst hn
    refine ⟨a1, xs, rfl, sq_of (g1.gi _ _ k1), fun Dl hD => ?_⟩
    have w := walk_enum (K := K) (a := a1) (xs := xs)
    rw [k2.length] at w
    refine lc_data w f r g1.gi hD hz (fun h' e' => sq_of (e' _ _ (g1.gi _ _ k1))) (fun k z b3 h3 h4 hk e3 g3 hy => ?_) (fun b3 h3 us g3 nb hu hA => q Dl us b3 h3 (gone g1 hD) nb (g1.trans g3) hu hA)
    obtain ⟨T, w1, w2, rfl, nT, rfl, hw1, hw2⟩ := hy
    cases (Option.some.inj hw1)
    obtain ⟨d2, hd2, q2⟩ := k2.getV (show xs[k]? = some w2 from hw2)
    have g4 := Gr.new (o := .tup [V.int (k : Nat), w2]) g3.gi nT
    have q2' := (q2.up g3.gb).up g4.gb
    refine ⟨_, g4, fun Q kk => ?_⟩
    refine g_two (Dt.tuple (st_of upd_same) (DtA.cons (Dt.int (k : Int)) (DtA.one q2'))) g4.gi fun u1 u2 p1 p2 => ?_
    obtain rfl := p1.intI
    have z := hs k d2 u2 _ ((g1.gb.trans g3.gb).trans g4.gb) hd2 p2
    exact kk _ (hw _ u2) z.1 z.2
theorem filter_idx {α : Type} (l : List α) (a : α) (p : α → Bool) : ((List.range l.length).filter fun i => p (l.getD i a)).map (fun i => l.getD i a) = l.filter p := by
  have : l = (List.range l.length).map fun i => l.getD i a := by
    have := map_getDn l a id
    rw [List.map_id] at this
    exact this.symm
  conv => rhs; rw [this]
  rw [List.filter_map]
  rfl
/-- [j for j in l if ..], of places -/
theorem en_filtN {vs : List Nat} {j : Nat} {l : List Nat} (p : Nat → Bool) (x : ED K tl σ b (natsD l)) (hz : l.length ≤ 40000) (hw : ∀ x, wipe ((wipe σ vs).set j (some x)) vs = wipe σ vs) (hj : ∀ v, ((wipe σ vs).set j (some v))[j]? = some (some v))
    (hs : ∀ y ∈ l, ∀ b2, Ex b b2 → EvT t ((wipe σ vs).set j (some (.int (y : Int)))) b2 (p y)) : EN K (tLc (iList K tl) (gName j) t (tVar j) vs) σ b ((l.filter p).map fun y : Nat => PyData.int (y : Int)) := by
  have e : ((l.filter p).map fun y : Nat => PyData.int (y : Int)) = givenD (l.map fun y : Nat => PyData.int (y : Int)).length (fun i => p (l.getD i 0)) (fun i => PyData.int (l.getD i 0 : Int)) := by
    unfold givenD
    rw [List.length_map, ← filter_idx l 0 p, List.map_map]
    rfl
  rw [e]
  refine en_lcL (ds := l.map fun y : Nat => PyData.int (y : Int)) x (by rw [List.length_map]; exact hz) _ _ hw fun i d v b2 e2 hd hv => ?_
  have hi : i < l.length := by
    have := (List.getElem?_eq_some_iff.mp hd).1
    rwa [List.length_map] at this
  rw [List.getElem?_map, nats_get hi] at hd
  cases hd
  obtain rfl := hv.intI
  exact ⟨hs _ (getD_mem hi) b2 e2, fun _ => ed_int (ev_var (hj _))⟩
theorem plG_D (p : PlC) : (plG p).D = p.D := by
  show PyData.tuple [nD p.g, .str "draw", .list ((p.bs.map fun q => (q.1, (q.2 : Int))).map brD)] = PyData.tuple [nD p.g, .str "draw", .list (p.bs.map brC)]
  rw [List.map_map]
  rfl
theorem ed_targetsC {p : PlC} (y : EDA K ts σ b [p.D]) (hl : p.bs.length ≤ 6) : ED K (tCall (spTargets K) [] E ts) σ b (natsD (p.bs.map (·.2))) := by
  rw [← plG_D] at y
  have := ed_targets (E := E) y (by show ((p.bs.map fun q => (q.1, (q.2 : Int))).map brD).length ≤ 6; rw [List.length_map, List.length_map]; exact hl)
  have e : intsD (plG p).tg = natsD (p.bs.map (·.2)) := by
    show PyData.list (((p.bs.map fun q => (q.1, (q.2 : Int))).map (·.2)).map PyData.int) = PyData.list ((p.bs.map (·.2)).map fun x : Nat => PyData.int (x : Int))
    rw [List.map_map, List.map_map, List.map_map]
    rfl
  rw [e] at this
  exact this
end
def spReach (K : PySem.W.Frag) : Sp := fun vs h Q _ => ∃ (b : Hp) (C : List PlC) (x : Nat), Ex b h ∧ DtA K b vs [chD C, .int (x : Int)] ∧ WfC C ∧ x < C.length ∧ ∀ v b' h', Gr b h b' h' → Dt K b' v (natsD (reachL C x)) → Q v h'
def spSure (K : PySem.W.Frag) : Sp := fun vs h Q _ => ∃ (b : Hp) (C : List PlC) (x : Nat), Ex b h ∧ DtA K b vs [chD C, .int (x : Int)] ∧ WfC C ∧ x < C.length ∧ ∀ v b' h', Gr b h b' h' → Dt K b' v (natsD (sureL C x)) → Q v h'
noncomputable def waysD (C : List PlC) (x : Nat) (f : Nat → Rat) : PyData := .list ((List.range C.length).map fun y => if y ∈ sureL C x then nQ (f y) else .none)
def spUntil (K : PySem.W.Frag) : Sp := fun vs h Q _ => ∃ (b : Hp) (C : List PlC) (x : Nat) (e : Nat → Rat) (M B : Nat), Ex b h ∧ DtA K b vs [chD C, .int (x : Int), listQ C.length e] ∧ WfC C ∧ x < C.length ∧ 0 < M ∧ 1 ≤ B ∧ B * M < 2 ^ 900 ∧ (∀ y, y < C.length → NB M B (e y)) ∧
  ∀ v b' h' f D, Gr b h b' h' → IsFill C (beforeL C x) e (fun _ => 0) f → 0 < D → D ≤ 288 ^ 12 → (∀ y, y < C.length → NB (M * D) (B * 2 ^ 110) (f y)) → Dt K b' v (waysD C x f) → OwnF h b' v → Q v h'
def spWays (K : PySem.W.Frag) : Sp := fun vs h Q _ => ∃ (b : Hp) (C : List PlC) (x : Nat), Ex b h ∧ DtA K b vs [chD C, .int (x : Int)] ∧ WfC C ∧ x < C.length ∧
  ∀ v b' h' f D, Gr b h b' h' → IsFill C (beforeL C x) (fun _ => 1) (fun _ => 0) f → 0 < D → D ≤ 288 ^ 12 → (∀ y, y < C.length → NB (1 * D) (1 * 2 ^ 110) (f y)) → Dt K b' v (waysD C x f) → OwnF h b' v → Q v h'
section
variable {K : PySem.W.Frag} {σ : L2.St} {b h : Hp} {ts : TA} {E : XK} {C : List PlC} {x : Nat}
theorem ed_reach (y : EDA K ts σ b [chD C, .int (x : Int)]) (h1 : WfC C) (h2 : x < C.length) : ED K (tCall (spReach K) [] E ts) σ b (natsD (reachL C x)) := fun h e _ qq =>
  y h e _ fun vs b2 h2' g2 hv => ⟨b2, C, x, g2.gi, by rw [List.append_nil]; exact hv, h1, h2, fun v b3 h3 g3 hv3 => qq v b3 h3 (g2.trans g3) hv3⟩
theorem ed_sure (y : EDA K ts σ b [chD C, .int (x : Int)]) (h1 : WfC C) (h2 : x < C.length) : ED K (tCall (spSure K) [] E ts) σ b (natsD (sureL C x)) := fun h e _ qq =>
  y h e _ fun vs b2 h2' g2 hv => ⟨b2, C, x, g2.gi, by rw [List.append_nil]; exact hv, h1, h2, fun v b3 h3 g3 hv3 => qq v b3 h3 (g2.trans g3) hv3⟩
end
end Md
namespace Md
open PySem L2 Evl
theorem r_retC {K : PySem.W.Frag} {σ : L2.St} {b h : Hp} {ts : TA} {ds : List PyData} {sp : Sp} {E : XK} {D : Ends} (y : EDA K ts σ b ds) (e : Ex b h) (k : ∀ vs b' h', Gr b h b' h' → DtA K b' vs ds → sp vs h' (fun v h2 => D.rt v h2) E) : tRet (tCall sp [] E ts) D σ h :=
  y h e _ fun vs b' h' g hv => by
    have := k vs b' h' g hv
    rw [List.append_nil]
    exact this
end Md
namespace Md
open PySem L2 Evl
theorem r_retCD {K : PySem.W.Frag} {σ : L2.St} {b h : Hp} {ts : TA} {ds : List PyData} {sp : Sp} {E : XK} {D : Ends} {u : V} {du : PyData} (hu : ∀ H, Dt K H u du) (y : EDA K ts σ b ds) (e : Ex b h) (k : ∀ vs b' h', Gr b h b' h' → DtA K b' vs (ds ++ [du]) → sp vs h' (fun v h2 => D.rt v h2) E) : tRet (tCall sp [u] E ts) D σ h :=
  y h e _ fun vs b' h' g hv => k (vs ++ [u]) b' h' g (hv.append (DtA.one (hu b')))
end Md
namespace Md
open PySem L2 Evl
theorem okD {P : Program} {w : World} {K : PySem.W.Frag} {mg : Str → Option Value} {base : Heap} {x : Str} {st : Stmt} {f : Addr} {fd : FuncData} {N ps : List Str} {k : Nat} {sp : Sp} {dvs : List V} (F : FunD K x x (defArgs st) (defBody st) (defScope st) dvs [] f fd) (S : FnScope N ps (defScope st)) (len : ∀ vs H Q E, sp vs H Q E → vs.length = ps.length)
    (hbody : ∀ (cdv : Value) (A : PySem.Around) (outer : List Env) (s : Shared) (H : Hp) (vs : List V) (Q : VK) (E : XK), Room k (A.deeper (PyProof.Rows.envOfC x (defScope st) s.heap.objs.size f cdv)) → sp vs H Q E →
      ∃ t, PSs (cxOf CX0 P w K mg base N x (defScope st) f cdv A outer s H E).nox (defBody st) t ∧ t { nx := fun _ H' => Q .non H', rt := Q } (start N vs) H) : FnOk P w K mg base CX0 (k + 1) f fd ps sp :=
  F.ok S len fun cdv A outer s H vs Q E hr hsp => by
    obtain ⟨t, h, q⟩ := hbody cdv A outer s H vs Q E hr hsp
    exact ⟨t, h.nox, q⟩
end Md


set_option Elab.async false
set_option linter.all false
set_option maxRecDepth 100000
set_option maxHeartbeats 2000000
/-! Passes over the places until nothing is added. -/
namespace Md
open PySem L2 Evl
/-- k is added -/
def addC (g : Nat → Bool) (tg : Nat → List Nat) (S : List Nat) (k : Nat) : Bool := g k && (!decide (k ∈ S) && ((tg k).map fun t => decide (t ∈ S)).any id)
def addB (g : Nat → Bool) (tg : Nat → List Nat) (S : List Nat) (k : Nat) : List Nat := if addC g tg S k = true then S ++ [k] else S
def passK (g : Nat → Bool) (tg : Nat → List Nat) (S : List Nat) (k : Nat) : List Nat := (List.range k).foldl (addB g tg) S
def passT (g : Nat → Bool) (tg : Nat → List Nat) (n : Nat) (S : List Nat) : Nat → List Nat
  | 0 => S
  | t + 1 => passK g tg (passT g tg n S t) n
theorem passK_succ (g : Nat → Bool) (tg : Nat → List Nat) (S : List Nat) (k : Nat) : passK g tg S (k + 1) = addB g tg (passK g tg S k) k := by
  unfold passK
  rw [List.range_succ, List.foldl_append]
  rfl
theorem addC_iff {g : Nat → Bool} {tg : Nat → List Nat} {S : List Nat} {k : Nat} : addC g tg S k = true ↔ g k = true ∧ k ∉ S ∧ ∃ t ∈ tg k, t ∈ S := by
  unfold addC
  rw [Bool.and_eq_true, Bool.and_eq_true, Bool.not_eq_true', decide_eq_false_iff_not, List.any_map, List.any_eq_true]
  constructor
  · rintro ⟨h1, h2, t, ht, h3⟩
    exact ⟨h1, h2, t, ht, of_decide_eq_true h3⟩
  · rintro ⟨h1, h2, t, ht, h3⟩
    exact ⟨h1, h2, t, ht, decide_eq_true h3⟩
inductive Back (g : Nat → Bool) (tg : Nat → List Nat) (n : Nat) (S : List Nat) : Nat → Prop
  | base {y : Nat} : y ∈ S → Back g tg n S y
  | step {k t : Nat} : k < n → g k = true → t ∈ tg k → Back g tg n S t → Back g tg n S k
/-- what holds along the passes -/
structure PInv (g : Nat → Bool) (tg : Nat → List Nat) (n : Nat) (S0 S : List Nat) : Prop where
  nd : S.Nodup
  lt : ∀ y ∈ S, y < n
  sub : ∀ y ∈ S0, y ∈ S
  bk : ∀ y ∈ S, Back g tg n S0 y
variable {g : Nat → Bool} {tg : Nat → List Nat} {n : Nat} {S0 S : List Nat}
theorem pinv_add (h : PInv g tg n S0 S) {k : Nat} (hk : k < n) : PInv g tg n S0 (addB g tg S k) ∧ (∀ y ∈ S, y ∈ addB g tg S k) := by
  unfold addB
  by_cases c : addC g tg S k = true
  · rw [if_pos c]
    obtain ⟨c1, c2, t, c3, c4⟩ := addC_iff.mp c
    refine ⟨⟨?_, fun y hy => ?_, fun y hy => List.mem_append_left _ (h.sub y hy), fun y hy => ?_⟩, fun y hy => List.mem_append_left _ hy⟩
    · rw [List.nodup_append]
      refine ⟨h.nd, by simp, fun a ha b hb => ?_⟩
      rw [List.mem_singleton.mp hb]
      intro e
      exact c2 (by rw [← e]; exact ha)
    · rcases List.mem_append.mp hy with z | z
      · exact h.lt y z
      · rw [List.mem_singleton.mp z]
        exact hk
    · rcases List.mem_append.mp hy with z | z
      · exact h.bk y z
      · rw [List.mem_singleton.mp z]
        exact .step hk c1 c3 (h.bk t c4)
  · rw [if_neg c]
    exact ⟨h, fun y hy => hy⟩
theorem pinv_pass (h : PInv g tg n S0 S) : ∀ k, k ≤ n → PInv g tg n S0 (passK g tg S k) ∧ (∀ y ∈ S, y ∈ passK g tg S k)
  | 0, _ => ⟨h, fun y hy => hy⟩
  | k + 1, hk => by
    obtain ⟨h1, h2⟩ := pinv_pass h k (by omega)
    obtain ⟨h3, h4⟩ := pinv_add h1 (k := k) (by omega)
    rw [passK_succ]
    exact ⟨h3, fun y hy => h4 y (h2 y hy)⟩
def Closed (g : Nat → Bool) (tg : Nat → List Nat) (n : Nat) (S : List Nat) : Prop := ∀ k, k < n → g k = true → (∃ t ∈ tg k, t ∈ S) → k ∈ S
/-- what is closed stays; else something is added -/
theorem pass_grow (h : PInv g tg n S0 S) : Closed g tg n (passK g tg S n) ∧ passK g tg S n = S ∨ S.length + 1 ≤ (passK g tg S n).length := by
  by_cases hc : Closed g tg n S
  · left
    have key : ∀ k, k ≤ n → passK g tg S k = S := by
      intro k
      induction k with
      | zero => intro _; rfl
      | succ k ih =>
        intro hk
        rw [passK_succ, ih (by omega)]
        unfold addB
        rw [if_neg]
        intro c
        obtain ⟨c1, c2, c3⟩ := addC_iff.mp c
        exact c2 (hc k (by omega) c1 c3)
    rw [key n (Nat.le_refl _)]
    exact ⟨hc, rfl⟩
  · right
    obtain ⟨k, hk, hg, ⟨t, ht, hts⟩, hns⟩ : ∃ k, k < n ∧ g k = true ∧ (∃ t ∈ tg k, t ∈ S) ∧ k ∉ S := by
      refine Classical.byContradiction fun hno => hc fun k hk hg ht => Classical.byContradiction fun hns => hno ⟨k, hk, hg, ht, hns⟩
    have hkm : k ∈ passK g tg S (k + 1) := by
      rw [passK_succ]
      unfold addB
      by_cases c : addC g tg (passK g tg S k) k = true
      · rw [if_pos c]
        exact List.mem_append_right _ (List.mem_singleton.mpr rfl)
      · rw [if_neg c]
        refine Classical.byContradiction fun hno => c (addC_iff.mpr ⟨hg, hno, t, ht, (pinv_pass h k (by omega)).2 t hts⟩)
    have mono : ∀ j, k + 1 ≤ j → j ≤ n → ∀ y ∈ passK g tg S (k + 1), y ∈ passK g tg S j := by
      intro j hj
      induction j with
      | zero => omega
      | succ j ih =>
        intro hjn y hy
        rcases Nat.lt_or_ge j (k + 1) with z | z
        · obtain rfl : j = k := by omega
          exact hy
        · rw [passK_succ]
          exact (pinv_add (pinv_pass h j (by omega)).1 (by omega)).2 y (ih z (by omega) y hy)
    obtain ⟨hP, hS⟩ := pinv_pass h n (Nat.le_refl _)
    have hk2 := mono n (by omega) (Nat.le_refl _) k hkm
    -- S and k are among them
    have hnd : (S ++ [k]).Nodup := by
      rw [List.nodup_append]
      refine ⟨h.nd, by simp, fun a ha b hb => ?_⟩
      rw [List.mem_singleton.mp hb]
      intro e
      exact hns (by rw [← e]; exact ha)
    have hsub : ∀ y ∈ S ++ [k], y ∈ passK g tg S n := fun y hy => by
      rcases List.mem_append.mp hy with z | z
      · exact hS y z
      · rw [List.mem_singleton.mp z]
        exact hk2
    have := hnd.length_le_of_subset hsub
    rw [List.length_append] at this
    exact this
theorem pass_inv (h : PInv g tg n S0 S0) : ∀ t, PInv g tg n S0 (passT g tg n S0 t) ∧ (Closed g tg n (passT g tg n S0 t) ∨ t + S0.length ≤ (passT g tg n S0 t).length)
  | 0 => ⟨h, .inr (by show 0 + S0.length ≤ S0.length; omega)⟩
  | t + 1 => by
    obtain ⟨h1, h2⟩ := pass_inv h t
    have h3 := (pinv_pass h1 n (Nat.le_refl _)).1
    refine ⟨h3, ?_⟩
    show Closed g tg n (passK g tg _ n) ∨ _ ≤ (passK g tg _ n).length
    rcases pass_grow h1 with ⟨z, _⟩ | z
    · exact .inl z
    · rcases h2 with y | y
      · have : passK g tg (passT g tg n S0 t) n = passT g tg n S0 t := by
          rcases pass_grow h1 with ⟨_, e⟩ | z2
          · exact e
          · -- closed: nothing is added
            exfalso
            have key : ∀ k, k ≤ n → passK g tg (passT g tg n S0 t) k = passT g tg n S0 t := by
              intro k
              induction k with
              | zero => intro _; rfl
              | succ k ih =>
                intro hk
                rw [passK_succ, ih (by omega)]
                unfold addB
                rw [if_neg]
                intro c
                obtain ⟨c1, c2, c3⟩ := addC_iff.mp c
                exact c2 (y k (by omega) c1 c3)
            rw [key n (Nat.le_refl _)] at z2
            omega
        rw [this]
        exact .inl y
      · exact .inr (by omega)
/-- n passes are enough -/
theorem pass_end (h : PInv g tg n S0 S0) (hn : n ≤ n) {y : Nat} (htg : ∀ k, k < n → ∀ t ∈ tg k, t < n) : y ∈ passT g tg n S0 n ↔ Back g tg n S0 y := by
  obtain ⟨h1, h2⟩ := pass_inv h n
  refine ⟨h1.bk y, fun hb => ?_⟩
  by_cases hS : S0 = []
  · subst hS
    exfalso
    induction hb with
    | base hy => cases hy
    | step _ _ _ _ ih => exact ih
  · have hc : Closed g tg n (passT g tg n S0 n) := by
      rcases h2 with z | z
      · exact z
      · have h3 := nodup_len h1.nd h1.lt
        have h4 : 0 < S0.length := List.length_pos_iff.mpr hS
        omega
    induction hb with
    | base hy => exact h1.sub _ hy
    | step hk hg ht _ ih => exact hc _ hk hg ⟨_, ht, ih⟩
/-! ### the two kinds of passes -/
def tgC (C : List PlC) (k : Nat) : List Nat := (plC C k).bs.map (·.2)
theorem mem_tgC {C : List PlC} {k t : Nat} : t ∈ tgC C k ↔ ∃ q ∈ (plC C k).bs, q.2 = t := by
  unfold tgC
  rw [List.mem_map]
def comeL (C : List PlC) (x : Nat) : List Nat := passT (fun _ => true) (tgC C) C.length [x] C.length
def missS (C : List PlC) (x : Nat) : List Nat := (List.range C.length).filter fun k => !decide (k ∈ comeL C x)
def missL (C : List PlC) (x : Nat) : List Nat := passT (fun k => decide (k ≠ x)) (tgC C) C.length (missS C x) C.length
theorem tgC_lt {C : List PlC} (h : WfC C) : ∀ k, k < C.length → ∀ t ∈ tgC C k, t < C.length := fun k hk t ht => by
  obtain ⟨q, hq, rfl⟩ := mem_tgC.mp ht
  exact ((plC_wf h hk).q q hq).2.2
theorem pinv_one {C : List PlC} {x : Nat} (hx : x < C.length) : PInv (fun _ => true) (tgC C) C.length [x] [x] := ⟨by simp, fun y hy => by rw [List.mem_singleton.mp hy]; exact hx, fun y hy => hy, fun y hy => .base hy⟩
theorem pinv_miss (C : List PlC) (x : Nat) : PInv (fun k => decide (k ≠ x)) (tgC C) C.length (missS C x) (missS C x) := ⟨List.nodup_range.filter _, fun y hy => by
  unfold missS at hy
  rw [List.mem_filter, List.mem_range] at hy
  exact hy.1, fun y hy => hy, fun y hy => .base hy⟩
theorem reach_head {C : List PlC} {k t z : Nat} {q : BrC} (hq : q ∈ (plC C k).bs) (e : q.2 = t) (h : Reach C t z) : Reach C k z := by
  subst e
  exact (Reach.step .refl hq).trans h
theorem mem_come {C : List PlC} (h : WfC C) {x y : Nat} (hx : x < C.length) (hy : y < C.length) : y ∈ comeL C x ↔ Reach C y x := by
  unfold comeL
  rw [pass_end (pinv_one hx) (Nat.le_refl _) (tgC_lt h)]
  constructor
  · intro hb
    induction hb with
    | base hm =>
      rw [List.mem_singleton.mp hm]
      exact .refl
    | step hk _ ht _ ih =>
      obtain ⟨q, hq, e⟩ := mem_tgC.mp ht
      exact reach_head hq e (ih (tgC_lt h _ hk _ ht))
  · intro hr
    have key : ∀ z, Reach C y z → Back (fun _ => true) (tgC C) C.length [x] z → Back (fun _ => true) (tgC C) C.length [x] y := by
      intro z hz
      induction hz with
      | refl => exact fun h => h
      | step hz' hq ih => exact fun hb => ih (.step (hz'.lt h hy) rfl (mem_tgC.mpr ⟨_, hq, rfl⟩) hb)
    exact key x hr (.base (List.mem_singleton.mpr rfl))
theorem stop_reach {C : List PlC} {x y z : Nat} (hx : x < C.length) (h : Reach (stopC C x) y z) : Reach C y z := by
  induction h with
  | refl => exact .refl
  | step hz hq ih =>
    rename_i w q
    by_cases e : w = x
    · rw [e, stop_at hx] at hq
      have hq2 : q = ((1, 1), x) := List.mem_singleton.mp hq
      rw [hq2]
      rw [e] at ih
      exact ih
    · rw [stop_ne e] at hq
      exact ih.step hq
theorem reach_stop {C : List PlC} {x y z : Nat} (h : Reach C y z) : Reach (stopC C x) y z ∨ Reach (stopC C x) y x := by
  induction h with
  | refl => exact .inl .refl
  | step hz hq ih =>
    rename_i w q
    rcases ih with ih | ih
    · by_cases e : w = x
      · rw [e] at ih
        exact .inr ih
      · exact .inl (ih.step (by rw [stop_ne e]; exact hq))
    · exact .inr ih
theorem mem_miss {C : List PlC} (h : WfC C) {x k : Nat} (hx : x < C.length) (hk : k < C.length) : k ∈ missL C x ↔ ¬ k ∈ sureL C x := by
  have hS : ∀ y, y ∈ missS C x ↔ y < C.length ∧ ¬ Reach C y x := fun y => by
    unfold missS
    rw [List.mem_filter, List.mem_range]
    constructor
    · rintro ⟨h1, h2⟩
      refine ⟨h1, fun hr => ?_⟩
      rw [decide_eq_true ((mem_come h hx h1).mpr hr)] at h2
      cases h2
    · rintro ⟨h1, h2⟩
      refine ⟨h1, ?_⟩
      rw [decide_eq_false fun z => h2 ((mem_come h hx h1).mp z)]
      rfl
  unfold missL
  rw [pass_end (pinv_miss C x) (Nat.le_refl _) (tgC_lt h)]
  constructor
  · intro hb
    suffices ∃ y, Reach (stopC C x) k y ∧ ¬ Reach (stopC C x) y x from fun hs => by
      obtain ⟨y, h1, h2⟩ := this
      exact h2 (((mem_sureL h hx).mp hs).2 y h1)
    induction hb with
    | base hm => exact ⟨_, .refl, fun hr => ((hS _).mp hm).2 (stop_reach hx hr)⟩
    | step hk' hg ht _ ih =>
      obtain ⟨q, hq, e⟩ := mem_tgC.mp ht
      obtain ⟨y, h1, h2⟩ := ih (tgC_lt h _ hk' _ ht)
      have hne := of_decide_eq_true hg
      exact ⟨y, reach_head (by rw [stop_ne hne]; exact hq) e h1, h2⟩
  · intro hns
    obtain ⟨y, h1, h2⟩ : ∃ y, Reach (stopC C x) k y ∧ ¬ Reach (stopC C x) y x := by
      refine Classical.byContradiction fun hno => hns ((mem_sureL h hx).mpr ⟨hk, fun y hy => Classical.byContradiction fun hn => hno ⟨y, hy, hn⟩⟩)
    have hyl : y < C.length := by
      have := h1.lt (stop_wf h hx) (by rw [stop_len]; exact hk)
      rwa [stop_len] at this
    have hb : Back (fun k => decide (k ≠ x)) (tgC C) C.length (missS C x) y := .base ((hS y).mpr ⟨hyl, fun hr => by
      rcases reach_stop (x := x) hr with z | z
      · exact h2 z
      · exact h2 z⟩)
    have nox : ¬ Back (fun k => decide (k ≠ x)) (tgC C) C.length (missS C x) x := fun hb => by
      cases hb with
      | base hm => exact ((hS x).mp hm).2 .refl
      | step _ hg _ _ => exact of_decide_eq_true hg rfl
    have key : ∀ z, Reach (stopC C x) k z → Back (fun k => decide (k ≠ x)) (tgC C) C.length (missS C x) z → Back (fun k => decide (k ≠ x)) (tgC C) C.length (missS C x) k := by
      intro z hz
      induction hz with
      | refl => exact fun h => h
      | step hz' hq ih =>
        rename_i w q
        intro hb
        by_cases e : w = x
        · rw [e, stop_at hx] at hq
          have hq2 : q = ((1, 1), x) := List.mem_singleton.mp hq
          rw [hq2] at hb
          exact (nox hb).elim
        · rw [stop_ne e] at hq
          have hwl : w < C.length := by
            have := hz'.lt (stop_wf h hx) (by rw [stop_len]; exact hk)
            rwa [stop_len] at this
          exact ih (.step hwl (decide_eq_true e) (mem_tgC.mpr ⟨q, hq, rfl⟩) hb)
    exact key y h1 hb
end Md
namespace Md
open PySem L2 Evl
def spMinusQ (K : PySem.W.Frag) : Sp := fun vs h Q _ => ∃ (b : Hp) (r s : Rat), Ex b h ∧ DtA K b vs [nQ r, nQ s] ∧ Big 900 (canon r) ∧ Big 900 (canon s) ∧ ∀ v b' h', Gr b h b' h' → Dt K b' v (nQ (r - s)) → Q v h'
def spTotL (K : PySem.W.Frag) : Sp := fun vs h Q _ => ∃ (b : Hp) (l : List Rat), Ex b h ∧ DtA K b vs [ratsD l] ∧ l.length ≤ 1000 ∧ (∀ i, i ≤ l.length → Big 900 (canon (l.take i).sum)) ∧ (∀ r ∈ l, Big 900 (canon r)) ∧ ∀ v b' h', Gr b h b' h' → Dt K b' v (nQ l.sum) → Q v h'
noncomputable def sureB (C : List PlC) (x : Nat) : PyData := .list ((List.range C.length).map fun k => PyData.bool (decide (k ∈ sureL C x)))
def spLSure (K : PySem.W.Frag) : Sp := fun vs h Q _ => ∃ (b : Hp) (C : List PlC) (x : Nat), Ex b h ∧ DtA K b vs [chD C, .int (x : Int)] ∧ WfC C ∧ x < C.length ∧ ∀ v b' h', Gr b h b' h' → Dt K b' v (sureB C x) → Q v h'
def spLine (K : PySem.W.Frag) : Sp := fun vs h Q _ => ∃ (b : Hp) (ds : List Int), Ex b h ∧ DtA K b vs [.list (ds.map PyData.int)] ∧ ds.length = 6 ∧ (∀ d ∈ ds, 0 ≤ d ∧ d < 1000) ∧ ∀ v b' h' C, Gr b h b' h' → WfC C → Dt K b' v (chD C) → Q v h'
section
variable {K : PySem.W.Frag} {σ : L2.St} {b h : Hp} {ts : TA} {E : XK} {C : List PlC} {x : Nat} {r s : Rat}
theorem ed_minusQ (y : EDA K ts σ b [nQ r, nQ s]) (h1 : Big 900 (canon r)) (h2 : Big 900 (canon s)) : ED K (tCall (spMinusQ K) [] E ts) σ b (nQ (r - s)) := fun h e _ qq =>
  y h e _ fun vs b2 h2' g2 hv => ⟨b2, r, s, g2.gi, by rw [List.append_nil]; exact hv, h1, h2, fun v b3 h3 g3 hv3 => qq v b3 h3 (g2.trans g3) hv3⟩
theorem ed_totL {l : List Rat} (y : EDA K ts σ b [ratsD l]) (h1 : l.length ≤ 1000) (h2 : ∀ i, i ≤ l.length → Big 900 (canon (l.take i).sum)) (h3 : ∀ r ∈ l, Big 900 (canon r)) : ED K (tCall (spTotL K) [] E ts) σ b (nQ l.sum) := fun h e _ qq =>
  y h e _ fun vs b2 h2' g2 hv => ⟨b2, l, g2.gi, by rw [List.append_nil]; exact hv, h1, h2, h3, fun v b3 h3 g3 hv3 => qq v b3 h3 (g2.trans g3) hv3⟩
theorem ed_lsure (y : EDA K ts σ b [chD C, .int (x : Int)]) (h1 : WfC C) (h2 : x < C.length) : ED K (tCall (spLSure K) [] E ts) σ b (sureB C x) := fun h e _ qq =>
  y h e _ fun vs b2 h2' g2 hv => ⟨b2, C, x, g2.gi, by rw [List.append_nil]; exact hv, h1, h2, fun v b3 h3 g3 hv3 => qq v b3 h3 (g2.trans g3) hv3⟩
end
theorem neg_canon (s : Rat) : canon (-s) = (-(canon s).1, (canon s).2) := rfl
/-- the line -/
def lineP (g : Int) (a : Rat) (k : Nat) : PlC := ⟨(g, 1), [(canon a, k + 1), (canon (1 - a), k - 1)]⟩
def lineC (g : Int) (a : Rat) (last : Nat) : List PlC := ⟨(1, 1), [((1, 1), 1)]⟩ :: ((List.range (last - 1)).map fun i => lineP g a (i + 1)) ++ [⟨(0, 1), [((1, 1), last - 1)]⟩]
theorem wf_sure_one {n t : Nat} {g : Int × Int} (hg : SmallN g) (h : t < n) : WfB n ⟨g, [((1, 1), t)]⟩ := by
  refine ⟨hg, by show 1 ≤ 1; decide, by show 1 ≤ 6; decide, fun q hq => ?_, ⟨1, by decide, by decide, fun q hq => ?_⟩, ?_⟩
  · have : q = ((1, 1), t) := List.mem_singleton.mp hq
    rw [this]
    exact ⟨small11, (show (0 : Int) < 1 by decide), h⟩
  · have : q = ((1, 1), t) := List.mem_singleton.mp hq
    rw [this]
    exact Nat.dvd_refl 1
  · show (qN (1, 1) + 0 : Rat) = 1
    rw [q_one, Rat.add_zero]
theorem line_wf {g : Int} {j : Int} {last : Nat} (hg : 0 ≤ g ∧ g < 7) (hj : 1 ≤ j ∧ j ≤ 5) (hl : 1 ≤ last ∧ last ≤ 11) : WfC (lineC g ((j : Rat) / ((6 : Int) : Rat)) last) := by
  have hlen : (lineC g ((j : Rat) / ((6 : Int) : Rat)) last).length = last + 1 := by
    unfold lineC
    rw [List.length_append, List.length_cons, List.length_map, List.length_range]
    show last - 1 + 1 + 1 = _
    omega
  refine ⟨by omega, by omega, fun p hp => ?_⟩
  rw [hlen]
  unfold lineC at hp
  rcases List.mem_append.mp hp with hp | hp
  · rcases List.mem_cons.mp hp with rfl | hp
    · exact wf_sure_one small11 (by omega)
    · obtain ⟨i, hi, rfl⟩ := List.mem_map.mp hp
      have hi := List.mem_range.mp hi
      have e1 : canon ((j : Rat) / ((6 : Int) : Rat)) = num j 6 := (num_canon (by decide)).symm
      have e2 : canon (1 - (j : Rat) / ((6 : Int) : Rat)) = num (6 - j) 6 := by
        rw [num_canon (by decide), Rat.intCast_sub]
        congr 1
        have : ((6 : Int) : Rat) ≠ 0 := cast_ne (by decide)
        grind
      have s1 : SmallN (num j 6) := num_small (by omega) (by decide) (by decide)
      have s2 : SmallN (num (6 - j) 6) := num_small (by omega) (by decide) (by decide)
      refine ⟨⟨by show (1 : Int) ≤ 1; decide, by show (1 : Int) < 1000; decide, by show g.natAbs < 1000; omega, Nat.gcd_one_right _⟩, by show 1 ≤ 2; decide, by show 2 ≤ 6; decide, fun q hq => ?_, ⟨6, by decide, by decide, fun q hq => ?_⟩, ?_⟩
      · rcases List.mem_cons.mp hq with rfl | hq
        · refine ⟨by rw [e1]; exact s1, by rw [e1]; exact num_pos1 (by omega) (by decide), ?_⟩
          show i + 1 + 1 < last + 1
          omega
        · rw [List.mem_singleton.mp hq]
          refine ⟨by rw [e2]; exact s2, by rw [e2]; exact num_pos1 (by omega) (by decide), ?_⟩
          show i + 1 - 1 < last + 1
          omega
      · rcases List.mem_cons.mp hq with rfl | hq
        · show (canon _).2.natAbs ∣ 6
          rw [e1]
          exact num_dvd (by decide)
        · rw [List.mem_singleton.mp hq]
          show (canon _).2.natAbs ∣ 6
          rw [e2]
          exact num_dvd (by decide)
      · show (qN (canon _) + (qN (canon _) + 0) : Rat) = 1
        rw [q_canon, q_canon]
        grind
  · rw [List.mem_singleton.mp hp]
    exact wf_sure_one small01 (by omega)
end Md


set_option Elab.async false
set_option linter.all false
set_option maxRecDepth 100000
set_option maxHeartbeats 2000000
namespace Md
open PySem L2 Evl
/-- one place is no more spoken of -/
def delB (b : Hp) (p : Addr) : Hp := fun a => if a = p then none else b a
theorem delB_ne {b : Hp} {p a : Addr} (h : a ≠ p) : delB b p a = b a := if_neg h
theorem del_of {b b' : Hp} {p : Addr} (e : Ex b b') (n : b p = none) : Ex b (delB b' p) := fun a u q => by
  have : a ≠ p := fun z => by
    subst z
    rw [n] at q
    cases q
  rw [delB_ne this]
  exact e a u q
theorem ex_del {b h : Hp} {p : Addr} {o : HO} (e : Ex b h) : Ex (delB b p) (upd h p o) := fun a u q => by
  by_cases z : a = p
  · subst z
    unfold delB at q
    rw [if_pos rfl] at q
    cases q
  · rw [delB_ne z] at q
    rw [upd_ne z]
    exact e a u q
def Flat (d : PyData) : Prop := d = .none ∨ ∃ r, d = nQ r
section
variable {K : PySem.W.Frag} {σ : L2.St} {b h : Hp} {ts : TA} {ta tb te : TE} {E : XK} {C : List PlC} {x : Nat} {r s : Rat} {p : Addr} {us : List V} {d : PyData} {ds : List PyData}
theorem Dt.del {v : V} (h : Dt K b v d) (hf : Flat d) (hp : b p = some (.lst us)) : Dt K (delB b p) v d := by
  rcases hf with rfl | ⟨r, rfl⟩
  · obtain rfl := h.noneI
    exact .none
  · obtain ⟨a, xs, rfl, h1, h2⟩ := Dt.tupleI (show Dt K b v (.tuple [.int (canon r).1, .int (canon r).2]) from h)
    have ha : ∀ {o}, b a = some o → (∀ us, o ≠ HO.lst us) → a ≠ p := fun {o} h1 ho z => by
      subst z
      rw [hp] at h1
      exact ho us (Option.some.inj h1).symm
    have h3 : DtA K (delB b p) xs [.int (canon r).1, .int (canon r).2] := by
      cases h2 with
      | cons q1 h2 =>
        cases h2 with
        | cons q2 h2 =>
          cases h2
          obtain rfl := q1.intI
          obtain rfl := q2.intI
          exact .cons (.int _) (.cons (.int _) .nil)
    refine .tuple ?_ h3
    rcases h1 with (h1 | ⟨o, h1⟩) | ⟨o, its, n, h1, h3, h4⟩
    · exact .inl (.inl ((delB_ne (ha h1 fun us z => by cases z)).trans h1))
    · exact .inl (.inr ⟨o, (delB_ne (ha h1 fun us z => by cases z)).trans h1⟩)
    · exact .inr ⟨o, its, n, h1, h3, h4⟩
theorem DtA.del : ∀ {ds : List PyData} {vs : List V}, DtA K b vs ds → (∀ d ∈ ds, Flat d) → b p = some (.lst us) → DtA K (delB b p) vs ds
  | [], _, h, _, _ => by
    cases h
    exact .nil
  | d :: ds, _, h, hf, hp => by
    cases h with
    | cons h1 h2 => exact .cons (h1.del (hf d (List.mem_cons_self ..)) hp) (DtA.del h2 (fun d hd => hf d (List.mem_cons_of_mem _ hd)) hp)
theorem ev_notN (x : ED K te σ b d) {r : Bool} (hr : isNo d = r) : Ev (tOp rNotN te (tC .non)) σ b (.bl (!r)) := fun h e _ q => x h e _ fun v b2 h2 g2 hv => by
  refine ⟨rfl, ?_⟩
  have e1 : decide (v = V.non) = r := by
    rw [← hr]
    cases d with
    | none => rw [hv.noneI] <;> rfl
    | bool k => rw [hv.boolI] <;> rfl
    | int k => rw [hv.intI] <;> rfl
    | str k => rw [hv.strI] <;> rfl
    | list k => obtain ⟨a, xs, rfl, _⟩ := hv.listI; rfl
    | tuple k => obtain ⟨a, xs, rfl, _⟩ := hv.tupleI; rfl
    | dict k => cases hv
  rw [e1]
  exact q h2 g2.gh
theorem r_call1 {i : Nat} {sp : Sp} {D : Ends} (x : EDA K ts σ b ds) (e : Ex b h) (k : ∀ vs b' h', Gr b h b' h' → DtA K b' vs ds → sp vs h' (fun v h2 => D.nx (σ.set i (some v)) h2) E) : tAsg (tCall sp [] E ts) (gName i) D σ h :=
  x h e _ fun vs b' h' g hv => by
    rw [List.append_nil]
    exact k vs b' h' g hv
/-- data in a list, none of them deep -/
def LayD (d : PyData) : Prop := d.canLay0 = true ∧ d.depth ≤ 8
theorem lay_list (h : ∀ d ∈ ds, LayD d) : (PyData.list ds).canLay0 = true ∧ (PyData.list ds).depth ≤ 9 := by
  refine ⟨lay_all fun d hd => (h d hd).1, ?_⟩
  show PyData.depthAll ds + 1 ≤ 9
  have := dep_all (k := 8) (ds := ds) fun d hd => (h d hd).2
  omega
theorem lay_nQ (r : Rat) : LayD (nQ r) := ⟨rfl, by show 1 ≤ 8; decide⟩
theorem lay_bool (r : Bool) : LayD (.bool r) := ⟨rfl, by show 0 ≤ 8; decide⟩
theorem lay_none : LayD .none := ⟨rfl, by show 0 ≤ 8; decide⟩
theorem ev_differG (x : ED K ta σ b (.list ds)) (y : ED K tb σ b (.list ds)) (h : ∀ d ∈ ds, LayD d) : Ev (tOp (rNeD K) ta tb) σ b (.bl false) := by
  have hl := lay_list h
  have hs : SeqAt.shaped (PyData.list ds) = true := by
    unfold SeqAt.shaped
    rw [hl.1, decide_eq_true (Nat.le_trans hl.2 (by decide))] <;> rfl
  have := ev_neD x y hs hs
  rwa [PySem.SeqAt.eqv_refl (PyData.list ds) hl.1] at this
noncomputable def wayL (C : List PlC) (x : Nat) (f : Nat → Rat) : List PyData := (List.range C.length).map fun y => if y ∈ sureL C x then nQ (f y) else .none
theorem ways_L (C : List PlC) (x : Nat) (f : Nat → Rat) : waysD C x f = .list (wayL C x f) := rfl
theorem way_flat {f : Nat → Rat} : ∀ d ∈ wayL C x f, Flat d ∧ LayD d := fun d hd => by
  unfold wayL at hd
  obtain ⟨y, _, rfl⟩ := List.mem_map.mp hd
  by_cases z : y ∈ sureL C x
  · rw [if_pos z]
    exact ⟨.inr ⟨_, rfl⟩, lay_nQ _⟩
  · rw [if_neg z]
    exact ⟨.inl rfl, lay_none⟩
theorem way_at {f : Nat → Rat} {y : Nat} (h : y < C.length) (hs : y ∈ sureL C x) : L2.atI (wayL C x f) (y : Int) = some (nQ (f y)) := atI_nat (by
  unfold wayL
  rw [List.getElem?_map, List.getElem?_range h]
  show some (if y ∈ sureL C x then nQ (f y) else PyData.none) = _
  rw [if_pos hs])
theorem sure_at {y : Nat} (h : y < C.length) : L2.atI ((List.range C.length).map fun k => PyData.bool (decide (k ∈ sureL C x))) (y : Int) = some (.bool (decide (y ∈ sureL C x))) := atI_nat (by rw [List.getElem?_map, List.getElem?_range h] <;> rfl)
theorem ed_ways {f : Nat → Rat} (y : EDA K ts σ b [chD C, .int (x : Int)]) (h1 : WfC C) (h2 : x < C.length) (hf : IsFill C (beforeL C x) (fun _ => 1) (fun _ => 0) f) : ED K (tCall (spWays K) [] E ts) σ b (waysD C x f) := fun h e _ qq =>
  y h e _ fun vs b2 h2' g2 hv => ⟨b2, C, x, g2.gi, by rw [List.append_nil]; exact hv, h1, h2, fun v b3 h3 g D g3 hg _ _ _ hv3 _ => qq v b3 h3 (g2.trans g3) (by
    have e1 : g = f := funext fun y => fill_unique h1 (fun y hy => sure_lt (mem_beforeL.mp hy).1) (out_before h1 h2) hg hf y
    rw [← e1]
    exact hv3)⟩
end
end Md


set_option Elab.async false
set_option linter.all false
set_option maxRecDepth 100000
set_option maxHeartbeats 2000000
namespace Md
open PySem L2 Evl
def spGow (K : PySem.W.Frag) : Sp := fun vs h Q _ => ∃ (b : Hp) (C : List PlC) (x : Nat), Ex b h ∧ DtA K b vs [chD C, .int (x : Int)] ∧ WfC C ∧ x < C.length ∧
  ∀ v b' h' f D, Gr b h b' h' → IsFill C (beforeL C x) (gainC C) (fun _ => 0) f → 0 < D → D ≤ 288 ^ 12 → (∀ y, y < C.length → NB (denL (gainsC C) * D) (1000 * 2 ^ 110) (f y)) → Dt K b' v (waysD C x f) → OwnF h b' v → Q v h'
theorem gains_list (C : List PlC) (h : WfC C) : numsD (gainsC C) = listQ C.length (gainC C) := by
  rw [listQ_nums]
  congr 1
  have : ((List.range C.length).map fun k => canon (gainC C k)) = (List.range C.length).map fun k => (plC C k).g := List.map_congr_left fun k hk => small_Q (plC_wf h (List.mem_range.mp hk)).g
  rw [this, map_plC C (·.g)]
  rfl
theorem gain_nb {C : List PlC} (h : WfC C) {y : Nat} (hy : y < C.length) : NB (denL (gainsC C)) 1000 (gainC C y) := by
  have hw := plC_wf h hy
  have c := q_small hw.g
  exact ⟨zt_den (red_small hw.g) (denL_dvd (List.mem_map.mpr ⟨plC C y, List.mem_of_getElem? (plC_get hy), rfl⟩)), c.1, c.2⟩
theorem unit_lt {C : List PlC} (h : WfC C) : 0 < denL (gainsC C) ∧ denL (gainsC C) < 2 ^ 120 := by
  refine ⟨(unit_ok h).1, Nat.lt_of_le_of_lt (unit_ok h).2 ?_⟩
  exact Nat.lt_of_le_of_lt (Nat.pow_le_pow_right (by decide) h.l12) (by decide +kernel)
/-- the same draws with one gain -/
def evenC (C : List PlC) (g : Int × Int) : List PlC := C.map fun p => ⟨g, p.bs⟩
theorem even_len (C : List PlC) (g : Int × Int) : (evenC C g).length = C.length := List.length_map _
theorem even_at {C : List PlC} {g : Int × Int} {k : Nat} (h : k < C.length) : plC (evenC C g) k = ⟨g, (plC C k).bs⟩ := by
  have : (evenC C g)[k]? = some ⟨g, (plC C k).bs⟩ := by
    unfold evenC
    rw [List.getElem?_map, plC_get h]
    rfl
  unfold plC at *
  rw [List.getD_eq_getElem?_getD, this]
  rfl
theorem even_wf {C : List PlC} (h : WfC C) {g : Int × Int} (hg : SmallN g) : WfC (evenC C g) := by
  refine ⟨by rw [even_len]; exact h.l1, by rw [even_len]; exact h.l12, fun p hp => ?_⟩
  obtain ⟨q, hq, rfl⟩ := List.mem_map.mp hp
  rw [even_len]
  have w := h.p q hq
  exact ⟨hg, w.l1, w.l6, w.q, w.w, w.s⟩
theorem bs_out {C : List PlC} {k : Nat} (h : C.length ≤ k) : (plC C k).bs = [] := by
  unfold plC
  rw [List.getD_eq_getElem?_getD, List.getElem?_eq_none h]
  rfl
theorem even_bs (C : List PlC) (g : Int × Int) (k : Nat) : (plC (evenC C g) k).bs = (plC C k).bs := by
  rcases Nat.lt_or_ge k C.length with z | z
  · rw [even_at z]
  · rw [bs_out z, bs_out (by rw [even_len]; exact z)]
theorem stop_bs {A B : List PlC} {x : Nat} (hA : x < A.length) (hB : x < B.length) (h : ∀ k, (plC A k).bs = (plC B k).bs) (k : Nat) : (plC (stopC A x) k).bs = (plC (stopC B x) k).bs := by
  by_cases z : k = x
  · subst z
    rw [stop_at hA, stop_at hB]
  · rw [stop_ne z, stop_ne z]
    exact h k
theorem reach_bs {A B : List PlC} (h : ∀ k, (plC A k).bs = (plC B k).bs) {y z : Nat} (r : Reach A y z) : Reach B y z := by
  induction r with
  | refl => exact .refl
  | step _ hq ih => exact ih.step (by rw [← h]; exact hq)
theorem sure_bs {A B : List PlC} {x : Nat} (wA : WfC A) (wB : WfC B) (hA : x < A.length) (hl : A.length = B.length) (h : ∀ k, (plC A k).bs = (plC B k).bs) : sureL A x = sureL B x := by
  have hB : x < B.length := by omega
  have s1 := stop_bs hA hB h
  have key : ∀ i, i ∈ sureL A x ↔ i ∈ sureL B x := fun i => by
    rw [mem_sureL wA hA, mem_sureL wB hB, hl]
    exact ⟨fun ⟨a, c⟩ => ⟨a, fun y r => reach_bs s1 (c y (reach_bs (fun k => (s1 k).symm) r))⟩, fun ⟨a, c⟩ => ⟨a, fun y r => reach_bs (fun k => (s1 k).symm) (c y (reach_bs s1 r))⟩⟩
  have e : ∀ (C : List PlC) , sureL C x = (List.range C.length).filter fun i => decide (i ∈ sureL C x) := fun C => by
    have h2 : ∀ i ∈ List.range C.length, ((reachL (stopC C x) i).all fun y => decide (x ∈ reachL (stopC C x) y)) = decide (i ∈ sureL C x) := fun i hi => by
      rw [Bool.eq_iff_iff, decide_eq_true_iff]
      unfold sureL
      rw [List.mem_filter]
      exact ⟨fun z => ⟨hi, z⟩, fun z => z.2⟩
    exact List.filter_congr h2
  rw [e A, e B, hl]
  exact List.filter_congr fun i _ => by
    rw [Bool.eq_iff_iff, decide_eq_true_iff, decide_eq_true_iff]
    exact key i
theorem mean_bs {A B : List PlC} (h : ∀ k, (plC A k).bs = (plC B k).bs) (f : Nat → Rat) (k : Nat) : meanC A f k = meanC B f k := by
  unfold meanC
  rw [h]
/-- gains all alike: so many times the ways -/
theorem even_fill {C : List PlC} (h : WfC C) {g : Int × Int} (hg : SmallN g) {x : Nat} (hx : x < C.length) {f : Nat → Rat} (hf : IsFill C (beforeL C x) (fun _ => 1) (fun _ => 0) f) :
    IsFill (evenC C g) (beforeL (evenC C g) x) (gainC (evenC C g)) (fun _ => 0) (fun y => qN g * f y) := by
  have hs := sure_bs (even_wf h hg) h (x := x) (by rw [even_len]; exact hx) (even_len C g) (even_bs C g)
  have hb : beforeL (evenC C g) x = beforeL C x := by
    unfold beforeL
    rw [hs]
  rw [hb]
  refine ⟨fun y hy => ?_, fun y hy => ?_⟩
  · have hyC := sure_lt (mem_beforeL.mp hy).1
    have e1 : gainC (evenC C g) y = qN g := by
      unfold gainC
      rw [even_at hyC]
    have e2 : meanC (evenC C g) (fun y => qN g * f y) y = qN g * meanC C f y := by
      rw [mean_bs (even_bs C g)]
      exact wsum_mul _ _ _
    show qN g * f y = _
    rw [e1, e2, hf.eq y hy]
    grind
  · show qN g * f y = 0
    rw [hf.out y hy, Rat.mul_zero]
section
variable {K : PySem.W.Frag} {σ : L2.St} {b h : Hp} {ts ts1 ts2 : TA} {ta tb te : TE} {E : XK} {C : List PlC} {x : Nat} {r s : Rat} {p : Addr} {us : List V} {d : PyData} {ds : List PyData} {D : Ends} {tz : TS}
theorem ed_gow {f : Nat → Rat} (y : EDA K ts σ b [chD C, .int (x : Int)]) (h1 : WfC C) (h2 : x < C.length) (hf : IsFill C (beforeL C x) (gainC C) (fun _ => 0) f) : ED K (tCall (spGow K) [] E ts) σ b (waysD C x f) := fun h e _ qq =>
  y h e _ fun vs b2 h2' g2 hv => ⟨b2, C, x, g2.gi, by rw [List.append_nil]; exact hv, h1, h2, fun v b3 h3 g D g3 hg _ _ _ hv3 _ => qq v b3 h3 (g2.trans g3) (by
    have e1 : g = f := funext fun y => fill_unique h1 (fun y hy => sure_lt (mem_beforeL.mp hy).1) (out_before h1 h2) hg hf y
    rw [← e1]
    exact hv3)⟩
theorem way_any {f : Nat → Rat} {y : Nat} (h : y < C.length) : L2.atI (wayL C x f) (y : Int) = some (if y ∈ sureL C x then nQ (f y) else .none) := atI_nat (by
  unfold wayL
  rw [List.getElem?_map, List.getElem?_range h]
  rfl)
theorem way_len {f : Nat → Rat} : (wayL C x f).length = C.length := by
  unfold wayL
  rw [List.length_map, List.length_range]
theorem way_even (hW : WfC C) {g : Int × Int} (hg : SmallN g) (hx : x < C.length) (f : Nat → Rat) : wayL (evenC C g) x f = wayL C x f := by
  unfold wayL
  rw [sure_bs (even_wf hW hg) hW (x := x) (by rw [even_len]; exact hx) (even_len C g) (even_bs C g), even_len]
theorem r_callE {sp : Sp} {Q : VK} (x : EDA K ts σ b ds) (e : Ex b h) (k : ∀ vs b' h', Gr b h b' h' → DtA K b' vs ds → sp vs h' Q E) : tCall sp [] E ts σ h Q := x h e _ fun vs b' h' g hv => by
  rw [List.append_nil]
  exact k vs b' h' g hv
/-- a, b = (f(..), g(..)) -/
theorem r_tupC {sp1 sp2 : Sp} {i j : Nat} {ds1 : List PyData} (x1 : EDA K ts1 σ b ds1) (e : Ex b h)
    (k : ∀ vs1 b1 h1, Gr b h b1 h1 → DtA K b1 vs1 ds1 → sp1 vs1 h1 (fun v1 h2 => tCall sp2 [] E ts2 σ h2 fun v2 h3 => 2 ≤ sizeLine ∧ ∀ p, h3 p = none → gTup K 2 (gCons (gName i) (gCons (gName j) gNil)) (.ref p) σ (upd h3 p (.tup [v1, v2])) (tz D)) E) :
    tSeq (tAsg (tTup (tCons (tCall sp1 [] E ts1) (tCons (tCall sp2 [] E ts2) tNil))) (gTup K 2 (gCons (gName i) (gCons (gName j) gNil)))) tz D σ h := x1 h e _ fun vs b' h' g hv => by
  rw [List.append_nil]
  exact k vs b' h' g hv
theorem g_tupN {i j : Nat} {v1 v2 : V} {Q : L2.St → Hp → Prop} (k : Q ((σ.set i (some v1)).set j (some v2)) (upd h p (.tup [v1, v2]))) : gTup K 2 (gCons (gName i) (gCons (gName j) gNil)) (.ref p) σ (upd h p (.tup [v1, v2])) Q :=
  ⟨p, _, rfl, st_of upd_same, rfl, _, _, rfl, _, _, rfl, rfl, k⟩
theorem ed_orT {d' : PyData} (hd : d = .none ∨ ∃ a l, d = .tuple (a :: l)) (x : ED K ta σ b d) (y : ED K tb σ b d') : ED K (tOrT K ta tb) σ b (if isNo d then d' else d) := fun h e _ q => x h e _ fun v b2 h2 g2 hv => by
  rcases hd with rfl | ⟨a, l, rfl⟩
  · obtain rfl := hv.noneI
    refine ⟨false, rfl, ?_⟩
    rw [if_neg (by decide)]
    exact (y.up g2.gb) h2 g2.gi _ fun v3 b3 h3 g3 hv3 => q v3 b3 h3 (g2.trans g3) hv3
  · obtain ⟨a, xs, rfl, h1, h2'⟩ := hv.tupleI
    refine ⟨true, .inr (.inl ⟨xs, ex_t g2.gi h1, ?_⟩), ?_⟩
    · cases h2'
      rfl
    · rw [if_pos rfl]
      exact q _ b2 h2 g2 hv
end
theorem pe_orTK {X : Cx} {a b : Expr} {ta tb : TE} {rest : List Expr} {pos : Pos} {K : PySem.W.Frag} (hK : X.K = K) (ha : PE X a ta) (hb : PE X (.BoolOp .Or (b :: rest) pos) tb) : PE X (.BoolOp .Or (a :: b :: rest) pos) (tOrT K ta tb) := hK ▸ pe_orT ha hb
end Md


set_option Elab.async false
set_option linter.all false
set_option maxRecDepth 100000
set_option maxHeartbeats 2000000
/-! Groups that are never left. -/
namespace Md
open PySem L2 Evl
/-- the first place of a group -/
def isHead (C : List PlC) (R : Nat → List Nat) (x : Nat) : Bool := (R x).getD 0 0 == x && (R x).all fun y => R y == R x
noncomputable def headsL (C : List PlC) : List Nat := (List.range C.length).filter (isHead C (reachL C))
noncomputable def groupsL (C : List PlC) : List (List Nat) := (headsL C).map (reachL C)
noncomputable def passL (C : List PlC) : List Nat := (List.range C.length).filter fun x => !decide (x ∈ (groupsL C).flatten)
theorem reach_nodup (C : List PlC) (x : Nat) : (reachL C x).Nodup := List.nodup_range.filter _
theorem reach_lt {C : List PlC} {x y : Nat} (h : y ∈ reachL C x) : y < C.length := by
  unfold reachL at h
  exact List.mem_range.mp (List.mem_filter.mp h).1
variable {C : List PlC}
theorem self_mem (h : WfC C) {x : Nat} (hx : x < C.length) : x ∈ reachL C x := (mem_reachL h hx).mpr .refl
/-- what a group is -/
structure IsGrp (C : List PlC) (x : Nat) (L : List Nat) : Prop where
  nd : (x :: L).Nodup
  lt : ∀ y ∈ x :: L, y < C.length
  al : ∀ y ∈ x :: L, reachL C y = x :: L
theorem mem_heads {x : Nat} : x ∈ headsL C ↔ x < C.length ∧ (reachL C x).getD 0 0 = x ∧ ∀ y ∈ reachL C x, reachL C y = reachL C x := by
  unfold headsL isHead
  rw [List.mem_filter, List.mem_range, Bool.and_eq_true, beq_iff_eq, List.all_eq_true]
  exact ⟨fun ⟨a, b, c⟩ => ⟨a, b, fun y hy => eq_of_beq (c y hy)⟩, fun ⟨a, b, c⟩ => ⟨a, b, fun y hy => beq_iff_eq.mpr (c y hy)⟩⟩
theorem head_grp (h : WfC C) {x : Nat} (hx : x ∈ headsL C) : ∃ L, reachL C x = x :: L ∧ IsGrp C x L := by
  obtain ⟨h1, h2, h3⟩ := mem_heads.mp hx
  have hs := self_mem h h1
  cases e : reachL C x with
  | nil => rw [e] at hs; cases hs
  | cons a L =>
    rw [e] at h2 h3
    have h2' : a = x := h2
    subst h2'
    refine ⟨L, rfl, by rw [← e]; exact reach_nodup C a, fun y hy => reach_lt (by rw [e]; exact hy), h3⟩
theorem grp_closed (h : WfC C) {x : Nat} {L : List Nat} (g : IsGrp C x L) {y : Nat} (hy : y ∈ x :: L) {q : BrC} (hq : q ∈ (plC C y).bs) : q.2 ∈ x :: L := by
  rw [← g.al y hy]
  exact (mem_reachL h (g.lt y hy)).mpr (Reach.refl.step hq)
theorem closed_reach {Z : Nat → Prop} (hZ : ∀ x, Z x → ∀ q ∈ (plC C x).bs, Z q.2) {x y : Nat} (hx : Z x) (r : Reach C x y) : Z y := by
  induction r with
  | refl => exact hx
  | step _ hq ih => exact hZ _ ih _ hq
theorem out_tail (h : WfC C) {x : Nat} {L : List Nat} (g : IsGrp C x L) : Out C L := fun Z ⟨z, hz⟩ hsub => by
  refine Classical.byContradiction fun hno => ?_
  have hcl : ∀ w, Z w → ∀ q ∈ (plC C w).bs, Z q.2 := fun w hw q hq => Classical.byContradiction fun hn => hno ⟨w, hw, q, hq, hn⟩
  have hzm := List.mem_cons_of_mem x (hsub z hz)
  have r : Reach C z x := (mem_reachL h (g.lt z hzm)).mp (by rw [g.al z hzm]; exact List.mem_cons_self ..)
  have hxL := hsub x (closed_reach hcl hz r)
  exact (List.nodup_cons.mp g.nd).1 hxL
theorem mem_pass {x : Nat} : x ∈ passL C ↔ x < C.length ∧ ∀ y ∈ headsL C, x ∉ reachL C y := by
  unfold passL groupsL
  rw [List.mem_filter, List.mem_range, Bool.not_eq_true', decide_eq_false_iff_not, List.mem_flatten]
  constructor
  · rintro ⟨a, b⟩
    exact ⟨a, fun y hy hx => b ⟨_, List.mem_map.mpr ⟨y, hy, rfl⟩, hx⟩⟩
  · rintro ⟨a, b⟩
    refine ⟨a, ?_⟩
    rintro ⟨l, hl, hx⟩
    obtain ⟨y, hy, rfl⟩ := List.mem_map.mp hl
    exact b y hy hx
theorem reach_sub (h : WfC C) {z w : Nat} (hz : z < C.length) (r : Reach C z w) : ∀ y ∈ reachL C w, y ∈ reachL C z := fun y hy => (mem_reachL h hz).mpr (r.trans ((mem_reachL h (r.lt h hz)).mp hy))
theorem filter_eq_of {n : Nat} {p q : Nat → Bool} (h1 : ∀ y ∈ (List.range n).filter p, y ∈ (List.range n).filter q) (h2 : ((List.range n).filter q).length ≤ ((List.range n).filter p).length) : (List.range n).filter p = (List.range n).filter q := by
  have hs : ∀ y ∈ (List.range n).filter q, y ∈ (List.range n).filter p := fun y hy => Classical.byContradiction fun hn => by
    have hnd : (y :: (List.range n).filter p).Nodup := List.nodup_cons.mpr ⟨hn, List.nodup_range.filter _⟩
    have := hnd.length_le_of_subset (l₂ := (List.range n).filter q) (fun a ha => by
      rcases List.mem_cons.mp ha with rfl | ha
      · exact hy
      · exact h1 a ha)
    rw [List.length_cons] at this
    omega
  refine List.filter_congr fun y hy => ?_
  rw [Bool.eq_iff_iff]
  exact ⟨fun z => (List.mem_filter.mp (h1 y (List.mem_filter.mpr ⟨hy, z⟩))).2, fun z => (List.mem_filter.mp (hs y (List.mem_filter.mpr ⟨hy, z⟩))).2⟩
theorem leastZ (f : Nat → Nat) {Z : Nat → Prop} : ∀ (k z : Nat), f z ≤ k → Z z → ∃ w, Z w ∧ ∀ v, Z v → f w ≤ f v
  | 0, z, h, hz => ⟨z, hz, fun v _ => by omega⟩
  | k + 1, z, h, hz => by
    by_cases c : ∃ v, Z v ∧ f v ≤ k
    · obtain ⟨v, hv, hk⟩ := c
      exact leastZ f k v hk hv
    · exact ⟨z, hz, fun v hv => Nat.le_of_not_lt fun hlt => c ⟨v, hv, by omega⟩⟩
/-- a set that is not left holds a group -/
theorem grp_in (h : WfC C) {Z : Nat → Prop} {z : Nat} (hz : Z z) (hlt : ∀ x, Z x → x < C.length) (hcl : ∀ w, Z w → ∀ q ∈ (plC C w).bs, Z q.2) : ∃ w x, Z w ∧ x ∈ headsL C ∧ w ∈ reachL C x := by
  obtain ⟨w, hw, hmin⟩ := leastZ (fun x => (reachL C x).length) _ z (Nat.le_refl _) hz
  have hwl := hlt w hw
  have key : ∀ y ∈ reachL C w, reachL C y = reachL C w := fun y hy => by
    have r := (mem_reachL h hwl).mp hy
    exact filter_eq_of (reach_sub h hwl r) (hmin y (closed_reach hcl hw r))
  have hs := self_mem h hwl
  cases e : reachL C w with
  | nil => rw [e] at hs; cases hs
  | cons a L =>
    have ha : a ∈ reachL C w := by rw [e]; exact List.mem_cons_self ..
    have ea := key a ha
    refine ⟨w, a, hw, mem_heads.mpr ⟨reach_lt ha, by rw [ea, e]; rfl, fun y hy => ?_⟩, by rw [ea]; exact hs⟩
    rw [ea] at hy
    rw [key y hy, ea]
theorem out_pass (h : WfC C) : Out C (passL C) := fun Z ⟨z, hz⟩ hsub => by
  refine Classical.byContradiction fun hno => ?_
  have hcl : ∀ w, Z w → ∀ q ∈ (plC C w).bs, Z q.2 := fun w hw q hq => Classical.byContradiction fun hn => hno ⟨w, hw, q, hq, hn⟩
  obtain ⟨w, x, hw, hx, hm⟩ := grp_in h hz (fun x hx => (mem_pass.mp (hsub x hx)).1) hcl
  exact (mem_pass.mp (hsub w hw)).2 x hx hm
theorem heads_one (h : WfC C) {x y z : Nat} (hx : x ∈ headsL C) (hy : y ∈ headsL C) (h1 : z ∈ reachL C x) (h2 : z ∈ reachL C y) : x = y := by
  obtain ⟨a1, a2, a3⟩ := mem_heads.mp hx
  obtain ⟨b1, b2, b3⟩ := mem_heads.mp hy
  rw [← a2, ← b2, ← a3 z h1, ← b3 z h2]
theorem pass_lt : ∀ x ∈ passL C, x < C.length := fun x hx => (mem_pass.mp hx).1
theorem pass_nodup : (passL C).Nodup := List.nodup_range.filter _
theorem heads_nodup : (headsL C).Nodup := List.nodup_range.filter _
theorem pass_or {x : Nat} (hx : x < C.length) : x ∈ passL C ∨ ∃ y ∈ headsL C, x ∈ reachL C y := by
  by_cases c : ∃ y ∈ headsL C, x ∈ reachL C y
  · exact .inr c
  · exact .inl (mem_pass.mpr ⟨hx, fun y hy hm => c ⟨y, hy, hm⟩⟩)
/-! ### long gains and leads -/
theorem mean_congr (h : WfC C) {x : Nat} {f g : Nat → Rat} (e : ∀ q ∈ (plC C x).bs, f q.2 = g q.2) : meanC C f x = meanC C g x := wsum_congr e
theorem mean_mulC (c : Rat) (f : Nat → Rat) (x : Nat) : meanC C (fun y => c * f y) x = c * meanC C f x := wsum_mul _ _ _
theorem mean_addC (f g : Nat → Rat) (x : Nat) : meanC C (fun y => f y + g y) x = meanC C f x + meanC C g x := wsum_add _ _ _
theorem mean_const (h : WfC C) (c : Rat) {x : Nat} (hx : x < C.length) : meanC C (fun _ => c) x = c := by
  have e : (fun _ : Nat => c) = fun y => c * (fun _ => (1 : Rat)) y := by
    funext y
    grind
  rw [e, mean_mulC, mean_one h hx, Rat.mul_one]
/-- the mean in the long run of e in the group -/
structure GrpMean (C : List PlC) (x : Nat) (L : List Nat) (e : Nat → Rat) (m : Rat) : Prop where
  ex : ∃ s t, IsFill C L e (fun _ => 0) s ∧ IsFill C L (fun _ => 1) (fun _ => 0) t ∧ m = (e x + meanC C s x) / (1 + meanC C t x)
theorem steps_nn (h : WfC C) {x : Nat} {L : List Nat} (g : IsGrp C x L) {t : Nat → Rat} (ht : IsFill C L (fun _ => 1) (fun _ => 0) t) : (∀ y, 0 ≤ t y) ∧ ∀ k, k < C.length → 0 ≤ meanC C t k := by
  have hL : ∀ y ∈ L, y < C.length := fun y hy => g.lt y (List.mem_cons_of_mem x hy)
  have key := max_closed h hL (out_tail h g) (f := fun y => (-1) * t y) (fun y _ hy => by
    show (-1) * t y ≤ 0
    rw [ht.out y hy]
    grind) fun y hy => by
      rw [mean_mulC]
      have e := ht.eq y hy
      grind
  have nn : ∀ y, 0 ≤ t y := fun y => by
    by_cases hy : y ∈ L
    · have k := key y hy
      have k' : (-1) * t y ≤ 0 := k
      grind
    · rw [ht.out y hy]
      exact Rat.le_refl
  exact ⟨nn, fun k hk => mean_ge h hk fun j _ => nn j⟩
/-- the mean is 0 just where what is summed up round comes to 0 -/
theorem grp_round (h : WfC C) {x : Nat} {L : List Nat} (g : IsGrp C x L) {e : Nat → Rat} {m : Rat} (hm : GrpMean C x L e m) {s : Nat → Rat} (hs : IsFill C L (fun y => e y - m) (fun _ => 0) s) : (e x - m) + meanC C s x = 0 := by
  obtain ⟨s1, t, h1, h2, h3⟩ := hm.ex
  have hL : ∀ y ∈ L, y < C.length := fun y hy => g.lt y (List.mem_cons_of_mem x hy)
  have e1 : IsFill C L (fun y => e y - m) (fun _ => 0) (fun y => s1 y - m * t y) := ⟨fun y hy => by
    rw [mean_sub, mean_mulC]
    have a := h1.eq y hy
    have b := h2.eq y hy
    grind, fun y hy => by
    show s1 y - m * t y = 0
    rw [h1.out y hy, h2.out y hy]
    grind⟩
  have e2 := fill_unique h hL (out_tail h g) hs e1
  have e3 : meanC C s x = meanC C s1 x - m * meanC C t x := by
    rw [← mean_mulC, ← mean_sub]
    exact wsum_congr fun q _ => e2 q.2
  have ht := (steps_nn h g h2).2 x (g.lt x (List.mem_cons_self ..))
  have hT : 1 + meanC C t x ≠ 0 := by grind
  rw [e3]
  have : m * (1 + meanC C t x) = e x + meanC C s1 x := by
    rw [h3]
    grind
  grind
structure LongOk (C : List PlC) (g : Nat → Rat) : Prop where
  grp : ∀ x ∈ headsL C, ∀ L, reachL C x = x :: L → ∃ m, GrpMean C x L (gainC C) m ∧ ∀ y ∈ x :: L, g y = m
  pas : ∀ x ∈ passL C, g x = meanC C g x
structure LeadOk (C : List PlC) (g f : Nat → Rat) : Prop where
  grp : ∀ x ∈ headsL C, ∀ L, reachL C x = x :: L → ∃ s m, IsFill C L (fun y => gainC C y - g y) (fun _ => 0) s ∧ GrpMean C x L s m ∧ ∀ y ∈ x :: L, f y = s y - m
  pas : ∀ x ∈ passL C, f x = gainC C x - g x + meanC C f x
/-- g is the mean of g -/
theorem long_mean (h : WfC C) {g : Nat → Rat} (hg : LongOk C g) {x : Nat} (hx : x < C.length) : g x = meanC C g x := by
  rcases pass_or hx with hp | ⟨z, hz, hm⟩
  · exact hg.pas x hp
  · obtain ⟨L, e, G⟩ := head_grp h hz
    obtain ⟨m, _, h2⟩ := hg.grp z hz L e
    rw [e] at hm
    rw [h2 x hm, mean_congr h (g := fun _ => m) fun q hq => h2 _ (grp_closed h G hm hq), mean_const h m hx]
/-- g and h together are the gain and the mean of h -/
theorem lead_eq (h : WfC C) {g f : Nat → Rat} (hg : LongOk C g) (hf : LeadOk C g f) {x : Nat} (hx : x < C.length) : g x + f x = gainC C x + meanC C f x := by
  rcases pass_or hx with hp | ⟨z, hz, hm⟩
  · have := hf.pas x hp
    grind
  · obtain ⟨L, e, G⟩ := head_grp h hz
    obtain ⟨m, hm1, h2⟩ := hg.grp z hz L e
    obtain ⟨s, m2, hs, _, h3⟩ := hf.grp z hz L e
    rw [e] at hm
    have em : meanC C f x = meanC C s x - m2 := by
      rw [mean_congr h (g := fun y => s y - m2) fun q hq => h3 _ (grp_closed h G hm hq), mean_sub, mean_const h m2 hx]
    have hs' : IsFill C L (fun y => gainC C y - m) (fun _ => 0) s := ⟨fun y hy => by
      have := hs.eq y hy
      rw [h2 y (List.mem_cons_of_mem z hy)] at this
      exact this, hs.out⟩
    rw [h3 x hm, em, h2 x hm]
    rcases List.mem_cons.mp hm with rfl | hxL
    · have r := grp_round h G hm1 hs'
      have s0 := hs.out x (List.nodup_cons.mp G.nd).1
      grind
    · have := hs'.eq x hxL
      grind
/-- the sum of the shares times what is summed up round -/
theorem share_sum (h : WfC C) {x : Nat} {L : List Nat} (G : IsGrp C x L) {p e u : Nat → Rat} (hp : ∀ f : Nat → Rat, ((x :: L).map fun y => p y * meanC C f y).sum = ((x :: L).map fun y => p y * f y).sum) (hu : IsFill C L e (fun _ => 0) u) :
    ((x :: L).map fun y => p y * e y).sum = p x * (e x + meanC C u x) := by
  have hx : x ∉ L := (List.nodup_cons.mp G.nd).1
  have e1 := hp u
  rw [List.map_cons, List.map_cons, List.sum_cons, List.sum_cons, hu.out x hx] at e1
  have e2 : (L.map fun y => p y * u y).sum = (L.map fun y => p y * e y).sum + (L.map fun y => p y * meanC C u y).sum := by
    have : ∀ M : List Nat, (∀ y ∈ M, y ∈ L) → (M.map fun y => p y * u y).sum = (M.map fun y => p y * e y).sum + (M.map fun y => p y * meanC C u y).sum := by
      intro M
      induction M with
      | nil =>
        intro _
        show (0 : Rat) = 0 + 0
        grind
      | cons a M ih =>
        intro hM
        rw [List.map_cons, List.map_cons, List.map_cons, List.sum_cons, List.sum_cons, List.sum_cons, ih fun y hy => hM y (List.mem_cons_of_mem a hy), hu.eq a (hM a (List.mem_cons_self ..))]
        grind
    exact this L fun y hy => hy
  rw [List.map_cons, List.sum_cons]
  grind
/-- the shares of a group times the leads come to 0 -/
theorem lead_share (h : WfC C) {g f : Nat → Rat} (hf : LeadOk C g f) {x : Nat} (hx : x ∈ headsL C) {L : List Nat} (e : reachL C x = x :: L) (G : IsGrp C x L) {p : Nat → Rat} (hp : ∀ f : Nat → Rat, ((x :: L).map fun y => p y * meanC C f y).sum = ((x :: L).map fun y => p y * f y).sum) :
    ((x :: L).map fun y => p y * f y).sum = 0 := by
  obtain ⟨s, m, hs, hm, h3⟩ := hf.grp x hx L e
  obtain ⟨u, t, hu, ht, hq⟩ := hm.ex
  have a1 := share_sum h G hp hu
  have a2 := share_sum h G hp ht
  have key : ∀ M : List Nat, (∀ y ∈ M, y ∈ x :: L) → (M.map fun y => p y * f y).sum = (M.map fun y => p y * s y).sum - m * (M.map fun y => p y * (fun _ => (1 : Rat)) y).sum := by
    intro M
    induction M with
    | nil =>
      intro _
      show (0 : Rat) = 0 - m * 0
      grind
    | cons a M ih =>
      intro hM
      rw [List.map_cons, List.map_cons, List.map_cons, List.sum_cons, List.sum_cons, List.sum_cons, ih fun y hy => hM y (List.mem_cons_of_mem a hy), h3 a (hM a (List.mem_cons_self ..))]
      grind
  rw [key _ fun y hy => hy, a1, a2]
  have hT : 1 + meanC C t x ≠ 0 := by
    have := (steps_nn h G ht).2 x (G.lt x (List.mem_cons_self ..))
    grind
  have : m * (1 + meanC C t x) = s x + meanC C u x := by
    rw [hq]
    grind
  grind
end Md


set_option Elab.async false
set_option linter.all false
set_option maxRecDepth 100000
set_option maxHeartbeats 2000000
/-! Sharper bounds of what is filled in. -/
namespace Md
open PySem L2 Evl
/-- the determinant of the equations -/
def detC (C : List PlC) (L : List Nat) : Rat := Fd L.length fun col r => ((rowZ C L (L.getD r 0) (L.getD col 0) : Int) : Rat)
theorem elim_dS {n : Nat} {a : Nat → Nat → Int} {k : Nat} {T : Nat → Nat → Int} {d : Int} (h : Elim n a k T d) (hn : n ≤ 12) (hk : k ≤ n) {B : Nat} (hB : 1 ≤ B) (ha : ∀ r l, r < n → l < n → (a r l).natAbs ≤ B) : d ≤ ((12 * B) ^ k : Nat) := by
  have := (Fd_bd (B := natR B) k (c := fun col r => qa a r col) fun col r h1 h2 => by
    have := ha r col (by omega) (by omega)
    constructor
    · have e : -natR B = (((-(B : Int)) : Int) : Rat) := by rw [Rat.intCast_neg]; rfl
      rw [e]
      exact le_cast (by omega)
    · exact le_cast (by omega)).2
  rw [← h.det, fbd_nat] at this
  have e := cast_le this
  have e2 := fbN_le (B := B) (k := k) (by omega)
  omega
theorem fill_nbS {C : List PlC} (hW : WfC C) {L : List Nat} (hn : L.Nodup) (hl : L.length ≤ 12) (hL : ∀ x ∈ L, x < C.length) {kr : Nat → Rat} {U M B : Nat} (hU : 0 < U) (hUM : U ∣ M) {T : Nat → Nat → Int} {d : Int} (hB : 1 ≤ B)
    (hd : ∀ r, r < L.length → (canon (kr r)).2.natAbs ∣ U) (hk : ∀ r, r < L.length → -natR B ≤ kr r ∧ kr r ≤ natR B) (hE : Elim L.length (matA C L kr U) L.length T d) :
    d.toNat ≤ 288 ^ L.length ∧ ∀ j, j < L.length → NB (M * d.toNat) (B * 288 ^ L.length) (qa T j L.length / ((d : Rat) * natR U)) := by
  have hp := hE.pos
  have d0 : (d : Rat) ≠ 0 := cast_ne (by omega)
  have u0 : natR U ≠ 0 := nat_ne hU
  have hlo : ∀ r l, r < L.length → l < L.length → (matA C L kr U r l).natAbs ≤ 24 := fun r l h1 h2 => by
    rw [matA_lo h2]
    exact rowZ_bd hW L (hL _ (getD_mem h1)) _
  have hdl := elim_dS hE hl (Nat.le_refl _) (B := 24) (by decide) hlo
  have hdn : d.toNat ≤ 288 ^ L.length := by
    have : (12 * 24) = 288 := rfl
    rw [this] at hdl
    omega
  have ed : ((d.toNat : Nat) : Int) = d := Int.toNat_of_nonneg (by omega)
  refine ⟨hdn, fun j hj => ?_⟩
  -- the column of the constants, made small
  have hv : ∀ r, r < L.length → qa (matA C L kr U) r L.length = natR (U * B) * (kr r / natR B) := fun r hr => by
    have b0 : natR B ≠ 0 := nat_ne hB
    unfold qa matA
    rw [if_neg (Nat.lt_irrefl _), whole_q (canon_red _) (hd r hr), q_canon, natR_mul]
    show kr r * natR U = _
    grind
  have e1 := elim_col hE hj (Nat.le_refl L.length)
  have e2 : Fd L.length (upc (fun col r => qa (matA C L kr U) r col) j fun r => qa (matA C L kr U) r L.length) = natR (U * B) * Fd L.length (upc (fun col r => qa (matA C L kr U) r col) j fun r => kr r / natR B) := by
    rw [← Fd_mul _ _ _ _ _ hj]
    refine Fd_congr _ fun col r h1 h2 => ?_
    by_cases z : col = j
    · rw [z, upc_same, upc_same]
      exact hv r h2
    · rw [upc_ne z, upc_ne z]
  have bF := Fd_bd (B := natR 24) L.length (c := upc (fun col r => qa (matA C L kr U) r col) j fun r => kr r / natR B) fun col r h1 h2 => by
    by_cases z : col = j
    · rw [z, upc_same]
      have hBp := natR_pos hB
      have h3 := hk r h2
      have c1 : kr r / natR B ≤ 1 := div_le' hBp (by rw [Rat.one_mul]; exact h3.2)
      have c2 : (-1 : Rat) ≤ kr r / natR B := le_div' hBp (by grind)
      have : natR 24 = 24 := rfl
      rw [this]
      constructor <;> grind
    · rw [upc_ne z]
      exact abs_to (hlo r col h2 h1)
  rw [fbd_nat] at bF
  have f288 : natR (fbN 24 L.length) ≤ natR (288 ^ L.length) := natR_le (fbN_le (B := 24) hl)
  generalize hFe : Fd L.length (upc (fun col r => qa (matA C L kr U) r col) j fun r => kr r / natR B) = FF at *
  have et : qa T j L.length / ((d : Rat) * natR U) = natR B * FF * (1 / (d : Rat)) := by
    rw [e1, e2, natR_mul]
    grind
  have dpos : (0 : Rat) < (d : Rat) := cast_pos hp
  have done : (1 : Rat) ≤ (d : Rat) := (show ((1 : Int) : Rat) ≤ (d : Rat) from le_cast (by omega))
  have i1 : 1 / (d : Rat) ≤ 1 := div_le' dpos (by rw [Rat.one_mul]; exact done)
  have i0 : -(1 : Rat) ≤ 1 / (d : Rat) := le_div' dpos (by grind)
  have b1 := natR_nonneg B
  have m1 := mul_bd (x := natR B) (a := natR B) (y := FF) (b := natR (288 ^ L.length)) (by grind) Rat.le_refl (by grind) (by grind)
  have m2 := mul_bd m1.1 m1.2 i0 i1
  rw [Rat.mul_one, ← natR_mul, ← et] at m2
  refine ⟨?_, m2.1, m2.2⟩
  obtain ⟨c, rfl⟩ := hUM
  refine Zt.dvd (M := U * d.toNat) ⟨T j L.length, ?_⟩ ⟨c, by rw [Nat.mul_assoc, Nat.mul_comm c, ← Nat.mul_assoc]⟩
  rw [Int.natCast_mul, ed, Rat.intCast_mul]
  show qa T j L.length / ((d : Rat) * natR U) * (natR U * (d : Rat)) = qa T j L.length
  grind
theorem matA_bdS {C : List PlC} (h : WfC C) {L : List Nat} (hL : ∀ x ∈ L, x < C.length) {kx : Nat → Rat} {M B : Nat} (hk : ∀ x ∈ L, NB M B (kx x)) (hM : 0 < M) (hB : 1 ≤ B) (hMB : B * M < 2 ^ 1500) :
    unitK L kx ∣ M ∧ 0 < unitK L kx ∧ (∀ r, r < L.length → (canon (placeK L kx r)).2.natAbs ∣ unitK L kx) ∧ ∀ r l, r < L.length → l ≤ L.length → (matA C L (placeK L kx) (unitK L kx) r l).natAbs ≤ 2 ^ 1500 := by
  have hmem : ∀ c ∈ L.map fun x => canon (kx x), ∃ x ∈ L, c = canon (kx x) := fun c hc => by
    obtain ⟨x, hx, rfl⟩ := List.mem_map.mp hc
    exact ⟨x, hx, rfl⟩
  have u1 : unitK L kx ∣ M := denL_to fun c hc => by
    obtain ⟨x, hx, rfl⟩ := hmem c hc
    exact zt_dvd (canon_red _) (by rw [q_canon]; exact (hk x hx).zt)
  have u2 : 0 < unitK L kx := denL_pos fun c hc => by
    obtain ⟨x, hx, rfl⟩ := hmem c hc
    exact (canon_red _).1
  have u3 : ∀ r, r < L.length → (canon (placeK L kx r)).2.natAbs ∣ unitK L kx := fun r hr => denL_dvd (List.mem_map.mpr ⟨_, getD_mem hr, rfl⟩)
  refine ⟨u1, u2, u3, fun r l hr hl => ?_⟩
  unfold matA
  split
  · exact Nat.le_trans (rowZ_bd h L (hL _ (getD_mem hr)) _) (Nat.le_trans (by decide : 24 ≤ 2 ^ 5) (Nat.pow_le_pow_right (by decide) (by decide)))
  · have e := whole_q (canon_red (placeK L kx r)) (u3 r hr)
    rw [q_canon] at e
    have b := hk _ (getD_mem hr)
    have hUM := Nat.le_of_dvd hM u1
    have m := mul_bd b.lo b.hi (show -natR (unitK L kx) ≤ (((unitK L kx : Nat) : Int) : Rat) by have := natR_nonneg (unitK L kx); have e : (((unitK L kx : Nat) : Int) : Rat) = natR (unitK L kx) := rfl; grind) (Rat.le_refl)
    have e2 : (((unitK L kx : Nat) : Int) : Rat) = natR (unitK L kx) := rfl
    have ek : placeK L kx r = kx (L.getD r 0) := rfl
    rw [ek] at e
    rw [e2] at m e
    rw [← natR_mul, ← e] at m
    have := abs_of m.1 m.2
    have h2 : B * unitK L kx ≤ B * M := Nat.mul_le_mul_left B hUM
    exact Nat.le_trans this (Nat.le_of_lt (Nat.lt_of_le_of_lt h2 hMB))
theorem fill_dataS {C : List PlC} (hW : WfC C) {L : List Nat} (hn : L.Nodup) (hl : L.length ≤ 12) (hL : ∀ x ∈ L, x < C.length) (hO : Out C L) {e kn : Nat → Rat} {M B : Nat} (hM : 0 < M) (hB : 1 ≤ B) (hMB : B * M < 2 ^ 1400)
    (he : ∀ x ∈ L, NB M B (e x)) (hk : ∀ y, y < C.length → NB M B (kn y)) (h0 : ∀ x ∈ L, kn x = 0) :
    ∃ f D, IsFill C L e kn f ∧ 0 < D ∧ (D ≤ 288 ^ L.length ∧ natR D = detC C L) ∧ (∀ y, y < C.length → NB (M * D) (B * 288 ^ (L.length + 1)) (f y)) ∧
      ∀ T d, Elim L.length (matA C L (placeK L (constK C e kn)) (unitK L (constK C e kn))) L.length T d → ((List.range L.length).map fun j => qa T j L.length / ((d : Rat) * natR (unitK L (constK C e kn)))) = L.map f := by
  have hc : ∀ x ∈ L, NB M (48 * B) (constK C e kn x) := fun x hx => (const_nb hW (hL x hx) (he x hx) hk).2
  obtain ⟨u1, u2, u3, u4⟩ := matA_bdS hW hL hc hM (by omega) (by
    rw [Nat.mul_assoc]
    exact Nat.lt_of_lt_of_le (lt_pow_mul (i := 6) (Nat.le_refl _) (by decide) hMB) (Nat.pow_le_pow_right (by decide) (by decide)))
  obtain ⟨T0, d0, hE0⟩ := elim_exists hW hn hL hO (placeK L (constK C e kn)) (unitK L (constK C e kn)) L.length (Nat.le_refl _)
  have hf0 := fill_of hW hn hL h0 u2 u3 hE0
  obtain ⟨hd, hnb⟩ := fill_nbS hW hn hl hL u2 u1 (by omega : 1 ≤ 48 * B) u3 (fun r hr => ⟨(hc _ (getD_mem hr)).lo, (hc _ (getD_mem hr)).hi⟩) hE0
  have hdp : 0 < d0.toNat := by have := hE0.pos; omega
  have hdet : natR d0.toNat = detC C L := by
    have e1 := hE0.det
    have e2 : natR d0.toNat = (d0 : Rat) := by
      unfold natR
      rw [Int.toNat_of_nonneg (by have := hE0.pos; omega)]
    rw [e2, e1]
    unfold detC
    refine Fd_congr _ fun col r h1 h2 => ?_
    unfold qa
    rw [matA_lo h1]
  refine ⟨_, d0.toNat, hf0, hdp, ⟨hd, hdet⟩, fun y hy => ?_, fun T d hE => ?_⟩
  · by_cases hyL : y ∈ L
    · obtain ⟨j, hj, _, rfl⟩ := take_getD (m := L.length) (by rw [List.take_length]; exact hyL)
      show NB _ _ (wt L L.length _ (L.getD j 0) + kn (L.getD j 0))
      rw [wt_at hn (Nat.le_refl _) hj, h0 _ hyL, Rat.add_zero]
      refine (hnb j hj).mono (Nat.dvd_refl _) ?_
      have : 48 * 288 ^ L.length ≤ 288 ^ (L.length + 1) := by
        rw [Nat.pow_succ, Nat.mul_comm]
        exact Nat.mul_le_mul_left _ (by decide)
      have h2 := Nat.mul_le_mul_left B this
      have e2 : 48 * B * 288 ^ L.length = B * (48 * 288 ^ L.length) := by rw [Nat.mul_comm 48 B, Nat.mul_assoc]
      rw [e2]
      exact h2
    · show NB _ _ (wt L L.length _ y + kn y)
      rw [wt_out (Nat.le_refl _) _ (by rw [List.take_length]; exact hyL), Rat.zero_add]
      exact (hk y hy).mono (Nat.dvd_mul_right _ _) (Nat.le_mul_of_pos_right B (Nat.pow_pos (by decide)))
  · have hf := fill_of hW hn hL h0 u2 u3 hE
    have key := fill_unique hW hL hO hf hf0
    rw [← map_getDn L 0]
    refine List.map_congr_left fun j hj => ?_
    have hj := List.mem_range.mp hj
    have e1 := key (L.getD j 0)
    rw [wt_at hn (Nat.le_refl _) hj, h0 _ (getD_mem hj), Rat.add_zero] at e1
    show _ = _ + kn (L.getD j 0)
    rw [h0 _ (getD_mem hj)]
    exact e1
def spSolvedS (K : PySem.W.Frag) : Sp := fun vs h Q _ => ∃ (b : Hp) (C : List PlC) (L : List Nat) (kx : Nat → Rat) (M B : Nat), Ex b h ∧ DtA K b vs [.list (L.map fun x => intsD (L.map (rowZ C L x))), ratsD (L.map kx)] ∧ WfC C ∧ L.Nodup ∧ L.length ≤ 12 ∧ (∀ x ∈ L, x < C.length) ∧ Out C L ∧
  0 < M ∧ 1 ≤ B ∧ B * M < 2 ^ 1500 ∧ (∀ x ∈ L, NB M B (kx x)) ∧
  ∀ v b' h' T d, Gr b h b' h' → Elim L.length (matA C L (placeK L kx) (unitK L kx)) L.length T d → Dt K b' v (ratsD ((List.range L.length).map fun j => qa T j L.length / ((d : Rat) * natR (unitK L kx)))) → Q v h'
def spFillS (K : PySem.W.Frag) : Sp := fun vs h Q _ => ∃ (b : Hp) (C : List PlC) (L : List Nat) (e kn : Nat → Rat) (M B : Nat), Ex b h ∧ DtA K b vs [chD C, natsD L, listQ C.length e, listQ C.length kn, nD (1, 1)] ∧ WfC C ∧ L.Nodup ∧ (∀ x ∈ L, x < C.length) ∧ Out C L ∧
  0 < M ∧ 1 ≤ B ∧ B * M < 2 ^ 1400 ∧ (∀ x ∈ L, NB M B (e x)) ∧ (∀ y, y < C.length → NB M B (kn y)) ∧ (∀ x ∈ L, kn x = 0) ∧
  ∀ v b' h' f D, Gr b h b' h' → IsFill C L e kn f → 0 < D → (D ≤ 288 ^ L.length ∧ natR D = detC C L) → (∀ y, y < C.length → NB (M * D) (B * 288 ^ (L.length + 1)) (f y)) → Dt K b' v (listQ C.length f) → OwnF h b' v → Q v h'
section
variable {K : PySem.W.Frag} {σ : L2.St} {b h : Hp} {te tl ta tb : TE} {ts tk : TA} {E : XK} {C : List PlC} {p q : Int × Int} {r s : Rat}
theorem ed_solvedS {L : List Nat} {kx f : Nat → Rat} {M B : Nat} (y : EDA K ts σ b [.list (L.map fun x => intsD (L.map (rowZ C L x))), ratsD (L.map kx)]) (h1 : WfC C) (h2 : L.Nodup) (h3 : L.length ≤ 12) (h4 : ∀ x ∈ L, x < C.length) (h5 : Out C L) (h6 : 0 < M) (h7 : 1 ≤ B) (h8 : B * M < 2 ^ 1500) (h9 : ∀ x ∈ L, NB M B (kx x))
    (hd : ∀ T d, Elim L.length (matA C L (placeK L kx) (unitK L kx)) L.length T d → ((List.range L.length).map fun j => qa T j L.length / ((d : Rat) * natR (unitK L kx))) = L.map f) : ED K (tCall (spSolvedS K) [] E ts) σ b (ratsD (L.map f)) := fun h e _ qq =>
  y h e _ fun vs b2 h2' g2 hv => ⟨b2, C, L, kx, M, B, g2.gi, by rw [List.append_nil]; exact hv, h1, h2, h3, h4, h5, h6, h7, h8, h9, fun v b3 h3 T d g3 hE hv3 => qq v b3 h3 (g2.trans g3) (hd T d hE ▸ hv3)⟩
end
end Md


set_option Elab.async false
set_option linter.all false
set_option maxRecDepth 100000
set_option maxHeartbeats 2000000
/-! Long gains and leads: sizes, and what the defs promise. -/
namespace Md
open PySem L2 Evl
variable {C : List PlC}
/-- a mean in the long run is no greater than what it is a mean of -/
theorem fill_le (h : WfC C) {x : Nat} {L : List Nat} (G : IsGrp C x L) {e s t : Nat → Rat} {B : Rat} (he : ∀ y, y < C.length → e y ≤ B) (hs : IsFill C L e (fun _ => 0) s) (ht : IsFill C L (fun _ => 1) (fun _ => 0) t) : ∀ y, s y ≤ B * t y := by
  have hL : ∀ y ∈ L, y < C.length := fun y hy => G.lt y (List.mem_cons_of_mem x hy)
  have key := max_closed h hL (out_tail h G) (f := fun y => s y - B * t y) (fun y _ hy => by
    show s y - B * t y ≤ 0
    rw [hs.out y hy, ht.out y hy]
    grind) fun y hy => by
      rw [mean_sub, mean_mulC]
      have a := hs.eq y hy
      have b := ht.eq y hy
      have c := he y (hL y hy)
      have d : B * t y = B + B * meanC C t y := by
        rw [b]
        grind
      show s y - B * t y ≤ _
      generalize B * t y = u1 at *
      generalize B * meanC C t y = u2 at *
      grind
  intro y
  by_cases hy : y ∈ L
  · have k : s y - B * t y ≤ 0 := key y hy
    grind
  · rw [hs.out y hy, ht.out y hy]
    grind
theorem neg_fill {L : List Nat} {e s : Nat → Rat} (hs : IsFill C L e (fun _ => 0) s) : IsFill C L (fun y => (-1) * e y) (fun _ => 0) (fun y => (-1) * s y) := ⟨fun y hy => by
  rw [mean_mulC]
  have := hs.eq y hy
  grind, fun y hy => by
  show (-1) * s y = 0
  rw [hs.out y hy]
  grind⟩
theorem grp_mean_le (h : WfC C) {x : Nat} {L : List Nat} (G : IsGrp C x L) {e : Nat → Rat} {m B : Rat} (he : ∀ y, y < C.length → e y ≤ B) (hm : GrpMean C x L e m) : m ≤ B := by
  obtain ⟨s, t, hs, ht, hq⟩ := hm.ex
  have k := fill_le h G he hs ht
  have hx := G.lt x (List.mem_cons_self ..)
  have tn := (steps_nn h G ht).2 x hx
  have a1 : meanC C s x ≤ B * meanC C t x := by
    rw [← mean_mulC]
    exact wsum_le fun q hq => ⟨Rat.le_of_lt (br_pos h hx hq), k q.2⟩
  rw [hq]
  have := he x hx
  exact div_le' (by grind) (by grind)
theorem grp_mean_neg {x : Nat} {L : List Nat} {e : Nat → Rat} {m : Rat} (hm : GrpMean C x L e m) : GrpMean C x L (fun y => (-1) * e y) ((-1) * m) := by
  obtain ⟨s, t, hs, ht, hq⟩ := hm.ex
  refine ⟨_, t, neg_fill hs, ht, ?_⟩
  rw [hq, mean_mulC]
  grind
theorem grp_mean_bd (h : WfC C) {x : Nat} {L : List Nat} (G : IsGrp C x L) {e : Nat → Rat} {m : Rat} {B : Nat} (he : ∀ y, y < C.length → -natR B ≤ e y ∧ e y ≤ natR B) (hm : GrpMean C x L e m) : -natR B ≤ m ∧ m ≤ natR B := by
  have a := grp_mean_le h G (fun y hy => (he y hy).2) hm
  have b := grp_mean_le h G (B := natR B) (fun y hy => by have := (he y hy).1; grind) (grp_mean_neg hm)
  exact ⟨by grind, a⟩
theorem fill_same (h : WfC C) {L : List Nat} (hL : ∀ y ∈ L, y < C.length) (hO : Out C L) {kn f : Nat → Rat} {B : Rat} (hB : 0 ≤ B) (hk : ∀ y, y < C.length → kn y ≤ B) (hf : IsFill C L (fun _ => 0) kn f) : ∀ y, y < C.length → f y ≤ B := by
  have key := max_closed h hL hO (f := fun y => f y - (fun _ => B) y) (fun y hy hn => by
    show f y - B ≤ 0
    rw [hf.out y hn]
    have := hk y hy
    grind) fun y hy => by
      rw [mean_sub, mean_const h B (hL y hy)]
      have := hf.eq y hy
      grind
  intro y hy
  by_cases hm : y ∈ L
  · have k : f y - B ≤ 0 := key y hm
    grind
  · rw [hf.out y hm]
    exact hk y hy
theorem fill_same_bd (h : WfC C) {L : List Nat} (hL : ∀ y ∈ L, y < C.length) (hO : Out C L) {kn f : Nat → Rat} {B : Nat} (hk : ∀ y, y < C.length → -natR B ≤ kn y ∧ kn y ≤ natR B) (hf : IsFill C L (fun _ => 0) kn f) : ∀ y, y < C.length → -natR B ≤ f y ∧ f y ≤ natR B := fun y hy => by
  have a := fill_same h hL hO (natR_nonneg B) (fun y hy => (hk y hy).2) hf y hy
  have hn : IsFill C L (fun _ => 0) (fun y => (-1) * kn y) (fun y => (-1) * f y) := ⟨fun y hy => by
    rw [mean_mulC]
    have := hf.eq y hy
    grind, fun y hy => by
    show (-1) * f y = (-1) * kn y
    rw [hf.out y hy]⟩
  have b := fill_same h hL hO (natR_nonneg B) (fun y hy => by have := (hk y hy).1; grind) hn y hy
  exact ⟨by grind, a⟩
/-- the denominator of a mean in the long run -/
theorem grp_mean_zt (h : WfC C) {x : Nat} {L : List Nat} (G : IsGrp C x L) {e s t : Nat → Rat} {M B D E : Nat} (hs : ∀ y, y < C.length → NB (M * D) B (s y)) (he : Zt M (e x)) (hD : 0 < D) (hDl : D ≤ 288 ^ L.length) (hDE : D = E)
    (ht : ∀ y, y < C.length → NB (1 * E) (1 * 288 ^ (L.length + 1)) (t y)) (htf : IsFill C L (fun _ => 1) (fun _ => 0) t) : ∃ Z : Nat, 0 < Z ∧ Z ≤ 288 ^ (2 * (L.length + 1)) ∧ Zt (M * Z) ((e x + meanC C s x) / (1 + meanC C t x)) := by
  subst hDE
  have hx := G.lt x (List.mem_cons_self ..)
  have tn := (steps_nn h G htf).2 x hx
  have nS := nb_mean h hx hs
  have nT := nb_mean h hx ht
  obtain ⟨s0, s1, _⟩ := scaleC_ok h hx
  have zS : Zt (M * D * scaleC C x) (e x + meanC C s x) := (he.dvd (by rw [Nat.mul_assoc]; exact Nat.dvd_mul_right _ _)).add nS.zt
  have zT : Zt (1 * D * scaleC C x) (1 + meanC C t x) := (show Zt _ ((1 : Int) : Rat) from zt_int _ 1).add nT.zt
  obtain ⟨z1, h1⟩ := zS
  obtain ⟨z2, h2⟩ := zT
  have sc0 : 0 < scaleC C x := by omega
  have e1 : (((M * D * scaleC C x : Nat) : Int) : Rat) = natR M * natR D * natR (scaleC C x) := by
    show natR (M * D * scaleC C x) = _
    rw [natR_mul, natR_mul]
  have e2 : (((1 * D * scaleC C x : Nat) : Int) : Rat) = natR D * natR (scaleC C x) := by
    show natR (1 * D * scaleC C x) = _
    rw [Nat.one_mul, natR_mul]
  rw [e1] at h1
  rw [e2] at h2
  have pD := natR_pos hD
  have pS := natR_pos sc0
  have pp : 0 < natR D * natR (scaleC C x) := Rat.mul_pos pD pS
  have hT : 0 < 1 + meanC C t x := by grind
  have z2p : (0 : Rat) < (z2 : Rat) := by
    rw [← h2]
    exact Rat.mul_pos hT pp
  have z2q : 0 < z2 := by
    have : ((0 : Int) : Rat) < (z2 : Rat) := z2p
    exact Rat.intCast_lt_intCast.mp this
  have ez : ((z2.toNat : Nat) : Int) = z2 := Int.toNat_of_nonneg (by omega)
  refine ⟨z2.toNat, by omega, ?_, z1, ?_⟩
  · have hi : meanC C t x ≤ natR (288 ^ (L.length + 1)) := by
      have := nT.hi
      rwa [Nat.one_mul] at this
    have b1 : 1 + meanC C t x ≤ natR (1 + 288 ^ (L.length + 1)) := by
      rw [natR_add, natR_one]
      grind
    have b2 : (z2 : Rat) ≤ natR ((1 + 288 ^ (L.length + 1)) * (D * scaleC C x)) := by
      rw [← h2, natR_mul, natR_mul]
      exact Rat.mul_le_mul_of_nonneg_right b1 (Rat.le_of_lt pp)
    have b3 : z2 ≤ (((1 + 288 ^ (L.length + 1)) * (D * scaleC C x) : Nat) : Int) := cast_le b2
    have b4 : (1 + 288 ^ (L.length + 1)) * (D * scaleC C x) ≤ (1 + 288 ^ (L.length + 1)) * (288 ^ L.length * 24) := Nat.mul_le_mul_left _ (Nat.mul_le_mul hDl s1)
    have b5 : (1 + 288 ^ (L.length + 1)) * (288 ^ L.length * 24) ≤ 288 ^ (2 * (L.length + 1)) := by
      have e : 288 ^ (2 * (L.length + 1)) = 288 ^ L.length * 288 * (288 ^ L.length * 288) := by
        rw [Nat.two_mul, Nat.pow_add, Nat.pow_succ]
      rw [e, Nat.pow_succ]
      have p1 : 1 ≤ 288 ^ L.length := Nat.pow_pos (by decide)
      generalize 288 ^ L.length = P at *
      have : 1 + P * 288 ≤ P * 288 * 2 := by omega
      calc (1 + P * 288) * (P * 24) ≤ (P * 288 * 2) * (P * 24) := Nat.mul_le_mul_right _ this
        _ = P * 288 * (P * 48) := by
          rw [Nat.mul_assoc (P * 288) 2, Nat.mul_comm 2 (P * 24), Nat.mul_assoc P 24 2]
        _ ≤ P * 288 * (P * 288) := Nat.mul_le_mul_left _ (Nat.mul_le_mul_left _ (by decide))
    omega
  · have e3 : (((M * z2.toNat : Nat) : Int) : Rat) = natR M * (z2 : Rat) := by
      rw [Int.natCast_mul, ez, Rat.intCast_mul]
      rfl
    rw [e3, ← h2, ← h1]
    have hT0 : 1 + meanC C t x ≠ 0 := by grind
    grind
theorem natR_inj {a b : Nat} (h : natR a = natR b) : a = b := by
  have h1 : ((a : Int) : Rat) = ((b : Int) : Rat) := h
  have := Rat.intCast_inj.mp h1
  omega
theorem nb_add {M A B : Nat} {r s : Rat} (h : NB M A r) (g : NB M B s) : NB M (A + B) (r + s) := by
  have e := natR_add A B
  have := h.lo
  have := h.hi
  have := g.lo
  have := g.hi
  exact ⟨h.zt.add g.zt, by rw [e]; grind, by rw [e]; grind⟩
theorem nb_neg {M B : Nat} {s : Rat} (g : NB M B s) : NB M B (-s) := by
  have := g.lo
  have := g.hi
  refine ⟨?_, by grind, by grind⟩
  obtain ⟨z, hz⟩ := g.zt
  refine ⟨-z, ?_⟩
  rw [Rat.intCast_neg, ← hz]
  grind
theorem nb_sub {M A B : Nat} {r s : Rat} (h : NB M A r) (g : NB M B s) : NB M (A + B) (r - s) := by
  have : r - s = r + -s := by grind
  rw [this]
  exact nb_add h (nb_neg g)
theorem grp_len {x : Nat} {L : List Nat} (h : WfC C) (G : IsGrp C x L) : L.length + 1 ≤ C.length := nodup_len G.nd G.lt
/-! ### what the defs promise -/
def natssD (ls : List (List Nat)) : PyData := .list (ls.map natsD)
def spGroups (K : PySem.W.Frag) : Sp := fun vs h Q _ => ∃ (b : Hp) (C : List PlC), Ex b h ∧ DtA K b vs [chD C] ∧ WfC C ∧ ∀ v b' h', Gr b h b' h' → Dt K b' v (natssD (groupsL C)) → Q v h'
def spPass (K : PySem.W.Frag) : Sp := fun vs h Q _ => ∃ (b : Hp) (C : List PlC), Ex b h ∧ DtA K b vs [chD C] ∧ WfC C ∧ ∀ v b' h', Gr b h b' h' → Dt K b' v (natsD (passL C)) → Q v h'
def spMeanG (K : PySem.W.Frag) : Sp := fun vs h Q _ => ∃ (b : Hp) (C : List PlC) (x : Nat) (L : List Nat) (e : Nat → Rat) (M B : Nat), Ex b h ∧ DtA K b vs [chD C, natsD (x :: L), listQ C.length e] ∧ WfC C ∧ IsGrp C x L ∧ 0 < M ∧ 1 ≤ B ∧ B * M < 2 ^ 1400 ∧ (∀ y, y < C.length → NB M B (e y)) ∧
  ∀ v b' h' m Z, Gr b h b' h' → GrpMean C x L e m → 0 < Z → Z ≤ 288 ^ (2 * (L.length + 1)) → NB (M * Z) B m → Dt K b' v (nQ m) → Q v h'
def spDivB (K : PySem.W.Frag) : Sp := fun vs h Q _ => ∃ (b : Hp) (p q : Int × Int), Ex b h ∧ DtA K b vs [nD p, nD q] ∧ Red p ∧ Red q ∧ 0 < q.1 ∧ Big 3000 p ∧ Big 3000 q ∧ ∀ v b' h', Gr b h b' h' → Dt K b' v (nD (divN p q)) → Q v h'
def spMinusR (K : PySem.W.Frag) : Sp := fun vs h Q _ => ∃ (b : Hp) (r s : Rat), Ex b h ∧ DtA K b vs [nQ r, nQ s] ∧ Big 3000 (canon r) ∧ Big 3000 (canon s) ∧ ∀ v b' h', Gr b h b' h' → Dt K b' v (nQ (r - s)) → Q v h'
section
variable {K : PySem.W.Frag} {σ : L2.St} {b h : Hp} {ts : TA} {ta tb te : TE} {E : XK} {x : Nat} {r s : Rat} {L : List Nat} {d : PyData} {ds : List PyData} {p q : Int × Int}
theorem ed_groups (y : EDA K ts σ b [chD C]) (h1 : WfC C) : ED K (tCall (spGroups K) [] E ts) σ b (natssD (groupsL C)) := fun h e _ qq =>
  y h e _ fun vs b2 h2' g2 hv => ⟨b2, C, g2.gi, by rw [List.append_nil]; exact hv, h1, fun v b3 h3 g3 hv3 => qq v b3 h3 (g2.trans g3) hv3⟩
theorem ed_pass (y : EDA K ts σ b [chD C]) (h1 : WfC C) : ED K (tCall (spPass K) [] E ts) σ b (natsD (passL C)) := fun h e _ qq =>
  y h e _ fun vs b2 h2' g2 hv => ⟨b2, C, g2.gi, by rw [List.append_nil]; exact hv, h1, fun v b3 h3 g3 hv3 => qq v b3 h3 (g2.trans g3) hv3⟩
theorem ed_minusR (y : EDA K ts σ b [nQ r, nQ s]) (h1 : Big 3000 (canon r)) (h2 : Big 3000 (canon s)) : ED K (tCall (spMinusR K) [] E ts) σ b (nQ (r - s)) := fun h e _ qq =>
  y h e _ fun vs b2 h2' g2 hv => ⟨b2, r, s, g2.gi, by rw [List.append_nil]; exact hv, h1, h2, fun v b3 h3 g3 hv3 => qq v b3 h3 (g2.trans g3) hv3⟩
theorem ed_divB (y : EDA K ts σ b [nQ r, nQ s]) (h1 : Big 3000 (canon r)) (h2 : Big 3000 (canon s)) (h0 : 0 < s) : ED K (tCall (spDivB K) [] E ts) σ b (nQ (r / s)) := by
  have hq : 0 < (canon s).1 := by
    have h1 : 0 ≤ (canon s).1 := Rat.num_nonneg.mpr (Rat.le_of_lt h0)
    have h2 : (canon s).1 ≠ 0 := fun z => by
      have a := q_canon s
      unfold qN at a
      rw [z, Rat.div_def] at a
      have : ((0 : Int) : Rat) = 0 := rfl
      rw [this, Rat.zero_mul] at a
      rw [← a] at h0
      exact absurd h0 (by decide)
    omega
  have e : nD (divN (canon r) (canon s)) = nQ (r / s) := by
    show nD (num _ _) = nD (canon _)
    rw [num_canon (Int.mul_pos (by have := (canon_red r).1; omega) hq), Rat.intCast_mul, Rat.intCast_mul]
    congr 2
    have a := q_canon r
    have c := q_canon s
    unfold qN at a c
    have n1 : (((canon r).2 : Int) : Rat) ≠ 0 := cast_ne (by have := (canon_red r).1; omega)
    have n2 : (((canon s).2 : Int) : Rat) ≠ 0 := cast_ne (by have := (canon_red s).1; omega)
    have n3 : (((canon s).1 : Int) : Rat) ≠ 0 := cast_ne (by omega)
    generalize (((canon r).1 : Int) : Rat) = A at *
    generalize (((canon r).2 : Int) : Rat) = A2 at *
    generalize (((canon s).1 : Int) : Rat) = S at *
    generalize (((canon s).2 : Int) : Rat) = S2 at *
    rw [← a, ← c]
    grind
  rw [← e]
  exact fun h e _ qq => y h e _ fun vs b2 h2' g2 hv => ⟨b2, canon r, canon s, g2.gi, by rw [List.append_nil]; exact hv, canon_red r, canon_red s, hq, h1, h2, fun v b3 h3 g3 hv3 => qq v b3 h3 (g2.trans g3) hv3⟩
end
theorem eqv_natsA : ∀ a b : List Nat, PyData.eqvAll (a.map fun y : Nat => PyData.int (y : Int)) (b.map fun y : Nat => PyData.int (y : Int)) = decide (a = b)
  | [], [] => rfl
  | [], _ :: _ => by
    rw [decide_eq_false (by simp)]
    rfl
  | _ :: _, [] => by
    rw [decide_eq_false (by simp)]
    rfl
  | x :: a, y :: b => by
    rw [List.map_cons, List.map_cons, PyData.eqvAll, eqv_natsA a b]
    have : PyData.eqv (.int (x : Int)) (.int (y : Int)) = decide (x = y) := by
      show ((x : Int) == (y : Int)) = _
      rw [Bool.eq_iff_iff, beq_iff_eq, decide_eq_true_iff]
      omega
    rw [this, Bool.eq_iff_iff, Bool.and_eq_true, decide_eq_true_iff, decide_eq_true_iff, decide_eq_true_iff, List.cons.injEq]
theorem shaped_nats (a : List Nat) : SeqAt.shaped (natsD a) = true := by
  have hl := lay_list (ds := a.map fun y : Nat => PyData.int (y : Int)) fun d hd => by
    obtain ⟨y, _, rfl⟩ := List.mem_map.mp hd
    exact ⟨rfl, by show 0 ≤ 8; decide⟩
  have hl2 : (natsD a).canLay0 = true ∧ (natsD a).depth ≤ 9 := hl
  unfold SeqAt.shaped
  rw [hl2.1, decide_eq_true (Nat.le_trans hl2.2 (by decide))] <;> rfl
theorem ev_eqNats {K : PySem.W.Frag} {σ : L2.St} {b : Hp} {ta tb : TE} {l m : List Nat} (x : ED K ta σ b (natsD l)) (y : ED K tb σ b (natsD m)) : Ev (tOp (rEqD K) ta tb) σ b (.bl (decide (l = m))) := by
  have := ev_eqD x y (shaped_nats l) (shaped_nats m)
  have e : PyData.eqv (natsD l) (natsD m) = decide (l = m) := by
    rw [← eqv_natsA]
    show PyData.eqv (.list _) (.list _) = _
    rw [PyData.eqv]
  rwa [e] at this
theorem rep_list (C : List PlC) (r : Rat) : List.replicate ((C.map PlC.D).length : Int).toNat (nQ r) = (List.range C.length).map fun _ => nQ r := by
  rw [List.length_map, Int.toNat_natCast]
  refine List.ext_getElem? fun i => ?_
  rcases Nat.lt_or_ge i C.length with z | z
  · rw [List.getElem?_replicate, if_pos z, List.getElem?_map, List.getElem?_range z]
    rfl
  · rw [List.getElem?_replicate, if_neg (by omega), List.getElem?_eq_none (by rw [List.length_map, List.length_range]; exact z)]
theorem cut_tail (x : Nat) (L : List Nat) : cutD ((x :: L).map fun y : Nat => PyData.int (y : Int)) (some 1) none = L.map fun y : Nat => PyData.int (y : Int) := by
  unfold cutD
  have e1 : HT.sIx ((x :: L).map fun y : Nat => PyData.int (y : Int)).length 0 (some 1) = 1 := by
    rw [List.length_map, List.length_cons]
    unfold HT.sIx
    simp
    try omega
  have e2 : HT.sIx ((x :: L).map fun y : Nat => PyData.int (y : Int)).length ((x :: L).map fun y : Nat => PyData.int (y : Int)).length none = L.length + 1 := by
    rw [List.length_map, List.length_cons]
    rfl
  rw [e1, e2]
  show (L.map _).take (L.length + 1 - 1) = _
  rw [List.take_of_length_le (by rw [List.length_map]; omega)]
end Md


set_option Elab.async false
set_option linter.all false
set_option maxRecDepth 100000
set_option maxHeartbeats 2000000
/-! Long gains and leads, as the defs find them. -/
namespace Md
open PySem L2 Evl
variable {C : List PlC}
theorem flat_nodup (f : Nat → List Nat) : ∀ {H : List Nat}, H.Nodup → (∀ x ∈ H, (f x).Nodup) → (∀ x ∈ H, ∀ y ∈ H, ∀ z, z ∈ f x → z ∈ f y → x = y) → ((H.map f).flatten).Nodup
  | [], _, _, _ => List.nodup_nil
  | a :: H, h1, h2, h3 => by
    obtain ⟨n1, n2⟩ := List.nodup_cons.mp h1
    rw [List.map_cons, List.flatten_cons, List.nodup_append]
    refine ⟨h2 a (List.mem_cons_self ..), flat_nodup f n2 (fun x hx => h2 x (List.mem_cons_of_mem a hx)) (fun x hx y hy => h3 x (List.mem_cons_of_mem a hx) y (List.mem_cons_of_mem a hy)), fun p hp q hq e => ?_⟩
    subst e
    obtain ⟨l, hl, hq⟩ := List.mem_flatten.mp hq
    obtain ⟨y, hy, rfl⟩ := List.mem_map.mp hl
    have := h3 a (List.mem_cons_self ..) y (List.mem_cons_of_mem a hy) p hp hq
    rw [this] at n1
    exact n1 hy
/-- how many places the first groups have -/
noncomputable def sizeG (C : List PlC) (n : Nat) : Nat := ((((headsL C).take n).map (reachL C)).flatten).length
theorem size_all (h : WfC C) : sizeG C (headsL C).length + (passL C).length ≤ C.length := by
  unfold sizeG
  rw [List.take_length, ← List.length_append]
  refine nodup_len ?_ fun x hx => ?_
  · rw [List.nodup_append]
    refine ⟨flat_nodup _ heads_nodup (fun x _ => reach_nodup C x) (fun x hx y hy z => heads_one h hx hy), pass_nodup, fun p hp q hq e => ?_⟩
    subst e
    obtain ⟨l, hl, hp⟩ := List.mem_flatten.mp hp
    obtain ⟨y, hy, rfl⟩ := List.mem_map.mp hl
    exact (mem_pass.mp hq).2 y hy hp
  · rcases List.mem_append.mp hx with z | z
    · obtain ⟨l, hl, hp⟩ := List.mem_flatten.mp z
      obtain ⟨y, hy, rfl⟩ := List.mem_map.mp hl
      exact reach_lt hp
    · exact pass_lt x z
theorem take_snoc {n x : Nat} {H : List Nat} (e : H[n]? = some x) : H.take (n + 1) = H.take n ++ [x] := by
  rw [List.take_add_one, e]
  rfl
theorem size_succ {n x : Nat} (e : (headsL C)[n]? = some x) : sizeG C (n + 1) = sizeG C n + (reachL C x).length := by
  unfold sizeG
  rw [take_snoc e, List.map_append, List.flatten_append, List.length_append]
  congr 1
  show ([reachL C x].flatten).length = _
  rw [List.flatten_cons, List.flatten_nil, List.append_nil]
theorem take_other {n x : Nat} (h : WfC C) (e : (headsL C)[n]? = some x) {z y : Nat} (hz : z ∈ (headsL C).take n) (hy : y ∈ reachL C z) : y ∉ reachL C x := fun hyx => by
  have hxm := List.mem_of_getElem? e
  have hzm := List.mem_of_mem_take hz
  have := heads_one h hzm hxm hy hyx
  subst this
  have hnd : ((headsL C).take (n + 1)).Nodup := (List.take_sublist (n + 1) _).nodup heads_nodup
  rw [take_snoc e, List.nodup_append] at hnd
  exact hnd.2.2 z hz z (List.mem_singleton.mpr rfl) rfl
/-- what is known after n groups: each group has what R asks -/
structure GInv (C : List PlC) (R : Nat → List Nat → (Nat → Rat) → Prop) (M : Nat) (B k : Nat) (n : Nat) (kn : Nat → Rat) (Z : Nat) : Prop where
  z0 : 0 < Z
  z1 : Z ≤ 288 ^ (k * sizeG C n)
  nb : ∀ y, NB (M * Z) B (kn y)
  grp : ∀ x ∈ (headsL C).take n, ∀ L, reachL C x = x :: L → R x L kn
  out : ∀ y, (∀ x ∈ (headsL C).take n, y ∉ reachL C x) → kn y = 0
theorem ginv_zero {R : Nat → List Nat → (Nat → Rat) → Prop} {M B k : Nat} : GInv C R M B k 0 (fun _ => 0) 1 := ⟨by decide, Nat.pow_pos (by decide), fun _ => nb_zero _ _, fun x hx => (by rw [List.take_zero] at hx; cases hx), fun _ _ => rfl⟩
theorem ginv_step (h : WfC C) {R : Nat → List Nat → (Nat → Rat) → Prop} (hR : ∀ x L f g, R x L f → (∀ y ∈ x :: L, g y = f y) → R x L g) {M B k n x Z Zg : Nat} {kn nw : Nat → Rat} (g : GInv C R M B k n kn Z) {L : List Nat} (e : (headsL C)[n]? = some x) (hL : reachL C x = x :: L) (z0 : 0 < Zg) (z1 : Zg ≤ 288 ^ (k * (L.length + 1)))
    (nb : ∀ y ∈ x :: L, NB (M * Zg) B (nw y)) (hr : R x L nw) : GInv C R M B k (n + 1) (fun y => if y ∈ x :: L then nw y else kn y) (Z * Zg) := by
  refine ⟨Nat.mul_pos g.z0 z0, ?_, fun y => ?_, fun z hz Lz hLz => ?_, fun y hy => ?_⟩
  · rw [size_succ e, hL, Nat.mul_add, Nat.pow_add]
    exact Nat.mul_le_mul g.z1 z1
  · show NB _ _ (if y ∈ x :: L then nw y else kn y)
    by_cases hy : y ∈ x :: L
    · rw [if_pos hy]
      exact (nb y hy).mono ⟨Z, by rw [Nat.mul_comm Z Zg, ← Nat.mul_assoc]⟩ (Nat.le_refl _)
    · rw [if_neg hy]
      exact (g.nb y).mono ⟨Zg, by rw [← Nat.mul_assoc]⟩ (Nat.le_refl _)
  · rw [take_snoc e] at hz
    rcases List.mem_append.mp hz with hz | hz
    · refine hR z Lz kn _ (g.grp z hz Lz hLz) fun y hy => ?_
      have := take_other h e hz (y := y) (by rw [hLz]; exact hy)
      rw [hL] at this
      exact if_neg this
    · obtain rfl := List.mem_singleton.mp hz
      rw [hL] at hLz
      injection hLz with _ hLz
      subst hLz
      exact hR z L nw _ hr fun y hy => if_pos hy
  · have h1 : y ∉ x :: L := by
      rw [← hL]
      exact hy x (by rw [take_snoc e]; exact List.mem_append_right _ (List.mem_singleton.mpr rfl))
    show (if y ∈ x :: L then nw y else kn y) = 0
    rw [if_neg h1]
    exact g.out y fun z hz => hy z (by rw [take_snoc e]; exact List.mem_append_left _ hz)
theorem ginv_pass {R : Nat → List Nat → (Nat → Rat) → Prop} {M B k Z : Nat} {kn : Nat → Rat} (g : GInv C R M B k (headsL C).length kn Z) : (∀ x ∈ passL C, kn x = 0) ∧ ∀ x ∈ headsL C, ∀ L, reachL C x = x :: L → R x L kn := by
  refine ⟨fun x hx => g.out x fun z hz => ?_, fun x hx L hL => g.grp x (by rw [List.take_length]; exact hx) L hL⟩
  rw [List.take_length] at hz
  exact (mem_pass.mp hx).2 z hz
theorem pass_out (h : WfC C) {x : Nat} {L : List Nat} (hx : x ∈ headsL C) (hL : reachL C x = x :: L) {y : Nat} (hy : y ∈ x :: L) : y ∉ passL C := fun z => (mem_pass.mp z).2 x hx (by rw [hL]; exact hy)
def RLong (C : List PlC) (x : Nat) (L : List Nat) (f : Nat → Rat) : Prop := ∃ m, GrpMean C x L (gainC C) m ∧ ∀ y ∈ x :: L, f y = m
def RLead (C : List PlC) (g : Nat → Rat) (x : Nat) (L : List Nat) (f : Nat → Rat) : Prop := ∃ s m, IsFill C L (fun y => gainC C y - g y) (fun _ => 0) s ∧ GrpMean C x L s m ∧ ∀ y ∈ x :: L, f y = s y - m
theorem rlong_mono (x : Nat) (L : List Nat) (f g : Nat → Rat) (h : RLong C x L f) (e : ∀ y ∈ x :: L, g y = f y) : RLong C x L g := by
  obtain ⟨m, h1, h2⟩ := h
  exact ⟨m, h1, fun y hy => (e y hy).trans (h2 y hy)⟩
theorem rlead_mono {g0 : Nat → Rat} (x : Nat) (L : List Nat) (f g : Nat → Rat) (h : RLead C g0 x L f) (e : ∀ y ∈ x :: L, g y = f y) : RLead C g0 x L g := by
  obtain ⟨s, m, h1, h2, h3⟩ := h
  exact ⟨s, m, h1, h2, fun y hy => (e y hy).trans (h3 y hy)⟩
def spLong (K : PySem.W.Frag) : Sp := fun vs h Q _ => ∃ (b : Hp) (C : List PlC), Ex b h ∧ DtA K b vs [chD C] ∧ WfC C ∧
  ∀ v b' h' g Z, Gr b h b' h' → LongOk C g → 0 < Z → Z ≤ 288 ^ (2 * C.length) → (∀ y, y < C.length → NB (denL (gainsC C) * Z) 1000 (g y)) → Dt K b' v (listQ C.length g) → OwnF h b' v → Q v h'
/-- long gains are one alone, and leads -/
theorem mean_unique {x : Nat} {L : List Nat} (h : WfC C) (G : IsGrp C x L) {e : Nat → Rat} {m m' : Rat} (h1 : GrpMean C x L e m) (h2 : GrpMean C x L e m') : m = m' := by
  obtain ⟨s, t, a1, a2, a3⟩ := h1.ex
  obtain ⟨s', t', b1, b2, b3⟩ := h2.ex
  have hL : ∀ y ∈ L, y < C.length := fun y hy => G.lt y (List.mem_cons_of_mem x hy)
  have e1 := fill_unique h hL (out_tail h G) a1 b1
  have e2 := fill_unique h hL (out_tail h G) a2 b2
  rw [a3, b3, mean_congr h (f := s) (g := s') fun q _ => e1 q.2, mean_congr h (f := t) (g := t') fun q _ => e2 q.2]
theorem long_unique (h : WfC C) {f g : Nat → Rat} (hf : LongOk C f) (hg : LongOk C g) : ∀ y, y < C.length → f y = g y := by
  have hgr : ∀ x ∈ headsL C, ∀ y ∈ reachL C x, f y = g y := fun x hx y hy => by
    obtain ⟨L, e, G⟩ := head_grp h hx
    obtain ⟨m, a1, a2⟩ := hf.grp x hx L e
    obtain ⟨m', b1, b2⟩ := hg.grp x hx L e
    rw [e] at hy
    rw [a2 y hy, b2 y hy, mean_unique h G a1 b1]
  -- both fill the same
  have two : ∀ {f g : Nat → Rat}, LongOk C f → LongOk C g → (∀ x ∈ headsL C, ∀ y ∈ reachL C x, f y = g y) → ∀ x ∈ passL C, f x - g x ≤ 0 := fun {f g} hf hg hgr => max_closed h pass_lt (out_pass h) (f := fun y => f y - g y) (fun y hy hn => by
    show f y - g y ≤ 0
    rcases pass_or (C := C) hy with z | ⟨x, hx, hm⟩
    · exact absurd z hn
    · rw [hgr x hx y hm]
      grind) fun x hx => by
      rw [mean_sub, ← hf.pas x hx, ← hg.pas x hx]
      exact Rat.le_refl
  intro y hy
  rcases pass_or (C := C) hy with z | ⟨x, hx, hm⟩
  · have a := two hf hg hgr y z
    have b := two hg hf (fun x hx y hy => (hgr x hx y hy).symm) y z
    grind
  · exact hgr x hx y hm
end Md


set_option Elab.async false
set_option linter.all false
set_option maxRecDepth 100000
set_option maxHeartbeats 2000000
/-! The long gains and leads of a chain. -/
namespace Md
open PySem L2 Evl
variable {C : List PlC}
theorem mean_exists (h : WfC C) {x : Nat} {L : List Nat} (G : IsGrp C x L) {e : Nat → Rat} {M B : Nat} (hM : 0 < M) (hB : 1 ≤ B) (hMB : B * M < 2 ^ 1400) (he : ∀ y, y < C.length → NB M B (e y)) : ∃ m Z, GrpMean C x L e m ∧ 0 < Z ∧ Z ≤ 288 ^ (2 * (L.length + 1)) ∧ NB (M * Z) B m := by
  have hx := G.lt x (List.mem_cons_self ..)
  have hLl := grp_len h G
  have h12 := h.l12
  have hLn : L.Nodup := (List.nodup_cons.mp G.nd).2
  have hLt : ∀ y ∈ L, y < C.length := fun y hy => G.lt y (List.mem_cons_of_mem x hy)
  obtain ⟨s, D1, hS, a1, a2, a3, _⟩ := fill_dataS h hLn (by omega) hLt (out_tail h G) (e := e) (kn := fun _ => 0) hM hB hMB (fun y hy => he y (hLt y hy)) (fun _ _ => nb_zero _ _) (fun _ _ => rfl)
  obtain ⟨t, D2, hT, b1, b2, b3, _⟩ := fill_dataS h hLn (by omega) hLt (out_tail h G) (e := fun _ => 1) (kn := fun _ => 0) (M := 1) (B := 1) (by decide) (by decide) (by decide +kernel) (fun _ _ => nb_one (by decide)) (fun _ _ => nb_zero _ _) (fun _ _ => rfl)
  obtain ⟨Z, c1, c2, c3⟩ := grp_mean_zt h G (e := e) a3 (he x hx).zt a1 a2.1 (natR_inj (by rw [a2.2, b2.2])) b3 hT
  have hGM : GrpMean C x L e ((e x + meanC C s x) / (1 + meanC C t x)) := ⟨s, t, hS, hT, rfl⟩
  have hbd := grp_mean_bd h G (B := B) (fun y hy => ⟨(he y hy).lo, (he y hy).hi⟩) hGM
  exact ⟨_, Z, hGM, c1, c2, c3, hbd.1, hbd.2⟩
theorem head_at {n : Nat} (hn : n < (headsL C).length) : ∃ x, (headsL C)[n]? = some x := ⟨_, List.getElem?_eq_getElem hn⟩
theorem unit_lt13 (h : WfC C) {j : Nat} {Z a : Nat} (hZ : Z ≤ 2 ^ a) : denL (gainsC C) * Z < 2 ^ (a + 120) := by
  rw [Nat.mul_comm]
  exact lt_pow_mul (Nat.le_refl _) hZ (unit_lt h).2
theorem pow288 {k a : Nat} (h : k ≤ a) : 288 ^ k ≤ 2 ^ (9 * a) := by
  refine Nat.le_trans (Nat.pow_le_pow_right (by decide) h) ?_
  rw [Nat.pow_mul]
  exact Nat.pow_le_pow_left (by decide) a
theorem long_ginv (h : WfC C) : ∀ n, n ≤ (headsL C).length → ∃ kn Z, GInv C (RLong C) (denL (gainsC C)) 1000 2 n kn Z
  | 0, _ => ⟨_, _, ginv_zero⟩
  | n + 1, hn => by
    obtain ⟨kn, Z, g⟩ := long_ginv h n (by omega)
    obtain ⟨x, hx⟩ := head_at (C := C) (n := n) (by omega)
    obtain ⟨L, e, G⟩ := head_grp h (List.mem_of_getElem? hx)
    obtain ⟨m, Zg, a1, a2, a3, a4⟩ := mean_exists h G (e := gainC C) (M := denL (gainsC C)) (B := 1000) (unit_lt h).1 (by decide) (Nat.lt_of_lt_of_le (lt_pow_mul (i := 10) (Nat.le_refl _) (by decide) (unit_lt h).2) (Nat.pow_le_pow_right (by decide) (by decide))) fun y hy => gain_nb h hy
    exact ⟨_, _, ginv_step h rlong_mono g hx e a2 a3 (nw := fun _ => m) (fun _ _ => a4) ⟨m, a1, fun _ _ => rfl⟩⟩
theorem long_exists (h : WfC C) : ∃ g Z, LongOk C g ∧ 0 < Z ∧ Z ≤ 288 ^ (2 * C.length) ∧ ∀ y, y < C.length → NB (denL (gainsC C) * Z) 1000 (g y) := by
  obtain ⟨kn, Z, inv⟩ := long_ginv h _ (Nat.le_refl _)
  obtain ⟨ip, ig⟩ := ginv_pass inv
  have hsz := size_all h
  have h12 := h.l12
  have hz2 : Z ≤ 288 ^ (2 * C.length) := Nat.le_trans inv.z1 (Nat.pow_le_pow_right (by decide) (by omega))
  have hz3 : Z ≤ 2 ^ (9 * 24) := Nat.le_trans hz2 (pow288 (by omega))
  have hpl := nodup_len (pass_nodup (C := C)) pass_lt
  obtain ⟨f, D, hF, d0, d1, d2, _⟩ := fill_dataS h pass_nodup (by omega) pass_lt (out_pass h) (e := fun _ => 0) (kn := kn) (M := denL (gainsC C) * Z) (B := 1000) (Nat.mul_pos (unit_lt h).1 inv.z0) (by decide) (Nat.lt_of_lt_of_le (lt_pow_mul (i := 10) (Nat.le_refl _) (by decide) (unit_lt13 (j := 0) h hz3)) (Nat.pow_le_pow_right (by decide) (by decide))) (fun _ _ => nb_zero _ _) (fun y _ => inv.nb y) ip
  have hbd := fill_same_bd h pass_lt (out_pass h) (B := 1000) (fun y _ => ⟨(inv.nb y).lo, (inv.nb y).hi⟩) hF
  refine ⟨f, Z * D, ⟨fun x hx L hL => ?_, fun x hx => ?_⟩, Nat.mul_pos inv.z0 d0, ?_, fun y hy => ⟨?_, (hbd y hy).1, (hbd y hy).2⟩⟩
  · obtain ⟨m, a1, a2⟩ := ig x hx L hL
    exact ⟨m, a1, fun y hy => by rw [hF.out y (pass_out h hx hL hy)]; exact a2 y hy⟩
  · have := hF.eq x hx
    rwa [Rat.zero_add] at this
  · refine Nat.le_trans (Nat.mul_le_mul inv.z1 d1.1) ?_
    rw [← Nat.pow_add]
    exact Nat.pow_le_pow_right (by decide) (by omega)
  · have := (d2 y hy).zt
    rwa [Nat.mul_assoc] at this
open Classical in
noncomputable def longC (C : List PlC) : Nat → Rat := if h : ∃ g, LongOk C g then h.choose else fun _ => 0
theorem long_ok (h : WfC C) : LongOk C (longC C) := by
  obtain ⟨g, Z, a, _⟩ := long_exists h
  have e : ∃ g, LongOk C g := ⟨g, a⟩
  unfold longC
  rw [dif_pos e]
  exact e.choose_spec
theorem long_nb (h : WfC C) : ∃ Z, 0 < Z ∧ Z ≤ 288 ^ (2 * C.length) ∧ ∀ y, y < C.length → NB (denL (gainsC C) * Z) 1000 (longC C y) := by
  obtain ⟨g, Z, a, b, c, d⟩ := long_exists h
  exact ⟨Z, b, c, fun y hy => by rw [long_unique h (long_ok h) a y hy]; exact d y hy⟩
theorem long_is (h : WfC C) {g : Nat → Rat} (hg : LongOk C g) : listQ C.length g = listQ C.length (longC C) := listQ_congr fun y hy => long_unique h hg (long_ok h) y hy
/-! ### leads -/
theorem lead_unique (h : WfC C) {g f f' : Nat → Rat} (hf : LeadOk C g f) (hf' : LeadOk C g f') : ∀ y, y < C.length → f y = f' y := by
  have hgr : ∀ x ∈ headsL C, ∀ y ∈ reachL C x, f y = f' y := fun x hx y hy => by
    obtain ⟨L, e, G⟩ := head_grp h hx
    obtain ⟨s, m, a1, a2, a3⟩ := hf.grp x hx L e
    obtain ⟨s', m', b1, b2, b3⟩ := hf'.grp x hx L e
    have hL : ∀ y ∈ L, y < C.length := fun y hy => G.lt y (List.mem_cons_of_mem x hy)
    have es : s = s' := funext (fill_unique h hL (out_tail h G) a1 b1)
    subst es
    rw [e] at hy
    rw [a3 y hy, b3 y hy, mean_unique h G a2 b2]
  have two : ∀ {f f' : Nat → Rat}, LeadOk C g f → LeadOk C g f' → (∀ x ∈ headsL C, ∀ y ∈ reachL C x, f y = f' y) → ∀ x ∈ passL C, f x - f' x ≤ 0 := fun {f f'} hf hf' hgr => max_closed h pass_lt (out_pass h) (f := fun y => f y - f' y) (fun y hy hn => by
    show f y - f' y ≤ 0
    rcases pass_or (C := C) hy with z | ⟨x, hx, hm⟩
    · exact absurd z hn
    · rw [hgr x hx y hm]
      grind) fun x hx => by
      have a := hf.pas x hx
      have b := hf'.pas x hx
      rw [mean_sub]
      show f x - f' x ≤ _
      grind
  intro y hy
  rcases pass_or (C := C) hy with z | ⟨x, hx, hm⟩
  · have a := two hf hf' hgr y z
    have b := two hf' hf (fun x hx y hy => (hgr x hx y hy).symm) y z
    grind
  · exact hgr x hx y hm
theorem grp_pass_len (h : WfC C) {x : Nat} {L : List Nat} (hx : x ∈ headsL C) (hL : reachL C x = x :: L) (G : IsGrp C x L) : L.length + 1 + (passL C).length ≤ C.length := by
  have : ((x :: L) ++ passL C).Nodup := by
    rw [List.nodup_append]
    exact ⟨G.nd, pass_nodup, fun a ha b hb e => pass_out h hx hL ha (by rw [e]; exact hb)⟩
  have := nodup_len this fun y hy => by
    rcases List.mem_append.mp hy with z | z
    · exact G.lt y z
    · exact pass_lt y z
  rw [List.length_append] at this
  exact this
theorem ahead_nb (h : WfC C) {Z : Nat} (hg : ∀ y, y < C.length → NB (denL (gainsC C) * Z) 1000 (longC C y)) : ∀ y, y < C.length → NB (denL (gainsC C) * Z) 2000 (gainC C y - longC C y) := fun y hy => nb_sub ((gain_nb h hy).mono (Nat.dvd_mul_right _ _) (Nat.le_refl _)) (hg y hy)
/-- the sizes of one group's leads -/
theorem lead_size (h : WfC C) {x : Nat} {L : List Nat} (hx : x ∈ headsL C) (hL : reachL C x = x :: L) (G : IsGrp C x L) {M D Zg : Nat} {s : Nat → Rat} {m : Rat} (hD : D ≤ 288 ^ L.length) (hZ : Zg ≤ 288 ^ (2 * (L.length + 1))) (hs : ∀ y, y < C.length → NB (M * D) (2000 * 288 ^ (L.length + 1)) (s y)) (hm : NB (M * D * Zg) (2000 * 288 ^ (L.length + 1)) m) :
    D * Zg ≤ 288 ^ (3 * (L.length + 1)) ∧ ∀ y ∈ x :: L, NB (M * (D * Zg)) (4000 * 288 ^ (C.length - (passL C).length)) (s y - m) := by
  have hl := grp_pass_len h hx hL G
  refine ⟨?_, fun y hy => ?_⟩
  · refine Nat.le_trans (Nat.mul_le_mul hD hZ) ?_
    rw [← Nat.pow_add]
    exact Nat.pow_le_pow_right (by decide) (by omega)
  · have a := nb_sub ((hs y (G.lt y hy)).mono (Nat.dvd_mul_right _ Zg) (Nat.le_refl _)) hm
    rw [Nat.mul_assoc] at a
    refine a.mono (Nat.dvd_refl _) ?_
    have : 288 ^ (L.length + 1) ≤ 288 ^ (C.length - (passL C).length) := Nat.pow_le_pow_right (by decide) (by omega)
    omega
theorem sz_raise {U0 : Nat} (h : WfC C) {Z : Nat} (hZ : Z ≤ 288 ^ (2 * C.length)) : 2000 * (denL (gainsC C) * Z) < 2 ^ 1400 := by
  have h12 := h.l12
  have hz3 : Z ≤ 2 ^ (9 * 24) := Nat.le_trans hZ (pow288 (by omega))
  exact Nat.lt_of_lt_of_le (lt_pow_mul (i := 11) (Nat.le_refl _) (by decide) (unit_lt13 (j := 0) h hz3)) (Nat.pow_le_pow_right (by decide) (by decide))
theorem sz_mean (h : WfC C) {Z D l : Nat} (hZ : Z ≤ 288 ^ (2 * C.length)) (hl : l + 1 ≤ C.length) (hD : D ≤ 288 ^ l) : 2000 * 288 ^ (l + 1) * (denL (gainsC C) * Z * D) < 2 ^ 1400 := by
  have h12 := h.l12
  have a : 288 ^ (2 * C.length) * 288 ^ l ≤ 288 ^ (2 * C.length + l) := by rw [← Nat.pow_add]; exact Nat.le_refl _
  have b : Z * D ≤ 2 ^ (9 * 36) := Nat.le_trans (Nat.le_trans (Nat.mul_le_mul hZ hD) a) (pow288 (by omega))
  have c : 2000 * 288 ^ (l + 1) ≤ 2 ^ (11 + 9 * 12) := by
    have c1 : 288 ^ (l + 1) ≤ 2 ^ (9 * 12) := pow288 (k := l + 1) (a := 12) (by omega)
    generalize 288 ^ (l + 1) = P at *
    rw [Nat.pow_add]
    exact Nat.mul_le_mul (by decide) c1
  rw [Nat.mul_assoc (denL (gainsC C))]
  exact Nat.lt_of_lt_of_le (lt_pow_mul (Nat.le_refl _) c (unit_lt13 (j := 0) h b)) (Nat.pow_le_pow_right (by decide) (by decide))
theorem sz_last (h : WfC C) {Z W : Nat} (hZ : Z ≤ 288 ^ (2 * C.length)) (hW : W ≤ 288 ^ (3 * C.length)) : 4000 * 288 ^ (C.length - (passL C).length) * (denL (gainsC C) * Z * W) < 2 ^ 1400 := by
  have h12 := h.l12
  have a : 288 ^ (2 * C.length) * 288 ^ (3 * C.length) ≤ 288 ^ (2 * C.length + 3 * C.length) := by rw [← Nat.pow_add]; exact Nat.le_refl _
  have b : Z * W ≤ 2 ^ (9 * 60) := Nat.le_trans (Nat.le_trans (Nat.mul_le_mul hZ hW) a) (pow288 (by omega))
  have c : 4000 * 288 ^ (C.length - (passL C).length) ≤ 2 ^ (12 + 9 * 12) := by
    rw [Nat.pow_add]
    exact Nat.mul_le_mul (by decide) (pow288 (by omega))
  rw [Nat.mul_assoc (denL (gainsC C))]
  exact Nat.lt_of_lt_of_le (lt_pow_mul (Nat.le_refl _) c (unit_lt13 (j := 0) h b)) (Nat.pow_le_pow_right (by decide) (by decide))
/-- what comes of the last fill -/
theorem lead_last (h : WfC C) {Z0 W D : Nat} {kn f : Nat → Rat} (z0 : 0 < Z0) (z1 : Z0 ≤ 288 ^ (2 * C.length)) (inv : GInv C (RLead C (longC C)) (denL (gainsC C) * Z0) (4000 * 288 ^ (C.length - (passL C).length)) 3 (headsL C).length kn W) (d0 : 0 < D) (d1 : D ≤ 288 ^ (passL C).length)
    (hF : IsFill C (passL C) (fun y => gainC C y - longC C y) kn f) (hNf : ∀ y, y < C.length → NB (denL (gainsC C) * Z0 * W * D) (4000 * 288 ^ (C.length - (passL C).length) * 288 ^ ((passL C).length + 1)) (f y)) :
    LeadOk C (longC C) f ∧ 0 < Z0 * W * D ∧ Z0 * W * D ≤ 288 ^ (5 * C.length) ∧ ∀ y, y < C.length → NB (denL (gainsC C) * (Z0 * W * D)) (4000 * 288 ^ (C.length + 1)) (f y) := by
  obtain ⟨ip, ig⟩ := ginv_pass inv
  have hsz := size_all h
  refine ⟨⟨fun x hx L hL => ?_, fun x hx => hF.eq x hx⟩, Nat.mul_pos (Nat.mul_pos z0 inv.z0) d0, ?_, fun y hy => ?_⟩
  · obtain ⟨s, m, a1, a2, a3⟩ := ig x hx L hL
    exact ⟨s, m, a1, a2, fun y hy => by rw [hF.out y (pass_out h hx hL hy)]; exact a3 y hy⟩
  · refine Nat.le_trans (Nat.mul_le_mul (Nat.mul_le_mul z1 inv.z1) d1) ?_
    rw [← Nat.pow_add, ← Nat.pow_add]
    exact Nat.pow_le_pow_right (by decide) (by omega)
  · have a := hNf y hy
    rw [Nat.mul_assoc 4000, ← Nat.pow_add] at a
    have e1 : C.length - (passL C).length + ((passL C).length + 1) = C.length + 1 := by omega
    have e2 : denL (gainsC C) * Z0 * W * D = denL (gainsC C) * (Z0 * W * D) := by simp only [Nat.mul_assoc]
    rw [e1, e2] at a
    exact a
theorem lead_ginv (h : WfC C) {Z0 : Nat} (z0 : 0 < Z0) (z1 : Z0 ≤ 288 ^ (2 * C.length)) (hg : ∀ y, y < C.length → NB (denL (gainsC C) * Z0) 1000 (longC C y)) : ∀ n, n ≤ (headsL C).length → ∃ kn W, GInv C (RLead C (longC C)) (denL (gainsC C) * Z0) (4000 * 288 ^ (C.length - (passL C).length)) 3 n kn W
  | 0, _ => ⟨_, _, ginv_zero⟩
  | n + 1, hn => by
    obtain ⟨kn, W, g⟩ := lead_ginv h z0 z1 hg n (by omega)
    obtain ⟨x, hx⟩ := head_at (C := C) (n := n) (by omega)
    have hxm := List.mem_of_getElem? hx
    obtain ⟨L, e, G⟩ := head_grp h hxm
    have hLl := grp_len h G
    have h12 := h.l12
    have hLn : L.Nodup := (List.nodup_cons.mp G.nd).2
    have hLt : ∀ y ∈ L, y < C.length := fun y hy => G.lt y (List.mem_cons_of_mem x hy)
    have M0 : 0 < denL (gainsC C) * Z0 := Nat.mul_pos (unit_lt h).1 z0
    obtain ⟨s, D, a1, a2, a3, a4, _⟩ := fill_dataS h hLn (by omega) hLt (out_tail h G) (e := fun y => gainC C y - longC C y) (kn := fun _ => 0) (B := 2000) M0 (by decide) (sz_raise (U0 := 0) h z1) (fun y hy => ahead_nb h hg y (hLt y hy)) (fun _ _ => nb_zero _ _) (fun _ _ => rfl)
    obtain ⟨m, Zg, b1, b2, b3, b4⟩ := mean_exists h G (e := s) (Nat.mul_pos M0 a2) (Nat.mul_pos (by decide) (Nat.pow_pos (by decide))) (sz_mean h z1 hLl a3.1) a4
    obtain ⟨c1, c2⟩ := lead_size h hxm e G a3.1 b3 a4 b4
    exact ⟨_, _, ginv_step h rlead_mono g hx e (Nat.mul_pos a2 b2) c1 (nw := fun y => s y - m) c2 ⟨s, m, a1, b1, fun _ _ => rfl⟩⟩
theorem lead_exists (h : WfC C) : ∃ f Z, LeadOk C (longC C) f ∧ 0 < Z ∧ Z ≤ 288 ^ (5 * C.length) ∧ ∀ y, y < C.length → NB (denL (gainsC C) * Z) (4000 * 288 ^ (C.length + 1)) (f y) := by
  obtain ⟨Z0, z0, z1, hg⟩ := long_nb h
  obtain ⟨kn, W, inv⟩ := lead_ginv h z0 z1 hg _ (Nat.le_refl _)
  obtain ⟨ip, ig⟩ := ginv_pass inv
  have hsz := size_all h
  have h12 := h.l12
  have hpl := nodup_len (pass_nodup (C := C)) pass_lt
  have hW2 : W ≤ 288 ^ (3 * C.length) := Nat.le_trans inv.z1 (Nat.pow_le_pow_right (by decide) (by omega))
  obtain ⟨f, D, hF, d0, d1, d2, _⟩ := fill_dataS h pass_nodup (by omega) pass_lt (out_pass h) (e := fun y => gainC C y - longC C y) (kn := kn) (M := denL (gainsC C) * Z0 * W) (B := 4000 * 288 ^ (C.length - (passL C).length)) (Nat.mul_pos (Nat.mul_pos (unit_lt h).1 z0) inv.z0) (Nat.mul_pos (by decide) (Nat.pow_pos (by decide))) (sz_last h z1 hW2)
    (fun y hy => (ahead_nb h hg y (pass_lt y hy)).mono (Nat.dvd_mul_right _ _) (Nat.le_trans (by decide : 2000 ≤ 4000 * 1) (Nat.mul_le_mul_left 4000 (Nat.pow_pos (by decide))))) (fun y _ => inv.nb y) ip
  obtain ⟨c1, c2, c3, c4⟩ := lead_last h z0 z1 inv d0 d1.1 hF d2
  exact ⟨f, _, c1, c2, c3, c4⟩
open Classical in
noncomputable def leadC (C : List PlC) : Nat → Rat := if h : ∃ f, LeadOk C (longC C) f then h.choose else fun _ => 0
theorem lead_ok (h : WfC C) : LeadOk C (longC C) (leadC C) := by
  obtain ⟨g, Z, a, _⟩ := lead_exists h
  have e : ∃ f, LeadOk C (longC C) f := ⟨g, a⟩
  unfold leadC
  rw [dif_pos e]
  exact e.choose_spec
theorem lead_nb (h : WfC C) : ∃ Z, 0 < Z ∧ Z ≤ 288 ^ (5 * C.length) ∧ ∀ y, y < C.length → NB (denL (gainsC C) * Z) (4000 * 288 ^ (C.length + 1)) (leadC C y) := by
  obtain ⟨g, Z, a, b, c, d⟩ := lead_exists h
  exact ⟨Z, b, c, fun y hy => by rw [lead_unique h (lead_ok h) a y hy]; exact d y hy⟩
theorem lead_is (h : WfC C) {f : Nat → Rat} (hf : LeadOk C (longC C) f) : listQ C.length f = listQ C.length (leadC C) := listQ_congr fun y hy => lead_unique h hf (lead_ok h) y hy
def spLead (K : PySem.W.Frag) : Sp := fun vs h Q _ => ∃ (b : Hp) (C : List PlC), Ex b h ∧ DtA K b vs [chD C] ∧ WfC C ∧ ∀ v b' h', Gr b h b' h' → Dt K b' v (listQ C.length (leadC C)) → OwnF h b' v → Q v h'
section
variable {K : PySem.W.Frag} {σ : L2.St} {b h : Hp} {ts : TA} {E : XK}
theorem ed_long (y : EDA K ts σ b [chD C]) (h1 : WfC C) : ED K (tCall (spLong K) [] E ts) σ b (listQ C.length (longC C)) := fun h e _ qq =>
  y h e _ fun vs b2 h2' g2 hv => ⟨b2, C, g2.gi, by rw [List.append_nil]; exact hv, h1, fun v b3 h3 g Z g3 hg _ _ _ hv3 _ => qq v b3 h3 (g2.trans g3) (by rw [← long_is h1 hg]; exact hv3)⟩
theorem ed_lead (y : EDA K ts σ b [chD C]) (h1 : WfC C) : ED K (tCall (spLead K) [] E ts) σ b (listQ C.length (leadC C)) := fun h e _ qq =>
  y h e _ fun vs b2 h2' g2 hv => ⟨b2, C, g2.gi, by rw [List.append_nil]; exact hv, h1, fun v b3 h3 g3 hv3 _ => qq v b3 h3 (g2.trans g3) hv3⟩
end
end Md


set_option Elab.async false
set_option linter.all false
set_option maxRecDepth 100000
set_option maxHeartbeats 2000000
/-! Leads by ways; a ring of two. -/
namespace Md
open PySem L2 Evl
variable {C : List PlC}
theorem sure_fill (h : WfC C) {x : Nat} (hx : x < C.length) {e f : Nat → Rat} (h0 : f x = 0) (hf : ∀ y ∈ beforeL C x, f y = e y + meanC C f y) : IsFill C (beforeL C x) e (fun _ => 0) (fun y => if y ∈ sureL C x then f y else 0) := ⟨fun y hy => by
  have hs := (mem_beforeL.mp hy).1
  have em : meanC C (fun y => if y ∈ sureL C x then f y else 0) y = meanC C f y := mean_congr h fun q hq => if_pos (sure_step h hx hy hq)
  show (if y ∈ sureL C x then f y else 0) = _
  rw [em, if_pos hs]
  exact hf y hy, fun y hy => by
  show (if y ∈ sureL C x then f y else 0) = 0
  by_cases c : y ∈ sureL C x
  · rw [if_pos c]
    have : y = x := Classical.byContradiction fun hne => hy (mem_beforeL.mpr ⟨c, hne⟩)
    rw [this]
    exact h0
  · rw [if_neg c]⟩
theorem ways_lead (h : WfC C) {x : Nat} (hx : x < C.length) {w k : Nat → Rat} (hw : IsFill C (beforeL C x) (fun _ => 1) (fun _ => 0) w) (hk : IsFill C (beforeL C x) (gainC C) (fun _ => 0) k) :
    (∀ y ∈ sureL C x, longC C y = longC C x ∧ leadC C y - leadC C x = k y - longC C x * w y) ∧ ((∀ q ∈ (plC C x).bs, q.2 ∈ sureL C x) → longC C x * (1 + meanC C w x) = gainC C x + meanC C k x) := by
  have hL : ∀ y ∈ beforeL C x, y < C.length := fun y hy => sure_lt (mem_beforeL.mp hy).1
  have hO := out_before h hx
  have hg : ∀ y ∈ sureL C x, longC C y = longC C x := fun y hy => by
    have a := sure_fill h hx (e := fun _ => 0) (f := fun y => longC C y - longC C x) (by grind) fun y hy => by
      rw [mean_sub, mean_const h _ (hL y hy), ← long_mean h (long_ok h) (hL y hy)]
      grind
    have z : IsFill C (beforeL C x) (fun _ => 0) (fun _ => 0) (fun _ => 0) := ⟨fun y hy => by
      rw [mean_const h 0 (hL y hy)]
      grind, fun _ _ => rfl⟩
    have e := fill_unique h hL hO a z y
    rw [if_pos hy] at e
    grind
  have hh : ∀ y ∈ sureL C x, leadC C y - leadC C x = k y - longC C x * w y := fun y hy => by
    have a := sure_fill h hx (e := fun y => gainC C y - longC C x) (f := fun y => leadC C y - leadC C x) (by grind) fun y hy => by
      rw [mean_sub, mean_const h _ (hL y hy)]
      have := lead_eq h (long_ok h) (lead_ok h) (hL y hy)
      rw [hg y (mem_beforeL.mp hy).1] at this
      grind
    have z : IsFill C (beforeL C x) (fun y => gainC C y - longC C x) (fun _ => 0) (fun y => k y - longC C x * w y) := ⟨fun y hy => by
      rw [mean_sub, mean_mulC]
      have e1 := hk.eq y hy
      have e2 := hw.eq y hy
      show k y - longC C x * w y = _
      rw [e1, e2]
      grind, fun y hy => by
      show k y - longC C x * w y = 0
      rw [hk.out y hy, hw.out y hy]
      grind⟩
    have e := fill_unique h hL hO a z y
    rw [if_pos hy] at e
    exact e
  refine ⟨fun y hy => ⟨hg y hy, hh y hy⟩, fun hq => ?_⟩
  have e1 : meanC C (fun y => leadC C y - leadC C x) x = meanC C (fun y => k y - longC C x * w y) x := mean_congr h fun q hqm => hh _ (hq q hqm)
  rw [mean_sub, mean_sub, mean_const h _ hx, mean_mulC] at e1
  have := lead_eq h (long_ok h) (lead_ok h) hx
  grind
theorem nb_big {M B j i k : Nat} {r : Rat} (h : NB M B r) (hM : 0 < M) (hB : 1 ≤ B) (h1 : B ≤ 2 ^ i) (h2 : M < 2 ^ k) (hj : i + k ≤ j) : Big j (canon r) := h.big hM hB (Nat.lt_of_lt_of_le (lt_pow_mul (Nat.le_refl _) h1 h2) (Nat.pow_le_pow_right (by decide) hj))
/-- sizes of long gains and leads -/
theorem long_size (h : WfC C) : ∃ M, 0 < M ∧ M < 2 ^ 336 ∧ ∀ y, y < C.length → NB M 1000 (longC C y) := by
  obtain ⟨Z, a, b, c⟩ := long_nb h
  have h12 := h.l12
  exact ⟨_, Nat.mul_pos (unit_lt h).1 a, unit_lt13 (j := 0) h (Nat.le_trans b (pow288 (k := 2 * C.length) (a := 24) (by omega))), c⟩
theorem pow288' {k : Nat} (h : k ≤ 60) : 288 ^ k ≤ 2 ^ 491 := Nat.le_trans (Nat.pow_le_pow_right (by decide) h) (by decide +kernel)
theorem lead_sizes (h : WfC C) : ∃ M, 0 < M ∧ M < 2 ^ 611 ∧ ∀ y, y < C.length → NB M (2 ^ 119) (leadC C y) := by
  obtain ⟨Z, a, b, c⟩ := lead_nb h
  have h12 := h.l12
  refine ⟨_, Nat.mul_pos (unit_lt h).1 a, unit_lt13 (j := 0) h (Nat.le_trans b (pow288' (k := 5 * C.length) (by omega))), fun y hy => (c y hy).mono (Nat.dvd_refl _) ?_⟩
  have : 288 ^ (C.length + 1) ≤ 288 ^ 13 := Nat.pow_le_pow_right (by decide) (by omega)
  exact Nat.le_trans (Nat.mul_le_mul_left 4000 this) (by decide +kernel)
theorem long_big (h : WfC C) {y : Nat} (hy : y < C.length) : Big 900 (canon (longC C y)) := by
  obtain ⟨M, a, b, c⟩ := long_size h
  exact nb_big (c y hy) a (by decide) (i := 10) (by decide) b (by decide)
theorem lead_big (h : WfC C) {y : Nat} (hy : y < C.length) : Big 900 (canon (leadC C y)) := by
  obtain ⟨M, a, b, c⟩ := lead_sizes h
  exact nb_big (c y hy) a (Nat.two_pow_pos _) (Nat.le_refl _) b (by decide)
theorem nb_mul {M N A B : Nat} {r s : Rat} (h : NB M A r) (g : NB N B s) : NB (M * N) (A * B) (r * s) := by
  have m := mul_bd h.lo h.hi g.lo g.hi
  rw [← natR_mul] at m
  exact ⟨h.zt.mul g.zt, m.1, m.2⟩
/-! ### the ring of two -/
def ringC (a b : Int) : List PlC := [⟨(a, 1), [((1, 1), 1)]⟩, ⟨(b, 1), [((1, 1), 0)]⟩]
theorem wf_one_int {n t : Nat} {g : Int} (hg : g.natAbs < 1000) (h : t < n) : WfB n ⟨(g, 1), [((1, 1), t)]⟩ := wf_sure_one ⟨show (1 : Int) ≤ 1 by decide, show (1 : Int) < 1000 by decide, hg, Nat.gcd_one_right _⟩ h
theorem ringC_wf {a b : Int} (ha : a.natAbs < 1000) (hb : b.natAbs < 1000) : WfC (ringC a b) := ⟨by show 1 ≤ 2; decide, by show 2 ≤ 12; decide, fun p hp => by
  rcases List.mem_cons.mp hp with rfl | hp
  · exact wf_one_int ha (by show 1 < 2; decide)
  · rw [List.mem_singleton.mp hp]
    exact wf_one_int hb (by show 0 < 2; decide)⟩
theorem wsum_ring (t : Nat) (f : Nat → Rat) : wsum [((1, 1), t)] f = f t := by
  rw [wsum_cons, wsum_nil, q_one]
  show 1 * f t + 0 = f t
  grind
theorem ring_mean0 (a b : Int) (f : Nat → Rat) : meanC (ringC a b) f 0 = f 1 := wsum_ring 1 f
theorem ring_mean1 (a b : Int) (f : Nat → Rat) : meanC (ringC a b) f 1 = f 0 := wsum_ring 0 f
theorem ring_gain (a b : Int) : gainC (ringC a b) 0 = (a : Rat) ∧ gainC (ringC a b) 1 = (b : Rat) := by
  constructor
  · show (a : Rat) / ((1 : Int) : Rat) = a
    have : ((1 : Int) : Rat) = 1 := rfl
    rw [this]
    grind
  · show (b : Rat) / ((1 : Int) : Rat) = b
    have : ((1 : Int) : Rat) = 1 := rfl
    rw [this]
    grind
theorem ring_all {a b : Int} {x y : Nat} (hx : x < 2) (hy : y < 2) : Reach (ringC a b) x y := by
  have s01 : Reach (ringC a b) 0 1 := Reach.step (q := ((1, 1), 1)) .refl (List.mem_singleton.mpr rfl)
  have s10 : Reach (ringC a b) 1 0 := Reach.step (q := ((1, 1), 0)) .refl (List.mem_singleton.mpr rfl)
  have hx' : x = 0 ∨ x = 1 := by omega
  have hy' : y = 0 ∨ y = 1 := by omega
  rcases hx' with rfl | rfl <;> rcases hy' with rfl | rfl
  · exact .refl
  · exact s01
  · exact s10
  · exact .refl
theorem ring_sure {a b : Int} (ha : a.natAbs < 1000) (hb : b.natAbs < 1000) {x i : Nat} (hx : x < 2) (hi : i < 2) : i ∈ sureL (ringC a b) x := by
  have hW := ringC_wf ha hb
  refine (mem_sureL hW (show x < (ringC a b).length from hx)).mpr ⟨hi, fun y hy => ?_⟩
  have hyl : y < 2 := by
    have := hy.lt (stop_wf hW (show x < (ringC a b).length from hx)) (by rw [stop_len]; exact hi)
    rwa [stop_len] at this
  by_cases c : y = x
  · subst c
    exact .refl
  · have e := stop_ne (C := ringC a b) (x := x) (y := y) c
    have hxy : (x = 0 ∧ y = 1) ∨ (x = 1 ∧ y = 0) := by omega
    rcases hxy with ⟨rfl, rfl⟩ | ⟨rfl, rfl⟩
    · exact Reach.step (q := ((1, 1), 0)) .refl (by rw [e]; exact List.mem_singleton.mpr rfl)
    · exact Reach.step (q := ((1, 1), 1)) .refl (by rw [e]; exact List.mem_singleton.mpr rfl)
theorem ring_fill {a b : Int} (ha : a.natAbs < 1000) (hb : b.natAbs < 1000) {x : Nat} (hx : x < 2) (e : Nat → Rat) : IsFill (ringC a b) (beforeL (ringC a b) x) e (fun _ => 0) (fun y => if y = 1 - x then e (1 - x) else 0) := by
  have hx' : x = 0 ∨ x = 1 := by omega
  have key : ∀ y, y ∈ beforeL (ringC a b) x → y = 1 - x := fun y hy => by
    obtain ⟨h1, h2⟩ := mem_beforeL.mp hy
    have : y < 2 := sure_lt h1
    omega
  refine ⟨fun y hy => ?_, fun y hy => ?_⟩
  · obtain rfl := key y hy
    rcases hx' with rfl | rfl
    · show (if (1 : Nat) = 1 - 0 then e 1 else 0) = e 1 + meanC (ringC a b) _ 1
      rw [ring_mean1]
      show e 1 = e 1 + 0
      grind
    · show (if (0 : Nat) = 1 - 1 then e 0 else 0) = e 0 + meanC (ringC a b) _ 0
      rw [ring_mean0]
      show e 0 = e 0 + 0
      grind
  · show (if y = 1 - x then e (1 - x) else 0) = 0
    rw [if_neg]
    intro c
    exact hy (mem_beforeL.mpr ⟨ring_sure ha hb hx (by omega), by omega⟩)
theorem ring_way {a b : Int} (ha : a.natAbs < 1000) (hb : b.natAbs < 1000) {x : Nat} (hx : x < 2) (f : Nat → Rat) : waysD (ringC a b) x f = .list [nQ (f 0), nQ (f 1)] := by
  show PyData.list [if 0 ∈ sureL (ringC a b) x then nQ (f 0) else .none, if 1 ∈ sureL (ringC a b) x then nQ (f 1) else .none] = _
  rw [if_pos (ring_sure ha hb hx (by decide)), if_pos (ring_sure ha hb hx (by decide))]
theorem ring_long {a b : Int} (ha : a.natAbs < 1000) (hb : b.natAbs < 1000) : longC (ringC a b) 0 = ((a + b : Int) : Rat) / ((2 : Int) : Rat) ∧ longC (ringC a b) 1 = ((a + b : Int) : Rat) / ((2 : Int) : Rat) ∧ leadC (ringC a b) 0 = ((a - b : Int) : Rat) / ((4 : Int) : Rat) ∧ leadC (ringC a b) 1 = ((b - a : Int) : Rat) / ((4 : Int) : Rat) := by
  have hW := ringC_wf ha hb
  have e0 := long_mean hW (long_ok hW) (x := 0) (by show 0 < 2; decide)
  have l0 := lead_eq hW (long_ok hW) (lead_ok hW) (x := 0) (by show 0 < 2; decide)
  have l1 := lead_eq hW (long_ok hW) (lead_ok hW) (x := 1) (by show 1 < 2; decide)
  rw [ring_mean0] at e0 l0
  rw [ring_mean1] at l1
  obtain ⟨g0, g1⟩ := ring_gain a b
  rw [g0] at l0
  rw [g1] at l1
  have hr : ∀ x, x < 2 → reachL (ringC a b) x = [0, 1] := fun x hx => by
    have : reachL (ringC a b) x = (List.range 2).filter fun _ => true := List.filter_congr fun y hy => by
      rw [@decide_eq_true _ (Classical.propDecidable _) (ring_all hx (List.mem_range.mp hy))]
    rw [this]
    rfl
  have hh : (0 : Nat) ∈ headsL (ringC a b) := mem_heads.mpr ⟨by show 0 < 2; decide, by rw [hr 0 (by decide)]; rfl, fun y hy => by
    rw [hr 0 (by decide)] at hy
    have : y < 2 := by
      simp only [List.mem_cons, List.not_mem_nil, or_false] at hy
      omega
    rw [hr y this, hr 0 (by decide)]⟩
  obtain ⟨L, eL, G⟩ := head_grp hW hh
  have eL2 : L = [1] := by
    rw [hr 0 (by decide)] at eL
    injection eL with _ eL
    exact eL.symm
  subst eL2
  have s := lead_share hW (lead_ok hW) hh eL G (p := fun _ => 1) fun f => by
    show 1 * meanC (ringC a b) f 0 + (1 * meanC (ringC a b) f 1 + 0) = 1 * f 0 + (1 * f 1 + 0)
    rw [ring_mean0, ring_mean1]
    grind
  have s2 : 1 * leadC (ringC a b) 0 + (1 * leadC (ringC a b) 1 + 0) = 0 := s
  have c2 : ((2 : Int) : Rat) = 2 := rfl
  have c4 : ((4 : Int) : Rat) = 4 := rfl
  rw [Rat.intCast_add, Rat.intCast_sub, Rat.intCast_sub, c2, c4]
  refine ⟨?_, ?_, ?_, ?_⟩ <;> grind
def spTwo (K : PySem.W.Frag) : Sp := fun vs h Q _ => ∃ (b : Hp) (ds : List Int), Ex b h ∧ DtA K b vs [.list (ds.map PyData.int)] ∧ ds.length = 2 ∧ (∀ d ∈ ds, 0 ≤ d ∧ d < 1000) ∧ ∀ v b' h' x y, Gr b h b' h' → -20 ≤ x → x ≤ 20 → -20 ≤ y → y ≤ 29 → x < y → Dt K b' v (.tuple [.int x, .int y]) → Q v h'
def spRing (K : PySem.W.Frag) : Sp := fun vs h Q _ => ∃ (b : Hp) (x y : Int), Ex b h ∧ DtA K b vs [.int x, .int y] ∧ ∀ v b' h', Gr b h b' h' → Dt K b' v (chD (ringC x y)) → Q v h'
theorem way_exists (h : WfC C) {x : Nat} (hx : x < C.length) {e : Nat → Rat} {M B : Nat} (hM : 0 < M) (hB : 1 ≤ B) (hMB : B * M < 2 ^ 1400) (he : ∀ y, y < C.length → NB M B (e y)) : ∃ f D, IsFill C (beforeL C x) e (fun _ => 0) f ∧ 0 < D ∧ D < 2 ^ 100 ∧ ∀ y, y < C.length → NB (M * D) (B * 2 ^ 108) (f y) := by
  have hL : ∀ y ∈ beforeL C x, y < C.length := fun y hy => sure_lt (mem_beforeL.mp hy).1
  have hl := nodup_len (before_nodup C x) hL
  have h12 := h.l12
  obtain ⟨f, D, a, b, c, d, _⟩ := fill_dataS h (before_nodup C x) (by omega) hL (out_before h hx) (e := e) (kn := fun _ => 0) hM hB hMB (fun y hy => he y (hL y hy)) (fun _ _ => nb_zero _ _) (fun _ _ => rfl)
  refine ⟨f, D, a, b, Nat.lt_of_le_of_lt c.1 (Nat.lt_of_le_of_lt (Nat.pow_le_pow_right (by decide) (show (beforeL C x).length ≤ 12 by omega)) (by decide +kernel)), fun y hy => (d y hy).mono (Nat.dvd_refl _) (Nat.mul_le_mul_left B ?_)⟩
  have : 288 ^ ((beforeL C x).length + 1) ≤ 288 ^ 13 := Nat.pow_le_pow_right (by decide) (by omega)
  exact Nat.le_trans this (by decide +kernel)
open Classical in
noncomputable def wayC (C : List PlC) (e : Nat → Rat) (x : Nat) : Nat → Rat := if h : ∃ f, IsFill C (beforeL C x) e (fun _ => 0) f then h.choose else fun _ => 0
theorem way_ok (h : WfC C) {x : Nat} (hx : x < C.length) {e : Nat → Rat} {M B : Nat} (hM : 0 < M) (hB : 1 ≤ B) (hMB : B * M < 2 ^ 1400) (he : ∀ y, y < C.length → NB M B (e y)) : IsFill C (beforeL C x) e (fun _ => 0) (wayC C e x) ∧ ∃ D, 0 < D ∧ D < 2 ^ 100 ∧ ∀ y, y < C.length → NB (M * D) (B * 2 ^ 108) (wayC C e x y) := by
  obtain ⟨f, D, a, b, c, d⟩ := way_exists h hx hM hB hMB he
  have e1 : ∃ f, IsFill C (beforeL C x) e (fun _ => 0) f := ⟨f, a⟩
  have e2 : IsFill C (beforeL C x) e (fun _ => 0) (wayC C e x) := by
    unfold wayC
    rw [dif_pos e1]
    exact e1.choose_spec
  refine ⟨e2, D, b, c, fun y hy => ?_⟩
  rw [fill_unique h (fun y hy => sure_lt (mem_beforeL.mp hy).1) (out_before h hx) e2 a y]
  exact d y hy
theorem acc_big {n : Nat} {p : PlC} (hw : WfB n p) {f : Nat → Rat} {M B : Nat} (hM : 0 < M) (hM2 : M < 2 ^ 220) (hB : 1 ≤ B) (hB2 : B ≤ 2 ^ 118) (hf : ∀ q ∈ p.bs, NB M B (f q.2)) {c : Rat} (hc : NB M B c) : (∀ i, Big 900 (canon (c + wsum (p.bs.take i) f))) ∧ ∀ q ∈ p.bs, Big 900 (canon (f q.2)) ∧ Big 900 (canon (qN q.1 * f q.2)) := by
  have sw := scale_wf hw
  have h0 : 0 < M * denL (p.bs.map (·.1)) := Nat.mul_pos hM sw.1
  have h1 : M * denL (p.bs.map (·.1)) < 2 ^ (5 + 220) := by
    rw [Nat.mul_comm]
    exact lt_pow_mul (Nat.le_refl _) (Nat.le_trans sw.2 (by decide)) hM2
  refine ⟨fun i => ?_, fun q hq => ⟨nb_big (hf q hq) hM hB hB2 hM2 (by decide), ?_⟩⟩
  · have a := nb_add (hc.mono (Nat.dvd_mul_right _ (denL (p.bs.map (·.1)))) (Nat.le_refl _)) (nb_part hw hf i)
    exact nb_big a h0 (by omega) (i := 119) (by
      have : 2 ^ 119 = 2 ^ 118 + 2 ^ 118 := by decide +kernel
      omega) h1 (by decide)
  · exact nb_big (nb_prod hw hq (hf q hq)) h0 (by omega) (i := 10 + 118) (by
      rw [Nat.pow_add]
      exact Nat.mul_le_mul (by decide) hB2) h1 (by decide)
section
variable {K : PySem.W.Frag} {σ : L2.St} {b h : Hp} {ts : TA} {E : XK} {ds : List PyData} {D : Ends} {tz : TS}
theorem r_callG {sp : Sp} {g : TG} (x : EDA K ts σ b ds) (e : Ex b h) (k : ∀ vs b' h', Gr b h b' h' → DtA K b' vs ds → sp vs h' (fun v h2 => g v σ h2 (tz D)) E) : tSeq (tAsg (tCall sp [] E ts) g) tz D σ h := x h e _ fun vs b' h' g hv => by
  rw [List.append_nil]
  exact k vs b' h' g hv
theorem ed_ring {x y : Int} (z : EDA K ts σ b [.int x, .int y]) : ED K (tCall (spRing K) [] E ts) σ b (chD (ringC x y)) := fun h e _ qq =>
  z h e _ fun vs b2 h2' g2 hv => ⟨b2, x, y, g2.gi, by rw [List.append_nil]; exact hv, fun v b3 h3 g3 hv3 => qq v b3 h3 (g2.trans g3) hv3⟩
end
theorem lay_pair (r s : Rat) : LayD (.list [nQ r, nQ s]) := by
  refine ⟨lay_all fun d hd => ?_, ?_⟩
  · simp only [List.mem_cons, List.not_mem_nil, or_false] at hd
    rcases hd with rfl | rfl <;> rfl
  · show PyData.depthAll [nQ r, nQ s] + 1 ≤ 8
    have := dep_all (k := 6) (ds := [nQ r, nQ s]) fun d hd => by
      simp only [List.mem_cons, List.not_mem_nil, or_false] at hd
      rcases hd with rfl | rfl <;> (show 1 ≤ 6; decide)
    omega
end Md


set_option Elab.async false
set_option linter.all false
set_option maxRecDepth 100000
set_option maxHeartbeats 2000000
/-! Greatest and least numbers. -/
namespace Md
open PySem L2 Evl
def hiQ (f : Nat → Rat) : Nat → Rat
  | 0 => f 0
  | k + 1 => if decide (hiQ f k < f k) = true then f k else hiQ f k
def loQ (f : Nat → Rat) : Nat → Rat
  | 0 => f 0
  | k + 1 => if decide (f k < loQ f k) = true then f k else loQ f k
theorem hi_mem {f : Nat → Rat} {n : Nat} (hn : 0 < n) : ∀ k, k ≤ n → ∃ j, j < n ∧ hiQ f k = f j
  | 0, _ => ⟨0, hn, rfl⟩
  | k + 1, hk => by
    obtain ⟨j, h1, h2⟩ := hi_mem hn k (by omega)
    show ∃ j, j < n ∧ (if decide (hiQ f k < f k) = true then f k else hiQ f k) = f j
    by_cases c : decide (hiQ f k < f k) = true
    · rw [if_pos c]
      exact ⟨k, by omega, rfl⟩
    · rw [if_neg c]
      exact ⟨j, h1, h2⟩
theorem lo_mem {f : Nat → Rat} {n : Nat} (hn : 0 < n) : ∀ k, k ≤ n → ∃ j, j < n ∧ loQ f k = f j
  | 0, _ => ⟨0, hn, rfl⟩
  | k + 1, hk => by
    obtain ⟨j, h1, h2⟩ := lo_mem hn k (by omega)
    show ∃ j, j < n ∧ (if decide (f k < loQ f k) = true then f k else loQ f k) = f j
    by_cases c : decide (f k < loQ f k) = true
    · rw [if_pos c]
      exact ⟨k, by omega, rfl⟩
    · rw [if_neg c]
      exact ⟨j, h1, h2⟩
theorem hi_ge {f : Nat → Rat} : ∀ {k j : Nat}, j < k → f j ≤ hiQ f k
  | k + 1, j, h => by
    show f j ≤ (if decide (hiQ f k < f k) = true then f k else hiQ f k)
    by_cases c : decide (hiQ f k < f k) = true
    · rw [if_pos c]
      have c := of_decide_eq_true c
      rcases Nat.lt_or_ge j k with z | z
      · have := hi_ge (f := f) z
        grind
      · obtain rfl : j = k := by omega
        exact Rat.le_refl
    · rw [if_neg c]
      have c : ¬ hiQ f k < f k := fun z => c (decide_eq_true z)
      rcases Nat.lt_or_ge j k with z | z
      · exact hi_ge z
      · obtain rfl : j = k := by omega
        grind
theorem lo_le {f : Nat → Rat} : ∀ {k j : Nat}, j < k → loQ f k ≤ f j
  | k + 1, j, h => by
    show (if decide (f k < loQ f k) = true then f k else loQ f k) ≤ f j
    by_cases c : decide (f k < loQ f k) = true
    · rw [if_pos c]
      have c := of_decide_eq_true c
      rcases Nat.lt_or_ge j k with z | z
      · have := lo_le (f := f) z
        grind
      · obtain rfl : j = k := by omega
        exact Rat.le_refl
    · rw [if_neg c]
      have c : ¬ f k < loQ f k := fun z => c (decide_eq_true z)
      rcases Nat.lt_or_ge j k with z | z
      · exact lo_le z
      · obtain rfl : j = k := by omega
        grind
theorem less_canon (r s : Rat) : decide ((canon r).1 * (canon s).2 < (canon s).1 * (canon r).2) = decide (r < s) := by
  have a := q_canon r
  have c := q_canon s
  unfold qN at a c
  have p1 := (canon_red r).1
  have p2 := (canon_red s).1
  have n1 : (0 : Rat) < (((canon r).2 : Int) : Rat) := cast_pos (by omega)
  have n2 : (0 : Rat) < (((canon s).2 : Int) : Rat) := cast_pos (by omega)
  have e1 : (((canon r).1 * (canon s).2 : Int) : Rat) = r * ((((canon r).2 : Int) : Rat) * (((canon s).2 : Int) : Rat)) := by
    rw [Rat.intCast_mul]
    generalize (((canon r).1 : Int) : Rat) = A at *
    generalize (((canon r).2 : Int) : Rat) = A2 at *
    generalize (((canon s).2 : Int) : Rat) = S2 at *
    rw [← a]
    grind
  have e2 : (((canon s).1 * (canon r).2 : Int) : Rat) = s * ((((canon r).2 : Int) : Rat) * (((canon s).2 : Int) : Rat)) := by
    rw [Rat.intCast_mul]
    generalize (((canon s).1 : Int) : Rat) = A at *
    generalize (((canon r).2 : Int) : Rat) = A2 at *
    generalize (((canon s).2 : Int) : Rat) = S2 at *
    rw [← c]
    grind
  have pp := Rat.mul_pos n1 n2
  generalize ((((canon r).2 : Int) : Rat) * (((canon s).2 : Int) : Rat)) = P at *
  rw [Bool.eq_iff_iff, decide_eq_true_iff, decide_eq_true_iff]
  constructor
  · intro h
    have h2 : (((canon r).1 * (canon s).2 : Int) : Rat) < (((canon s).1 * (canon r).2 : Int) : Rat) := Rat.intCast_lt_intCast.mpr h
    rw [e1, e2] at h2
    refine Classical.byContradiction fun hn => ?_
    have : s ≤ r := by grind
    have := Rat.mul_le_mul_of_nonneg_right this (Rat.le_of_lt pp)
    grind
  · intro h
    refine Rat.intCast_lt_intCast.mp ?_
    rw [e1, e2]
    exact Rat.mul_lt_mul_of_pos_right h pp
def spLess (K : PySem.W.Frag) (j : Nat) : Sp := fun vs h Q _ => ∃ (b : Hp) (r s : Rat), Ex b h ∧ DtA K b vs [nQ r, nQ s] ∧ Big j (canon r) ∧ Big j (canon s) ∧ ∀ h', Ex h h' → Q (.bl (decide (r < s))) h'
def spHi (K : PySem.W.Frag) : Sp := fun vs h Q _ => ∃ (b : Hp) (n : Nat) (f : Nat → Rat), Ex b h ∧ DtA K b vs [listQ n f] ∧ 0 < n ∧ (∀ y, y < n → Big 3000 (canon (f y))) ∧ ∀ v b' h', Gr b h b' h' → Dt K b' v (nQ (hiQ f n)) → Q v h'
def spLo (K : PySem.W.Frag) : Sp := fun vs h Q _ => ∃ (b : Hp) (n : Nat) (f : Nat → Rat), Ex b h ∧ DtA K b vs [listQ n f] ∧ 0 < n ∧ (∀ y, y < n → Big 3000 (canon (f y))) ∧ ∀ v b' h', Gr b h b' h' → Dt K b' v (nQ (loQ f n)) → Q v h'
def spWide (K : PySem.W.Frag) : Sp := fun vs h Q _ => ∃ (b : Hp) (n : Nat) (f : Nat → Rat), Ex b h ∧ DtA K b vs [listQ n f] ∧ 0 < n ∧ (∀ y, y < n → Big 900 (canon (f y))) ∧ ∀ v b' h', Gr b h b' h' → Dt K b' v (nQ (hiQ f n - loQ f n)) → Q v h'
noncomputable def wideC (C : List PlC) : Rat := hiQ (leadC C) C.length - loQ (leadC C) C.length
def spSpread (K : PySem.W.Frag) : Sp := fun vs h Q _ => ∃ (b : Hp) (C : List PlC), Ex b h ∧ DtA K b vs [chD C] ∧ WfC C ∧ ∀ v b' h', Gr b h b' h' → Dt K b' v (nQ (wideC C)) → Q v h'
section
variable {K : PySem.W.Frag} {σ : L2.St} {b h : Hp} {ts : TA} {E : XK} {C : List PlC} {r s : Rat} {n : Nat} {f : Nat → Rat}
theorem ev_less {j : Nat} (y : EDA K ts σ b [nQ r, nQ s]) (h1 : Big j (canon r)) (h2 : Big j (canon s)) : Ev (tCall (spLess K j) [] E ts) σ b (.bl (decide (r < s))) := fun h e _ qq =>
  y h e _ fun vs b2 h2' g2 hv => ⟨b2, r, s, g2.gi, by rw [List.append_nil]; exact hv, h1, h2, fun h3 e3 => qq h3 (g2.gh.trans e3)⟩
theorem ed_hi (y : EDA K ts σ b [listQ n f]) (h1 : 0 < n) (h2 : ∀ y, y < n → Big 3000 (canon (f y))) : ED K (tCall (spHi K) [] E ts) σ b (nQ (hiQ f n)) := fun h e _ qq =>
  y h e _ fun vs b2 h2' g2 hv => ⟨b2, n, f, g2.gi, by rw [List.append_nil]; exact hv, h1, h2, fun v b3 h3 g3 hv3 => qq v b3 h3 (g2.trans g3) hv3⟩
theorem ed_lo (y : EDA K ts σ b [listQ n f]) (h1 : 0 < n) (h2 : ∀ y, y < n → Big 3000 (canon (f y))) : ED K (tCall (spLo K) [] E ts) σ b (nQ (loQ f n)) := fun h e _ qq =>
  y h e _ fun vs b2 h2' g2 hv => ⟨b2, n, f, g2.gi, by rw [List.append_nil]; exact hv, h1, h2, fun v b3 h3 g3 hv3 => qq v b3 h3 (g2.trans g3) hv3⟩
theorem ed_wide (y : EDA K ts σ b [listQ n f]) (h1 : 0 < n) (h2 : ∀ y, y < n → Big 900 (canon (f y))) : ED K (tCall (spWide K) [] E ts) σ b (nQ (hiQ f n - loQ f n)) := fun h e _ qq =>
  y h e _ fun vs b2 h2' g2 hv => ⟨b2, n, f, g2.gi, by rw [List.append_nil]; exact hv, h1, h2, fun v b3 h3 g3 hv3 => qq v b3 h3 (g2.trans g3) hv3⟩
theorem ed_spread (y : EDA K ts σ b [chD C]) (h1 : WfC C) : ED K (tCall (spSpread K) [] E ts) σ b (nQ (wideC C)) := fun h e _ qq =>
  y h e _ fun vs b2 h2' g2 hv => ⟨b2, C, g2.gi, by rw [List.append_nil]; exact hv, h1, fun v b3 h3 g3 hv3 => qq v b3 h3 (g2.trans g3) hv3⟩
end
end Md


set_option Elab.async false
set_option linter.all false
set_option maxRecDepth 100000
set_option maxHeartbeats 2000000
/-! A ring of places, each leading to the next one. -/
namespace Md
open PySem L2 Evl
def rngC (n : Nat) (g : Nat → Int) : List PlC := (List.range n).map fun k => ⟨(g k, 1), [((1, 1), (k + 1) % n)]⟩
def hgtR (c : Rat) (g : Nat → Int) : Nat → Rat
  | 0 => 0
  | k + 1 => hgtR c g k + (c - (g k : Rat))
section
variable {n : Nat} {g : Nat → Int}
theorem rng_len : (rngC n g).length = n := by
  unfold rngC
  rw [List.length_map, List.length_range]
theorem rng_at {k : Nat} (h : k < n) : plC (rngC n g) k = ⟨(g k, 1), [((1, 1), (k + 1) % n)]⟩ := by
  have : (rngC n g)[k]? = some ⟨(g k, 1), [((1, 1), (k + 1) % n)]⟩ := by
    unfold rngC
    rw [List.getElem?_map, List.getElem?_range h]
    rfl
  unfold plC
  rw [List.getD_eq_getElem?_getD, this]
  rfl
theorem rng_wf (h1 : 1 ≤ n) (h2 : n ≤ 12) (hg : ∀ k, k < n → (g k).natAbs < 1000) : WfC (rngC n g) := ⟨by rw [rng_len]; exact h1, by rw [rng_len]; exact h2, fun p hp => by
  rw [rng_len]
  obtain ⟨k, hk, rfl⟩ := List.mem_map.mp hp
  exact wf_one_int (hg k (List.mem_range.mp hk)) (Nat.mod_lt _ (by omega))⟩
theorem rng_mean {k : Nat} (h : k < n) (f : Nat → Rat) : meanC (rngC n g) f k = f ((k + 1) % n) := by
  unfold meanC
  rw [rng_at h]
  exact wsum_ring _ f
theorem rng_gain {k : Nat} (h : k < n) : gainC (rngC n g) k = (g k : Rat) := by
  unfold gainC
  rw [rng_at h]
  show (g k : Rat) / ((1 : Int) : Rat) = _
  have : ((1 : Int) : Rat) = 1 := rfl
  rw [this]
  grind
theorem rng_step {k : Nat} (h : k < n) : Reach (rngC n g) k ((k + 1) % n) := Reach.step (q := ((1, 1), (k + 1) % n)) .refl (by rw [rng_at h]; exact List.mem_singleton.mpr rfl)
theorem rng_up {x : Nat} : ∀ {y : Nat}, x ≤ y → y < n → Reach (rngC n g) x y
  | y, h, hy => by
    induction y with
    | zero =>
      obtain rfl : x = 0 := by omega
      exact .refl
    | succ y ih =>
      rcases Nat.lt_or_ge x (y + 1) with z | z
      · have := rng_step (g := g) (show y < n by omega)
        rw [Nat.mod_eq_of_lt hy] at this
        exact (ih (by omega) (by omega)).trans this
      · obtain rfl : x = y + 1 := by omega
        exact .refl
theorem rng_all {x y : Nat} (hx : x < n) (hy : y < n) : Reach (rngC n g) x y := by
  have a := rng_up (n := n) (g := g) (x := x) (y := n - 1) (by omega) (by omega)
  have b := rng_step (n := n) (g := g) (k := n - 1) (by omega)
  have e : (n - 1 + 1) % n = 0 := by
    rw [show n - 1 + 1 = n by omega, Nat.mod_self]
  rw [e] at b
  exact (a.trans b).trans (rng_up (Nat.zero_le _) hy)
theorem sumR_head (m : Nat) (f : Nat → Rat) : sumR (m + 1) f = f 0 + sumR m fun k => f (k + 1) := by
  induction m with
  | zero =>
    rw [sumR_succ, sumR_zero, sumR_zero]
    grind
  | succ m ih =>
    rw [sumR_succ, ih, sumR_succ]
    grind
theorem sumR_turn (f : Nat → Rat) (hn : 1 ≤ n) : sumR n (fun k => f ((k + 1) % n)) = sumR n f := by
  obtain ⟨m, rfl⟩ : ∃ m, n = m + 1 := ⟨n - 1, by omega⟩
  rw [sumR_succ, sumR_head m f, Nat.mod_self]
  have : sumR m (fun k => f ((k + 1) % (m + 1))) = sumR m fun k => f (k + 1) := sumR_congr fun k hk => by rw [Nat.mod_eq_of_lt (by omega)]
  rw [this]
  grind
theorem hgt_sum (c : Rat) (g : Nat → Int) : ∀ k, hgtR c g k = natR k * c - sumR k fun j => (g j : Rat)
  | 0 => by
    rw [sumR_zero]
    show (0 : Rat) = natR 0 * c - 0
    have : natR 0 = 0 := rfl
    rw [this]
    grind
  | k + 1 => by
    show hgtR c g k + (c - (g k : Rat)) = _
    rw [hgt_sum c g k, sumR_succ, natR_add, natR_one]
    grind
theorem rng_long (h1 : 1 ≤ n) (h2 : n ≤ 12) (hg : ∀ k, k < n → (g k).natAbs < 1000) :
    (∀ k, k < n → longC (rngC n g) k = (sumR n fun j => (g j : Rat)) / natR n) ∧ ∀ k, k < n → leadC (rngC n g) k = hgtR ((sumR n fun j => (g j : Rat)) / natR n) g k - sumR n (hgtR ((sumR n fun j => (g j : Rat)) / natR n) g) / natR n := by
  have hW := rng_wf h1 h2 hg
  have hl : ∀ {k}, k < n → k < (rngC n g).length := fun h => by rw [rng_len]; exact h
  have lc : ∀ k, k < n → longC (rngC n g) k = longC (rngC n g) 0 := fun k hk => by
    induction k with
    | zero => rfl
    | succ k ih =>
      have a := long_mean hW (long_ok hW) (hl (show k < n by omega))
      rw [rng_mean (by omega), Nat.mod_eq_of_lt hk] at a
      rw [← a]
      exact ih (by omega)
  have le : ∀ k, k < n → longC (rngC n g) 0 + leadC (rngC n g) k = (g k : Rat) + leadC (rngC n g) ((k + 1) % n) := fun k hk => by
    have a := lead_eq hW (long_ok hW) (lead_ok hW) (hl hk)
    rw [rng_mean hk, rng_gain hk, lc k hk] at a
    exact a
  have lk : ∀ k, k < n → leadC (rngC n g) k = leadC (rngC n g) 0 + hgtR (longC (rngC n g) 0) g k := fun k hk => by
    induction k with
    | zero =>
      show _ = _ + (0 : Rat)
      rw [Rat.add_zero]
    | succ k ih =>
      have a := le k (by omega)
      rw [Nat.mod_eq_of_lt hk] at a
      have b := ih (by omega)
      show _ = _ + (hgtR _ g k + (_ - (g k : Rat)))
      grind
  have n0 : natR n ≠ 0 := nat_ne (by omega)
  have hc : longC (rngC n g) 0 = (sumR n fun j => (g j : Rat)) / natR n := by
    obtain ⟨m, rfl⟩ : ∃ m, n = m + 1 := ⟨n - 1, by omega⟩
    have a := le m (by omega)
    rw [Nat.mod_self, lk m (by omega)] at a
    have b := hgt_sum (longC (rngC (m + 1) g) 0) g (m + 1)
    have c : hgtR (longC (rngC (m + 1) g) 0) g (m + 1) = hgtR (longC (rngC (m + 1) g) 0) g m + (longC (rngC (m + 1) g) 0 - (g m : Rat)) := rfl
    rw [c] at b
    generalize hgtR (longC (rngC (m + 1) g) 0) g m = H at *
    generalize (sumR (m + 1) fun j => (g j : Rat)) = S at *
    generalize longC (rngC (m + 1) g) 0 = L at *
    generalize natR (m + 1) = N at *
    have : N * L = S := by grind
    rw [← this]
    grind
  refine ⟨fun k hk => (lc k hk).trans hc, fun k hk => ?_⟩
  have hr : ∀ x, x < n → reachL (rngC n g) x = List.range n := fun x hx => by
    have e1 : reachL (rngC n g) x = (List.range n).filter fun _ => true := by
      unfold reachL
      rw [rng_len]
      exact List.filter_congr fun y hy => @decide_eq_true _ (Classical.propDecidable _) (rng_all hx (List.mem_range.mp hy))
    rw [e1, List.filter_eq_self.mpr fun _ _ => rfl]
  have h0 : (List.range n).getD 0 0 = 0 := by
    rw [List.getD_eq_getElem?_getD, List.getElem?_range (by omega)]
    rfl
  have hh : (0 : Nat) ∈ headsL (rngC n g) := mem_heads.mpr ⟨hl (by omega), by rw [hr 0 (by omega)]; exact h0, fun y hy => by
    rw [hr 0 (by omega)] at hy
    rw [hr y (List.mem_range.mp hy), hr 0 (by omega)]⟩
  obtain ⟨L, eL, G⟩ := head_grp hW hh
  rw [hr 0 (by omega)] at eL
  have s := lead_share hW (lead_ok hW) hh (by rw [hr 0 (by omega)]; exact eL) G (p := fun _ => 1) fun f => by
    rw [← eL]
    show sumR n (fun y => 1 * meanC (rngC n g) f y) = sumR n fun y => 1 * f y
    rw [sumR_mul, sumR_mul, ← sumR_turn f h1]
    congr 1
    exact sumR_congr fun y hy => rng_mean hy f
  rw [← eL] at s
  have s2 : sumR n (fun y => 1 * leadC (rngC n g) y) = 0 := s
  rw [sumR_mul, sumR_congr lk, sumR_add] at s2
  have sc : sumR n (fun _ => leadC (rngC n g) 0) = natR n * leadC (rngC n g) 0 := by
    have : ∀ m, sumR m (fun _ => leadC (rngC n g) 0) = natR m * leadC (rngC n g) 0 := fun m => by
      induction m with
      | zero =>
        rw [sumR_zero]
        have : natR 0 = 0 := rfl
        rw [this]
        grind
      | succ m ih =>
        rw [sumR_succ, ih, natR_add, natR_one]
        grind
    exact this n
  have e2 : sumR n (fun i => hgtR (longC (rngC n g) 0) g i) = sumR n (hgtR (longC (rngC n g) 0) g) := rfl
  rw [sc, e2] at s2
  rw [lk k hk, ← hc]
  generalize sumR n (hgtR (longC (rngC n g) 0) g) = S at *
  generalize leadC (rngC n g) 0 = L at *
  generalize natR n = N at *
  have : L = -S / N := by grind
  rw [this]
  grind
/-- the ways to the first place -/
def rngW (n y : Nat) : Rat := if 0 < y ∧ y < n then natR (n - y) else 0
theorem rng_sure (h1 : 1 ≤ n) (h2 : n ≤ 12) (hg : ∀ k, k < n → (g k).natAbs < 1000) {i : Nat} (hi : i < n) : i ∈ sureL (rngC n g) 0 := by
  have hW := rng_wf h1 h2 hg
  have h0 : 0 < (rngC n g).length := by rw [rng_len]; omega
  refine (mem_sureL hW h0).mpr ⟨by rw [rng_len]; exact hi, fun y hy => ?_⟩
  have hyl : y < n := by
    have := hy.lt (stop_wf hW h0) (by rw [stop_len, rng_len]; exact hi)
    rwa [stop_len, rng_len] at this
  have key : ∀ d y, y + d = n → 0 < d → Reach (stopC (rngC n g) 0) y 0 := by
    intro d
    induction d with
    | zero => intro y _ h; omega
    | succ d ih =>
      intro y hy _
      by_cases c : y = 0
      · subst c
        exact .refl
      · have st : Reach (stopC (rngC n g) 0) y ((y + 1) % n) := Reach.step (q := ((1, 1), (y + 1) % n)) .refl (by rw [stop_ne c, rng_at (by omega)]; exact List.mem_singleton.mpr rfl)
        by_cases c2 : d = 0
        · subst c2
          have e : (y + 1) % n = 0 := by
            rw [show y + 1 = n by omega, Nat.mod_self]
          rwa [e] at st
        · rw [Nat.mod_eq_of_lt (by omega)] at st
          exact st.trans (ih (y + 1) (by omega) (by omega))
  exact key (n - y) y (by omega) (by omega)
theorem rng_fill (h1 : 1 ≤ n) (h2 : n ≤ 12) (hg : ∀ k, k < n → (g k).natAbs < 1000) : IsFill (rngC n g) (beforeL (rngC n g) 0) (fun _ => 1) (fun _ => 0) (rngW n) := by
  refine ⟨fun y hy => ?_, fun y hy => ?_⟩
  · obtain ⟨a, b⟩ := mem_beforeL.mp hy
    have hyn : y < n := by
      have := sure_lt a
      rwa [rng_len] at this
    rw [rng_mean hyn]
    unfold rngW
    rw [if_pos ⟨by omega, hyn⟩]
    by_cases c : y + 1 < n
    · rw [Nat.mod_eq_of_lt c, if_pos ⟨by omega, c⟩, show n - y = (n - (y + 1)) + 1 by omega, natR_add, natR_one]
      grind
    · have e : (y + 1) % n = 0 := by
        rw [show y + 1 = n by omega, Nat.mod_self]
      rw [e, if_neg (by omega), show n - y = 1 by omega, natR_one]
      grind
  · show rngW n y = 0
    unfold rngW
    rw [if_neg]
    rintro ⟨a, b⟩
    exact hy (mem_beforeL.mpr ⟨rng_sure h1 h2 hg b, by omega⟩)
end
end Md


set_option Elab.async false
set_option linter.all false
set_option maxRecDepth 100000
set_option maxHeartbeats 2000000
/-! A walk on a line that rests at both ends. -/
namespace Md
open PySem L2 Evl
def wlkP (a b : Int) (m k : Nat) : PlC := if k = 0 then ⟨(a, 1), [((1, 1), 0)]⟩ else if k = m then ⟨(b, 1), [((1, 1), m)]⟩ else ⟨(1, 1), [((1, 2), k - 1), ((1, 2), k + 1)]⟩
def wlkC (a b : Int) (m : Nat) : List PlC := (List.range (m + 1)).map (wlkP a b m)
section
variable {a b : Int} {m : Nat}
theorem wlk_len : (wlkC a b m).length = m + 1 := by
  unfold wlkC
  rw [List.length_map, List.length_range]
theorem wlk_at {k : Nat} (h : k ≤ m) : plC (wlkC a b m) k = wlkP a b m k := by
  have : (wlkC a b m)[k]? = some (wlkP a b m k) := by
    unfold wlkC
    rw [List.getElem?_map, List.getElem?_range (by omega)]
    rfl
  unfold plC
  rw [List.getD_eq_getElem?_getD, this]
  rfl
theorem half_small : SmallN (1, 2) := ⟨by decide, by decide, by decide, by decide⟩
theorem q_half : qN (1, 2) = 1 / 2 := rfl
theorem wlk_wf (h1 : 2 ≤ m) (h2 : m ≤ 11) (ha : a.natAbs < 1000) (hb : b.natAbs < 1000) : WfC (wlkC a b m) := ⟨by rw [wlk_len]; omega, by rw [wlk_len]; omega, fun p hp => by
  rw [wlk_len]
  obtain ⟨k, hk, rfl⟩ := List.mem_map.mp hp
  have hk := List.mem_range.mp hk
  unfold wlkP
  by_cases c : k = 0
  · rw [if_pos c]
    exact wf_one_int ha (by omega)
  · rw [if_neg c]
    by_cases c2 : k = m
    · rw [if_pos c2]
      exact wf_one_int hb (by omega)
    · rw [if_neg c2]
      refine ⟨small11, by show 1 ≤ 2; decide, by show 2 ≤ 6; decide, fun q hq => ?_, ⟨2, by decide, by decide, fun q hq => ?_⟩, ?_⟩
      · rcases List.mem_cons.mp hq with rfl | hq
        · exact ⟨half_small, by show (0 : Int) < 1; decide, by show k - 1 < m + 1; omega⟩
        · rw [List.mem_singleton.mp hq]
          exact ⟨half_small, by show (0 : Int) < 1; decide, by show k + 1 < m + 1; omega⟩
      · rcases List.mem_cons.mp hq with rfl | hq
        · exact Nat.dvd_refl 2
        · rw [List.mem_singleton.mp hq]
          exact Nat.dvd_refl 2
      · show (qN (1, 2) + (qN (1, 2) + 0) : Rat) = 1
        rw [q_half]
        grind⟩
theorem wlk_mean {k : Nat} (h0 : 0 < k) (h1 : k < m) (f : Nat → Rat) : meanC (wlkC a b m) f k = 1 / 2 * (f (k - 1) + f (k + 1)) := by
  unfold meanC
  rw [wlk_at (by omega)]
  unfold wlkP
  rw [if_neg (by omega), if_neg (by omega)]
  show wsum [((1, 2), k - 1), ((1, 2), k + 1)] f = _
  rw [wsum_cons, wsum_cons, wsum_nil, q_half]
  show 1 / 2 * f (k - 1) + (1 / 2 * f (k + 1) + 0) = _
  grind
theorem wlk_end {k : Nat} (hm : 0 < m) (h : k = 0 ∨ k = m) : (plC (wlkC a b m) k).bs = [((1, 1), k)] ∧ (plC (wlkC a b m) k).g = (if k = 0 then a else b, 1) := by
  rw [wlk_at (by omega)]
  unfold wlkP
  by_cases c : k = 0
  · rw [if_pos c, if_pos c, c]
    exact ⟨rfl, rfl⟩
  · rw [if_neg c, if_neg c, if_pos (by omega)]
    have : k = m := by omega
    rw [this]
    exact ⟨rfl, rfl⟩
theorem one_q (z : Int) : qN (z, 1) = (z : Rat) := by
  show (z : Rat) / ((1 : Int) : Rat) = _
  have : ((1 : Int) : Rat) = 1 := rfl
  rw [this]
  grind
theorem wlk_long (h1 : 2 ≤ m) (h2 : m ≤ 11) (ha : a.natAbs < 1000) (hb : b.natAbs < 1000) :
    (∀ k, k ≤ m → longC (wlkC a b m) k = ((m - k : Nat) : Int) / ((m : Nat) : Int) * (a : Rat) + ((k : Nat) : Int) / ((m : Nat) : Int) * (b : Rat)) ∧ leadC (wlkC a b m) 0 = 0 ∧ leadC (wlkC a b m) m = 0 ∧
    ∀ k, 0 < k → k < m → longC (wlkC a b m) k + leadC (wlkC a b m) k = 1 + 1 / 2 * (leadC (wlkC a b m) (k - 1) + leadC (wlkC a b m) (k + 1)) := by
  have hW := wlk_wf h1 h2 ha hb
  have hl : ∀ {k}, k ≤ m → k < (wlkC a b m).length := fun h => by rw [wlk_len]; omega
  have me : ∀ {k}, k = 0 ∨ k = m → ∀ f, meanC (wlkC a b m) f k = f k := fun {k} h f => by
    unfold meanC
    rw [(wlk_end (by omega) h).1]
    exact wsum_ring k f
  have ge : ∀ {k}, k = 0 ∨ k = m → longC (wlkC a b m) k = ((if k = 0 then a else b : Int) : Rat) := fun {k} h => by
    have e := lead_eq hW (long_ok hW) (lead_ok hW) (hl (show k ≤ m by omega))
    rw [me h] at e
    have eg : gainC (wlkC a b m) k = ((if k = 0 then a else b : Int) : Rat) := by
      unfold gainC
      rw [(wlk_end (by omega) h).2, one_q]
    rw [eg] at e
    grind
  have z0 : ∀ {k}, k = 0 ∨ k = m → leadC (wlkC a b m) k = 0 := fun {k} h => by
    have hre : ∀ y, Reach (wlkC a b m) k y → y = k := fun y hy => by
      induction hy with
      | refl => rfl
      | step _ hq ih =>
        rw [ih, (wlk_end (by omega) h).1] at hq
        rw [List.mem_singleton.mp hq]
    have hr : reachL (wlkC a b m) k = [k] := by
      have hs := self_mem hW (hl (show k ≤ m by omega))
      have hn := reach_nodup (wlkC a b m) k
      have hall : ∀ y ∈ reachL (wlkC a b m) k, y = k := fun y hy => hre y ((mem_reachL hW (hl (show k ≤ m by omega))).mp hy)
      cases e : reachL (wlkC a b m) k with
      | nil => rw [e] at hs; cases hs
      | cons y L =>
        rw [e] at hn hall
        have ey := hall y (List.mem_cons_self ..)
        cases L with
        | nil => rw [ey]
        | cons z L =>
          have ez := hall z (by simp)
          rw [ey, ez] at hn
          simp at hn
    have hh : k ∈ headsL (wlkC a b m) := mem_heads.mpr ⟨hl (by omega), by rw [hr]; rfl, fun y hy => by
      rw [hr] at hy
      rw [List.mem_singleton.mp hy]⟩
    obtain ⟨L, eL, G⟩ := head_grp hW hh
    have eL2 : L = [] := by
      rw [hr] at eL
      injection eL with _ eL
      exact eL.symm
    subst eL2
    have s := lead_share hW (lead_ok hW) hh eL G (p := fun _ => 1) fun f => by
      show 1 * meanC (wlkC a b m) f k + 0 = 1 * f k + 0
      rw [me h]
    have s2 : 1 * leadC (wlkC a b m) k + 0 = 0 := s
    grind
  have gi : ∀ k, 0 < k → k < m → longC (wlkC a b m) k = 1 / 2 * (longC (wlkC a b m) (k - 1) + longC (wlkC a b m) (k + 1)) := fun k hk hkm => by
    have e := long_mean hW (long_ok hW) (hl (show k ≤ m by omega))
    rwa [wlk_mean hk hkm] at e
  have dl : ∀ k, k < m → longC (wlkC a b m) (k + 1) = longC (wlkC a b m) k + (longC (wlkC a b m) 1 - longC (wlkC a b m) 0) := fun k hk => by
    induction k with
    | zero =>
      show longC _ 1 = longC _ 0 + _
      grind
    | succ k ih =>
      have e1 := ih (by omega)
      have e2 := gi (k + 1) (by omega) hk
      rw [show k + 1 - 1 = k by omega] at e2
      grind
  have ln : ∀ k, k ≤ m → longC (wlkC a b m) k = longC (wlkC a b m) 0 + natR k * (longC (wlkC a b m) 1 - longC (wlkC a b m) 0) := fun k hk => by
    induction k with
    | zero =>
      have : natR 0 = 0 := rfl
      rw [this]
      grind
    | succ k ih =>
      rw [dl k (by omega), ih (by omega), natR_add, natR_one]
      grind
  have g0 : longC (wlkC a b m) 0 = (a : Rat) := ge (.inl rfl)
  have gm : longC (wlkC a b m) m = (b : Rat) := by
    rw [ge (.inr rfl), if_neg (by omega)]
  have m0 : natR m ≠ 0 := nat_ne (by omega)
  refine ⟨fun k hk => ?_, z0 (.inl rfl), z0 (.inr rfl), fun k hk hkm => ?_⟩
  · have em := ln m (Nat.le_refl _)
    rw [gm, g0] at em
    rw [ln k hk, g0]
    have e1 : (((m - k : Nat) : Int) : Rat) = natR m - natR k := by
      have : natR m = natR (m - k) + natR k := by
        rw [← natR_add]
        congr 1
        omega
      show natR (m - k) = _
      rw [this]
      grind
    have e2 : (((m : Nat) : Int) : Rat) = natR m := rfl
    have e3 : (((k : Nat) : Int) : Rat) = natR k := rfl
    rw [e1, e2, e3]
    generalize natR m = M at *
    generalize natR k = N at *
    generalize longC (wlkC a b m) 1 - (a : Rat) = dd at *
    have : dd = ((b : Rat) - a) / M := by
      rw [em]
      grind
    rw [this]
    grind
  · have e := lead_eq hW (long_ok hW) (lead_ok hW) (hl (show k ≤ m by omega))
    rw [wlk_mean hk hkm] at e
    have eg : gainC (wlkC a b m) k = 1 := by
      unfold gainC
      rw [wlk_at (by omega)]
      unfold wlkP
      rw [if_neg (by omega), if_neg (by omega)]
      exact q_one
    rw [eg] at e
    exact e
end
end Md


set_option Elab.async false
set_option linter.all false
set_option maxRecDepth 100000
set_option maxHeartbeats 2000000
namespace Md
open PySem L2 Evl
def spTimesP (K : PySem.W.Frag) : Sp := fun vs h Q _ => ∃ (b : Hp) (p : Int × Int) (s : Rat), Ex b h ∧ DtA K b vs [nD p, nQ s] ∧ 1 ≤ p.2 ∧ Big 900 p ∧ Big 900 (canon s) ∧ ∀ v b' h', Gr b h b' h' → Dt K b' v (nQ (qN p * s)) → Q v h'
theorem ed_timesP {K : PySem.W.Frag} {σ : L2.St} {b : Hp} {ts : TA} {E : XK} {p : Int × Int} {s : Rat} (y : EDA K ts σ b [nD p, nQ s]) (h1 : 1 ≤ p.2) (h2 : Big 900 p) (h3 : Big 900 (canon s)) : ED K (tCall (spTimesP K) [] E ts) σ b (nQ (qN p * s)) := fun h e _ qq =>
  y h e _ fun vs b2 h2' g2 hv => ⟨b2, p, s, g2.gi, by rw [List.append_nil]; exact hv, h1, h2, h3, fun v b3 h3 g3 hv3 => qq v b3 h3 (g2.trans g3) hv3⟩
theorem ed_timesR' {K : PySem.W.Frag} {σ : L2.St} {b : Hp} {ts : TA} {E : XK} {r s : Rat} (y : EDA K ts σ b [nQ r, nQ s]) (h2 : Big 900 (canon r)) (h3 : Big 900 (canon s)) : ED K (tCall (spTimesP K) [] E ts) σ b (nQ (r * s)) := by
  have := ed_timesP (E := E) (p := canon r) (s := s) y (canon_red r).1 h2 h3
  rwa [q_canon] at this
theorem times_raw {p : Int × Int} (h : 1 ≤ p.2) (s : Rat) : num (p.1 * (canon s).1) (p.2 * (canon s).2) = canon (qN p * s) := by
  have p2 := (canon_red s).1
  rw [num_canon (Int.mul_pos (by omega) (by omega)), Rat.intCast_mul, Rat.intCast_mul]
  congr 1
  have c := q_canon s
  unfold qN at c ⊢
  have n1 : ((p.2 : Int) : Rat) ≠ 0 := cast_ne (by omega)
  have n2 : (((canon s).2 : Int) : Rat) ≠ 0 := cast_ne (by omega)
  generalize (((canon s).1 : Int) : Rat) = S at *
  generalize (((canon s).2 : Int) : Rat) = S2 at *
  generalize ((p.1 : Int) : Rat) = A at *
  generalize ((p.2 : Int) : Rat) = A2 at *
  rw [← c]
  grind
section
variable {n : Nat} {g : Nat → Int}
theorem nb_int {M B : Nat} {z : Int} (h : z.natAbs ≤ B) : NB M B (z : Rat) := ⟨zt_int M z, (abs_to h).1, (abs_to h).2⟩
theorem nb_sumR {M B : Nat} {f : Nat → Rat} : ∀ i, (∀ k, k < i → NB M B (f k)) → NB M (i * B) (sumR i f)
  | 0, _ => by
    rw [sumR_zero]
    exact nb_zero _ _
  | i + 1, h => by
    rw [sumR_succ, Nat.add_mul, Nat.one_mul]
    exact nb_add (nb_sumR i fun k hk => h k (by omega)) (h i (by omega))
theorem nb_inv {n : Nat} (h : 0 < n) : NB n 1 (1 / natR n) := by
  have n0 : natR n ≠ 0 := nat_ne h
  have p := natR_pos h
  have one : (1 : Rat) ≤ natR n := by
    have := natR_le (show 1 ≤ n from h)
    rwa [natR_one] at this
  refine ⟨⟨1, ?_⟩, ?_, ?_⟩
  · show 1 / natR n * natR n = 1
    grind
  · rw [natR_one]
    exact le_div' p (by grind)
  · rw [natR_one]
    exact div_le' p (by rw [Rat.one_mul]; exact one)
structure RngS (n : Nat) (g : Nat → Int) (c : Rat) : Prop where
  G : ∀ k, k < n → Big 900 (canon (g k : Rat))
  A : ∀ i, i ≤ n → Big 900 (canon (sumR i fun j => (g j : Rat)))
  B : Big 900 (canon c)
  C : ∀ k, k < n → Big 900 (canon (c - (g k : Rat)))
  D : ∀ k, k ≤ n → Big 900 (canon (hgtR c g k))
  E : ∀ i, i ≤ n → Big 900 (canon (sumR i (hgtR c g)))
  F : Big 900 (canon (sumR n (hgtR c g) / natR n))
  I : Big 900 (canon (1 / natR n))
theorem rng_sz (h1 : 1 ≤ n) (h2 : n ≤ 12) (hg : ∀ k, k < n → (g k).natAbs ≤ 20) : RngS n g ((sumR n fun j => (g j : Rat)) / natR n) := by
  have big : ∀ {M B : Nat} {r : Rat}, NB M B r → 0 < M → M ≤ 144 → 1 ≤ B → B ≤ 16000 → Big 900 (canon r) := fun h a b c d => nb_big h a c (i := 14) (by omega) (k := 8) (by omega) (by decide)
  have nS : ∀ i, i ≤ n → NB 1 (i * 20) (sumR i fun j => (g j : Rat)) := fun i hi => nb_sumR i fun k hk => nb_int (hg k (by omega))
  have nC : NB n 20 ((sumR n fun j => (g j : Rat)) / natR n) := by
    have a := nb_mul (nS n (Nat.le_refl _)) (nb_inv (n := n) (by omega))
    have e : (sumR n fun j => (g j : Rat)) * (1 / natR n) = (sumR n fun j => (g j : Rat)) / natR n := by
      have n0 : natR n ≠ 0 := nat_ne (by omega)
      grind
    rw [e] at a
    have s := nS n (Nat.le_refl _)
    have p := natR_pos (show 0 < n by omega)
    refine ⟨by have := a.zt; rwa [Nat.one_mul] at this, ?_, ?_⟩
    · refine le_div' p ?_
      have := s.lo
      rw [natR_mul] at this
      grind
    · refine div_le' p ?_
      have := s.hi
      rw [natR_mul] at this
      grind
  generalize (sumR n fun j => (g j : Rat)) / natR n = c at *
  have nG : ∀ k, k < n → NB n 20 (g k : Rat) := fun k hk => nb_int (hg k hk)
  have nH : ∀ k, k ≤ n → NB n (k * 40) (hgtR c g k) := fun k hk => by
    induction k with
    | zero => exact nb_zero _ _
    | succ k ih =>
      rw [Nat.add_mul, Nat.one_mul]
      exact nb_add (ih (by omega)) (nb_sub nC (nG k (by omega)))
  have nE : ∀ i, i ≤ n → NB n (i * 480) (sumR i (hgtR c g)) := fun i hi => nb_sumR i fun k hk => (nH k (by omega)).mono (Nat.dvd_refl _) (by omega)
  have nF := nb_mul (nE n (Nat.le_refl _)) (nb_inv (n := n) (by omega))
  have eF : sumR n (hgtR c g) * (1 / natR n) = sumR n (hgtR c g) / natR n := by
    have n0 : natR n ≠ 0 := nat_ne (by omega)
    grind
  rw [eF] at nF
  have hnn : n * n ≤ 144 := Nat.mul_le_mul h2 h2
  refine ⟨fun k hk => big (nG k hk) h1 (by omega) (by omega) (by omega), fun i hi => big ((nS i hi).mono (Nat.dvd_refl _) (show i * 20 ≤ 240 + 1 by omega)) (by omega) (by omega) (by omega) (by omega), big nC h1 (by omega) (by omega) (by omega), fun k hk => big (nb_sub nC (nG k hk)) h1 (by omega) (by omega) (by omega), fun k hk => big ((nH k hk).mono (Nat.dvd_refl _) (show k * 40 ≤ 480 + 1 by omega)) h1 (by omega) (by omega) (by omega), fun i hi => big ((nE i hi).mono (Nat.dvd_refl _) (show i * 480 ≤ 5760 + 1 by omega)) h1 (by omega) (by omega) (by omega), big (nF.mono (Nat.dvd_refl _) (show n * 480 * 1 ≤ 5760 by omega)) (Nat.mul_pos h1 h1) hnn (by omega) (by omega), big (nb_inv (n := n) h1) h1 (by omega) (by omega) (by omega)⟩
end
end Md


set_option Elab.async false
set_option linter.all false
set_option maxRecDepth 100000
set_option maxHeartbeats 2000000
/-! A list that grows by what is read of it; range(lo, n) in a comprehension. -/
namespace Md
open PySem L2 Evl
section
variable {K : PySem.W.Frag} {σ : L2.St} {b h : Hp} {ta te : TE} {ts : TA} {t : TT} {vs : List Nat} {E : XK} {D : Ends} {d : PyData} {us : List V} {q : Addr} {r s : Rat}
/-- q.append(te), where te is known at this heap -/
theorem r_app1h (hq : h q = some (.lst us)) (ha : Ev ta σ h (.ref q)) (x : EDh K te σ b h d) (nb : b q = none) (hz : us.length < 100000)
    (k : ∀ v b' h', Gr b h b' h' → b' q = none → h' q = some (.lst us) → Dt K b' v d → D.nx σ (upd h' q (.lst (us ++ [v])))) (e : Ex b h) : tDrop (tBM K "list" rAppend ta (tCons te tNil)) D σ h :=
  ha h (Ex.refl h) _ fun h1 e1 => ⟨Or.inl ⟨rfl, us, sq_of (e1 _ _ hq)⟩, x h1 e1 _ fun v b2 h2 g2 hv =>
    ⟨q, us, v, rfl, rfl, g2.gh _ _ (e1 _ _ hq), sz_lt hz, k v b2 h2 ((Gr.stay e e1).trans g2) (g2.gf q nb (by rw [e1 _ _ hq]; intro z; cases z)) (g2.gh _ _ (e1 _ _ hq)) hv⟩⟩
/-- a[-1] of a list that is not spoken of -/
theorem edh_last {v : V} (e : Ex b h) (hq : h q = some (.lst (us ++ [v]))) (ha : Ev ta σ h (.ref q)) (hv : Dt K b v d) (he : Ev te σ h (.int (-1))) : EDh K (tOp (rIxL K) ta te) σ b h d :=
  edh_val e hv (ev_op ha he (rv_ixL (sq_of hq) (by
    have := atI_last us v
    exact this)))
/-- [te for j in range(lo, n) if t] -/
theorem en_lcR2 {j : Nat} {lo n : Int} (x : EvA ts σ b [.int lo, .int n]) (hn : -1000 ≤ lo ∧ lo ≤ n ∧ n ≤ 30000) (f : Nat → Bool) (r : Nat → PyData) (hw : ∀ x, wipe ((wipe σ vs).set j (some x)) vs = wipe σ vs)
    (hs : ∀ (i : Nat) b2, Ex b b2 → lo + (i : Int) < n → EvT t ((wipe σ vs).set j (some (.int (lo + (i : Int))))) b2 (f i) ∧ (f i = true → ED K te ((wipe σ vs).set j (some (.int (lo + (i : Int))))) b2 (r i))) :
    EN K (tLc (iRng2 ts) (gName j) t te vs) σ b (givenD (n - lo).toNat f r) := fun h e _ q => x h e _ fun h1 e1 => by
  have g1 : Gr b h b h1 := Gr.stay e e1
  refine ⟨lo, n, rfl, by omega, fun Dl hD => ?_⟩
  refine lc_data (walk_range (lo := lo) (n := (n - lo).toNat)) f r g1.gi hD (by omega) (fun _ _ => trivial) (fun i y b2 h2 h3 hi e2 g2 hy => ?_) (fun b2 h2 us g2 nb hu hA => q Dl us b2 h2 (gone g1 hD) nb (g1.trans g2) hu hA)
  obtain ⟨rfl, hy⟩ := hy
  have hy' : y = V.int (lo + (i : Int)) := hy
  subst hy'
  refine ⟨b2, Gr.refl g2.gi, fun Q k => ?_⟩
  have z := hs i b2 g2.gb (by omega)
  exact k _ (hw _) z.1 z.2
theorem DtA.snoc : ∀ {ds : List PyData} {us : List V}, DtA K b us (ds ++ [d]) → ∃ us1 v, us = us1 ++ [v] ∧ Dt K b v d
  | [], _, h => by
    cases h with
    | cons h1 h2 =>
      cases h2
      exact ⟨[], _, rfl, h1⟩
  | _ :: ds, _, h => by
    cases h with
    | cons h1 h2 =>
      obtain ⟨us1, v, rfl, hv⟩ := DtA.snoc h2
      exact ⟨_ :: us1, v, rfl, hv⟩
end
end Md


set_option Elab.async false
set_option linter.all false
set_option maxRecDepth 100000
set_option maxHeartbeats 2000000
/-! The law's own numbers, where what is left over in lowest terms is less than 2^1998. -/
namespace Md
open PySem L2 Evl
def EucW (g i x y : Nat) : Prop := Nat.gcd x y = g ∧ (if i = 0 then y = 0 ∨ y < 2 ^ 1998 * g else y < x ∧ x * y * 2 ^ (i - 1) < 2 ^ 3996 * (g * g))
theorem eucW_turn {g i x y : Nat} (h : EucW g i x y) (h0 : 0 < y) : EucW g (i + 1) y (x % y) := by
  obtain ⟨h1, h2⟩ := h
  refine ⟨by rw [← h1, Nat.gcd_comm x y, Nat.gcd_rec y x, Nat.gcd_comm], ?_⟩
  have hm := Nat.mod_lt x h0
  rw [if_neg (by omega)]
  refine ⟨hm, ?_⟩
  by_cases hi : i = 0
  · rw [if_pos hi] at h2
    subst hi
    have h3 : y < 2 ^ 1998 * g := h2.resolve_left (by omega)
    show y * (x % y) * 2 ^ 0 < 2 ^ 3996 * (g * g)
    rw [Nat.pow_zero, Nat.mul_one, show (3996 : Nat) = 1998 + 1998 from rfl, Nat.pow_add]
    have := Nat.mul_lt_mul'' h3 (Nat.lt_trans hm h3)
    rwa [Nat.mul_mul_mul_comm] at this
  · rw [if_neg hi] at h2
    obtain ⟨h3, h4⟩ := h2
    obtain ⟨j, rfl⟩ : ∃ j, i = j + 1 := ⟨i - 1, by omega⟩
    show y * (x % y) * 2 ^ (j + 1) < 2 ^ 3996 * (g * g)
    refine Nat.lt_of_le_of_lt ?_ h4
    show y * (x % y) * 2 ^ (j + 1) ≤ x * y * 2 ^ j
    have h5 : x % y * 2 ≤ x := mod_twice (Nat.le_of_lt h3) h0
    calc y * (x % y) * 2 ^ (j + 1) = y * (x % y * 2) * 2 ^ j := by rw [Nat.pow_succ]; simp [Nat.mul_comm, Nat.mul_left_comm, Nat.mul_assoc]
      _ ≤ y * x * 2 ^ j := Nat.mul_le_mul_right _ (Nat.mul_le_mul_left _ h5)
      _ = x * y * 2 ^ j := by rw [Nat.mul_comm y x]
theorem eucW_end {g x y : Nat} (h : EucW g 4000 x y) : y = 0 := by
  obtain ⟨h1, h2⟩ := h
  rw [if_neg (by decide)] at h2
  obtain ⟨h3, h4⟩ := h2
  rcases Nat.eq_zero_or_pos y with z | z
  · exact z
  · exfalso
    have dx : g ≤ x := by rw [← h1]; exact Nat.le_of_dvd (by omega) (Nat.gcd_dvd_left x y)
    have dy : g ≤ y := by rw [← h1]; exact Nat.le_of_dvd z (Nat.gcd_dvd_right x y)
    have h5 : g * g ≤ x * y := Nat.mul_le_mul dx dy
    have h6 : g * g * 2 ^ (4000 - 1) ≤ x * y * 2 ^ (4000 - 1) := Nat.mul_le_mul_right _ h5
    have h7 : g * g * 2 ^ 3996 ≤ g * g * 2 ^ (4000 - 1) := Nat.mul_le_mul_left _ (Nat.pow_le_pow_right (by decide) (by decide))
    rw [Nat.mul_comm (2 ^ 3996)] at h4
    exact absurd (Nat.lt_of_lt_of_le h4 (Nat.le_trans h7 h6)) (Nat.lt_irrefl _)
theorem eucW_zero {g i x : Nat} (h : EucW g i x 0) : x = g := by
  have := h.1
  rwa [Nat.gcd_zero_right] at this
def spGcdW (K : PySem.W.Frag) : Sp := SpF K 2 (fun ds => ∃ a b : Int, ds = [.int a, .int b] ∧ (b.natAbs = 0 ∨ b.natAbs < 2 ^ 1998 * Nat.gcd a.natAbs b.natAbs)) (fun ds d => ∀ a b : Int, ds = [.int a, .int b] → d = .int ((Nat.gcd a.natAbs b.natAbs : Nat) : Int))
def spNumberW (K : PySem.W.Frag) : Sp := SpF K 2 (fun ds => ∃ n d : Int, ds = [.int n, .int d] ∧ d ≠ 0 ∧ n.natAbs < 2 ^ 8100 ∧ d.natAbs < 2 ^ 8100 ∧ d.natAbs < 2 ^ 1998 * Nat.gcd n.natAbs d.natAbs) (fun ds r => ∀ n d : Int, ds = [.int n, .int d] → r = nD (num n d))
theorem small_gcd {a b : Nat} (h : b < 2 ^ 1900) : b = 0 ∨ b < 2 ^ 1998 * Nat.gcd a b := by
  rcases Nat.eq_zero_or_pos b with z | z
  · exact .inl z
  · refine .inr ?_
    have h1 := Nat.gcd_pos_of_pos_right a z
    have h2 : 2 ^ 1998 * 1 ≤ 2 ^ 1998 * Nat.gcd a b := Nat.mul_le_mul_left _ h1
    have h3 : b < 2 ^ 1998 := Nat.lt_of_lt_of_le h (Nat.pow_le_pow_right (by decide) (by decide))
    rw [Nat.mul_one] at h2
    exact Nat.lt_of_lt_of_le h3 h2
theorem Has.imp {P : Program} {w : World} {K : PySem.W.Frag} {mg : Str → Option Value} {base : Heap} {k : Nat} {x : Str} {ps : List Str} {sp sp' : Sp} (H : Has P w K mg base k x ps sp) (h : ∀ vs h Q E, sp' vs h Q E → sp vs h Q E) : Has P w K mg base k x ps sp' := by
  obtain ⟨f, fd, F, h1, h2, h3⟩ := H
  exact ⟨f, fd, F.imp h, h1, h2, h3⟩
theorem gcdW_weak {P : Program} {w : World} {K : PySem.W.Frag} {mg : Str → Option Value} {base : Heap} {k : Nat} {x : Str} {ps : List Str} (H : Has P w K mg base k x ps (spGcdW K)) : Has P w K mg base k x ps (spGcd K) :=
  H.imp fun vs h Q E q => by
    obtain ⟨b, ds, h1, h2, h3, ⟨x, y, e, hy⟩, h5⟩ := q
    exact ⟨b, ds, h1, h2, h3, ⟨x, y, e, small_gcd hy⟩, h5⟩
theorem numberW_weak {P : Program} {w : World} {K : PySem.W.Frag} {mg : Str → Option Value} {base : Heap} {k : Nat} {x : Str} {ps : List Str} (H : Has P w K mg base k x ps (spNumberW K)) : Has P w K mg base k x ps (spNumber K) :=
  H.imp fun vs h Q E q => by
    obtain ⟨b, ds, h1, h2, h3, ⟨x, y, e, h0, hx, hy⟩, h5⟩ := q
    exact ⟨b, ds, h1, h2, h3, ⟨x, y, e, h0, Nat.lt_of_lt_of_le hx (Nat.pow_le_pow_right (by decide) (by decide)), Nat.lt_of_lt_of_le hy (Nat.pow_le_pow_right (by decide) (by decide)), (small_gcd hy).resolve_left (by omega)⟩, h5⟩
theorem num_den {n d : Int} (h : 0 < d) : d.natAbs = (num n d).2.natAbs * Nat.gcd n.natAbs d.natAbs := by
  rw [num_pos h]
  show d.natAbs = (d / ((Nat.gcd n.natAbs d.natAbs : Nat) : Int)).natAbs * Nat.gcd n.natAbs d.natAbs
  obtain ⟨c, hc⟩ := Nat.gcd_dvd_right n.natAbs d.natAbs
  have g0 : 0 < Nat.gcd n.natAbs d.natAbs := Nat.gcd_pos_of_pos_right _ (by omega)
  generalize Nat.gcd n.natAbs d.natAbs = g at *
  have hd : d = (g : Int) * (c : Int) := by
    have : d = (d.natAbs : Int) := by omega
    rw [this, hc, Int.natCast_mul]
  have e : d / (g : Int) = (c : Int) := by
    rw [hd]
    exact Int.mul_ediv_cancel_left _ (by omega)
  rw [e, Int.natAbs_natCast, hc, Nat.mul_comm]
def spPlusW (K : PySem.W.Frag) : Sp := fun vs h Q _ => ∃ (b : Hp) (r s : Rat), Ex b h ∧ DtA K b vs [nQ r, nQ s] ∧ Big 4000 (canon r) ∧ Big 4000 (canon s) ∧ (r + s).den < 2 ^ 1998 ∧ ∀ v b' h', Gr b h b' h' → Dt K b' v (nQ (r + s)) → Q v h'
def spTimesW (K : PySem.W.Frag) : Sp := fun vs h Q _ => ∃ (b : Hp) (r s : Rat), Ex b h ∧ DtA K b vs [nQ r, nQ s] ∧ Big 4000 (canon r) ∧ Big 4000 (canon s) ∧ (r * s).den < 2 ^ 1998 ∧ ∀ v b' h', Gr b h b' h' → Dt K b' v (nQ (r * s)) → Q v h'
def spTotW (K : PySem.W.Frag) : Sp := fun vs h Q _ => ∃ (b : Hp) (l : List Rat), Ex b h ∧ DtA K b vs [ratsD l] ∧ l.length ≤ 1000 ∧ (∀ i, i ≤ l.length → Big 4000 (canon (l.take i).sum) ∧ (l.take i).sum.den < 2 ^ 1998) ∧ (∀ r ∈ l, Big 4000 (canon r)) ∧ ∀ v b' h', Gr b h b' h' → Dt K b' v (nQ l.sum) → Q v h'
theorem den_gcd {n d : Int} {r : Rat} (h : 0 < d) (e : num n d = canon r) (hr : r.den < 2 ^ 1998) : d.natAbs < 2 ^ 1998 * Nat.gcd n.natAbs d.natAbs := by
  have h1 := num_den (n := n) h
  rw [e] at h1
  have h2 : (canon r).2.natAbs = r.den := Int.natAbs_natCast _
  rw [h2] at h1
  have g0 : 0 < Nat.gcd n.natAbs d.natAbs := Nat.gcd_pos_of_pos_right _ (by omega)
  generalize Nat.gcd n.natAbs d.natAbs = g at *
  rw [h1]
  exact Nat.mul_lt_mul_of_pos_right hr g0
section
variable {K : PySem.W.Frag} {σ : L2.St} {b h : Hp} {ts : TA} {E : XK} {r s : Rat}
theorem ed_plusW (y : EDA K ts σ b [nQ r, nQ s]) (h1 : Big 4000 (canon r)) (h2 : Big 4000 (canon s)) (h3 : (r + s).den < 2 ^ 1998) : ED K (tCall (spPlusW K) [] E ts) σ b (nQ (r + s)) := fun h e _ qq =>
  y h e _ fun vs b2 h2' g2 hv => ⟨b2, r, s, g2.gi, by rw [List.append_nil]; exact hv, h1, h2, h3, fun v b3 h3 g3 hv3 => qq v b3 h3 (g2.trans g3) hv3⟩
theorem ed_timesW (y : EDA K ts σ b [nQ r, nQ s]) (h1 : Big 4000 (canon r)) (h2 : Big 4000 (canon s)) (h3 : (r * s).den < 2 ^ 1998) : ED K (tCall (spTimesW K) [] E ts) σ b (nQ (r * s)) := fun h e _ qq =>
  y h e _ fun vs b2 h2' g2 hv => ⟨b2, r, s, g2.gi, by rw [List.append_nil]; exact hv, h1, h2, h3, fun v b3 h3 g3 hv3 => qq v b3 h3 (g2.trans g3) hv3⟩
theorem ed_totW {l : List Rat} (y : EDA K ts σ b [ratsD l]) (h1 : l.length ≤ 1000) (h2 : ∀ i, i ≤ l.length → Big 4000 (canon (l.take i).sum) ∧ (l.take i).sum.den < 2 ^ 1998) (h3 : ∀ r ∈ l, Big 4000 (canon r)) : ED K (tCall (spTotW K) [] E ts) σ b (nQ l.sum) := fun h e _ qq =>
  y h e _ fun vs b2 h2' g2 hv => ⟨b2, l, g2.gi, by rw [List.append_nil]; exact hv, h1, h2, h3, fun v b3 h3 g3 hv3 => qq v b3 h3 (g2.trans g3) hv3⟩
end
theorem timesW_weak {P : Program} {w : World} {K : PySem.W.Frag} {mg : Str → Option Value} {base : Heap} {k : Nat} {x : Str} {ps : List Str} (H : Has P w K mg base k x ps (spTimesW K)) : Has P w K mg base k x ps (spNum2 K timesN) :=
  H.imp fun vs h Q E q => by
    obtain ⟨b, p, q, h1, h2, r1, r2, b1, b2, h5⟩ := q
    have e1 := canon_red_self r1
    have e2 := canon_red_self r2
    have up : ∀ {z : Int × Int}, Big 900 z → Big 4000 z := fun h => h.mono (by decide)
    refine ⟨b, qN p, qN q, h1, by unfold nQ; rw [← e1, ← e2]; exact h2, by rw [← e1]; exact up b1, by rw [← e2]; exact up b2, ?_, fun v b' h' g hv => h5 v b' h' g ?_⟩
    · have hd : (num (p.1 * q.1) (p.2 * q.2)) = canon (qN p * qN q) := by
        rw [← times_canon, ← e1, ← e2]
        rfl
      have hpos := mul_pos' r1.1 r2.1
      have h3 := num_den (n := p.1 * q.1) hpos
      rw [hd] at h3
      have h4 : (canon (qN p * qN q)).2.natAbs = (qN p * qN q).den := Int.natAbs_natCast _
      rw [h4] at h3
      have g0 : 0 < Nat.gcd (p.1 * q.1).natAbs (p.2 * q.2).natAbs := Nat.gcd_pos_of_pos_right _ (by omega)
      have h6 : (p.2 * q.2).natAbs < 2 ^ (900 + 900) := by rw [Int.natAbs_mul]; exact pow_mul_lt b1.2 b2.2
      have h7 : (qN p * qN q).den ≤ (p.2 * q.2).natAbs := by rw [h3]; exact Nat.le_mul_of_pos_right _ g0
      exact Nat.lt_of_le_of_lt h7 (Nat.lt_of_lt_of_le h6 (Nat.pow_le_pow_right (by decide) (by decide)))
    · unfold nQ at hv
      rw [← times_canon, ← e1, ← e2] at hv
      exact hv
theorem plusW_weak {P : Program} {w : World} {K : PySem.W.Frag} {mg : Str → Option Value} {base : Heap} {k : Nat} {x : Str} {ps : List Str} (H : Has P w K mg base k x ps (spPlusW K)) : Has P w K mg base k x ps (spNum2 K plusN) :=
  H.imp fun vs h Q E q => by
    obtain ⟨b, p, q, h1, h2, r1, r2, b1, b2, h5⟩ := q
    have e1 := canon_red_self r1
    have e2 := canon_red_self r2
    have up : ∀ {z : Int × Int}, Big 900 z → Big 4000 z := fun h => h.mono (by decide)
    refine ⟨b, qN p, qN q, h1, by unfold nQ; rw [← e1, ← e2]; exact h2, by rw [← e1]; exact up b1, by rw [← e2]; exact up b2, ?_, fun v b' h' g hv => h5 v b' h' g ?_⟩
    · have hd : (num (p.1 * q.2 + q.1 * p.2) (p.2 * q.2)) = canon (qN p + qN q) := by
        rw [← plus_canon, ← e1, ← e2]
        rfl
      have hpos := mul_pos' r1.1 r2.1
      have h3 := num_den (n := p.1 * q.2 + q.1 * p.2) hpos
      rw [hd] at h3
      have h4 : (canon (qN p + qN q)).2.natAbs = (qN p + qN q).den := Int.natAbs_natCast _
      rw [h4] at h3
      have g0 : 0 < Nat.gcd (p.1 * q.2 + q.1 * p.2).natAbs (p.2 * q.2).natAbs := Nat.gcd_pos_of_pos_right _ (by omega)
      have h6 : (p.2 * q.2).natAbs < 2 ^ (900 + 900) := by rw [Int.natAbs_mul]; exact pow_mul_lt b1.2 b2.2
      have h7 : (qN p + qN q).den ≤ (p.2 * q.2).natAbs := by rw [h3]; exact Nat.le_mul_of_pos_right _ g0
      exact Nat.lt_of_le_of_lt h7 (Nat.lt_of_lt_of_le h6 (Nat.pow_le_pow_right (by decide) (by decide)))
    · unfold nQ at hv
      rw [← plus_canon, ← e1, ← e2] at hv
      exact hv
end Md


set_option Elab.async false
set_option linter.all false
set_option maxRecDepth 100000
set_option maxHeartbeats 2000000
/-! Steps of games: places of all kinds, what they are worth after so many steps. -/
namespace Md
open PySem L2 Evl
structure PlV where
  g : Int × Int
  k : Option Bool
  bs : List BrC
def kdV : Option Bool → Str
  | none => "draw"
  | some true => "ours"
  | some false => "theirs"
def PlV.el (p : PlV) : List PyData := match p.k with
  | none => p.bs.map brC
  | some _ => p.bs.map fun q => PyData.int (q.2 : Int)
def PlV.D (p : PlV) : PyData := .tuple [nD p.g, .str (kdV p.k), .list p.el]
def gvD (G : List PlV) : PyData := .list (G.map PlV.D)
theorem el_len (p : PlV) : p.el.length = p.bs.length := by
  unfold PlV.el
  split <;> exact List.length_map _
/-! ### the greatest, the least of a list -/
def tkQ (o : Bool) (l : List Rat) : Rat := if o = true then hiQ (fun j => l.getD j 0) l.length else loQ (fun j => l.getD j 0) l.length
theorem getDq_mem {l : List Rat} {j : Nat} (h : j < l.length) : l.getD j 0 ∈ l := by
  rw [List.getD_eq_getElem?_getD, List.getElem?_eq_getElem h]
  exact List.getElem_mem h
theorem tk_mem {o : Bool} {l : List Rat} (h : 0 < l.length) : tkQ o l ∈ l := by
  unfold tkQ
  split
  · obtain ⟨j, h1, h2⟩ := hi_mem (f := fun j => l.getD j 0) h l.length (Nat.le_refl _)
    rw [h2]
    exact getDq_mem h1
  · obtain ⟨j, h1, h2⟩ := lo_mem (f := fun j => l.getD j 0) h l.length (Nat.le_refl _)
    rw [h2]
    exact getDq_mem h1
theorem mem_getD {l : List Rat} {y : Rat} (h : y ∈ l) : ∃ j, j < l.length ∧ l.getD j 0 = y := by
  obtain ⟨j, hj, rfl⟩ := List.mem_iff_getElem.mp h
  exact ⟨j, hj, by rw [List.getD_eq_getElem?_getD, List.getElem?_eq_getElem hj]; rfl⟩
theorem tk_hi {l : List Rat} {y : Rat} (h : y ∈ l) : y ≤ tkQ true l := by
  obtain ⟨j, hj, e⟩ := mem_getD h
  show y ≤ hiQ _ _
  have := hi_ge (f := fun j => l.getD j 0) hj
  rw [← e]
  exact this
theorem tk_lo {l : List Rat} {y : Rat} (h : y ∈ l) : tkQ false l ≤ y := by
  obtain ⟨j, hj, e⟩ := mem_getD h
  show loQ _ _ ≤ y
  have := lo_le (f := fun j => l.getD j 0) hj
  rw [← e]
  exact this
theorem tk_is {o : Bool} {l : List Rat} {m : Rat} (hm : m ∈ l) (h : ∀ y ∈ l, if o = true then y ≤ m else m ≤ y) : tkQ o l = m := by
  have h0 := h _ (tk_mem (o := o) (List.length_pos_of_mem hm))
  cases o with
  | true =>
    have h1 := tk_hi hm
    rw [if_pos rfl] at h0
    grind
  | false =>
    have h1 := tk_lo hm
    rw [if_neg (by decide)] at h0
    grind
theorem tk_mul {o : Bool} {l : List Rat} {c : Rat} (hl : 0 < l.length) (hc : 0 ≤ c) : tkQ o (l.map fun x => x * c) = tkQ o l * c := by
  refine tk_is (List.mem_map.mpr ⟨_, tk_mem hl, rfl⟩) fun y hy => ?_
  obtain ⟨x, hx, rfl⟩ := List.mem_map.mp hy
  cases o with
  | true =>
    rw [if_pos rfl]
    exact Rat.mul_le_mul_of_nonneg_right (tk_hi hx) hc
  | false =>
    rw [if_neg (by decide)]
    exact Rat.mul_le_mul_of_nonneg_right (tk_lo hx) hc
def vW (p : PlV) (f : Nat → Rat) : Rat := match p.k with
  | none => wsum p.bs f
  | some o => tkQ o (p.bs.map fun q => f q.2)
structure WfV (w n : Nat) (p : PlV) : Prop where
  g : SmallN p.g
  l1 : 1 ≤ p.bs.length
  l6 : p.bs.length ≤ 6
  t : ∀ q ∈ p.bs, q.2 < n
  c : p.k = none → ∀ q ∈ p.bs, SmallN q.1 ∧ 0 ≤ q.1.1
  w : p.k = none → ∃ W : Nat, 0 < W ∧ W ≤ w ∧ ∀ q ∈ p.bs, q.1.2.natAbs ∣ W
  s : p.k = none → (p.bs.map fun q => qN q.1).sum = 1
structure WfVG (w : Nat) (G : List PlV) : Prop where
  l1 : 1 ≤ G.length
  l12 : G.length ≤ 12
  p : ∀ p ∈ G, WfV w G.length p
def vl (G : List PlV) (k : Nat) : PlV := G.getD k ⟨(0, 1), some true, []⟩
theorem vl_get {G : List PlV} {k : Nat} (h : k < G.length) : G[k]? = some (vl G k) := by
  unfold vl
  rw [List.getD_eq_getElem?_getD, List.getElem?_eq_getElem h]
  rfl
theorem vl_mem {G : List PlV} {k : Nat} (h : k < G.length) : vl G k ∈ G := List.mem_of_getElem? (vl_get h)
theorem vl_wf {w : Nat} {G : List PlV} (h : WfVG w G) {k : Nat} (hk : k < G.length) : WfV w G.length (vl G k) := h.p _ (vl_mem hk)
theorem map_vl {β : Type} (G : List PlV) (f : PlV → β) : (List.range G.length).map (fun i => f (vl G i)) = G.map f := map_getDn G _ f
theorem vW_congr {p : PlV} {f g : Nat → Rat} (h : ∀ q ∈ p.bs, f q.2 = g q.2) : vW p f = vW p g := by
  unfold vW
  split
  · exact wsum_congr h
  · congr 1
    exact List.map_congr_left h
theorem vW_mul {w n : Nat} {p : PlV} (hw : WfV w n p) {c : Rat} (hc : 0 ≤ c) (f : Nat → Rat) : vW p (fun j => f j * c) = vW p f * c := by
  unfold vW
  split
  · have : wsum p.bs (fun j => f j * c) = wsum p.bs (fun j => c * f j) := wsum_congr fun q _ => Rat.mul_comm _ _
    rw [this, wsum_mul, Rat.mul_comm]
  · rw [← tk_mul (by rw [List.length_map]; exact hw.l1) hc, List.map_map]
    rfl
theorem qN_nonneg {p : Int × Int} (h : Red p) (h0 : 0 ≤ p.1) : 0 ≤ qN p := by
  rcases Int.lt_or_eq_of_le h0 with z | z
  · exact Rat.le_of_lt (q_pos h z)
  · unfold qN
    rw [← z, Rat.div_def]
    show (0 : Rat) ≤ ((0 : Int) : Rat) * _
    have : ((0 : Int) : Rat) = 0 := rfl
    rw [this, Rat.zero_mul]
    exact Rat.le_refl
theorem nb_vW {w n M B S : Nat} {p : PlV} {f : Nat → Rat} (hw : WfV w n p) (hS : p.k = none → ∀ q ∈ p.bs, q.1.2.natAbs ∣ S) (hf : ∀ q ∈ p.bs, NB M B (f q.2)) : NB (M * S) B (vW p f) := by
  unfold vW
  split
  · rename_i hk
    have hc := hw.c hk
    have b := part_bd (bs := p.bs) (f := f) (B := B) (fun q hq => qN_nonneg (red_small (hc q hq).1) (hc q hq).2) (fun q hq => ⟨(hf q hq).lo, (hf q hq).hi⟩) (by rw [wsum_one, hw.s hk]; exact Rat.le_refl)
    exact ⟨part_zt fun q hq => ⟨red_small (hc q hq).1, hS hk q hq, (hf q hq).zt⟩, b.1, b.2⟩
  · rename_i o hk
    obtain ⟨q, hq, e⟩ := List.mem_map.mp (tk_mem (o := o) (l := p.bs.map fun q => f q.2) (by rw [List.length_map]; exact hw.l1))
    rw [← e]
    exact (hf q hq).mono (Nat.dvd_mul_right _ _) (Nat.le_refl _)
/-- what the steps are worth -/
def wG (G : List PlV) (d : Rat) : Nat → Nat → Rat
  | 0, _ => 0
  | t + 1, k => qN (vl G k).g + d * vW (vl G k) (wG G d t)
theorem disc_le {dn dd : Nat} (h1 : dn ≤ dd) (h2 : 1 ≤ dd) : 0 ≤ natR dn / natR dd ∧ natR dn / natR dd ≤ 1 ∧ Zt dd (natR dn / natR dd) := by
  have p := natR_pos (a := dd) h2
  have h := natR_le h1
  have h0 := natR_nonneg dn
  refine ⟨le_div' p (by grind), div_le' p (by grind), (dn : Int), ?_⟩
  have : natR dd ≠ 0 := by grind
  show natR dn / natR dd * natR dd = natR dn
  exact Rat.div_mul_cancel this
theorem nb_wG {w U S dn dd : Nat} {G : List PlV} (hW : WfVG w G) (hU : ∀ p ∈ G, p.g.2.natAbs ∣ U) (hS : ∀ p ∈ G, p.k = none → ∀ q ∈ p.bs, q.1.2.natAbs ∣ S) (h1 : dn ≤ dd) (h2 : 1 ≤ dd) :
    ∀ t k, k < G.length → NB (U * (S * dd) ^ t) (1000 * t) (wG G (natR dn / natR dd) t k)
  | 0, k, _ => nb_zero _ _
  | t + 1, k, hk => by
    have hw := vl_wf hW hk
    have hm := vl_mem hk
    have ih := nb_wG hW hU hS h1 h2 t
    have a := nb_vW (f := wG G (natR dn / natR dd) t) hw (hS _ hm) fun q hq => ih q.2 (hw.t q hq)
    obtain ⟨d0, d1, dz⟩ := disc_le h1 h2
    have g := q_small hw.g
    have eM : U * (S * dd) ^ (t + 1) = dd * (U * (S * dd) ^ t * S) := by
      rw [Nat.pow_succ]
      simp [Nat.mul_comm, Nat.mul_left_comm, Nat.mul_assoc]
    have eB : natR (1000 * (t + 1)) = natR (1000 * t) + 1000 := by
      rw [Nat.mul_add, natR_add]
      rfl
    have n0 := natR_nonneg (1000 * t)
    have lo := a.lo
    have hi := a.hi
    generalize hv : vW (vl G k) (wG G (natR dn / natR dd) t) = v at *
    have dv : -natR (1000 * t) ≤ natR dn / natR dd * v ∧ natR dn / natR dd * v ≤ natR (1000 * t) := by
      generalize natR dn / natR dd = d at *
      have u1 := Rat.mul_le_mul_of_nonneg_left hi d0
      have u2 := Rat.mul_le_mul_of_nonneg_left lo d0
      have u3 := Rat.mul_le_mul_of_nonneg_right d1 n0
      constructor <;> grind
    show NB _ _ (qN (vl G k).g + natR dn / natR dd * vW (vl G k) (wG G (natR dn / natR dd) t))
    rw [hv]
    refine ⟨Zt.add ((zt_den (red_small hw.g) (hU _ hm)).dvd (Nat.dvd_mul_right _ _)) (by rw [eM]; exact dz.mul a.zt), ?_, ?_⟩
    · rw [eB]; grind
    · rw [eB]; grind
def gainsV (G : List PlV) : List (Int × Int) := G.map (·.g)
def chp (p : PlV) : List (Int × Int) := match p.k with
  | none => p.bs.map (·.1)
  | some _ => []
def chancesV (G : List PlV) : List (Int × Int) := (G.map chp).flatten
theorem chv_mem {G : List PlV} {p : PlV} {q : BrC} (hp : p ∈ G) (hk : p.k = none) (hq : q ∈ p.bs) : q.1 ∈ chancesV G := List.mem_flatten.mpr ⟨_, List.mem_map.mpr ⟨p, hp, rfl⟩, by
  unfold chp
  rw [hk]
  exact List.mem_map.mpr ⟨q, hq, rfl⟩⟩
theorem mem_chv {G : List PlV} {c : Int × Int} (h : c ∈ chancesV G) : ∃ p ∈ G, p.k = none ∧ ∃ q ∈ p.bs, q.1 = c := by
  obtain ⟨l, hl, hc⟩ := List.mem_flatten.mp h
  obtain ⟨p, hp, rfl⟩ := List.mem_map.mp hl
  unfold chp at hc
  split at hc
  · rename_i hk
    obtain ⟨q, hq, rfl⟩ := List.mem_map.mp hc
    exact ⟨p, hp, hk, q, hq, rfl⟩
  · cases hc
theorem denV_le {w : Nat} (hw1 : 1 ≤ w) : ∀ {G : List PlV} {n : Nat}, (∀ p ∈ G, WfV w n p) → ∃ M : Nat, 0 < M ∧ M ≤ w ^ G.length ∧ ∀ c ∈ chancesV G, c.2.natAbs ∣ M
  | [], n, _ => ⟨1, by decide, by show 1 ≤ w ^ 0; rw [Nat.pow_zero]; exact Nat.le_refl 1, fun c h => by
    obtain ⟨p, hp, _⟩ := mem_chv h
    cases hp⟩
  | p :: G, n, h => by
    obtain ⟨M, h0, h1, h2⟩ := denV_le hw1 (G := G) (n := n) fun p hp => h p (List.mem_cons_of_mem _ hp)
    have hp := h p (List.mem_cons_self ..)
    obtain ⟨W, w0, w1, w2⟩ : ∃ W : Nat, 0 < W ∧ W ≤ w ∧ (p.k = none → ∀ q ∈ p.bs, q.1.2.natAbs ∣ W) := by
      by_cases hk : p.k = none
      · obtain ⟨W, a, b, c⟩ := hp.w hk
        exact ⟨W, a, b, fun _ => c⟩
      · exact ⟨1, by decide, hw1, fun z => absurd z hk⟩
    refine ⟨M * W, Nat.mul_pos h0 w0, ?_, fun c hc => ?_⟩
    · rw [List.length_cons, Nat.pow_succ]
      exact Nat.mul_le_mul h1 w1
    · obtain ⟨p', hp', hk, q, hq, rfl⟩ := mem_chv hc
      rcases List.mem_cons.mp hp' with rfl | hp'
      · exact Nat.dvd_trans (w2 hk q hq) (Nat.dvd_mul_left _ _)
      · exact Nat.dvd_trans (h2 _ (chv_mem hp' hk hq)) (Nat.dvd_mul_right _ _)
theorem scaleV_ok {w : Nat} (hw1 : 1 ≤ w) {G : List PlV} (h : WfVG w G) : 0 < denL (chancesV G) ∧ denL (chancesV G) ≤ w ^ G.length := by
  obtain ⟨M, h0, h1, h2⟩ := denV_le hw1 h.p
  refine ⟨denL_pos fun c hc => ?_, Nat.le_trans (Nat.le_of_dvd h0 (denL_to h2)) h1⟩
  obtain ⟨p, hp, hk, q, hq, rfl⟩ := mem_chv hc
  exact ((h.p p hp).c hk q hq).1.1
theorem unitV_ok {w : Nat} {G : List PlV} (h : WfVG w G) : 0 < denL (gainsV G) ∧ denL (gainsV G) ≤ 999 ^ G.length := by
  have key : ∀ {G : List PlV} {n : Nat}, (∀ p ∈ G, WfV w n p) → ∃ M : Nat, 0 < M ∧ M ≤ 999 ^ G.length ∧ ∀ c ∈ gainsV G, c.2.natAbs ∣ M := fun {G n} h => by
    induction G with
    | nil => exact ⟨1, by decide, by decide, fun c h => by cases h⟩
    | cons p G ih =>
      obtain ⟨M, h0, h1, h2⟩ := ih fun p hp => h p (List.mem_cons_of_mem _ hp)
      have hg := (h p (List.mem_cons_self ..)).g
      refine ⟨M * p.g.2.natAbs, Nat.mul_pos h0 (by have := hg.1; omega), ?_, fun c hc => ?_⟩
      · rw [List.length_cons, Nat.pow_succ]
        exact Nat.mul_le_mul h1 (by have := hg.1; have := hg.2.1; omega)
      · rcases List.mem_cons.mp hc with rfl | hc
        · exact Nat.dvd_mul_left _ _
        · exact Nat.dvd_trans (h2 c hc) (Nat.dvd_mul_right _ _)
  obtain ⟨M, h0, h1, h2⟩ := key h.p
  refine ⟨denL_pos fun c hc => ?_, Nat.le_trans (Nat.le_of_dvd h0 (denL_to h2)) h1⟩
  obtain ⟨p, hp, rfl⟩ := List.mem_map.mp hc
  exact (h.p p hp).g.1
/-! ### whole numbers -/
def szV (G : List PlV) (d : Rat) (M : Nat → Nat) (t k : Nat) : Int := (wG G d t k * natR (M t)).num
theorem num_cast (z : Int) : ((z : Rat)).num = z := rfl
theorem sz_cast {G : List PlV} {d : Rat} {M : Nat → Nat} {t k : Nat} (h : Zt (M t) (wG G d t k)) : ((szV G d M t k : Int) : Rat) = wG G d t k * natR (M t) := by
  obtain ⟨z, hz⟩ := h
  unfold szV
  have hz' : wG G d t k * natR (M t) = (z : Rat) := hz
  rw [hz', num_cast]
theorem nb_abs {M B : Nat} {r : Rat} {z : Int} (h : NB M B r) (e : (z : Rat) = r * natR M) : z.natAbs ≤ B * M := by
  have hp := natR_nonneg M
  have u1 := Rat.mul_le_mul_of_nonneg_right h.lo hp
  have u2 := Rat.mul_le_mul_of_nonneg_right h.hi hp
  rw [← e] at u1 u2
  have v2 : z ≤ ((B : Nat) : Int) * ((M : Nat) : Int) := cast_le (by rw [Rat.intCast_mul]; exact u2)
  have v1 : -(((B : Nat) : Int) * ((M : Nat) : Int)) ≤ z := cast_le (by rw [Rat.intCast_neg, Rat.intCast_mul]; have : natR B * natR M = ((B : Int) : Rat) * ((M : Int) : Rat) := rfl; grind)
  have e3 : ((B * M : Nat) : Int) = ((B : Nat) : Int) * ((M : Nat) : Int) := Int.natCast_mul _ _
  rw [← e3] at v1 v2
  omega
end Md


set_option Elab.async false
set_option linter.all false
set_option maxRecDepth 100000
set_option maxHeartbeats 2000000
namespace Md
open PySem L2 Evl
section
variable {K : PySem.W.Frag} {σ : L2.St} {b h : Hp} {te tl tl1 ta tb : TE} {ts : TA} {E : XK} {D : Ends} {tz : TS} {d : PyData} {ds : List PyData}
/-- [te for g in tl if t for g1 in tl1] -/
theorem en_lc2F {t : TT} {g g1 : TG} {vs vs1 : List Nat} (x : ED K tl σ b (.list ds)) (hz : ds.length ≤ 100) (es : Nat → List PyData) (r : PyData → PyData) (hel : ∀ i, (es i).length ≤ 100) (f : Nat → Bool) (hfe : ∀ i, f i = false → es i = [])
    (hs : ∀ (i : Nat) (d : PyData) (x : V) (b2 h2 : Hp), Ex b b2 → Ex b2 h2 → ds[i]? = some d → Dt K b2 x d → ∀ Q : L2.St → Hp → Prop, (∀ σ2, wipe σ2 vs = wipe σ vs → EvT t σ2 b2 (f i) → (f i = true → ED K tl1 σ2 b2 (.list (es i))) →
      (∀ (j : Nat) (e : PyData) (y : V) (b3 h3 : Hp), Ex b2 b3 → Ex b3 h3 → (es i)[j]? = some e → Dt K b3 y e → ∀ Q1 : L2.St → Hp → Prop, (∀ σ3, wipe σ3 vs1 = wipe σ2 vs1 → ED K te σ3 b3 (r e) → Q1 σ3 h3) → g1 y (wipe σ2 vs1) h3 Q1) → Q σ2 h2) → g x (wipe σ vs) h2 Q) :
    EN K (tLc2 (iList K tl) g t (iList K tl1) g1 tYes te vs vs1) σ b (((List.range ds.length).map fun i => (es i).map r).flatten) := fun h e _ q => x h e _ fun v b1 h1 g1' hv => by
  obtain ⟨a, xs, rfl, k1, k2⟩ := hv.listI
  refine ⟨a, rfl, ⟨xs, sq_of (g1'.gi _ _ k1)⟩, fun Dl hD => ?_⟩
  let acc : Nat → List PyData := fun n => ((List.range n).map fun i => (es i).map r).flatten
  have acc1 : ∀ n, acc (n + 1) = acc n ++ (es n).map r := fun n => by
    show ((List.range (n + 1)).map _).flatten = _
    rw [List.range_succ, List.map_append, List.flatten_append]
    simp [acc]
  have accl : ∀ n, (acc n).length ≤ 100 * n := by
    intro n
    induction n with
    | zero => exact Nat.le_refl _
    | succ n ih =>
      rw [acc1, List.length_append, List.length_map]
      have := hel n
      omega
  have hxl : xs.length = ds.length := k2.length
  let Inv : Nat → Hp → Prop := fun i H => ∃ b2 us, Gr b1 h1 b2 H ∧ b2 Dl = none ∧ H Dl = some (.lst us) ∧ DtA K b2 us (acc i)
  refine ⟨fun i m H => m = ds.length - i ∧ i ≤ ds.length ∧ Inv i H, ⟨ds.length, by simp, Nat.zero_le _, b1, [], Gr.hid g1'.gi hD, none_of g1'.gi hD, upd_same, DtA.nil⟩, ?_⟩
  rintro i m H ⟨rfl, hi, b2, us, g2, nb, hu, hA⟩
  have sqx : SqL K H a xs := sq_of (g2.gh _ _ (g1'.gi _ _ k1))
  by_cases hlt : i < ds.length
  · refine .inr ⟨walk_list.goes i H (by omega) sqx, Inv (i + 1), fun H' p' => ⟨ds.length - (i + 1), by omega, rfl, hlt, p'⟩, fun y H' hy => ?_⟩
    have hy2 := (walk_list (K := K) (a := a) (xs := xs)).yields i H y H' (by omega) sqx hy
    obtain rfl : H' = H := hy2.1
    replace hy : xs[i]? = some y := hy2.2
    obtain ⟨dd, hdd, hx⟩ := k2.getV hy
    refine hs i dd y b2 _ (g1'.gb.trans g2.gb) g2.gi hdd (hx.up g2.gb) _ fun σ2 hw hT htl hin => ⟨hw, ?_⟩
    refine hT _ g2.gi _ fun Ht eT => ?_
    have gT := Gr.stay g2.gi eT
    cases hf : f i with
    | false =>
      rw [if_neg (by decide)]
      refine ⟨b2, us, g2.trans gT, nb, eT _ _ hu, ?_⟩
      rw [acc1, hfe i hf, List.map_nil, List.append_nil]
      exact hA
    | true =>
    rw [if_pos rfl]
    refine htl hf _ gT.gi _ fun v1 b3 h3 g3' hv1 => ?_
    have g3 := gT.trans g3'
    obtain ⟨a1, xs1, rfl, q1, q2⟩ := hv1.listI
    have hl1 : xs1.length = (es i).length := q2.length
    refine ⟨a1, rfl, ⟨xs1, sq_of (g3.gi _ _ q1)⟩, ?_⟩
    have G3 := g2.trans g3
    have nb3 : b3 Dl = none := g3.gf Dl nb (by rw [hu]; intro z; cases z)
    have hu3 := g3.gh _ _ hu
    let Inv1 : Nat → Hp → Prop := fun j H => ∃ b4 us, Gr b3 h3 b4 H ∧ b4 Dl = none ∧ H Dl = some (.lst us) ∧ DtA K b4 us (acc i ++ ((es i).take j).map r)
    have hDl3 : h3 Dl ≠ none := by
      rw [hu3]
      intro z
      cases z
    refine ⟨fun j k H => k = (es i).length - j ∧ j ≤ (es i).length ∧ (∃ b4 us, Gr b1 h1 b4 H ∧ Ex b3 b4 ∧ b4 Dl = none ∧ H Dl = some (.lst us) ∧ DtA K b4 us (acc i ++ ((es i).take j).map r)), ⟨(es i).length, by simp, Nat.zero_le _, b3, us, G3, Ex.refl _, nb3, hu3, by rw [List.take_zero, List.map_nil, List.append_nil]; exact hA.up g3.gb⟩, ?_⟩
    rintro j k H ⟨rfl, hj, b4, us4, g4, e4, nb4, hu4, hA4⟩
    have sq1 : SqL K H a1 xs1 := sq_of (g4.gi _ _ (e4 _ _ q1))
    by_cases hjlt : j < (es i).length
    · refine .inr ⟨walk_list.goes j H (by omega) sq1, fun H' => (∃ b4 us, Gr b1 h1 b4 H' ∧ Ex b3 b4 ∧ b4 Dl = none ∧ H' Dl = some (.lst us) ∧ DtA K b4 us (acc i ++ ((es i).take (j + 1)).map r)), fun H' p' => ⟨(es i).length - (j + 1), by omega, rfl, hjlt, p'⟩, fun y H' hy => ?_⟩
      have hy2 := (walk_list (K := K) (a := a1) (xs := xs1)).yields j H y H' (by omega) sq1 hy
      obtain rfl : H' = H := hy2.1
      replace hy : xs1[j]? = some y := hy2.2
      obtain ⟨ee, hee, hx1⟩ := q2.getV hy
      refine hin j ee y b4 _ (g3.gb.trans e4) g4.gi hee (hx1.up e4) _ fun σ3 hw3 hte => ⟨hw3, ?_⟩
      refine tyes_of ?_
      refine hte _ g4.gi _ fun y5 b5 h5 g5 hy5 => ⟨us4, g5.gh _ _ hu4, sz_lt ?_, ?_⟩
      · rw [hA4.length, List.length_append, List.length_map, List.length_take]
        have := accl i
        have := hel i
        omega
      · have nb5 : b5 Dl = none := g5.gf Dl nb4 (by rw [hu4]; intro z; cases z)
        refine ⟨b5, us4 ++ [y5], (g4.trans g5).mut hD nb5, e4.trans g5.gb, nb5, upd_same, ?_⟩
        rw [take_more1 hee, List.map_append, ← List.append_assoc]
        exact (hA4.up g5.gb).append (DtA.one hy5)
    · have e : j = (es i).length := by omega
      subst e
      refine .inl ⟨?_, ?_⟩
      · have := (walk_list (K := K) (a := a1) (xs := xs1)).stops H sq1
        rw [hl1] at this
        exact this
      · refine ⟨b4, us4, g4, nb4, hu4, ?_⟩
        rw [acc1]
        rw [List.take_length] at hA4
        exact hA4
  · have e : i = ds.length := by omega
    subst e
    refine .inl ⟨?_, ?_⟩
    · have := (walk_list (K := K) (a := a) (xs := xs)).stops H sqx
      rw [hxl] at this
      exact this
    · exact q Dl us b2 H (gone g1' hD) nb (g1'.trans g2) hu hA
end
def spGainsV (K : PySem.W.Frag) : Sp := fun vs h Q _ => ∃ (b : Hp) (G : List PlV), Ex b h ∧ DtA K b vs [gvD G] ∧ G.length ≤ 100 ∧ ∀ v b' h', Gr b h b' h' → Dt K b' v (numsD (gainsV G)) → Q v h'
def spChV (K : PySem.W.Frag) : Sp := fun vs h Q _ => ∃ (b : Hp) (G : List PlV), Ex b h ∧ DtA K b vs [gvD G] ∧ G.length ≤ 100 ∧ (∀ p ∈ G, p.bs.length ≤ 6) ∧ ∀ v b' h', Gr b h b' h' → Dt K b' v (numsD (chancesV G)) → Q v h'
def spTgV (K : PySem.W.Frag) : Sp := fun vs h Q _ => ∃ (b : Hp) (p : PlV), Ex b h ∧ DtA K b vs [p.D] ∧ p.bs.length ≤ 6 ∧ ∀ v b' h', Gr b h b' h' → Dt K b' v (natsD (p.bs.map (·.2))) → Q v h'
def spSW (K : PySem.W.Frag) : Sp := fun vs h Q _ => ∃ (b : Hp) (p : PlV) (ns : List Int) (S n w : Nat), Ex b h ∧ DtA K b vs [p.D, .list (ns.map PyData.int), .int (S : Int)] ∧ WfV w n p ∧ n ≤ ns.length ∧ S < 2 ^ 13000 ∧ (p.k = none → ∀ q ∈ p.bs, q.1.2.natAbs ∣ S) ∧
  (∀ q ∈ p.bs, (ns.getD q.2 0).natAbs < 2 ^ 26000) ∧ ∀ (z : Int) h', Ex h h' → (z : Rat) = vW p (fun j => ((ns.getD j 0 : Int) : Rat)) * natR S → Q (.int z) h'
def spWA (K : PySem.W.Frag) : Sp := fun vs h Q _ => ∃ (b : Hp) (G : List PlV) (w dn dd t : Nat), Ex b h ∧ DtA K b vs [gvD G, nD ((dn : Int), (dd : Int)), .int (t : Int)] ∧ 1 ≤ w ∧ w ≤ 999 ∧ WfVG w G ∧ dn ≤ dd ∧ 1 ≤ dd ∧ dd < 2 ^ 3000 ∧ t ≤ 1000 ∧ denL (gainsV G) * (denL (chancesV G) * dd) ^ t < 2 ^ 3000 ∧
  ∀ v b' h', Gr b h b' h' → Dt K b' v (listQ G.length (wG G (natR dn / natR dd) t)) → OwnF h b' v → Q v h'
section
variable {K : PySem.W.Frag} {σ : L2.St} {b h : Hp} {te tl tl1 ta tb : TE} {ts : TA} {E : XK} {G : List PlV} {p : PlV}
theorem ed_gainsV (y : EDA K ts σ b [gvD G]) (h1 : G.length ≤ 100) : ED K (tCall (spGainsV K) [] E ts) σ b (numsD (gainsV G)) := fun h e _ qq =>
  y h e _ fun vs b2 h2' g2 hv => ⟨b2, G, g2.gi, by rw [List.append_nil]; exact hv, h1, fun v b3 h3 g3 hv3 => qq v b3 h3 (g2.trans g3) hv3⟩
theorem ed_chV (y : EDA K ts σ b [gvD G]) (h1 : G.length ≤ 100) (h2 : ∀ p ∈ G, p.bs.length ≤ 6) : ED K (tCall (spChV K) [] E ts) σ b (numsD (chancesV G)) := fun h e _ qq =>
  y h e _ fun vs b2 h2' g2 hv => ⟨b2, G, g2.gi, by rw [List.append_nil]; exact hv, h1, h2, fun v b3 h3 g3 hv3 => qq v b3 h3 (g2.trans g3) hv3⟩
theorem ed_tgV (y : EDA K ts σ b [p.D]) (h1 : p.bs.length ≤ 6) : ED K (tCall (spTgV K) [] E ts) σ b (natsD (p.bs.map (·.2))) := fun h e _ qq =>
  y h e _ fun vs b2 h2' g2 hv => ⟨b2, p, g2.gi, by rw [List.append_nil]; exact hv, h1, fun v b3 h3 g3 hv3 => qq v b3 h3 (g2.trans g3) hv3⟩
theorem ev_SW {ns : List Int} {S n w : Nat} {z : Int} (y : EDA K ts σ b [p.D, .list (ns.map PyData.int), .int (S : Int)]) (h1 : WfV w n p) (h2 : n ≤ ns.length) (h3 : S < 2 ^ 13000) (h4 : p.k = none → ∀ q ∈ p.bs, q.1.2.natAbs ∣ S) (h5 : ∀ q ∈ p.bs, (ns.getD q.2 0).natAbs < 2 ^ 26000)
    (hz : (z : Rat) = vW p (fun j => ((ns.getD j 0 : Int) : Rat)) * natR S) : Ev (tCall (spSW K) [] E ts) σ b (.int z) := fun h e _ qq =>
  y h e _ fun vs b2 h2' g2 hv => ⟨b2, p, ns, S, n, w, g2.gi, by rw [List.append_nil]; exact hv, h1, h2, h3, h4, h5, fun z' h3 e3 hz' => by
    have : z' = z := Rat.intCast_inj.mp (by rw [hz, hz'])
    rw [this]
    exact qq h3 (g2.gh.trans e3)⟩
/-- the greatest, the least of whole numbers -/
theorem ev_max {ns : List Int} {m : Int} (hl : ED K te σ b (.list (ns.map PyData.int))) (hm : m ∈ ns) (hle : ∀ y ∈ ns, y ≤ m) : Ev (tCB (rMax K) (tCons te tNil)) σ b (.int m) := fun hh e _ q => hl hh e _ fun v b2 h2 g2 hv => by
  obtain ⟨a, xs, rfl, k1, k2⟩ := hv.listI
  have hxs := k2.intsI
  subst hxs
  refine ⟨a, ns, rfl, sq_of (g2.gi _ _ k1), List.length_pos_of_mem hm, fun m' hm' hle' => ?_⟩
  have e1 := hle m' hm'
  have e2 := hle' m hm
  have : m' = m := by omega
  rw [this]
  exact q h2 g2.gh
end
theorem exists_max : ∀ {l : List Int}, l ≠ [] → ∃ m ∈ l, ∀ y ∈ l, y ≤ m
  | [a], _ => ⟨a, List.mem_singleton.mpr rfl, fun y hy => by rw [List.mem_singleton.mp hy]; exact Int.le_refl a⟩
  | a :: c :: l, _ => by
    obtain ⟨m, hm, hle⟩ := exists_max (l := c :: l) (by simp)
    by_cases z : a ≤ m
    · exact ⟨m, List.mem_cons_of_mem _ hm, fun y hy => by
        rcases List.mem_cons.mp hy with rfl | hy
        · exact z
        · exact hle y hy⟩
    · exact ⟨a, List.mem_cons_self .., fun y hy => by
        rcases List.mem_cons.mp hy with rfl | hy
        · exact Int.le_refl _
        · have := hle y hy
          omega⟩
theorem exists_min {l : List Int} (h : l ≠ []) : ∃ m ∈ l, ∀ y ∈ l, m ≤ y := by
  obtain ⟨m, hm, hle⟩ := exists_max (l := l.map fun x => -x) (by cases l with | nil => exact absurd rfl h | cons a l => simp)
  obtain ⟨x, hx, rfl⟩ := List.mem_map.mp hm
  refine ⟨x, hx, fun y hy => ?_⟩
  have := hle (-y) (List.mem_map.mpr ⟨y, hy, rfl⟩)
  omega
theorem tk_cast {o : Bool} {l : List Int} {m : Int} (hm : m ∈ l) (h : ∀ y ∈ l, if o = true then y ≤ m else m ≤ y) : tkQ o (l.map fun z : Int => (z : Rat)) = (m : Rat) := by
  refine tk_is (List.mem_map.mpr ⟨m, hm, rfl⟩) fun y hy => ?_
  obtain ⟨z, hz, rfl⟩ := List.mem_map.mp hy
  have := h z hz
  split
  · rename_i c
    rw [if_pos c] at this
    exact le_cast this
  · rename_i c
    rw [if_neg c] at this
    exact le_cast this
def ofC (p : PlC) : PlV := ⟨p.g, none, p.bs⟩
theorem ofC_D (C : List PlC) : gvD (C.map ofC) = chD C := by
  unfold gvD chD
  rw [List.map_map]
  rfl
theorem ofC_wf {C : List PlC} (h : WfC C) : WfVG 24 (C.map ofC) := by
  refine ⟨by rw [List.length_map]; exact h.l1, by rw [List.length_map]; exact h.l12, fun p hp => ?_⟩
  obtain ⟨p, hp1, rfl⟩ := List.mem_map.mp hp
  have w := h.p p hp1
  rw [List.length_map]
  exact ⟨w.g, w.l1, w.l6, fun q hq => (w.q q hq).2.2, fun _ q hq => ⟨(w.q q hq).1, by have := (w.q q hq).2.1; show 0 ≤ q.1.1; omega⟩, fun _ => w.w, fun _ => w.s⟩
theorem ofC_vl {C : List PlC} {k : Nat} (h : k < C.length) : vl (C.map ofC) k = ofC (plC C k) := by
  have h1 := vl_get (G := C.map ofC) (k := k) (by rw [List.length_map]; exact h)
  rw [List.getElem?_map, plC_get h] at h1
  exact (Option.some.inj h1).symm
theorem ofC_wG {C : List PlC} (h : WfC C) : ∀ t k, k < C.length → wG (C.map ofC) 1 t k = fgC C t k
  | 0, _, _ => rfl
  | t + 1, k, hk => by
    show qN (vl (C.map ofC) k).g + 1 * vW (vl (C.map ofC) k) (wG (C.map ofC) 1 t) = gainC C k + meanC C (fgC C t) k
    rw [ofC_vl hk, Rat.one_mul]
    show qN (plC C k).g + wsum (plC C k).bs _ = _
    rw [wsum_congr (g := fgC C t) fun q hq => ofC_wG h t q.2 ((plC_wf h hk).q q hq).2.2]
    rfl
theorem ofC_gains (C : List PlC) : gainsV (C.map ofC) = gainsC C := by
  unfold gainsV gainsC
  rw [List.map_map]
  rfl
theorem ofC_chances (C : List PlC) : chancesV (C.map ofC) = chances C := by
  unfold chancesV chances
  rw [List.map_map]
  rfl
end Md
namespace Md
open PySem L2 Evl
theorem kd_draw (k : Option Bool) : decide (V.str (kdV k) = V.str "draw") = decide (k = none) := by
  cases k with
  | none => rfl
  | some o => cases o <;> rfl
theorem el_draw {p : PlV} (h : p.k = none) : p.el = p.bs.map brC := by unfold PlV.el; rw [h]
theorem el_side {p : PlV} (h : ¬ p.k = none) : p.el = p.bs.map fun q => PyData.int (q.2 : Int) := by
  unfold PlV.el
  split
  · rename_i e; exact absurd e h
  · rfl
theorem chancesV_data (G : List PlV) : ((List.range (G.map PlV.D).length).map fun i => (if decide ((vl G i).k = none) = true then (vl G i).bs.map brC else []).map fstD).flatten = (chancesV G).map nD := by
  rw [List.length_map, map_vl G fun p => (if decide (p.k = none) = true then p.bs.map brC else []).map fstD]
  unfold chancesV
  rw [List.map_flatten, List.map_map]
  congr 1
  refine List.map_congr_left fun p _ => ?_
  show (if decide (p.k = none) = true then p.bs.map brC else []).map fstD = (chp p).map nD
  unfold chp
  split
  · rename_i c
    rw [of_decide_eq_true c]
    show (p.bs.map brC).map fstD = (p.bs.map (·.1)).map nD
    rw [List.map_map, List.map_map]
    rfl
  · rename_i c
    split
    · rename_i e
      exact absurd (decide_eq_true e) c
    · rfl
theorem ed_chancesV {K : PySem.W.Frag} {σ : L2.St} {b : Hp} {G : List PlV} {tl tl1 te : TE} {t : TT} {g g1 : TG} {vs vs1 : List Nat} (x : ED K tl σ b (.list (G.map PlV.D))) (h1 : G.length ≤ 100) (h2 : ∀ p ∈ G, p.bs.length ≤ 6)
    (hs : ∀ (p : PlV) (x : V) (b2 h2 : Hp), Ex b b2 → Ex b2 h2 → p ∈ G → Dt K b2 x p.D → ∀ Q : L2.St → Hp → Prop, (∀ σ2, wipe σ2 vs = wipe σ vs → EvT t σ2 b2 (decide (p.k = none)) → (p.k = none → ED K tl1 σ2 b2 (.list (p.bs.map brC))) →
      (∀ (q : BrC) (y : V) (b3 h3 : Hp), Ex b2 b3 → Ex b3 h3 → q ∈ p.bs → Dt K b3 y (brC q) → ∀ Q1 : L2.St → Hp → Prop, (∀ σ3, wipe σ3 vs1 = wipe σ2 vs1 → ED K te σ3 b3 (nD q.1) → Q1 σ3 h3) → g1 y (wipe σ2 vs1) h3 Q1) → Q σ2 h2) → g x (wipe σ vs) h2 Q) :
    ED K (tLc2 (iList K tl) g t (iList K tl1) g1 tYes te vs vs1) σ b (numsD (chancesV G)) := by
  unfold numsD
  rw [← chancesV_data]
  refine EN.ed (en_lc2F x (by rw [List.length_map]; exact h1) (fun i => if decide ((vl G i).k = none) = true then (vl G i).bs.map brC else []) fstD (fun i => ?_) (fun i => decide ((vl G i).k = none)) (fun i hi => by show (if decide ((vl G i).k = none) = true then _ else _) = _; rw [hi, if_neg (by decide)]) fun i d x b2 h3 e1 e2 hd hx Q k => ?_)
  · split
    · rw [List.length_map]
      rcases Nat.lt_or_ge i G.length with z | z
      · have := h2 _ (vl_mem z)
        omega
      · have : vl G i = ⟨(0, 1), some true, []⟩ := by
          unfold vl
          rw [List.getD_eq_getElem?_getD, List.getElem?_eq_none z]
          rfl
        rw [this]
        exact Nat.zero_le _
    · exact Nat.zero_le _
  · have hi : i < G.length := by
      have := (List.getElem?_eq_some_iff.mp hd).1
      rwa [List.length_map] at this
    have hp := vl_get hi
    rw [List.getElem?_map, hp] at hd
    cases hd
    refine hs (vl G i) x b2 h3 e1 e2 (vl_mem hi) hx Q fun σ2 w1 wT w2 w3 => k σ2 w1 wT (fun hc => ?_) fun j e y b4 h4 e3 e4 he hy Q1 k1 => ?_
    · rw [if_pos hc]
      exact w2 (of_decide_eq_true hc)
    · by_cases hc : decide ((vl G i).k = none) = true
      · rw [if_pos hc, List.getElem?_map] at he
        cases hz : (vl G i).bs[j]? with
        | none => rw [hz] at he; cases he
        | some q =>
          rw [hz] at he
          cases he
          exact w3 q y b4 h4 e3 e4 (List.mem_of_getElem? hz) hy Q1 k1
      · rw [if_neg hc] at he
        simp at he
end Md
namespace Md
open PySem L2 Evl
theorem ed_wA {K : PySem.W.Frag} {σ : L2.St} {b : Hp} {ts : TA} {E : XK} {G : List PlV} {w dn dd t : Nat} (y : EDA K ts σ b [gvD G, nD ((dn : Int), (dd : Int)), .int (t : Int)]) (h1 : 1 ≤ w) (h2 : w ≤ 999) (h3 : WfVG w G) (h4 : dn ≤ dd) (h5 : 1 ≤ dd) (h6 : dd < 2 ^ 3000) (h7 : t ≤ 1000) (h8 : denL (gainsV G) * (denL (chancesV G) * dd) ^ t < 2 ^ 3000) :
    ED K (tCall (spWA K) [] E ts) σ b (listQ G.length (wG G (natR dn / natR dd) t)) := fun h e _ qq =>
  y h e _ fun vs b2 h2' g2 hv => ⟨b2, G, w, dn, dd, t, g2.gi, by rw [List.append_nil]; exact hv, h1, h2, h3, h4, h5, h6, h7, h8, fun v b3 h3 g3 hv3 own => qq v b3 h3 (g2.trans g3) hv3⟩
theorem r_retWA {K : PySem.W.Frag} {σ : L2.St} {b h : Hp} {ts : TA} {E : XK} {D : Ends} {G : List PlV} {w dn dd t : Nat} (y : EDA K ts σ b [gvD G, nD ((dn : Int), (dd : Int)), .int (t : Int)]) (e : Ex b h) (h1 : 1 ≤ w) (h2 : w ≤ 999) (h3 : WfVG w G) (h4 : dn ≤ dd) (h5 : 1 ≤ dd) (h6 : dd < 2 ^ 3000) (h7 : t ≤ 1000) (h8 : denL (gainsV G) * (denL (chancesV G) * dd) ^ t < 2 ^ 3000)
    (k : ∀ v b' h', Gr b h b' h' → Dt K b' v (listQ G.length (wG G (natR dn / natR dd) t)) → OwnF h b' v → D.rt v h') : tRet (tCall (spWA K) [] E ts) D σ h := 
  y h e _ fun vs b2 h2' g2 hv => ⟨b2, G, w, dn, dd, t, g2.gi, by rw [List.append_nil]; exact hv, h1, h2, h3, h4, h5, h6, h7, h8, fun v b3 h3 g3 hv3 own => k v b3 h3 (g2.trans g3) hv3 (own.back g2.gh)⟩
end Md


set_option Elab.async false
set_option linter.all false
set_option maxRecDepth 100000
set_option maxHeartbeats 2000000
/-! The law's own steps of games. -/
namespace Md
open PySem L2 Evl
def spIsNW (K : PySem.W.Frag) : Sp := fun vs h Q _ => ∃ (b : Hp) (p : Int × Int), Ex b h ∧ DtA K b vs [nD p] ∧ Red p ∧ p.2.natAbs < 2 ^ 1998 ∧ ∀ h', Ex h h' → Q (.bl true) h'
def spIsLW (K : PySem.W.Frag) : Sp := fun vs h Q _ => ∃ (b : Hp) (l : List (Int × Int)), Ex b h ∧ DtA K b vs [numsD l] ∧ l.length ≤ 1000 ∧ (∀ p ∈ l, Red p ∧ p.2.natAbs < 2 ^ 1998) ∧ ∀ h', Ex h h' → Q (.bl true) h'
def spDisc (K : PySem.W.Frag) : Sp := fun vs h Q _ => ∃ (b : Hp) (ds : List Int), Ex b h ∧ DtA K b vs [.list (ds.map PyData.int)] ∧ ds.length = 1 ∧ (∀ d ∈ ds, 0 ≤ d ∧ d < 1000) ∧ ∀ v b' h' (dn dd : Nat), Gr b h b' h' → 1 ≤ dn → dn < dd → dd ≤ 1000001 → Red ((dn : Int), (dd : Int)) → Dt K b' v (nD ((dn : Int), (dd : Int))) → Q v h'
def tkF (o : Bool) (n : Nat) (f : Nat → Rat) : Rat := if o = true then hiQ f n else loQ f n
def sideS (o : Bool) : Str := if o = true then "ours" else "theirs"
def spTaken (K : PySem.W.Frag) : Sp := fun vs h Q _ => ∃ (b : Hp) (o : Bool) (n : Nat) (f : Nat → Rat), Ex b h ∧ DtA K b vs [.str (sideS o), listQ n f] ∧ 0 < n ∧ (∀ y, y < n → Big 4000 (canon (f y))) ∧ ∀ v b' h', Gr b h b' h' → Dt K b' v (nQ (tkF o n f)) → Q v h'
def onw (G : List PlV) (d : Rat) (f : Nat → Rat) (k : Nat) : Rat := qN (vl G k).g + d * vW (vl G k) f
def spOnw (K : PySem.W.Frag) : Sp := fun vs h Q _ => ∃ (b : Hp) (G : List PlV) (w dn dd U S M B : Nat) (f : Nat → Rat), Ex b h ∧ DtA K b vs [gvD G, listQ G.length f, nD ((dn : Int), (dd : Int))] ∧ WfVG w G ∧ 1 ≤ dn ∧ dn ≤ dd ∧ dd < 2 ^ 1000 ∧ Red ((dn : Int), (dd : Int)) ∧ (∀ p ∈ G, p.g.2.natAbs ∣ U) ∧ (∀ p ∈ G, p.k = none → ∀ q ∈ p.bs, q.1.2.natAbs ∣ S) ∧ U ∣ M ∧ 0 < M ∧ 0 < S ∧ M * (S * dd) < 2 ^ 1998 ∧ B ≤ 2 ^ 1000 ∧
  (∀ k, k < G.length → NB M B (f k)) ∧ ∀ v b' h', Gr b h b' h' → Dt K b' v (listQ G.length (onw G (natR dn / natR dd) f)) → Q v h'
section
variable {K : PySem.W.Frag} {σ : L2.St} {b h : Hp} {ts : TA} {E : XK}
theorem ev_isLW {l : List (Int × Int)} (y : EDA K ts σ b [numsD l]) (h1 : l.length ≤ 1000) (h2 : ∀ p ∈ l, Red p ∧ p.2.natAbs < 2 ^ 1998) : Ev (tCall (spIsLW K) [] E ts) σ b (.bl true) := fun h e _ qq =>
  y h e _ fun vs b2 h2' g2 hv => ⟨b2, l, g2.gi, by rw [List.append_nil]; exact hv, h1, h2, fun h3 e3 => qq h3 (g2.gh.trans e3)⟩
theorem ev_isNW {p : Int × Int} (y : EDA K ts σ b [nD p]) (h1 : Red p) (h2 : p.2.natAbs < 2 ^ 1998) : Ev (tCall (spIsNW K) [] E ts) σ b (.bl true) := fun h e _ qq =>
  y h e _ fun vs b2 h2' g2 hv => ⟨b2, p, g2.gi, by rw [List.append_nil]; exact hv, h1, h2, fun h3 e3 => qq h3 (g2.gh.trans e3)⟩
theorem ex_disc {ds : List Int} (y : EDA K ts σ b [.list (ds.map PyData.int)]) (h1 : ds.length = 1) (h2 : ∀ d ∈ ds, 0 ≤ d ∧ d < 1000) : EX K (tCall (spDisc K) [] E ts) σ b (fun d => ∃ dn dd : Nat, 1 ≤ dn ∧ dn < dd ∧ dd ≤ 1000001 ∧ Red ((dn : Int), (dd : Int)) ∧ d = nD ((dn : Int), (dd : Int))) := fun h e _ q =>
  y h e _ fun vs b2 h2' g2 hv => ⟨b2, ds, g2.gi, by rw [List.append_nil]; exact hv, h1, h2, fun v b3 h3 dn dd g3 a1 a2 a3 a4 hv3 => q v b3 h3 _ (g2.trans g3) ⟨dn, dd, a1, a2, a3, a4, rfl⟩ hv3⟩
theorem ed_taken {o : Bool} {n : Nat} {f : Nat → Rat} (y : EDA K ts σ b [.str (sideS o), listQ n f]) (h1 : 0 < n) (h2 : ∀ y, y < n → Big 4000 (canon (f y))) : ED K (tCall (spTaken K) [] E ts) σ b (nQ (tkF o n f)) := fun h e _ qq =>
  y h e _ fun vs b2 h2' g2 hv => ⟨b2, o, n, f, g2.gi, by rw [List.append_nil]; exact hv, h1, h2, fun v b3 h3 g3 hv3 => qq v b3 h3 (g2.trans g3) hv3⟩
theorem ed_onw {G : List PlV} {w dn dd U S M B : Nat} {f : Nat → Rat} (y : EDA K ts σ b [gvD G, listQ G.length f, nD ((dn : Int), (dd : Int))]) (h1 : WfVG w G) (h2 : 1 ≤ dn) (h3 : dn ≤ dd) (h4 : dd < 2 ^ 1000) (h5 : Red ((dn : Int), (dd : Int))) (h6 : ∀ p ∈ G, p.g.2.natAbs ∣ U) (h7 : ∀ p ∈ G, p.k = none → ∀ q ∈ p.bs, q.1.2.natAbs ∣ S) (h8 : U ∣ M) (h9 : 0 < M) (h10 : 0 < S) (h11 : M * (S * dd) < 2 ^ 1998) (h12 : B ≤ 2 ^ 1000) (h13 : ∀ k, k < G.length → NB M B (f k)) :
    ED K (tCall (spOnw K) [] E ts) σ b (listQ G.length (onw G (natR dn / natR dd) f)) := fun h e _ qq =>
  y h e _ fun vs b2 h2' g2 hv => ⟨b2, G, w, dn, dd, U, S, M, B, f, g2.gi, by rw [List.append_nil]; exact hv, h1, h2, h3, h4, h5, h6, h7, h8, h9, h10, h11, h12, h13, fun v b3 h3 g3 hv3 => qq v b3 h3 (g2.trans g3) hv3⟩
end
theorem zt_den_dvd {M : Nat} {r : Rat} (h : Zt M r) : r.den ∣ M := by
  have := zt_dvd (canon_red r) (M := M) (by rw [q_canon]; exact h)
  have e : (canon r).2.natAbs = r.den := Int.natAbs_natCast _
  rwa [e] at this
theorem nb_big4 {M B : Nat} {r : Rat} (h : NB M B r) (hM : 0 < M) (h1 : M < 2 ^ 1998) (hB : B ≤ 2 ^ 1000) : Big 4000 (canon r) := by
  have h2 : NB M (2 ^ 1000) r := h.mono (Nat.dvd_refl _) hB
  refine h2.big hM (Nat.one_le_two_pow) ?_
  have : 2 ^ 1000 * M < 2 ^ 1000 * 2 ^ 1998 := Nat.mul_lt_mul_of_pos_left h1 (Nat.two_pow_pos _)
  rw [← Nat.pow_add] at this
  exact Nat.lt_of_lt_of_le this (Nat.pow_le_pow_right (by decide) (by decide))
theorem nb_den {M B : Nat} {r : Rat} (h : NB M B r) (hM : 0 < M) (h1 : M < 2 ^ 1998) : r.den < 2 ^ 1998 := Nat.lt_of_le_of_lt (Nat.le_of_dvd hM (zt_den_dvd h.zt)) h1
/-! ### places of games as drawn -/
def ofP : Pl → PlV
  | .draw g bs => ⟨g, none, bs.map fun q => (q.1, q.2.toNat)⟩
  | .side g o ts => ⟨g, some o, ts.map fun t => ((0, 1), t.toNat)⟩
theorem ofP_D {many : Int} {p : Pl} (h : WfP many p) : (ofP p).D = p.D := by
  cases p with
  | draw g bs =>
    obtain ⟨_, _, _, h4, _⟩ := h
    show PyData.tuple [nD g, .str "draw", .list ((bs.map fun q => (q.1, q.2.toNat)).map brC)] = .tuple [nD g, .str "draw", .list (bs.map brD)]
    have e0 : (bs.map fun q => (q.1, q.2.toNat)).map brC = bs.map brD := by
      rw [List.map_map]
      refine List.map_congr_left fun q hq => ?_
      show PyData.tuple [nD q.1, .int ((q.2.toNat : Nat) : Int)] = .tuple [nD q.1, .int q.2]
      rw [Int.toNat_of_nonneg (h4 q hq).1]
    rw [e0]
  | side g o ts =>
    obtain ⟨_, _, _, h4⟩ := h
    show PyData.tuple [nD g, .str (kdV (some o)), .list ((ts.map fun t => ((0, 1), t.toNat)).map fun q : BrC => PyData.int (q.2 : Int))] = .tuple [nD g, .str (if o then "ours" else "theirs"), .list (ts.map PyData.int)]
    have e0 : ((ts.map fun t => ((0, 1), t.toNat)).map fun q : BrC => PyData.int (q.2 : Int)) = ts.map PyData.int := by
      rw [List.map_map]
      refine List.map_congr_left fun t ht => ?_
      show PyData.int ((t.toNat : Nat) : Int) = .int t
      rw [Int.toNat_of_nonneg (h4 t ht).1]
    rw [e0]
    cases o <;> rfl
theorem ofG_D {G : List Pl} (h : WfG G) : gvD (G.map ofP) = gameD G := by
  unfold gvD gameD
  congr 1
  rw [List.map_map]
  exact List.map_congr_left fun p hp => ofP_D (h.2.2 p hp)
theorem sum_cast (ws : List Int) (c : Rat) : (ws.map fun w : Int => (w : Rat) / c).sum = ((ws.sum : Int) : Rat) / c := by
  induction ws with
  | nil =>
    show (0 : Rat) = ((0 : Int) : Rat) / c
    have : ((0 : Int) : Rat) = 0 := rfl
    rw [this, Rat.div_def, Rat.zero_mul]
  | cons w ws ih =>
    rw [List.map_cons, List.sum_cons, List.sum_cons, ih, Rat.intCast_add, Rat.div_def, Rat.div_def, Rat.div_def]
    grind
theorem ofP_wf {n : Nat} {p : Pl} (h : WfP (n : Int) p) : WfV 30 n (ofP p) := by
  cases p with
  | draw g bs =>
    obtain ⟨h1, h2, h3, h4, ws, w1, w2, w3⟩ := h
    have hsum := sum_small w2
    have hpos := sum_pos w2
    have hs1 : 1 ≤ ws.sum := by omega
    have hc : ∀ q ∈ bs, ∃ w : Int, 1 ≤ w ∧ w ≤ 5 ∧ q.1 = num w ws.sum := fun q hq => by
      have : q.1 ∈ bs.map (·.1) := List.mem_map.mpr ⟨q, hq, rfl⟩
      rw [w3] at this
      obtain ⟨w, hw, e⟩ := List.mem_map.mp this
      exact ⟨w, (w2 w hw).1, (w2 w hw).2, e.symm⟩
    refine ⟨h1, by show 1 ≤ (bs.map _).length; rw [List.length_map]; exact h2, by show (bs.map _).length ≤ 6; rw [List.length_map]; exact h3, fun q hq => ?_, fun _ q hq => ?_, fun _ => ⟨ws.sum.natAbs, by omega, by omega, fun q hq => ?_⟩, fun _ => ?_⟩
    · obtain ⟨q', hq', rfl⟩ := List.mem_map.mp hq
      have := h4 q' hq'
      show q'.2.toNat < n
      omega
    · obtain ⟨q', hq', rfl⟩ := List.mem_map.mp hq
      obtain ⟨w, a, b, e⟩ := hc q' hq'
      show SmallN q'.1 ∧ 0 ≤ q'.1.1
      rw [e]
      refine ⟨num_small (by omega) (by omega) (by omega), ?_⟩
      rw [num_pos (by omega)]
      show 0 ≤ w / _
      exact Int.ediv_nonneg (by omega) (by omega)
    · obtain ⟨q', hq', rfl⟩ := List.mem_map.mp hq
      obtain ⟨w, a, b, e⟩ := hc q' hq'
      show q'.1.2.natAbs ∣ _
      rw [e]
      exact num_dvd (by omega)
    · show ((bs.map fun q => (q.1, q.2.toNat)).map fun q : BrC => qN q.1).sum = 1
      rw [List.map_map]
      have e1 : (bs.map ((fun q : BrC => qN q.1) ∘ fun q => (q.1, q.2.toNat))) = (bs.map (·.1)).map qN := by
        rw [List.map_map]
        rfl
      rw [e1, w3, List.map_map]
      have e2 : (ws.map (qN ∘ fun w => num w ws.sum)) = ws.map fun w : Int => (w : Rat) / ((ws.sum : Int) : Rat) := List.map_congr_left fun w _ => q_num (by omega)
      rw [e2, sum_cast]
      rw [Rat.div_def]
      exact Rat.mul_inv_cancel _ (cast_ne (by omega))
  | side g o ts =>
    obtain ⟨h1, h2, h3, h4⟩ := h
    refine ⟨h1, by show 1 ≤ (ts.map _).length; rw [List.length_map]; exact h2, by show (ts.map _).length ≤ 6; rw [List.length_map]; exact h3, fun q hq => ?_, (fun z => by cases z), (fun z => by cases z), (fun z => by cases z)⟩
    obtain ⟨t, ht, rfl⟩ := List.mem_map.mp hq
    have := h4 t ht
    show t.toNat < n
    omega
theorem ofG_wf {G : List Pl} (h : WfG G) : WfVG 30 (G.map ofP) := by
  refine ⟨by rw [List.length_map]; exact h.1, by rw [List.length_map]; exact h.2.1, fun p hp => ?_⟩
  obtain ⟨p, hp1, rfl⟩ := List.mem_map.mp hp
  rw [List.length_map]
  exact ofP_wf (h.2.2 p hp1)
/-- gains whose d divides 6 -/
def Six (p : Pl) : Prop := p.gain.2.natAbs ∣ 6
def spPlace6 (K : PySem.W.Frag) : Sp := fun vs h Q _ => ∃ (b : Hp) (ds : List Int) (many : Int), Ex b h ∧ DtA K b vs [.list (ds.map PyData.int), .int many] ∧ ds.length = 15 ∧ (∀ d ∈ ds, 0 ≤ d ∧ d < 1000) ∧ 1 ≤ many ∧
  ∀ v b' h' p, Gr b h b' h' → WfP many p ∧ Six p → Dt K b' v p.D → Q v h'
def spGame6 (K : PySem.W.Frag) : Sp := fun vs h Q _ => ∃ (b : Hp) (ds : List Int) (most : Int), Ex b h ∧ DtA K b vs [.list (ds.map PyData.int), .int most] ∧ 1 ≤ most ∧ most ≤ 12 ∧ 1 + 15 * most ≤ (ds.length : Int) ∧ (∀ d ∈ ds, 0 ≤ d ∧ d < 1000) ∧
  ∀ v b' h' G, Gr b h b' h' → WfG G ∧ (∀ p ∈ G, Six p) → (G.length : Int) ≤ most → Dt K b' v (gameD G) → Q v h'
theorem ofP_g (p : Pl) : (ofP p).g = p.gain := by cases p <;> rfl
theorem six_dvd {G : List Pl} (h : ∀ p ∈ G, Six p) : ∀ p ∈ G.map ofP, p.g.2.natAbs ∣ 6 := fun p hp => by
  obtain ⟨p, hp1, rfl⟩ := List.mem_map.mp hp
  rw [ofP_g]
  exact h p hp1
end Md
namespace Md
open PySem L2 Evl
theorem ex_game6 {K : PySem.W.Frag} {σ : L2.St} {b : Hp} {ts : TA} {E : XK} {ds : List Int} {most : Int} (y : EDA K ts σ b [.list (ds.map PyData.int), .int most]) (h1 : 1 ≤ most) (h2 : most ≤ 12) (h3 : 1 + 15 * most ≤ (ds.length : Int)) (h4 : ∀ d ∈ ds, 0 ≤ d ∧ d < 1000) :
    EX K (tCall (spGame6 K) [] E ts) σ b (fun d => ∃ G, WfG G ∧ (∀ p ∈ G, Six p) ∧ (G.length : Int) ≤ most ∧ d = gameD G) := fun h e _ q =>
  y h e _ fun vs b2 h2' g2 hv => ⟨b2, ds, most, g2.gi, by rw [List.append_nil]; exact hv, h1, h2, h3, h4, fun v b3 h3 G g3 w l hv3 => q v b3 h3 (gameD G) (g2.trans g3) ⟨G, w.1, w.2, l, rfl⟩ hv3⟩
theorem onw_wG (G : List PlV) (d : Rat) (t k : Nat) : onw G d (wG G d t) k = wG G d (t + 1) k := rfl
theorem denL_dvd_of {l : List (Int × Int)} {M : Nat} (h : ∀ p ∈ l, p.2.natAbs ∣ M) : denL l ∣ M := denL_to h
end Md


set_option Elab.async false
set_option linter.all false
set_option maxRecDepth 100000
set_option maxHeartbeats 2000000
/-! Rests: the greatest absolute gain, divided by 1 less the discount, times its powers. -/
namespace Md
open PySem L2 Evl
def abN (p : Int × Int) : Int × Int := (((p.1.natAbs : Nat) : Int), p.2)
theorem abN_red {p : Int × Int} (h : Red p) : Red (abN p) := ⟨h.1, by show Nat.gcd ((p.1.natAbs : Nat) : Int).natAbs p.2.natAbs = 1; rw [Int.natAbs_natCast]; exact h.2⟩
def abQ (p : Int × Int) : Rat := qN (abN p)
theorem abN_nQ {p : Int × Int} (h : Red p) : nD (abN p) = nQ (abQ p) := by
  unfold nQ abQ
  rw [← canon_red_self (abN_red h)]
theorem abQ_nonneg {p : Int × Int} (h : Red p) : 0 ≤ abQ p := qN_nonneg (abN_red h) (by show (0 : Int) ≤ ((p.1.natAbs : Nat) : Int); omega)
theorem abN_small {p : Int × Int} (h : SmallN p) : SmallN (abN p) := by
  obtain ⟨a, b, c, d⟩ := h
  refine ⟨a, b, ?_, ?_⟩
  · show (((p.1.natAbs : Nat) : Int)).natAbs < 1000
    rw [Int.natAbs_natCast]
    exact c
  · show Nat.gcd (((p.1.natAbs : Nat) : Int)).natAbs p.2.natAbs = 1
    rw [Int.natAbs_natCast]
    exact d
/-- the greatest one from 0 on -/
def hzQ (f : Nat → Rat) : Nat → Rat
  | 0 => 0
  | k + 1 => if decide (hzQ f k < f k) = true then f k else hzQ f k
theorem hz_ge {f : Nat → Rat} : ∀ {k j : Nat}, j < k → f j ≤ hzQ f k
  | k + 1, j, h => by
    show f j ≤ (if decide (hzQ f k < f k) = true then f k else hzQ f k)
    by_cases c : decide (hzQ f k < f k) = true
    · rw [if_pos c]
      have c := of_decide_eq_true c
      rcases Nat.lt_or_ge j k with z | z
      · have := hz_ge (f := f) z
        grind
      · obtain rfl : j = k := by omega
        exact Rat.le_refl
    · rw [if_neg c]
      have c : ¬ hzQ f k < f k := fun z => c (decide_eq_true z)
      rcases Nat.lt_or_ge j k with z | z
      · exact hz_ge z
      · obtain rfl : j = k := by omega
        grind
theorem hz_mem {f : Nat → Rat} : ∀ k, hzQ f k = 0 ∨ ∃ j, j < k ∧ hzQ f k = f j
  | 0 => .inl rfl
  | k + 1 => by
    show (if decide (hzQ f k < f k) = true then f k else hzQ f k) = 0 ∨ ∃ j, j < k + 1 ∧ (if decide (hzQ f k < f k) = true then f k else hzQ f k) = f j
    by_cases c : decide (hzQ f k < f k) = true
    · rw [if_pos c]
      exact .inr ⟨k, by omega, rfl⟩
    · rw [if_neg c]
      rcases hz_mem (f := f) k with z | ⟨j, hj, e⟩
      · exact .inl z
      · exact .inr ⟨j, by omega, e⟩
theorem hz_hi {f : Nat → Rat} {n : Nat} (hn : 0 < n) (h0 : ∀ j, j < n → 0 ≤ f j) : hzQ f n = hiQ f n := by
  obtain ⟨j, hj, e⟩ := hi_mem (f := f) hn n (Nat.le_refl _)
  have a : hiQ f n ≤ hzQ f n := by rw [e]; exact hz_ge hj
  have c : hzQ f n ≤ hiQ f n := by
    rcases hz_mem (f := f) n with z | ⟨i, hi, e2⟩
    · rw [z]
      have h1 := hi_ge (f := f) hn
      have h2 := h0 0 hn
      grind
    · rw [e2]
      exact hi_ge hi
  grind
noncomputable def mxG (G : List PlV) : Rat := hiQ (fun k => abQ (vl G k).g) G.length
/-- the rest of so many steps -/
def rsQ (r d : Rat) : Nat → Rat
  | 0 => r
  | s + 1 => rsQ r d s * d
theorem nb_ab {G : List PlV} {w k : Nat} (hW : WfVG w G) (h6 : ∀ p ∈ G, p.g.2.natAbs ∣ 6) (hk : k < G.length) : NB 6 1000 (abQ (vl G k).g) := by
  have hg := (vl_wf hW hk).g
  have g := q_small (abN_small hg)
  exact ⟨zt_den (abN_red (red_small hg)) (h6 _ (vl_mem hk)), g.1, g.2⟩
theorem nb_mx {G : List PlV} {w : Nat} (hW : WfVG w G) (h6 : ∀ p ∈ G, p.g.2.natAbs ∣ 6) : NB 6 1000 (mxG G) := by
  obtain ⟨j, hj, e⟩ := hi_mem (f := fun k => abQ (vl G k).g) hW.l1 G.length (Nat.le_refl _)
  unfold mxG
  rw [e]
  exact nb_ab hW h6 hj
structure Dis (dn dd : Nat) : Prop where
  a : 1 ≤ dn
  b : dn < dd
  c : dd ≤ 1000001
  r : Red ((dn : Int), (dd : Int))
theorem Dis.red2 {dn dd : Nat} (h : Dis dn dd) : Red ((dd : Int), ((dd - dn : Nat) : Int)) := by
  refine ⟨by have := h.b; show (1 : Int) ≤ ((dd - dn : Nat) : Int); omega, ?_⟩
  show Nat.gcd ((dd : Nat) : Int).natAbs (((dd - dn : Nat)) : Int).natAbs = 1
  rw [Int.natAbs_natCast, Int.natAbs_natCast]
  have h2 : Nat.gcd ((dn : Nat) : Int).natAbs ((dd : Nat) : Int).natAbs = 1 := h.r.2
  rw [Int.natAbs_natCast, Int.natAbs_natCast] at h2
  have e : dd = (dd - dn) + dn := by have := h.b; omega
  have h3 : Nat.gcd dd (dd - dn) ∣ 1 := by
    rw [← h2]
    have a1 := Nat.gcd_dvd_left dd (dd - dn)
    have a2 := Nat.gcd_dvd_right dd (dd - dn)
    refine Nat.dvd_gcd ?_ a1
    rw [e] at a1
    have : Nat.gcd dd (dd - dn) ∣ (dd - dn) + dn := by rw [← e]; exact Nat.gcd_dvd_left dd (dd - dn)
    exact (Nat.dvd_add_right a2).mp this
  exact Nat.dvd_one.mp h3
theorem Dis.q2 {dn dd : Nat} (h : Dis dn dd) : qN ((dd : Int), ((dd - dn : Nat) : Int)) = 1 / (1 - natR dn / natR dd) := by
  have hb := h.b
  have p1 := natR_pos (a := dd) (by omega)
  have p2 := natR_pos (a := dd - dn) (by omega)
  have e : natR dd = natR (dd - dn) + natR dn := by
    rw [← natR_add]
    congr 1
    omega
  show natR dd / natR (dd - dn) = _
  have h1 : 1 - natR dn / natR dd = natR (dd - dn) / natR dd := by
    rw [Rat.div_def, Rat.div_def]
    have := Rat.mul_inv_cancel (natR dd) (by grind)
    grind
  rw [h1]
  have a1 : natR dd ≠ 0 := by grind
  have a2 : natR (dd - dn) ≠ 0 := by grind
  generalize natR dd = x at *
  generalize natR (dd - dn) = y at *
  rw [Rat.div_def, Rat.div_def, Rat.div_def, Rat.inv_mul_rev]
  grind
theorem nb_q2 {dn dd : Nat} (h : Dis dn dd) : NB (dd - dn) dd (1 / (1 - natR dn / natR dd)) := by
  have hb := h.b
  have p2 := natR_pos (a := dd - dn) (by omega)
  rw [← h.q2]
  have e : (((dd - dn : Nat) : Int)).natAbs = dd - dn := Int.natAbs_natCast _
  refine ⟨zt_den h.red2 (by show (((dd - dn : Nat) : Int)).natAbs ∣ _; rw [e]; exact Nat.dvd_refl _), ?_, ?_⟩
  · have h0 := qN_nonneg h.red2 (by show (0 : Int) ≤ (dd : Int); omega)
    have := natR_nonneg dd
    grind
  · show natR dd / natR (dd - dn) ≤ natR dd
    refine div_le' p2 ?_
    have h1 := natR_le (a := 1) (b := dd - dn) (by omega)
    rw [natR_one] at h1
    have := Rat.mul_le_mul_of_nonneg_left h1 (natR_nonneg dd)
    grind
theorem NB.mul {M N B C : Nat} {r s : Rat} (h : NB M B r) (g : NB N C s) : NB (M * N) (B * C) (r * s) := by
  refine ⟨h.zt.mul g.zt, ?_, ?_⟩
  · rw [natR_mul]
    have a1 := h.lo
    have a2 := h.hi
    have c1 := g.lo
    have c2 := g.hi
    have b0 := natR_nonneg B
    have c0 := natR_nonneg C
    generalize natR B = x at *
    generalize natR C = y at *
    rcases Rat.le_total (a := 0) (b := s) with z | z
    · have u1 := Rat.mul_le_mul_of_nonneg_right a1 z
      have u2 := Rat.mul_le_mul_of_nonneg_left c2 b0
      grind
    · have z' : 0 ≤ -s := by grind
      have u1 := Rat.mul_le_mul_of_nonneg_right a2 z'
      have u2 := Rat.mul_le_mul_of_nonneg_left (show -s ≤ y by grind) b0
      grind
  · rw [natR_mul]
    have a1 := h.lo
    have a2 := h.hi
    have c1 := g.lo
    have c2 := g.hi
    have b0 := natR_nonneg B
    have c0 := natR_nonneg C
    generalize natR B = x at *
    generalize natR C = y at *
    rcases Rat.le_total (a := 0) (b := s) with z | z
    · have u1 := Rat.mul_le_mul_of_nonneg_right a2 z
      have u2 := Rat.mul_le_mul_of_nonneg_left c2 b0
      grind
    · have z' : 0 ≤ -s := by grind
      have u1 := Rat.mul_le_mul_of_nonneg_right a1 z'
      have u2 := Rat.mul_le_mul_of_nonneg_left (show -s ≤ y by grind) b0
      grind
theorem nb_rs {dn dd M B : Nat} {r : Rat} (h : Dis dn dd) (hr : NB M B r) : ∀ s, NB (M * dd ^ s) B (rsQ r (natR dn / natR dd) s)
  | 0 => by rw [Nat.pow_zero, Nat.mul_one]; exact hr
  | s + 1 => by
    have d := disc_le (Nat.le_of_lt h.b) (show 1 ≤ dd by have := h.b; omega)
    have a := (nb_rs h hr s).mul (N := dd) (C := 1) (s := natR dn / natR dd) ⟨d.2.2, by rw [natR_one]; have := d.1; grind, by rw [natR_one]; exact d.2.1⟩
    rw [Nat.mul_one, Nat.mul_assoc, ← Nat.pow_succ] at a
    exact a
noncomputable def rest0 (G : List PlV) (d : Rat) : Rat := mxG G * (1 / (1 - d))
theorem nb_rest {G : List PlV} {w dn dd : Nat} (hW : WfVG w G) (h6 : ∀ p ∈ G, p.g.2.natAbs ∣ 6) (h : Dis dn dd) (s : Nat) : NB (6 * (dd - dn) * dd ^ s) (1000 * dd) (rsQ (rest0 G (natR dn / natR dd)) (natR dn / natR dd) s) := nb_rs h ((nb_mx hW h6).mul (nb_q2 h)) s
theorem big_rest {G : List PlV} {w dn dd : Nat} (hW : WfVG w G) (h6 : ∀ p ∈ G, p.g.2.natAbs ∣ 6) (h : Dis dn dd) {s : Nat} (hs : s ≤ 41) : Big 900 (canon (rsQ (rest0 G (natR dn / natR dd)) (natR dn / natR dd) s)) := by
  have hb := h.b
  have hc := h.c
  refine (nb_rest hW h6 h s).big (Nat.mul_pos (Nat.mul_pos (by decide) (by omega)) (Nat.pow_pos (by omega))) (Nat.mul_pos (by decide) (by omega)) ?_
  have h1 : dd ≤ 2 ^ 20 := by omega
  have h2 : dd ^ s ≤ (2 ^ 20) ^ 41 := Nat.le_trans (Nat.pow_le_pow_left h1 s) (Nat.pow_le_pow_right (by decide) hs)
  have h3 : 1000 * dd ≤ 2 ^ 30 := by omega
  have h4 : 6 * (dd - dn) ≤ 2 ^ 23 := by omega
  have h5 : 1000 * dd * (6 * (dd - dn) * dd ^ s) ≤ 2 ^ 30 * (2 ^ 23 * (2 ^ 20) ^ 41) := Nat.mul_le_mul h3 (Nat.mul_le_mul h4 h2)
  exact Nat.lt_of_le_of_lt h5 (by decide +kernel)
/-- the first one of the steps, below n -/
def ffB (p : Nat → Bool) : Nat → Option Nat
  | 0 => none
  | n + 1 => match ffB p n with
    | some s => some s
    | none => if p n = true then some n else none
theorem ff_none {p : Nat → Bool} {n : Nat} (h : ffB p n = none) : ffB p (n + 1) = if p n = true then some n else none := by
  show (match ffB p n with | some s => some s | none => if p n = true then some n else none) = _
  rw [h]
theorem ff_some {p : Nat → Bool} {n s : Nat} (h : ffB p n = some s) : ∀ m, n ≤ m → ffB p m = some s
  | 0, hm => by
    have : n = 0 := by omega
    rw [← this]
    exact h
  | m + 1, hm => by
    by_cases e : n = m + 1
    · rw [← e]
      exact h
    · show (match ffB p m with | some s => some s | none => if p m = true then some m else none) = _
      rw [ff_some h m (by omega)]
def opV : Option Nat → V
  | none => .non
  | some s => .int (s : Int)
def spRest (K : PySem.W.Frag) : Sp := fun vs h Q _ => ∃ (b : Hp) (G : List PlV) (w dn dd s : Nat), Ex b h ∧ DtA K b vs [gvD G, nD ((dn : Int), (dd : Int)), .int (s : Int)] ∧ WfVG w G ∧ (∀ p ∈ G, p.g.2.natAbs ∣ 6) ∧ Dis dn dd ∧ s ≤ 41 ∧ ∀ v b' h', Gr b h b' h' → Dt K b' v (nQ (rsQ (rest0 G (natR dn / natR dd)) (natR dn / natR dd) s)) → Q v h'
def spStepsF (K : PySem.W.Frag) : Sp := fun vs h Q _ => ∃ (b : Hp) (G : List PlV) (w dn dd : Nat) (e : Rat), Ex b h ∧ DtA K b vs [gvD G, nD ((dn : Int), (dd : Int)), nQ e] ∧ WfVG w G ∧ (∀ p ∈ G, p.g.2.natAbs ∣ 6) ∧ Dis dn dd ∧ Big 900 (canon e) ∧ ∀ h', Ex h h' → Q (opV (ffB (fun s => !decide (e < rsQ (rest0 G (natR dn / natR dd)) (natR dn / natR dd) s)) 41)) h'
section
variable {K : PySem.W.Frag} {σ : L2.St} {b h : Hp} {ts tk : TA} {E : XK} {r s : Rat}
end
end Md
namespace Md
open PySem L2 Evl
theorem rv_isN {x : V} {H : Hp} : RV rIsN x .non H (.bl (decide (x = .non))) := fun H1 _ _ q => ⟨rfl, q H1 (Ex.refl H1)⟩
theorem opV_non (o : Option Nat) : decide (opV o = .non) = o.isNone := by cases o <;> rfl
end Md


set_option Elab.async false
set_option linter.all false
set_option maxRecDepth 100000
set_option maxHeartbeats 2000000
/-! A pool of numbers: a hidden list that is read and changed by calls. -/
namespace Md
open PySem L2 Evl
def PoolAt (h : Hp) (q : Addr) : Prop := ∃ pl : List Int, h q = some (.lst (pl.map V.int)) ∧ 2 ≤ pl.length ∧ pl.length ≤ 100000
structure GrQ (q : Addr) (b h b' h' : Hp) : Prop where
  gb : Ex b b'
  gh : ∀ a o, a ≠ q → h a = some o → h' a = some o
  gi : Ex b' h'
  gf : ∀ a, b a = none → h a ≠ none → b' a = none
  pl : PoolAt h' q
theorem PoolAt.some {h : Hp} {q : Addr} (p : PoolAt h q) : h q ≠ none := by
  obtain ⟨pl, e, _⟩ := p
  rw [e]
  intro z
  cases z
theorem PoolAt.up {h h' : Hp} {q : Addr} (p : PoolAt h q) (e : Ex h h') : PoolAt h' q := by
  obtain ⟨pl, e1, e2⟩ := p
  exact ⟨pl, e _ _ e1, e2⟩
section
variable {q : Addr} {b h b1 h1 b2 h2 b' h' : Hp}
theorem Gr.toQ (g : Gr b h b' h') (p : PoolAt h q) : GrQ q b h b' h' := ⟨g.gb, fun a o _ e => g.gh a o e, g.gi, g.gf, p.up g.gh⟩
theorem GrQ.nq (g : GrQ q b h b' h') (p : PoolAt h q) (n : b q = none) : b' q = none := g.gf q n p.some
theorem GrQ.nn (g : GrQ q b h b1 h1) {a : Addr} (p : PoolAt h q) (z : h a ≠ none) : h1 a ≠ none := by
  by_cases e : a = q
  · rw [e]
    exact g.pl.some
  · cases e2 : h a with
    | none => exact absurd e2 z
    | some o =>
      rw [g.gh a o e e2]
      intro z
      cases z
theorem GrQ.trans (p : PoolAt h q) (x : GrQ q b h b1 h1) (y : GrQ q b1 h1 b2 h2) : GrQ q b h b2 h2 := ⟨x.gb.trans y.gb, fun a o n e => y.gh a o n (x.gh a o n e), y.gi, fun a z n => y.gf a (x.gf a z n) (x.nn p n), y.pl⟩
theorem GrQ.stay (e : Ex b h) (p : PoolAt h q) : GrQ q b h b h := (Gr.refl e).toQ p
/-- behind the making of the pool -/
theorem Gr.thenQ (g : Gr b h b1 h1) (n : h q = none) (x : GrQ q b1 h1 b2 h2) : Gr b h b2 h2 := by
  refine ⟨g.gb.trans x.gb, fun a o e => x.gh a o (fun z => ?_) (g.gh a o e), x.gi, fun a z m => ?_⟩
  · rw [z, n] at e
    cases e
  · refine x.gf a (g.gf a z m) fun w => ?_
    cases e : h a with
    | none => exact m e
    | some o =>
      rw [g.gh a o e] at w
      cases w
theorem GrQ.back (e : Ex b b1) (g : GrQ q b h b2 h1) (e1 : Ex b1 h) (n : b1 q = none) : ∃ b3, GrQ q b1 h b3 h1 ∧ Ex b2 b3 ∧ ∀ a, b2 a = none → b1 a = none → b3 a = none := by
  have nq : ∀ {a : Addr} {o : HO}, b1 a = some o → a ≠ q := fun {a o} e z => by
    rw [z, n] at e
    cases e
  refine ⟨fun a => match b2 a with | some o => some o | none => b1 a, ⟨fun a o q1 => ?_, g.gh, fun a o q1 => ?_, fun a q1 n => ?_, g.pl⟩, fun a o q => ?_, fun a z1 z2 => by simp only [z1, z2]⟩
  · cases z : b2 a with
    | none => simpa [z] using q1
    | some u =>
      have h1 := g.gi a u z
      have h2 := g.gh a o (nq q1) (e1 a o q1)
      rw [h1] at h2
      simp [z, h2]
  · cases z : b2 a with
    | none =>
      simp only [z] at q1
      exact g.gh a o (nq q1) (e1 a o q1)
    | some u =>
      simp only [z] at q1
      rw [← q1]
      exact g.gi a u z
  · have z : b2 a = none := g.gf a (fresh_back e q1) n
    simp only [z]
    exact q1
  · simp only [q]
theorem GrQ.mut {p : Addr} {o : HO} (g : GrQ q b h b1 h1) (n : h p = none) (nb : b1 p = none) (np : p ≠ q) : GrQ q b h b1 (upd h1 p o) := by
  refine ⟨g.gb, fun a u na e => ?_, Ex.mut g.gi nb, g.gf, ?_⟩
  · have : a ≠ p := fun z => by rw [z, n] at e; cases e
    rw [upd_ne this]
    exact g.gh a u na e
  · obtain ⟨pl, e1, e2⟩ := g.pl
    exact ⟨pl, by rw [upd_ne (fun z => np z.symm)]; exact e1, e2⟩
theorem GrQ.hid {p : Addr} {o : HO} (g : GrQ q b h b1 h1) (n : h1 p = none) : GrQ q b h b1 (upd h1 p o) := by
  have np : p ≠ q := fun z => g.pl.some (by rw [← z]; exact n)
  refine ⟨g.gb, fun a u na e => ?_, g.gi.trans (Ex.new n), g.gf, ?_⟩
  · have h2 := g.gh a u na e
    have : a ≠ p := fun z => by rw [z, n] at h2; cases h2
    rw [upd_ne this]
    exact h2
  · obtain ⟨pl, e1, e2⟩ := g.pl
    exact ⟨pl, by rw [upd_ne (fun z => np z.symm)]; exact e1, e2⟩
theorem GrQ.tell {p : Addr} {o : HO} (g : GrQ q b h b1 h1) (n : h p = none) (nb : b1 p = none) (hp : h1 p = some o) : GrQ q b h (upd b1 p o) h1 := by
  refine ⟨g.gb.trans (Ex.new nb), g.gh, fun a u q1 => ?_, fun a q1 z => ?_, g.pl⟩
  · by_cases ha : a = p
    · subst ha
      rw [upd_same] at q1
      rw [hp]
      exact q1
    · rw [upd_ne ha] at q1
      exact g.gi a u q1
  · rw [upd_ne (fun ha => z (by rw [ha]; exact n))]
    exact g.gf a q1 z
theorem GrQ.gone (g : GrQ q b h b1 h1) (p : PoolAt h q) {a : Addr} (n : h1 a = none) : h a = none := by
  cases e : h a with
  | none => rfl
  | some o => exact absurd n (g.nn p (by rw [e]; intro z; cases z))
end
/-- what an expression may give that takes from the pool -/
def EXQ (K : PySem.W.Frag) (q : Addr) (te : TE) (σ : L2.St) (b : Hp) (R : PyData → Prop) : Prop := ∀ h, Ex b h → PoolAt h q → ∀ Q : VK, (∀ v b' h' d, GrQ q b h b' h' → R d → Dt K b' v d → Q v h') → te σ h Q
def EAQ (K : PySem.W.Frag) (q : Addr) (ta : TA) (σ : L2.St) (b : Hp) (R : List PyData → Prop) : Prop := ∀ h, Ex b h → PoolAt h q → ∀ Q : List V → Hp → Prop, (∀ vs b' h' ds, GrQ q b h b' h' → R ds → DtA K b' vs ds → Q vs h') → ta σ h Q
def IntR (R : Int → Prop) : PyData → Prop := fun d => ∃ i, d = .int i ∧ R i
section
variable {K : PySem.W.Frag} {q : Addr} {σ : L2.St} {b b' h : Hp} {te ta tb : TE} {ts tr : TA} {R S T : PyData → Prop} {RI SI : Int → Prop} {d : PyData}
theorem EXQ.up (x : EXQ K q te σ b R) (e : Ex b b') (n : b' q = none) : EXQ K q te σ b' R := fun h e1 p _ k => x h (e.trans e1) p _ fun v b2 h2 d g r hv => by
  obtain ⟨b3, g3, e3, _⟩ := g.back e e1 n
  exact k v b3 h2 d g3 r (hv.up e3)
theorem EAQ.up {R : List PyData → Prop} (x : EAQ K q ts σ b R) (e : Ex b b') (n : b' q = none) : EAQ K q ts σ b' R := fun h e1 p _ k => x h (e.trans e1) p _ fun v b2 h2 d g r hv => by
  obtain ⟨b3, g3, e3, _⟩ := g.back e e1 n
  exact k v b3 h2 d g3 r (hv.up e3)
theorem EXQ.imp (x : EXQ K q te σ b R) (i : ∀ d, R d → S d) : EXQ K q te σ b S := fun h e p _ k => x h e p _ fun v b2 h2 d g r hv => k v b2 h2 d g (i d r) hv
theorem EX.toQ (x : EX K te σ b R) : EXQ K q te σ b R := fun h e p _ k => x h e _ fun v b2 h2 d g r hv => k v b2 h2 d (g.toQ p) r hv
theorem ED.toQ (x : ED K te σ b d) : EXQ K q te σ b (· = d) := fun h e p _ k => x h e _ fun v b2 h2 g hv => k v b2 h2 d (g.toQ p) rfl hv
theorem Ev.toQ {i : Int} (x : Ev te σ b (.int i)) : EXQ K q te σ b (IntR (· = i)) := (ED.toQ (K := K) (ed_int x)).imp fun d e => ⟨i, e, rfl⟩
theorem eaq_nil : EAQ K q tNil σ b (· = []) := fun h e p _ k => k [] b h [] (GrQ.stay e p) rfl DtA.nil
theorem eaq_cons {S : List PyData → Prop} (n : b q = none) (x : EXQ K q te σ b R) (y : EAQ K q tr σ b S) : EAQ K q (tCons te tr) σ b (fun ds => ∃ d es, ds = d :: es ∧ R d ∧ S es) := fun h e p _ k => x h e p _ fun v b2 h2 d g2 r hv =>
  (y.up g2.gb (g2.nq p n)) h2 g2.gi g2.pl _ fun vs b3 h3 es g3 s hvs => k (v :: vs) b3 h3 (d :: es) (g2.trans p g3) ⟨d, es, rfl, r, s⟩ (DtA.cons (hv.up g3.gb) hvs)
theorem exq_tup {R : List PyData → Prop} (x : EAQ K q ts σ b R) (hl : ∀ ds, R ds → ds.length ≤ 100000) : EXQ K q (tTup ts) σ b (fun d => ∃ ds, d = .tuple ds ∧ R ds) := fun h e p _ k => x h e p _ fun vs b2 h2 ds g2 r hvs =>
  ⟨sz_of (by rw [hvs.length]; exact hl ds r), fun a ha => by
    have gq := g2.hid (o := .tup vs) ha
    have nb := none_of g2.gi ha
    exact k (.ref a) _ _ (.tuple ds) (gq.tell (g2.gone p ha) nb upd_same) ⟨ds, rfl, r⟩ (Dt.tuple (st_of upd_same) (hvs.up (Ex.new nb)))⟩
theorem exq_lst {R : List PyData → Prop} (x : EAQ K q ts σ b R) (hl : ∀ ds, R ds → ds.length ≤ 100000) : EXQ K q (tLst ts) σ b (fun d => ∃ ds, d = .list ds ∧ R ds) := fun h e p _ k => x h e p _ fun vs b2 h2 ds g2 r hvs =>
  ⟨sz_of (by rw [hvs.length]; exact hl ds r), fun a ha => by
    have gq := g2.hid (o := .lst vs) ha
    have nb := none_of g2.gi ha
    exact k (.ref a) _ _ (.list ds) (gq.tell (g2.gone p ha) nb upd_same) ⟨ds, rfl, r⟩ (Dt.list upd_same (hvs.up (Ex.new nb)))⟩
theorem exq_op {C : Int → Int → Prop} {g : Int → Int → Int} (n : b q = none) (x : EXQ K q ta σ b (IntR RI)) (y : EXQ K q tb σ b (IntR SI)) (hc : ∀ i j, RI i → SI j → C i j) : EXQ K q (tOp (rI C fun i j => .int (g i j)) ta tb) σ b (IntR fun z => ∃ i j, RI i ∧ SI j ∧ z = g i j) := fun h e p _ k => x h e p _ fun v b2 h2 d g2 r hv =>
  (y.up g2.gb (g2.nq p n)) h2 g2.gi g2.pl _ fun w b3 h3 d3 g3 s hw => by
    obtain ⟨i, rfl, ri⟩ := r
    obtain ⟨j, rfl, sj⟩ := s
    exact ⟨i, j, hv.intI, hw.intI, hc i j ri sj, k _ b3 h3 (.int (g i j)) (g2.trans p g3) ⟨_, rfl, i, j, ri, sj, rfl⟩ (Dt.int _)⟩
theorem exq_op0 {g : Int → Int → Int} (n : b q = none) (x : EXQ K q ta σ b (IntR RI)) (y : EXQ K q tb σ b (IntR SI)) : EXQ K q (tOp (rI0 fun i j => .int (g i j)) ta tb) σ b (IntR fun z => ∃ i j, RI i ∧ SI j ∧ z = g i j) := fun h e p _ k => x h e p _ fun v b2 h2 d g2 r hv =>
  (y.up g2.gb (g2.nq p n)) h2 g2.gi g2.pl _ fun w b3 h3 d3 g3 s hw => by
    obtain ⟨i, rfl, ri⟩ := r
    obtain ⟨j, rfl, sj⟩ := s
    exact ⟨i, j, hv.intI, hw.intI, k _ b3 h3 (.int (g i j)) (g2.trans p g3) ⟨_, rfl, i, j, ri, sj, rfl⟩ (Dt.int _)⟩
theorem exq_int1 (x : EXQ K q te σ b (IntR RI)) : EXQ K q (tCB rInt1 (tCons te tNil)) σ b (IntR RI) := fun h e p _ k => x h e p _ fun v b2 h2 d g2 r hv => by
  obtain ⟨i, rfl, ri⟩ := r
  obtain rfl := hv.intI
  exact .inl ⟨i, rfl, k _ b2 h2 (.int i) g2 ⟨i, rfl, ri⟩ (Dt.int i)⟩
theorem exq_ix {RL : List PyData → Prop} (n : b q = none) (x : EXQ K q ta σ b (fun d => ∃ ds, d = .list ds ∧ RL ds)) (y : EXQ K q tb σ b (IntR SI)) (hc : ∀ ds i, RL ds → SI i → ∃ e, L2.atI ds i = some e ∧ T e) : EXQ K q (tOp (rIxL K) ta tb) σ b T := fun h e p _ k => x h e p _ fun v b2 h2 d g2 r hv =>
  (y.up g2.gb (g2.nq p n)) h2 g2.gi g2.pl _ fun w b3 h3 d3 g3 s hw => by
    obtain ⟨ds, rfl, rl⟩ := r
    obtain ⟨i, rfl, si⟩ := s
    obtain rfl := hw.intI
    obtain ⟨e1, h1, t⟩ := hc ds i rl si
    obtain ⟨a, xs, rfl, k1, k2⟩ := hv.listI
    obtain ⟨u, hu, hd⟩ := k2.atI h1
    exact ⟨a, xs, i, u, rfl, rfl, sq_of (g3.gi _ _ (g3.gb _ _ k1)), hu, k u b3 h3 e1 (g2.trans p g3) t (hd.up g3.gb)⟩
end
/-- the next number of the pool -/
def spPick (K : PySem.W.Frag) : Sp := fun vs h Q _ => ∃ (b : Hp) (q : Addr) (many : Int), vs = [.ref q, .int many] ∧ Ex b h ∧ b q = none ∧ PoolAt h q ∧ 0 < many ∧ ∀ z h', 0 ≤ z → z < many → GrQ q b h b h' → Q (.int z) h'
section
variable {K : PySem.W.Frag} {q : Addr} {σ : L2.St} {b b' h : Hp} {te ta tb : TE} {ts tr : TA} {R S T : PyData → Prop} {RI SI : Int → Prop} {d : PyData} {E : XK}
theorem exq_pick {k : Nat} {many : Int} (s : σ[k]? = some (some (.ref q))) (n : b q = none) (x : Ev ta σ b (.int many)) (h0 : 0 < many) : EXQ K q (tCall (spPick K) [] E (tCons (tVar k) (tCons ta tNil))) σ b (IntR fun z => 0 ≤ z ∧ z < many) := fun h e p _ kk => by
  refine ⟨.ref q, s, x h e _ fun h2 e2 => ?_⟩
  have p2 := p.up e2
  have g2 : GrQ q b h b h2 := (Gr.stay e e2).toQ p
  exact ⟨b, q, many, rfl, e.trans e2, n, p2, h0, fun z h3 a1 a2 g3 => kk _ b h3 (.int z) (g2.trans p g3) ⟨z, rfl, a1, a2⟩ (Dt.int z)⟩
/-- a statement that takes from the pool -/
theorem r_setQ {i : Nat} {D : Ends} {tz : TS} (x : EXQ K q te σ b R) (e : Ex b h) (p : PoolAt h q) (k : ∀ v b' h' d, GrQ q b h b' h' → R d → Dt K b' v d → tz D (σ.set i (some v)) h') : tSeq (tAsg te (gName i)) tz D σ h := x h e p _ fun v b' h' d g r hv => k v b' h' d g r hv
theorem r_retQ {D : Ends} (x : EXQ K q te σ b R) (e : Ex b h) (p : PoolAt h q) (k : ∀ v b' h' d, GrQ q b h b' h' → R d → Dt K b' v d → D.rt v h') : tRet te D σ h := x h e p _ fun v b' h' d g r hv => k v b' h' d g r hv
end
end Md
namespace Md
open PySem L2 Evl
section
variable {K : PySem.W.Frag} {q : Addr} {σ : L2.St} {b b' h : Hp} {te ta tb : TE} {ts tr : TA} {R S T : PyData → Prop} {RI SI : Int → Prop} {d : PyData} {E : XK} {vs : List Nat}
theorem exq_call {n : Nat} {pre : List PyData → Prop} {f : List PyData → PyData → Prop} {R : List PyData → Prop} (x : EAQ K q ts σ b R) (hp : ∀ ds, R ds → ds.length = n ∧ pre ds) : EXQ K q (tCall (SpF K n pre f) [] E ts) σ b (fun d => ∃ ds, R ds ∧ f ds d) := fun h e p _ k =>
  x h e p _ fun vs b2 h2 ds g2 r hvs => ⟨b2, ds, g2.gi, by rw [List.append_nil]; exact hvs, (hp ds r).1, (hp ds r).2, fun v b3 h3 d3 g3 hf hv => k v b3 h3 d3 (g2.trans p (g3.toQ g2.pl)) ⟨ds, r, hf⟩ hv⟩
/-- [te for j in range(n)] -/
theorem exq_lcR {j : Nat} {N : Int → Prop} {R : Int → PyData → Prop} (nb0 : b q = none) (x : EAQ K q ts σ b (fun ds => ∃ n, ds = [.int n] ∧ N n)) (hn : ∀ n, N n → 0 ≤ n ∧ n ≤ 40000) (hw : ∀ x, wipe ((wipe σ vs).set j (some x)) vs = wipe σ vs)
    (hs : ∀ (n : Int) (i : Nat) b2, N n → Ex b b2 → b2 q = none → (i : Int) < n → EXQ K q te ((wipe σ vs).set j (some (.int (i : Int)))) b2 (R n)) :
    EXQ K q (tLc (iRng1 ts) (gName j) tYes te vs) σ b (fun d => ∃ acc n, d = .list acc ∧ N n ∧ acc.length = n.toNat ∧ ∀ e ∈ acc, R n e) := fun h e p0 _ k => x h e p0 _ fun ws b1 h1 ds g1 r hvs => by
  obtain ⟨n, rfl, hN⟩ := r
  have hn := hn n hN
  obtain rfl := hvs.i1
  have p1 := g1.pl
  refine ⟨n, rfl, by omega, by omega, fun Dl hD => ?_⟩
  have nD : Dl ≠ q := fun z => p1.some (by rw [← z]; exact hD)
  have nq1 := g1.nq p0 nb0
  refine lc_it (walk_range (lo := 0) (n := n.toNat)) (fun i h => ∃ b2 us acc, GrQ q b1 h1 b2 h ∧ b2 Dl = none ∧ h Dl = some (.lst us) ∧ DtA K b2 us acc ∧ acc.length = i ∧ ∀ e ∈ acc, R n e) ?_ (fun _ _ _ _ => trivial) ?_ ?_
  · exact ⟨b1, [], [], (GrQ.stay g1.gi p1).hid hD, none_of g1.gi hD, upd_same, DtA.nil, rfl, fun e z => by cases z⟩
  · rintro i y h2 h3 hi ⟨b2, us, acc, g2, nb, hu, hA, hl, hR⟩ hy
    obtain ⟨rfl, hy⟩ := hy
    have e0 : (0 : Int) + (i : Int) = (i : Int) := Int.zero_add _
    have hy' : y = V.int (i : Int) := by
      rw [hy]
      show V.int ((0 : Int) + (i : Int)) = V.int (i : Int)
      rw [e0]
    subst hy'
    refine ⟨hw _, ?_⟩
    show te _ h3 _
    refine hs n i b2 hN (g1.gb.trans g2.gb) (g2.nq p1 nq1) (by omega) h3 g2.gi g2.pl _ fun y b5 h5 d g5 hd hy5 => ⟨us, g5.gh _ _ nD hu, sz_lt (by rw [hA.length]; omega), ?_⟩
    have nb5 : b5 Dl = none := g5.gf Dl nb (by rw [hu]; intro z; cases z)
    refine ⟨b5, us ++ [y], acc ++ [d], (g2.trans p1 g5).mut hD nb5 nD, nb5, upd_same, (hA.up g5.gb).append (DtA.one hy5), by rw [List.length_append, hl]; rfl, fun e hk => ?_⟩
    rcases List.mem_append.mp hk with z | z
    · exact hR e z
    · rw [List.mem_singleton.mp z]
      exact hd
  · rintro h2 ⟨b2, us, acc, g2, nb, hu, hA, hl, hR⟩
    exact k (.ref Dl) (upd b2 Dl (.lst us)) h2 (.list acc) (g1.trans p0 (g2.tell hD nb hu)) ⟨acc, n, rfl, hN, hl, hR⟩ (Dt.list upd_same (hA.up (Ex.new nb)))
theorem eaq_n {n : Int} (x : Ev te σ b (.int n)) (nb : b q = none) : EAQ K q (tCons te tNil) σ b (fun ds => ∃ m, ds = [.int m] ∧ m = n) := fun h e p Q k => (eaq_cons nb (Ev.toQ (K := K) x) eaq_nil) h e p Q fun vs b' h' ds g r hv => by
  obtain ⟨d, es, rfl, ⟨i, rfl, rfl⟩, rfl⟩ := r
  exact k vs b' h' _ g ⟨i, rfl, rfl⟩ hv
theorem eaq_one {N : Int → Prop} (x : EXQ K q te σ b (IntR N)) (nb : b q = none) : EAQ K q (tCons te tNil) σ b (fun ds => ∃ m, ds = [.int m] ∧ N m) := fun h e p Q k => (eaq_cons nb x eaq_nil) h e p Q fun vs b' h' ds g r hv => by
  obtain ⟨d, es, rfl, ⟨i, rfl, hi⟩, rfl⟩ := r
  exact k vs b' h' _ g ⟨i, rfl, hi⟩ hv
end
/-- the pool of a script -/
def spPool (K : PySem.W.Frag) : Sp := fun vs h Q _ => ∃ (b : Hp) (a : Addr) (ns : List Int), vs = [.ref a] ∧ Ex b h ∧ SqL K b a (ns.map V.int) ∧ ns.length ≤ 63 ∧ ∀ p h' (pl : List Int), h p = none → Gr b h b h' → h' p = some (.lst (pl.map V.int)) → 1 ≤ pl.length → pl.length ≤ 5000 → Q (.ref p) h'
def spStream (K : PySem.W.Frag) : Sp := fun vs h Q _ => ∃ (b : Hp) (a : Addr) (ns : List Int), vs = [.ref a] ∧ Ex b h ∧ SqL K b a (ns.map V.int) ∧ ns.length ≤ 63 ∧ ∀ p h', h p = none → Gr b h b h' → PoolAt h' p → Q (.ref p) h'
end Md
namespace Md
open PySem L2 Evl
theorem el_cat {σ : L2.St} {H : Hp} {ta tb : TE} {l : Addr} {xs ys : List V} (ha : Ev ta σ H (.ref l)) (hl : H l = some (.lst xs)) (hb : EvL tb σ H ys) (hz : xs.length + ys.length ≤ 100000) : EvL (tOp rCat ta tb) σ H (xs ++ ys) := fun H1 e Q k => ha H1 e _ fun H2 e2 => hb H2 (e.trans e2) _ fun p H3 hp e3 h3 =>
  ⟨l, p, xs, ys, rfl, rfl, e3 _ _ (e2 _ _ (e _ _ hl)), h3, sz_of hz, fun p' hp' => k p' _ (fresh_back (e2.trans e3) hp') ((e2.trans e3).trans (Ex.new hp')) upd_same⟩
theorem el_cat2 {σ : L2.St} {H : Hp} {ta tb : TE} {xs ys : List V} (ha : EvL ta σ H xs) (hb : EvL tb σ H ys) (hz : xs.length + ys.length ≤ 100000) : EvL (tOp rCat ta tb) σ H (xs ++ ys) := fun H1 e Q k => ha H1 e _ fun l H2 hl2 e2 hl => hb H2 (e.trans e2) _ fun p H3 hp e3 h3 =>
  ⟨l, p, xs, ys, rfl, rfl, e3 _ _ hl, h3, sz_of hz, fun p' hp' => k p' _ (fresh_back (e2.trans e3) hp') ((e2.trans e3).trans (Ex.new hp')) upd_same⟩
theorem el_ints {ns : List Int} {xs : List V} (h : xs = ns.map V.int) {σ : L2.St} {H : Hp} {te : TE} (x : EvL te σ H xs) : EvL te σ H (ns.map V.int) := by rw [← h]; exact x
end Md
namespace Md
open PySem L2 Evl
theorem Gr.hid' {b h b1 h1 : Hp} {p : Addr} {o : HO} (g : Gr b h b1 h1) (n : h1 p = none) : Gr b h b1 (upd h1 p o) := g.trans (Gr.hid g.gi n)
end Md
namespace Md
open PySem L2 Evl
theorem ret_cat {σ : L2.St} {H : Hp} {D : Ends} {ta tb : TE} {xs : List V} (ha : EvL ta σ H xs) (k : ∀ l H1, H l = none → Ex H H1 → H1 l = some (.lst xs) → tb σ H1 (fun y H2 => rCat (.ref l) y H2 D.rt)) : tRet (tOp rCat ta tb) D σ H := ha H (Ex.refl H) _ fun p H1 hp e h1 => k p H1 hp e h1
end Md
namespace Md
open PySem L2 Evl
section
variable {K : PySem.W.Frag} {σ : L2.St} {b h : Hp} {ts : TA} {D : Ends} {d1 d2 : PyData}
theorem r_par1 {i j : Nat} (x : EDA K ts σ b [d1, d2]) (e : Ex b h) (k : ∀ v1 v2 b' h', Gr b h b' h' → Dt K b' v1 d1 → Dt K b' v2 d2 → D.nx ((σ.set i (some v1)).set j (some v2)) h') : tPar i j ts D σ h := x h e _ fun vs b' h' g hv => by
  cases hv with
  | cons q1 hv =>
    cases hv with
    | cons q2 hv =>
      cases hv
      exact ⟨_, _, rfl, k _ _ b' h' g q1 q2⟩
end
def EucL (g i x y : Nat) : Prop := Nat.gcd x y = g ∧ (if i = 0 then y < 2 ^ 1900 else y < x ∧ x * y * 2 ^ (i - 1) < 2 ^ 3800)
theorem eucL_end {g x y : Nat} (h : Euc g 20000 x y) : y = 0 := by
  obtain ⟨_, h2⟩ := h
  rw [if_neg (by decide)] at h2
  obtain ⟨h3, h4⟩ := h2
  cases y with
  | zero => rfl
  | succ y =>
    exfalso
    have h5 : 1 ≤ x * (y + 1) := Nat.mul_pos (by omega) (by omega)
    have h6 : 1 * 2 ^ (20000 - 1) ≤ x * (y + 1) * 2 ^ (20000 - 1) := Nat.mul_le_mul_right _ h5
    have h7 : (2 : Nat) ^ 3800 ≤ 2 ^ (20000 - 1) := Nat.pow_le_pow_right (by decide) (by decide)
    rw [Nat.one_mul] at h6
    exact absurd (Nat.lt_of_lt_of_le h4 (Nat.le_trans h7 h6)) (Nat.lt_irrefl _)
end Md
namespace Md
open PySem L2 Evl
def ordQ (r s : Rat) : Int := (if decide (s < r) = true then 1 else 0) - (if decide (r < s) = true then 1 else 0)
def spOrder (K : PySem.W.Frag) : Sp := fun vs h Q _ => ∃ (b : Hp) (r s : Rat), Ex b h ∧ DtA K b vs [nQ r, nQ s] ∧ Big 900 (canon r) ∧ Big 900 (canon s) ∧ ∀ h', Ex h h' → Q (.int (ordQ r s)) h'
def oneD (r : Rat) : PyData := .list [nQ r]
def onesD (n : Nat) (f : Nat → Rat) : PyData := .list ((List.range n).map fun k => oneD (f k))
def wayZ (o : Bool) : Int := if o = true then 1 else -1
def spExtreme (K : PySem.W.Frag) : Sp := fun vs h Q _ => ∃ (b : Hp) (o : Bool) (n : Nat) (f : Nat → Rat), Ex b h ∧ DtA K b vs [onesD n f, .int (wayZ o)] ∧ 0 < n ∧ n ≤ 1000 ∧ (∀ y, y < n → Big 900 (canon (f y))) ∧ ∀ v b' h', Gr b h b' h' → Dt K b' v (oneD (tkF o n f)) → Q v h'
def spDrawn (K : PySem.W.Frag) : Sp := fun vs h Q _ => ∃ (b : Hp) (q : Addr) (n : Nat), vs = [.ref q, .int (n : Int)] ∧ Ex b h ∧ b q = none ∧ PoolAt h q ∧ n ≤ 100 ∧ ∀ v b' h' f, GrQ q b h b' h' → (∀ k, k < n → NB 6 10 (f k)) → Dt K b' v (listQ n f) → Q v h'
section
variable {K : PySem.W.Frag} {q : Addr} {σ : L2.St} {b h : Hp} {ta : TE} {ts : TA} {E : XK} {r s : Rat}
theorem ev_order (y : EDA K ts σ b [nQ r, nQ s]) (h1 : Big 900 (canon r)) (h2 : Big 900 (canon s)) : Ev (tCall (spOrder K) [] E ts) σ b (.int (ordQ r s)) := fun h e _ qq =>
  y h e _ fun vs b2 h2' g2 hv => ⟨b2, r, s, g2.gi, by rw [List.append_nil]; exact hv, h1, h2, fun h3 e3 => qq h3 (g2.gh.trans e3)⟩
theorem ed_extreme {o : Bool} {n : Nat} {f : Nat → Rat} (y : EDA K ts σ b [onesD n f, .int (wayZ o)]) (h1 : 0 < n) (h3 : n ≤ 1000) (h2 : ∀ y, y < n → Big 900 (canon (f y))) : ED K (tCall (spExtreme K) [] E ts) σ b (oneD (tkF o n f)) := fun h e _ qq =>
  y h e _ fun vs b2 h2' g2 hv => ⟨b2, o, n, f, g2.gi, by rw [List.append_nil]; exact hv, h1, h3, h2, fun v b3 h3 g3 hv3 => qq v b3 h3 (g2.trans g3) hv3⟩
theorem exq_drawn {k n : Nat} (s : σ[k]? = some (some (.ref q))) (nb : b q = none) (x : Ev ta σ b (.int (n : Int))) (hn : n ≤ 100) : EXQ K q (tCall (spDrawn K) [] E (tCons (tVar k) (tCons ta tNil))) σ b (fun d => ∃ f, d = listQ n f ∧ ∀ k, k < n → NB 6 10 (f k)) := fun h e p _ kk => by
  refine ⟨.ref q, s, x h e _ fun h2 e2 => ?_⟩
  have p2 := p.up e2
  have g2 : GrQ q b h b h2 := (Gr.stay e e2).toQ p
  exact ⟨b, q, n, rfl, e.trans e2, nb, p2, hn, fun v b3 h3 f g3 hf hv => kk v b3 h3 _ (g2.trans p g3) ⟨f, rfl, hf⟩ hv⟩
end
theorem ord_hi (r s : Rat) : decide (ordQ r s = 1) = decide (s < r) := by
  unfold ordQ
  by_cases c : s < r
  · have c2 : ¬ r < s := by grind
    rw [decide_eq_true c, decide_eq_false c2]
    decide
  · rw [decide_eq_false c]
    by_cases c3 : r < s
    · rw [decide_eq_true c3]
      decide
    · rw [decide_eq_false c3]
      decide
theorem ord_lo (r s : Rat) : decide (ordQ r s = -1) = decide (r < s) := by
  unfold ordQ
  by_cases c : s < r
  · have c2 : ¬ r < s := by grind
    rw [decide_eq_true c, decide_eq_false c2]
    decide
  · rw [decide_eq_false c]
    by_cases c3 : r < s
    · rw [decide_eq_true c3]
      decide
    · rw [decide_eq_false c3]
      decide
theorem tk_next (o : Bool) (f : Nat → Rat) (k : Nat) : tkF o (k + 1) f = if decide (ordQ (f k) (tkF o k f) = wayZ o) = true then f k else tkF o k f := by
  cases o with
  | true =>
    show (if decide (hiQ f k < f k) = true then f k else hiQ f k) = if decide (ordQ (f k) (hiQ f k) = 1) = true then f k else hiQ f k
    rw [ord_hi]
  | false =>
    show (if decide (f k < loQ f k) = true then f k else loQ f k) = if decide (ordQ (f k) (loQ f k) = -1) = true then f k else loQ f k
    rw [ord_lo]
theorem tkF_mem {o : Bool} {f : Nat → Rat} {n : Nat} (hn : 0 < n) {k : Nat} (hk : k ≤ n) : ∃ j, j < n ∧ tkF o k f = f j := by
  unfold tkF
  split
  · exact hi_mem hn k hk
  · exact lo_mem hn k hk
end Md
namespace Md
open PySem L2 Evl
theorem r_asg1 {K : PySem.W.Frag} {σ : L2.St} {b h : Hp} {te : TE} {D : Ends} {g : TG} {d : PyData} (x : ED K te σ b d) (e : Ex b h) (k : ∀ v b' h', Gr b h b' h' → Dt K b' v d → g v σ h' D.nx) : tAsg te g D σ h := x h e _ fun v b' h' g hv => k v b' h' g hv
end Md
namespace Md
open PySem L2 Evl
theorem listQ_of {acc : List PyData} {P : Rat → Prop} (h : ∀ e ∈ acc, ∃ r, P r ∧ e = nQ r) : ∃ f : Nat → Rat, PyData.list acc = listQ acc.length f ∧ ∀ k, k < acc.length → P (f k) := by
  obtain ⟨G, rfl, hG⟩ := all_some (acc := acc) (W := P) (D := nQ) h
  refine ⟨fun k => G.getD k 0, ?_, fun k hk => ?_⟩
  · unfold listQ
    rw [List.length_map, map_getDn G 0 nQ]
  · rw [List.length_map] at hk
    exact hG _ (getDq_mem hk)
theorem num_nb {n d : Int} {M B : Nat} (hd : 0 < d) (hM : d.natAbs ∣ M) (hn : n.natAbs ≤ B) : NB M B (qN (num n d)) := by
  have hr := num_red (n := n) hd
  have h1 : (num n d).2.natAbs ∣ M := Nat.dvd_trans (num_dvd hd) hM
  have e : qN (num n d) = (n : Rat) / (d : Rat) := q_num hd
  have hp : (0 : Rat) < (d : Rat) := cast_pos hd
  have hd1 : (1 : Rat) ≤ (d : Rat) := by
    have := le_cast (a := 1) (b := d) (by omega)
    exact this
  have a1 : (n : Rat) ≤ natR B := le_cast (by omega)
  have a2 : -natR B ≤ (n : Rat) := by
    have : ((-(B : Int) : Int) : Rat) ≤ (n : Rat) := le_cast (by omega)
    rw [Rat.intCast_neg] at this
    exact this
  have b0 := natR_nonneg B
  refine ⟨zt_den hr h1, ?_, ?_⟩
  · rw [e]
    refine le_div' hp ?_
    have := Rat.mul_le_mul_of_nonneg_left hd1 b0
    grind
  · rw [e]
    refine div_le' hp ?_
    have := Rat.mul_le_mul_of_nonneg_left hd1 b0
    grind
theorem num_nQ {n d : Int} (h : 0 < d) : nD (num n d) = nQ (qN (num n d)) := by
  unfold nQ
  rw [← canon_red_self (num_red h)]
end Md


set_option Elab.async false
set_option linter.all false
set_option maxRecDepth 100000
set_option maxHeartbeats 2000000
/-! Rows: sums of first gains, steps by which a spread is near. -/
namespace Md
open PySem L2 Evl
theorem bigQ_num {n d : Int} {j k : Nat} (hd : d ≠ 0) (hn : n.natAbs < 2 ^ j) (hk : d.natAbs < 2 ^ j) : Big j (num n d) := ⟨Nat.lt_of_le_of_lt (num_le hd).1 hn, Nat.lt_of_le_of_lt (num_le hd).2 hk⟩
theorem bigQ_times {r s : Rat} {j k : Nat} (h1 : Big j (canon r)) (h2 : Big k (canon s)) : Big (j + k) (canon (r * s)) := by
  rw [← times_canon]
  have hp := mul_pos' (canon_red r).1 (canon_red s).1
  exact bigQ_num (k := 0) (by omega) (by rw [Int.natAbs_mul]; exact pow_mul_lt h1.1 h2.1) (by rw [Int.natAbs_mul]; exact pow_mul_lt h1.2 h2.2)
theorem bigQ_plus {r s : Rat} {j k : Nat} (h1 : Big j (canon r)) (h2 : Big k (canon s)) : Big (j + k + 1) (canon (r + s)) := by
  rw [← plus_canon]
  have hp := mul_pos' (canon_red r).1 (canon_red s).1
  have hr := big_plus_raw h1 h2
  exact bigQ_num (k := 0) (by omega) hr.1 (Nat.lt_of_lt_of_le hr.2 (Nat.pow_le_pow_right (by decide) (by omega)))
theorem bigQ_neg {s : Rat} {k : Nat} (h : Big k (canon s)) : Big k (canon (-s)) := by
  rw [neg_canon]
  refine ⟨?_, h.2⟩
  show (-(canon s).1).natAbs < _
  rw [Int.natAbs_neg]
  exact h.1
theorem bigQ_minus {r s : Rat} {j k : Nat} (h1 : Big j (canon r)) (h2 : Big k (canon s)) : Big (j + k + 1) (canon (r - s)) := by
  have e : r - s = r + -s := by grind
  rw [e]
  exact bigQ_plus h1 (bigQ_neg h2)
theorem bigQ_inv {s : Rat} {k : Nat} (h : Big k (canon s)) (h0 : 0 < s) : Big k (canon (1 / s)) := by
  have hq : 0 < (canon s).1 := by
    have h1 : 0 ≤ (canon s).1 := Rat.num_nonneg.mpr (Rat.le_of_lt h0)
    have h2 : (canon s).1 ≠ 0 := fun z => by
      have := q_canon s
      unfold qN at this
      rw [z] at this
      have h3 : ((0 : Int) : Rat) = 0 := rfl
      rw [h3, Rat.div_def, Rat.zero_mul] at this
      rw [← this] at h0
      exact Rat.lt_irrefl h0
    omega
  have hr : Red ((canon s).2, (canon s).1) := ⟨by show (1 : Int) ≤ (canon s).1; omega, by rw [Nat.gcd_comm]; exact (canon_red s).2⟩
  have e : qN ((canon s).2, (canon s).1) = 1 / s := by
    have hs : s = ((canon s).1 : Rat) / ((canon s).2 : Rat) := (q_canon s).symm
    have a1 : (((canon s).1 : Int) : Rat) ≠ 0 := cast_ne (by omega)
    have a2 : (((canon s).2 : Int) : Rat) ≠ 0 := cast_ne (by have := (canon_red s).1; omega)
    show (((canon s).2 : Int) : Rat) / (((canon s).1 : Int) : Rat) = 1 / s
    generalize (((canon s).1 : Int) : Rat) = x at *
    generalize (((canon s).2 : Int) : Rat) = y at *
    rw [hs, Rat.div_def, Rat.div_def, Rat.div_def, Rat.inv_mul_rev]
    grind
  rw [← e, ← canon_red_self hr]
  exact ⟨h.2, h.1⟩
theorem bigQ_div {r s : Rat} {j k : Nat} (h1 : Big j (canon r)) (h2 : Big k (canon s)) (h0 : 0 < s) : Big (j + k) (canon (r / s)) := by
  have e : r / s = r * (1 / s) := by
    rw [Rat.div_def, Rat.div_def, Rat.one_mul]
  rw [e]
  exact bigQ_times h1 (bigQ_inv h2 h0)
theorem bigQ_nat {t k : Nat} (h : t < 2 ^ k) (hk : 1 ≤ k) : Big k (canon (natR t)) := by
  rw [show natR t = ((t : Int) : Rat) from rfl, canon_int]
  refine ⟨by show ((t : Int)).natAbs < _; rw [Int.natAbs_natCast]; exact h, ?_⟩
  exact Nat.lt_of_lt_of_le (show ((1 : Int)).natAbs < 2 ^ 1 by decide) (Nat.pow_le_pow_right (by decide) hk)
def rowsD (n : Nat) (g l : Nat → Rat) : PyData := .tuple [listQ n g, listQ n l]
def spDue (K : PySem.W.Frag) : Sp := fun vs h Q _ => ∃ (b : Hp) (n : Nat) (g l : Nat → Rat) (x t : Nat), Ex b h ∧ DtA K b vs [rowsD n g l, .int (x : Int), .int (t : Int)] ∧ x < n ∧ t ≤ 1000000 ∧ (∀ y, y < n → Big 500 (canon (g y))) ∧ (∀ y, y < n → Big 500 (canon (l y))) ∧ ∀ v b' h', Gr b h b' h' → Dt K b' v (nQ (natR t * g x + l x)) → Q v h'
def spSums (K : PySem.W.Frag) (o : Bool) : Sp := fun vs h Q _ => ∃ (b : Hp) (n : Nat) (g l : Nat → Rat) (x t : Nat), Ex b h ∧ DtA K b vs [rowsD n g l, .int (x : Int), .int (t : Int)] ∧ x < n ∧ t ≤ 1000000 ∧ (∀ y, y < n → Big 500 (canon (g y))) ∧ (∀ y, y < n → Big 500 (canon (l y))) ∧ ∀ v b' h', Gr b h b' h' → Dt K b' v (nQ (natR t * g x + l x - tkF o n l)) → Q v h'
def stepsZ (z : Rat) : Int := if -(-(canon z).1 / (canon z).2) > 1 then -(-(canon z).1 / (canon z).2) else 1
def spStepsN (K : PySem.W.Frag) : Sp := fun vs h Q _ => ∃ (b : Hp) (n : Nat) (g l : Nat → Rat) (e : Rat), Ex b h ∧ DtA K b vs [rowsD n g l, nQ e] ∧ 0 < n ∧ (∀ y, y < n → Big 500 (canon (l y))) ∧ 0 < e ∧ Big 500 (canon e) ∧ ∀ h', Ex h h' → Q (.int (stepsZ ((hiQ l n - loQ l n) / e))) h'
theorem bigQ_due {n x t : Nat} {g l : Nat → Rat} (hx : x < n) (ht : t ≤ 1000000) (hg : ∀ y, y < n → Big 500 (canon (g y))) (hl : ∀ y, y < n → Big 500 (canon (l y))) : Big 3000 (canon (natR t * g x + l x)) :=
  (bigQ_plus (bigQ_times (bigQ_nat (k := 500) (Nat.lt_of_lt_of_le (show t < 2 ^ 20 by omega) (Nat.pow_le_pow_right (by decide) (by decide))) (by decide)) (hg x hx)) (hl x hx)).mono (by decide)
section
variable {K : PySem.W.Frag} {σ : L2.St} {b h : Hp} {ts : TA} {E : XK} {n x t : Nat} {g l : Nat → Rat}
theorem ed_due (y : EDA K ts σ b [rowsD n g l, .int (x : Int), .int (t : Int)]) (h1 : x < n) (h2 : t ≤ 1000000) (h3 : ∀ y, y < n → Big 500 (canon (g y))) (h4 : ∀ y, y < n → Big 500 (canon (l y))) : ED K (tCall (spDue K) [] E ts) σ b (nQ (natR t * g x + l x)) := fun h e _ qq =>
  y h e _ fun vs b2 h2' g2 hv => ⟨b2, n, g, l, x, t, g2.gi, by rw [List.append_nil]; exact hv, h1, h2, h3, h4, fun v b3 h3 g3 hv3 => qq v b3 h3 (g2.trans g3) hv3⟩
theorem ed_sums {o : Bool} (y : EDA K ts σ b [rowsD n g l, .int (x : Int), .int (t : Int)]) (h1 : x < n) (h2 : t ≤ 1000000) (h3 : ∀ y, y < n → Big 500 (canon (g y))) (h4 : ∀ y, y < n → Big 500 (canon (l y))) : ED K (tCall (spSums K o) [] E ts) σ b (nQ (natR t * g x + l x - tkF o n l)) := fun h e _ qq =>
  y h e _ fun vs b2 h2' g2 hv => ⟨b2, n, g, l, x, t, g2.gi, by rw [List.append_nil]; exact hv, h1, h2, h3, h4, fun v b3 h3 g3 hv3 => qq v b3 h3 (g2.trans g3) hv3⟩
end
theorem steps_ge (z : Rat) : 1 ≤ stepsZ z ∧ z ≤ ((stepsZ z : Int) : Rat) ∧ (1 < stepsZ z → (((stepsZ z - 1 : Int)) : Rat) < z) := by
  have hr := (canon_red z).1
  have hz : z = ((canon z).1 : Rat) / ((canon z).2 : Rat) := (q_canon z).symm
  have hp : (0 : Rat) < (((canon z).2 : Int) : Rat) := cast_pos (by omega)
  have hc1 : (canon z).1 ≤ -(-(canon z).1 / (canon z).2) * (canon z).2 := by
    have := Int.ediv_mul_le (-(canon z).1) (b := (canon z).2) (by omega)
    rw [Int.neg_mul]
    omega
  have hc2 : (-(-(canon z).1 / (canon z).2) - 1) * (canon z).2 < (canon z).1 := by
    have := Int.lt_ediv_add_one_mul_self (-(canon z).1) (b := (canon z).2) (by omega)
    have e : (-(-(canon z).1 / (canon z).2) - 1) * (canon z).2 = -((-(canon z).1 / (canon z).2 + 1) * (canon z).2) := by
      rw [← Int.neg_mul]
      congr 1
      omega
    rw [e]
    omega
  have key : ∀ c : Int, (canon z).1 ≤ c * (canon z).2 → z ≤ (c : Rat) := fun c h => by
    rw [hz]
    refine div_le' hp ?_
    rw [← Rat.intCast_mul]
    exact le_cast h
  have key2 : ∀ c : Int, c * (canon z).2 < (canon z).1 → (c : Rat) < z := fun c h => by
    rw [hz]
    rw [Rat.lt_div_iff hp, ← Rat.intCast_mul]
    exact Rat.intCast_lt_intCast.mpr h
  unfold stepsZ
  split
  · rename_i c
    exact ⟨by omega, key _ hc1, fun _ => key2 _ hc2⟩
  · rename_i c
    refine ⟨by omega, ?_, fun h => absurd h (by omega)⟩
    refine key 1 ?_
    have h1 : -(-(canon z).1 / (canon z).2) ≤ 1 := by omega
    have := Int.mul_le_mul_of_nonneg_right h1 (show 0 ≤ (canon z).2 by omega)
    omega
end Md
namespace Md
open PySem L2 Evl
section
variable {K : PySem.W.Frag} {q : Addr} {σ : L2.St} {b b' h : Hp} {te tl ta tb : TE} {ts tr : TA} {R S T : PyData → Prop} {RI SI : Int → Prop} {d : PyData} {E : XK} {vs : List Nat} {D : Ends} {tu tw : TS}
theorem GrQ.drop {b1 h1 : Hp} (g : GrQ q b h b1 h1) : GrQ q b h b h1 := ⟨Ex.refl b, g.gh, g.gb.trans g.gi, fun _ z _ => z, g.pl⟩
/-- an if whose test takes from the pool: nothing is known -/
theorem r_if1Q {z : Int} (x : EXQ K q ta σ b (IntR RI)) (e : Ex b h) (p : PoolAt h q) (k1 : ∀ h', GrQ q b h b h' → tu D σ h') (k2 : ∀ h', GrQ q b h b h' → tw D σ h') : tIfS (tTest (tOp rEq ta (tC (.int z)))) tu tw D σ h := x h e p _ fun v b2 h2 d g r hv => by
  obtain ⟨i, rfl, ri⟩ := r
  obtain rfl := hv.intI
  refine ⟨rfl, _, rfl, ?_⟩
  cases hc : decide (V.int i = V.int z) with
  | true =>
    rw [if_pos rfl]
    exact k1 h2 g.drop
  | false =>
    rw [if_neg (by decide)]
    exact k2 h2 g.drop
/-- [te for j in a list of numbers that takes from the pool] -/
theorem exq_map {j n : Nat} {P : (Nat → Rat) → Prop} {r : (Nat → Rat) → Nat → Rat} (nb0 : b q = none) (x : EXQ K q tl σ b (fun d => ∃ f, d = listQ n f ∧ P f)) (hn : n ≤ 1000) (hw : ∀ x, wipe ((wipe σ vs).set j (some x)) vs = wipe σ vs)
    (hs : ∀ f, P f → ∀ k v b2, k < n → Ex b b2 → Dt K b2 v (nQ (f k)) → ED K te ((wipe σ vs).set j (some v)) b2 (nQ (r f k))) :
    EXQ K q (tLc (iList K tl) (gName j) tYes te vs) σ b (fun d => ∃ f, P f ∧ d = listQ n (r f)) := fun h e p _ k => x h e p _ fun v b1 h1 d g1 rr hv => by
  obtain ⟨f, rfl, pf⟩ := rr
  have x2 : ED K (tC v) σ b1 (.list ((List.range n).map fun k => nQ (f k))) := ed_val hv ev_c
  have e1 : ((List.range n).map fun k => nQ (r f k)) = givenD ((List.range n).map fun k => nQ (f k)).length (fun _ => true) (fun k => nQ (r f k)) := by rw [givenD_all, List.length_map, List.length_range]
  have x3 : ED K (tLc (iList K (tC v)) (gName j) tYes te vs) σ b1 (listQ n (r f)) := by
    unfold listQ
    rw [e1]
    refine EN.ed (en_lcL x2 (by rw [List.length_map, List.length_range]; omega) _ _ hw fun i d x b2 e2 hd hx => ⟨et_yes, fun _ => ?_⟩)
    have hi : i < n := by
      have := (List.getElem?_eq_some_iff.mp hd).1
      rwa [List.length_map, List.length_range] at this
    rw [List.getElem?_map, List.getElem?_range hi] at hd
    cases hd
    exact hs f pf i x b2 hi (g1.gb.trans e2) hx
  exact x3 h1 g1.gi _ fun v2 b2 h2 g2 hv2 => k v2 b2 h2 _ (g1.trans p (g2.toQ g1.pl)) ⟨f, pf, rfl⟩ hv2
end
theorem nb_mono2 {M B M' B' : Nat} {r : Rat} (h : NB M B r) (hM : M ∣ M') (hB : B ≤ B') : NB M' B' r := h.mono hM hB
theorem numok_big {r : Rat} (h : Big 59 (canon r)) : NumOk (canon r) := ⟨Nat.lt_trans h.1 (by decide), Nat.lt_trans h.2 (by decide)⟩
theorem nice_nQ {r : Rat} (h : Big 59 (canon r)) : Nice 1 46 (nQ r) := nice_num (numok_big h)
theorem nice_listQ {n : Nat} {f : Nat → Rat} (hn : n ≤ 12) (h : ∀ k, k < n → Big 59 (canon (f k))) : Nice 2 600 (listQ n f) := (nice_list (k := 1) (L := 46) (n := 12) (fun d hd => by
  obtain ⟨k, hk, rfl⟩ := List.mem_map.mp hd
  exact nice_nQ (h k (List.mem_range.mp hk))) (by rw [List.length_map, List.length_range]; exact hn)).mono (by decide) (by decide)
theorem nice_rows {n : Nat} {f g : Nat → Rat} (hn : n ≤ 12) (h : ∀ k, k < n → Big 59 (canon (f k))) (h2 : ∀ k, k < n → Big 59 (canon (g k))) : Nice 3 1300 (rowsD n f g) := (nice_tup (k := 2) (L := 600) (n := 2) (fun d hd => by
  rcases List.mem_cons.mp hd with rfl | hd
  · exact nice_listQ hn h
  · rw [List.mem_singleton.mp hd]
    exact nice_listQ hn h2) (by show 2 ≤ 2; decide)).mono (by decide) (by decide)
end Md
namespace Md
open PySem L2 Evl
theorem steps_big {z : Rat} {k : Nat} (h : Big k (canon z)) (hk : 1 ≤ k) : Big k (canon ((stepsZ z : Int) : Rat)) ∧ Big k (canon ((stepsZ z - 1 : Int) : Rat)) := by
  have h1 : (-(-(canon z).1 / (canon z).2)).natAbs ≤ (canon z).1.natAbs := by
    rw [Int.natAbs_neg]
    have := Int.natAbs_ediv_le_natAbs (-(canon z).1) (canon z).2
    rwa [Int.natAbs_neg] at this
  have h2 : 2 ≤ 2 ^ k := Nat.le_trans (by decide : 2 ≤ 2 ^ 1) (Nat.pow_le_pow_right (by decide) hk)
  have h3 := h.1
  have key : (stepsZ z).natAbs < 2 ^ k ∧ (stepsZ z - 1).natAbs < 2 ^ k := by
    unfold stepsZ
    generalize -(-(canon z).1 / (canon z).2) = c at *
    generalize 2 ^ k = M at *
    split <;> omega
  have h4 : ((1 : Int)).natAbs < 2 ^ k := by show 1 < 2 ^ k; omega
  refine ⟨?_, ?_⟩
  · rw [canon_int]
    exact ⟨key.1, h4⟩
  · rw [canon_int]
    exact ⟨key.2, h4⟩
theorem ord_le {r s : Rat} (h : r ≤ s) : decide (0 < ordQ r s) = false := by
  unfold ordQ
  have c : ¬ s < r := by grind
  rw [decide_eq_false c]
  by_cases c2 : r < s
  · rw [decide_eq_true c2]; decide
  · rw [decide_eq_false c2]; decide
theorem ord_gt {r s : Rat} (h : s < r) : decide (ordQ r s ≤ 0) = false := by
  unfold ordQ
  have c : ¬ r < s := by grind
  rw [decide_eq_true h, decide_eq_false c]
  decide
end Md


set_option Elab.async false
set_option linter.all false
set_option maxRecDepth 100000
set_option maxHeartbeats 2000000
namespace Md
open PySem L2 Evl
def top (i : Nat) : Stmt := PySem.Challenge.pw_meanhold_k43_sums_of_first_gains.main.body.getD i (.Pass ⟨0, 0, 0, 0⟩)
section
variable {P : Program} {w : World} {K : PySem.W.Frag} {mg : Str → Option Value} {base : Heap}
abbrev s_lowest : Stmt := top 2
theorem sc_lowest : FnScope ["n", "d", "common"] ["n", "d"] (defScope s_lowest) := ⟨rfl, rfl, rfl, by decide +kernel, rfl, by decide +kernel, by decide +kernel⟩
theorem has_lowest (m_gcdB : mg "gcd" = some (.builtin "math.gcd")) (D : IsDef K mg "lowest" s_lowest ["n", "d"]) : Has P w K mg base 1 "lowest" ["n", "d"] (spLowest K) := by
  obtain ⟨f, fd, F, hm, hb⟩ := D
  have sc := sc_lowest
  refine ⟨f, fd, F.ok sc (fun vs H Q E x => ?_) (fun cdv A outer s h0 vs Q E hr hs => ?_), hm, F.kp, hb⟩
  · obtain ⟨b, n, d, _, hA, _⟩ := x
    exact hA.length
  obtain ⟨b, n, d, eb, hA, h0', h1', k⟩ := hs
  obtain rfl := hA.i2
  refine ⟨_, (pss_cons (ps_set (i := 2) sc.nd rfl (by first | exact Or.inl rfl | exact Or.inr rfl) (pe_callBfun cr_gcd rfl m_gcdB (pa_cons (pv 0) (pa_cons (pv 1) pa_nil)))) (pss_one (ps_ret (pe_tup (pa_cons (pe_op op_fdivW (pv 0) (pv 2)) (pa_cons (pe_op op_fdivW (pv 1) (pv 2)) pa_nil)))))), ?_⟩
  have hg : 0 < Nat.gcd n.natAbs d.natAbs := Nat.gcd_pos_of_pos_right _ (by omega)
  have hg2 : Nat.gcd n.natAbs d.natAbs < 2 ^ 8000 := Nat.lt_of_le_of_lt (Nat.gcd_le_right _ (by omega)) h1'
  have hw : ∀ z : Int, CDivW z ((Nat.gcd n.natAbs d.natAbs : Nat) : Int) := fun z => wide_div (b := 8000) (by omega) (by simpa using hg2) (by decide) (by decide)
  refine r_sc (rGcd_ev (ev_var rfl) (ev_var rfl)) eb fun h1 g1 => ?_
  refine r_ret (K := K) (d := .tuple [.int (n / ((Nat.gcd n.natAbs d.natAbs : Nat) : Int)), .int (d / ((Nat.gcd n.natAbs d.natAbs : Nat) : Int))]) (ed_tup (eda_cons (ed_int (ev_op (ev_var rfl) (ev_var rfl) (rv_I (hw _)))) (eda_cons (ed_int (ev_op (ev_var rfl) (ev_var rfl) (rv_I (hw _)))) eda_nil)) (by show 2 ≤ 100000; decide)) g1.gi fun v b' h' g hv => ?_
  refine k v b' h' (g1.trans g) ?_
  rw [num_pos h0']
  exact hv

abbrev s_plus : Stmt := top 3
theorem sc_plus : FnScope ["a", "b"] ["a", "b"] (defScope s_plus) := ⟨rfl, rfl, rfl, by decide +kernel, rfl, by decide +kernel, by decide +kernel⟩
theorem has_plus (D : IsDef K mg "plus" s_plus ["a", "b"]) (U : Has P w K mg base 1 "lowest" ["n", "d"] (spLowest K)) : Has P w K mg base 3 "plus" ["a", "b"] (spNum2B K 3000 plusN) := by
  obtain ⟨f, fd, F, hm, hb⟩ := D
  obtain ⟨f_lowest, fd_lowest, G_lowest, m_lowest, k_lowest, b_lowest⟩ := U
  have sc := sc_plus
  refine ⟨f, fd, F.ok sc (fun vs H Q E x => ?_) (fun cdv A outer s h0 vs Q E hr hs => ?_), hm, F.kp, hb⟩
  · obtain ⟨b, p, q, _, hA, _⟩ := x
    exact hA.length
  obtain ⟨b, p, q, eb, hA, rp, rq, bp, bq, k⟩ := hs
  refine ⟨_, (pss_one (ps_ret (pe_call G_lowest (hr.mono (by decide)) rfl m_lowest k_lowest b_lowest .nil pass0 (pa_cons (pe_op op_add (pe_op op_mulW (pe_ix (ix_tupK (K := K) rfl) (pv 0) pe_int (fun _ _ => rfl)) (pe_ix (ix_tupK (K := K) rfl) (pv 1) pe_int (fun _ _ => rfl))) (pe_op op_mulW (pe_ix (ix_tupK (K := K) rfl) (pv 1) pe_int (fun _ _ => rfl)) (pe_ix (ix_tupK (K := K) rfl) (pv 0) pe_int (fun _ _ => rfl)))) (pa_cons (pe_op op_mulW (pe_ix (ix_tupK (K := K) rfl) (pv 0) pe_int (fun _ _ => rfl)) (pe_ix (ix_tupK (K := K) rfl) (pv 1) pe_int (fun _ _ => rfl))) pa_nil))))), ?_⟩
  obtain ⟨va, vb, rfl, ha, hb2⟩ : ∃ va vb, vs = [va, vb] ∧ Dt K b va (nD p) ∧ Dt K b vb (nD q) := by
    cases hA with
    | cons h1 h2 =>
      cases h2 with
      | cons h3 h4 =>
        cases h4
        exact ⟨_, _, rfl, h1, h3⟩
  have A0 : ∀ {σ : L2.St}, σ[0]? = some (some va) → Ev (tOp (rIxT K) (tVar 0) (tC (V.int 0))) σ b (.int p.1) := fun s => ev_num0 (ed_var s ha)
  have A1 : ∀ {σ : L2.St}, σ[0]? = some (some va) → Ev (tOp (rIxT K) (tVar 0) (tC (V.int 1))) σ b (.int p.2) := fun s => ev_num1 (ed_var s ha)
  have B0 : ∀ {σ : L2.St}, σ[1]? = some (some vb) → Ev (tOp (rIxT K) (tVar 1) (tC (V.int 0))) σ b (.int q.1) := fun s => ev_num0 (ed_var s hb2)
  have B1 : ∀ {σ : L2.St}, σ[1]? = some (some vb) → Ev (tOp (rIxT K) (tVar 1) (tC (V.int 1))) σ b (.int q.2) := fun s => ev_num1 (ed_var s hb2)
  have w2000 : ∀ {z : Int}, z.natAbs < 2 ^ 3000 → z.natAbs < 2 ^ 4000 := fun h => Nat.lt_of_lt_of_le h (Nat.pow_le_pow_right (by decide) (by decide))
  have p1 := w2000 bp.1
  have p2 := w2000 bp.2
  have q1 := w2000 bq.1
  have q2 := w2000 bq.2
  have hpos := mul_pos' rp.1 rq.1
  have hr2 := big_plus_raw bp bq
  refine r_ret (K := K) (d := nD (plusN p q)) (ed_lowest (ev_op (ev_op (A0 rfl) (B1 rfl) (rv_I (cmulL p1 q2))) (ev_op (B0 rfl) (A1 rfl) (rv_I (cmulL q1 p2))) rv_I0) (ev_op (A1 rfl) (B1 rfl) (rv_I (cmulL p2 q2))) hpos (Nat.lt_of_lt_of_le hr2.2 (Nat.pow_le_pow_right (by decide) (by decide)))) eb fun v b' h' g hv => k v b' h' g hv

abbrev s_times : Stmt := top 5
theorem sc_times : FnScope ["a", "b", "left", "right"] ["a", "b"] (defScope s_times) := ⟨rfl, rfl, rfl, by decide +kernel, rfl, by decide +kernel, by decide +kernel⟩
theorem has_times (D : IsDef K mg "times" s_times ["a", "b"]) (m_gcdB : mg "gcd" = some (.builtin "math.gcd")) : Has P w K mg base 3 "times" ["a", "b"] (spNum2B K 3000 timesN) := by
  obtain ⟨f, fd, F, hm, hb⟩ := D
  have sc := sc_times
  refine ⟨f, fd, F.ok sc (fun vs H Q E x => ?_) (fun cdv A outer s h0 vs Q E hr hs => ?_), hm, F.kp, hb⟩
  · obtain ⟨b, p, q, _, hA, _⟩ := x
    exact hA.length
  obtain ⟨b, p, q, eb, hA, rp, rq, bp, bq, k⟩ := hs
  refine ⟨_, (pss_cons (ps_set (i := 2) sc.nd rfl (by first | exact Or.inl rfl | exact Or.inr rfl) (pe_callBfun cr_gcd rfl m_gcdB (pa_cons (pe_ix (ix_tupK (K := K) rfl) (pv 0) pe_int (fun _ _ => rfl)) (pa_cons (pe_ix (ix_tupK (K := K) rfl) (pv 1) pe_int (fun _ _ => rfl)) pa_nil)))) (pss_cons (ps_set (i := 3) sc.nd rfl (by first | exact Or.inl rfl | exact Or.inr rfl) (pe_callBfun cr_gcd rfl m_gcdB (pa_cons (pe_ix (ix_tupK (K := K) rfl) (pv 1) pe_int (fun _ _ => rfl)) (pa_cons (pe_ix (ix_tupK (K := K) rfl) (pv 0) pe_int (fun _ _ => rfl)) pa_nil)))) (pss_one (ps_ret (pe_tup (pa_cons (pe_op op_mulW (pe_op op_fdivW (pe_ix (ix_tupK (K := K) rfl) (pv 0) pe_int (fun _ _ => rfl)) (pv 2)) (pe_op op_fdivW (pe_ix (ix_tupK (K := K) rfl) (pv 1) pe_int (fun _ _ => rfl)) (pv 3))) (pa_cons (pe_op op_mulW (pe_op op_fdivW (pe_ix (ix_tupK (K := K) rfl) (pv 0) pe_int (fun _ _ => rfl)) (pv 3)) (pe_op op_fdivW (pe_ix (ix_tupK (K := K) rfl) (pv 1) pe_int (fun _ _ => rfl)) (pv 2))) pa_nil))))))), ?_⟩
  obtain ⟨va, vb, rfl, ha, hb2⟩ : ∃ va vb, vs = [va, vb] ∧ Dt K b va (nD p) ∧ Dt K b vb (nD q) := by
    cases hA with
    | cons h1 h2 =>
      cases h2 with
      | cons h3 h4 =>
        cases h4
        exact ⟨_, _, rfl, h1, h3⟩
  have A0 : ∀ {σ : L2.St}, σ[0]? = some (some va) → Ev (tOp (rIxT K) (tVar 0) (tC (V.int 0))) σ b (.int p.1) := fun s => ev_num0 (ed_var s ha)
  have A1 : ∀ {σ : L2.St}, σ[0]? = some (some va) → Ev (tOp (rIxT K) (tVar 0) (tC (V.int 1))) σ b (.int p.2) := fun s => ev_num1 (ed_var s ha)
  have B0 : ∀ {σ : L2.St}, σ[1]? = some (some vb) → Ev (tOp (rIxT K) (tVar 1) (tC (V.int 0))) σ b (.int q.1) := fun s => ev_num0 (ed_var s hb2)
  have B1 : ∀ {σ : L2.St}, σ[1]? = some (some vb) → Ev (tOp (rIxT K) (tVar 1) (tC (V.int 1))) σ b (.int q.2) := fun s => ev_num1 (ed_var s hb2)
  have w2000 : ∀ {z : Int}, z.natAbs < 2 ^ 3000 → z.natAbs < 2 ^ 4000 := fun h => Nat.lt_of_lt_of_le h (Nat.pow_le_pow_right (by decide) (by decide))
  have p1 := w2000 bp.1
  have p2 := w2000 bp.2
  have q1 := w2000 bq.1
  have q2 := w2000 bq.2
  have hpos := mul_pos' rp.1 rq.1
  have key := cross_eq rp rq
  have l0 : 0 < Nat.gcd p.1.natAbs q.2.natAbs := Nat.gcd_pos_of_pos_right _ (by have := rq.1; omega)
  have r0 : 0 < Nat.gcd q.1.natAbs p.2.natAbs := Nat.gcd_pos_of_pos_right _ (by have := rp.1; omega)
  have lb : Nat.gcd p.1.natAbs q.2.natAbs < 2 ^ 3000 := Nat.lt_of_le_of_lt (Nat.gcd_le_right _ (by have := rq.1; omega)) bq.2
  have rb : Nat.gcd q.1.natAbs p.2.natAbs < 2 ^ 3000 := Nat.lt_of_le_of_lt (Nat.gcd_le_right _ (by have := rp.1; omega)) bp.2
  have wl : ∀ z : Int, CDivW z ((Nat.gcd p.1.natAbs q.2.natAbs : Nat) : Int) := fun z => wide_div (b := 3000) (by omega) (by simpa using lb) (by decide) (by decide)
  have wr : ∀ z : Int, CDivW z ((Nat.gcd q.1.natAbs p.2.natAbs : Nat) : Int) := fun z => wide_div (b := 3000) (by omega) (by simpa using rb) (by decide) (by decide)
  have dv : ∀ (z : Int) (g : Nat), z.natAbs < 2 ^ 4000 → (z / (g : Int)).natAbs < 2 ^ 4000 := fun z g hz => Nat.lt_of_le_of_lt (Int.natAbs_ediv_le_natAbs z (g : Int)) hz
  refine r_sc (rGcd_ev (A0 rfl) (B1 rfl)) eb fun h1 g1 => ?_
  refine r_sc (rGcd_ev (B0 rfl) (A1 rfl)) g1.gi fun h2 g2 => ?_
  refine r_ret (K := K) (d := nD (crossN p q)) (ed_tup (eda_cons (ed_int (ev_op (ev_op (A0 rfl) (ev_var rfl) (rv_I (wl _))) (ev_op (B0 rfl) (ev_var rfl) (rv_I (wr _))) (rv_I (cmulL (dv _ _ p1) (dv _ _ q1))))) (eda_cons (ed_int (ev_op (ev_op (A1 rfl) (ev_var rfl) (rv_I (wr _))) (ev_op (B1 rfl) (ev_var rfl) (rv_I (wl _))) (rv_I (cmulL (dv _ _ p2) (dv _ _ q2))))) eda_nil)) (by show 2 ≤ 100000; decide)) g2.gi fun v b' h' g hv => ?_
  rw [key] at hv
  exact k v b' h' ((g1.trans g2).trans g) hv

abbrev s_divided : Stmt := top 6
theorem sc_divided : FnScope ["a", "b"] ["a", "b"] (defScope s_divided) := ⟨rfl, rfl, rfl, by decide +kernel, rfl, by decide +kernel, by decide +kernel⟩
theorem has_divided (D : IsDef K mg "divided" s_divided ["a", "b"]) (U : Has P w K mg base 1 "lowest" ["n", "d"] (spLowest K)) : Has P w K mg base 2 "divided" ["a", "b"] (spDivB K) := by
  obtain ⟨f, fd, F, hm, hb⟩ := D
  obtain ⟨f_lowest, fd_lowest, G_lowest, m_lowest, k_lowest, b_lowest⟩ := U
  have sc := sc_divided
  refine ⟨f, fd, F.ok sc (fun vs H Q E x => ?_) (fun cdv A outer s h0 vs Q E hr hs => ?_), hm, F.kp, hb⟩
  · obtain ⟨b, p, q, _, hA, _⟩ := x
    exact hA.length
  obtain ⟨b, p, q, eb, hA, rp, rq, q0, bp, bq, k⟩ := hs
  refine ⟨_, (pss_one (ps_ret (pe_call G_lowest (hr.mono (by decide)) rfl m_lowest k_lowest b_lowest .nil pass0 (pa_cons (pe_op op_mulW (pe_ix (ix_tupK (K := K) rfl) (pv 0) pe_int (fun _ _ => rfl)) (pe_ix (ix_tupK (K := K) rfl) (pv 1) pe_int (fun _ _ => rfl))) (pa_cons (pe_op op_mulW (pe_ix (ix_tupK (K := K) rfl) (pv 0) pe_int (fun _ _ => rfl)) (pe_ix (ix_tupK (K := K) rfl) (pv 1) pe_int (fun _ _ => rfl))) pa_nil))))), ?_⟩
  obtain ⟨va, vb, rfl, ha, hb2⟩ : ∃ va vb, vs = [va, vb] ∧ Dt K b va (nD p) ∧ Dt K b vb (nD q) := by
    cases hA with
    | cons h1 h2 =>
      cases h2 with
      | cons h3 h4 =>
        cases h4
        exact ⟨_, _, rfl, h1, h3⟩
  have A0 : ∀ {σ : L2.St}, σ[0]? = some (some va) → Ev (tOp (rIxT K) (tVar 0) (tC (V.int 0))) σ b (.int p.1) := fun s => ev_num0 (ed_var s ha)
  have A1 : ∀ {σ : L2.St}, σ[0]? = some (some va) → Ev (tOp (rIxT K) (tVar 0) (tC (V.int 1))) σ b (.int p.2) := fun s => ev_num1 (ed_var s ha)
  have B0 : ∀ {σ : L2.St}, σ[1]? = some (some vb) → Ev (tOp (rIxT K) (tVar 1) (tC (V.int 0))) σ b (.int q.1) := fun s => ev_num0 (ed_var s hb2)
  have B1 : ∀ {σ : L2.St}, σ[1]? = some (some vb) → Ev (tOp (rIxT K) (tVar 1) (tC (V.int 1))) σ b (.int q.2) := fun s => ev_num1 (ed_var s hb2)
  have w2000 : ∀ {z : Int}, z.natAbs < 2 ^ 3000 → z.natAbs < 2 ^ 4000 := fun h => Nat.lt_of_lt_of_le h (Nat.pow_le_pow_right (by decide) (by decide))
  have hpos : 0 < p.2 * q.1 := Int.mul_pos (by have := rp.1; omega) q0
  have hlt : (p.2 * q.1).natAbs < 2 ^ (3000 + 3000) := by rw [Int.natAbs_mul]; exact pow_mul_lt bp.2 bq.1
  refine r_ret (K := K) (d := nD (divN p q)) (ed_lowest (ev_op (A0 rfl) (B1 rfl) (rv_I (cmulL (w2000 bp.1) (w2000 bq.2)))) (ev_op (A1 rfl) (B0 rfl) (rv_I (cmulL (w2000 bp.2) (w2000 bq.1)))) hpos (Nat.lt_of_lt_of_le hlt (Nat.pow_le_pow_right (by decide) (by decide)))) eb fun v b' h' g hv => k v b' h' g hv

abbrev s_minus : Stmt := top 4
theorem sc_minus : FnScope ["a", "b"] ["a", "b"] (defScope s_minus) := ⟨rfl, rfl, rfl, by decide +kernel, rfl, by decide +kernel, by decide +kernel⟩
theorem has_minusR (D : IsDef K mg "minus" s_minus ["a", "b"]) (U : Has P w K mg base 1 "lowest" ["n", "d"] (spLowest K)) : Has P w K mg base 2 "minus" ["a", "b"] (spMinusR K) := by
  obtain ⟨f, fd, F, hm, hb⟩ := D
  obtain ⟨f_lowest, fd_lowest, G_lowest, m_lowest, k_lowest, b_lowest⟩ := U
  have sc := sc_minus
  refine ⟨f, fd, F.ok sc (fun vs H Q E x => ?_) (fun cdv A outer s h0 vs Q E hr hs => ?_), hm, F.kp, hb⟩
  · obtain ⟨b, r, s, _, hA, _⟩ := x
    exact hA.length
  obtain ⟨b, r, s, eb, hA, h1, h2, kQ⟩ := hs
  refine ⟨_, (pss_one (ps_ret (pe_call G_lowest (hr.mono (by decide)) rfl m_lowest k_lowest b_lowest .nil pass0 (pa_cons (pe_op op_sub (pe_op op_mulW (pe_ix (ix_tupK (K := K) rfl) (pv 0) pe_int (fun _ _ => rfl)) (pe_ix (ix_tupK (K := K) rfl) (pv 1) pe_int (fun _ _ => rfl))) (pe_op op_mulW (pe_ix (ix_tupK (K := K) rfl) (pv 1) pe_int (fun _ _ => rfl)) (pe_ix (ix_tupK (K := K) rfl) (pv 0) pe_int (fun _ _ => rfl)))) (pa_cons (pe_op op_mulW (pe_ix (ix_tupK (K := K) rfl) (pv 0) pe_int (fun _ _ => rfl)) (pe_ix (ix_tupK (K := K) rfl) (pv 1) pe_int (fun _ _ => rfl))) pa_nil))))), ?_⟩
  obtain ⟨va, vb, rfl, ha, hb2⟩ : ∃ va vb, vs = [va, vb] ∧ Dt K b va (nD (canon r)) ∧ Dt K b vb (nD (canon s)) := by
    cases hA with
    | cons h1 h2 =>
      cases h2 with
      | cons h3 h4 =>
        cases h4
        exact ⟨_, _, rfl, h1, h3⟩
  have A0 : ∀ {σ : L2.St}, σ[0]? = some (some va) → Ev (tOp (rIxT K) (tVar 0) (tC (V.int 0))) σ b (.int (canon r).1) := fun s => ev_num0 (ed_var s ha)
  have A1 : ∀ {σ : L2.St}, σ[0]? = some (some va) → Ev (tOp (rIxT K) (tVar 0) (tC (V.int 1))) σ b (.int (canon r).2) := fun s => ev_num1 (ed_var s ha)
  have B0 : ∀ {σ : L2.St}, σ[1]? = some (some vb) → Ev (tOp (rIxT K) (tVar 1) (tC (V.int 0))) σ b (.int (canon s).1) := fun s => ev_num0 (ed_var s hb2)
  have B1 : ∀ {σ : L2.St}, σ[1]? = some (some vb) → Ev (tOp (rIxT K) (tVar 1) (tC (V.int 1))) σ b (.int (canon s).2) := fun s => ev_num1 (ed_var s hb2)
  have w4 : ∀ {z : Int}, z.natAbs < 2 ^ 3000 → z.natAbs < 2 ^ 4000 := fun h => Nat.lt_of_lt_of_le h (Nat.pow_le_pow_right (by decide) (by decide))
  have p1 := (canon_red r).1
  have p2 := (canon_red s).1
  have hpos : 0 < (canon r).2 * (canon s).2 := Int.mul_pos (by omega) (by omega)
  have hlt : ((canon r).2 * (canon s).2).natAbs < 2 ^ (3000 + 3000) := by rw [Int.natAbs_mul]; exact pow_mul_lt h1.2 h2.2
  have e : nD (num ((canon r).1 * (canon s).2 - (canon s).1 * (canon r).2) ((canon r).2 * (canon s).2)) = nQ (r - s) := by
    show nD (num _ _) = nD (canon _)
    rw [num_canon hpos, Rat.intCast_sub, Rat.intCast_mul, Rat.intCast_mul, Rat.intCast_mul]
    congr 2
    have a := q_canon r
    have c := q_canon s
    unfold qN at a c
    have n1 : (((canon r).2 : Int) : Rat) ≠ 0 := cast_ne (by omega)
    have n2 : (((canon s).2 : Int) : Rat) ≠ 0 := cast_ne (by omega)
    generalize (((canon r).1 : Int) : Rat) = A at *
    generalize (((canon r).2 : Int) : Rat) = A2 at *
    generalize (((canon s).1 : Int) : Rat) = S at *
    generalize (((canon s).2 : Int) : Rat) = S2 at *
    rw [← a, ← c]
    grind
  refine r_ret (K := K) (d := nQ (r - s)) (by
    rw [← e]
    exact ed_lowest (ev_op (ev_op (A0 rfl) (B1 rfl) (rv_I (cmulL (w4 h1.1) (w4 h2.2)))) (ev_op (B0 rfl) (A1 rfl) (rv_I (cmulL (w4 h2.1) (w4 h1.2)))) rv_I0) (ev_op (A1 rfl) (B1 rfl) (rv_I (cmulL (w4 h1.2) (w4 h2.2)))) hpos (Nat.lt_of_lt_of_le hlt (Nat.pow_le_pow_right (by decide) (by decide)))) eb fun v b' h' g hv => kQ v b' h' g hv

abbrev s_is_less : Stmt := top 7
theorem sc_is_less : FnScope ["a", "b"] ["a", "b"] (defScope s_is_less) := ⟨rfl, rfl, rfl, by decide +kernel, rfl, by decide +kernel, by decide +kernel⟩
theorem has_is_less (D : IsDef K mg "is_less" s_is_less ["a", "b"]) : Has P w K mg base 1 "is_less" ["a", "b"] (spLess K 3000) := by
  obtain ⟨f, fd, F, hm, hb⟩ := D
  have sc := sc_is_less
  refine ⟨f, fd, F.ok sc (fun vs H Q E x => ?_) (fun cdv A outer s h0 vs Q E hr hs => ?_), hm, F.kp, hb⟩
  · obtain ⟨b, r, s, _, hA, _⟩ := x
    exact hA.length
  obtain ⟨b, r, s, eb, hA, h1, h2, kQ⟩ := hs
  refine ⟨_, (pss_one (ps_ret (pe_cmpR op_lt (pe_op op_mulW (pe_ix (ix_tupK (K := K) rfl) (pv 0) pe_int (fun _ _ => rfl)) (pe_ix (ix_tupK (K := K) rfl) (pv 1) pe_int (fun _ _ => rfl))) (pe_op op_mulW (pe_ix (ix_tupK (K := K) rfl) (pv 1) pe_int (fun _ _ => rfl)) (pe_ix (ix_tupK (K := K) rfl) (pv 0) pe_int (fun _ _ => rfl))) (nomark _)))), ?_⟩
  obtain ⟨va, vb, rfl, ha, hb2⟩ : ∃ va vb, vs = [va, vb] ∧ Dt K b va (nD (canon r)) ∧ Dt K b vb (nD (canon s)) := by
    cases hA with
    | cons h1 h2 =>
      cases h2 with
      | cons h3 h4 =>
        cases h4
        exact ⟨_, _, rfl, h1, h3⟩
  have A0 : ∀ {σ : L2.St}, σ[0]? = some (some va) → Ev (tOp (rIxT K) (tVar 0) (tC (V.int 0))) σ b (.int (canon r).1) := fun s => ev_num0 (ed_var s ha)
  have A1 : ∀ {σ : L2.St}, σ[0]? = some (some va) → Ev (tOp (rIxT K) (tVar 0) (tC (V.int 1))) σ b (.int (canon r).2) := fun s => ev_num1 (ed_var s ha)
  have B0 : ∀ {σ : L2.St}, σ[1]? = some (some vb) → Ev (tOp (rIxT K) (tVar 1) (tC (V.int 0))) σ b (.int (canon s).1) := fun s => ev_num0 (ed_var s hb2)
  have B1 : ∀ {σ : L2.St}, σ[1]? = some (some vb) → Ev (tOp (rIxT K) (tVar 1) (tC (V.int 1))) σ b (.int (canon s).2) := fun s => ev_num1 (ed_var s hb2)
  have w4 : ∀ {z : Int}, z.natAbs < 2 ^ 3000 → z.natAbs < 2 ^ 4000 := fun h => Nat.lt_of_lt_of_le h (Nat.pow_le_pow_right (by decide) (by decide))
  have key : Ev (tOp (rI0 fun i j => .bl (decide (i < j))) (tOp (rI CMulW fun i j => .int (i * j)) (tOp (rIxT K) (tVar 0) (tC (V.int 0))) (tOp (rIxT K) (tVar 1) (tC (V.int 1)))) (tOp (rI CMulW fun i j => .int (i * j)) (tOp (rIxT K) (tVar 1) (tC (V.int 0))) (tOp (rIxT K) (tVar 0) (tC (V.int 1))))) [some va, some vb] b (.bl (decide (r < s))) := by
    rw [← less_canon]
    exact ev_op (ev_op (A0 rfl) (B1 rfl) (rv_I (cmulL (w4 h1.1) (w4 h2.2)))) (ev_op (B0 rfl) (A1 rfl) (rv_I (cmulL (w4 h2.1) (w4 h1.2)))) rv_I0
  exact Evl.s_ret (H := h0) (Ev.mono eb key) fun h' e' => kQ h' e'

abbrev s_greatest : Stmt := top 8
theorem sc_greatest : FnScope ["numbers", "found", "number"] ["numbers"] (defScope s_greatest) := ⟨rfl, rfl, rfl, by decide +kernel, rfl, by decide +kernel, by decide +kernel⟩
theorem has_greatest (D : IsDef K mg "greatest" s_greatest ["numbers"]) (U : Has P w K mg base 1 "is_less" ["a", "b"] (spLess K 3000)) : Has P w K mg base 2 "greatest" ["numbers"] (spHi K) := by
  obtain ⟨f, fd, F, hm, hb⟩ := D
  obtain ⟨f_is_less, fd_is_less, G_is_less, m_is_less, k_is_less, b_is_less⟩ := U
  have sc := sc_greatest
  refine ⟨f, fd, F.ok sc (fun vs H Q E x => ?_) (fun cdv A outer s h0 vs Q E hr hs => ?_), hm, F.kp, hb⟩
  · obtain ⟨b, n, g, _, hA, _⟩ := x
    exact hA.length
  obtain ⟨b, n, g, eb, hA, hn, hbig, kQ⟩ := hs
  refine ⟨_, (pss_cons (ps_set (i := 1) sc.nd rfl (by first | exact Or.inl rfl | exact Or.inr rfl) (pe_ix (ix_listK (K := K) rfl) (pv 0) pe_int (fun _ _ => rfl))) (pss_cons (ps_for PassesOwn.never rfl (pi_listK (K := K) rfl (pv 0)) (pg_name (i := 2) sc.nd rfl (by first | exact Or.inl rfl | exact Or.inr rfl)) (pss_one (ps_if (pt_val (pe_call G_is_less (hr.mono (by decide)) rfl m_is_less k_is_less b_is_less .nil pass0 (pa_cons (pv 1) (pa_cons (pv 2) pa_nil)))) (pss_one (ps_set (i := 1) sc.nd rfl (by first | exact Or.inl rfl | exact Or.inr rfl) (pv 2))) pss_nil))) (pss_one (ps_ret (pv 1))))), ?_⟩
  obtain ⟨vL, rfl, hL⟩ : ∃ vL, vs = [vL] ∧ Dt K b vL (.list ((List.range n).map fun k => nQ (g k))) := by
    cases hA with
    | cons h1 h2 =>
      cases h2
      exact ⟨_, rfl, h1⟩
  refine r_set (K := K) (d := nQ (g 0)) (ed_ixL (ed_var rfl hL) ev_c (show L2.atI ((List.range n).map fun k => nQ (g k)) ((0 : Nat) : Int) = _ from listQ_at hn)) eb fun v1 b1 h1 g1 hv1 => ?_
  refine r_forL (K := K) (ds := (List.range n).map fun k => nQ (g k)) (ed_var rfl (hL.up g1.gb)) g1.gi fun a xs b2 h2 g2 _ _ => ⟨fun i σ' h' => ∃ (v : V) (u : Option V) (b' : Hp), σ' = [some vL, some v, u] ∧ Gr b2 h2 b' h' ∧ Dt K b' v (nQ (hiQ g i)), ⟨v1, none, b2, rfl, Gr.refl g2.gi, hv1.up g2.gb⟩, fun i σ' h' p => ?_, ?_, ?_⟩
  · obtain ⟨_, _, b', _, g, _⟩ := p
    exact g.gb.trans g.gi
  · rintro i d xv σ' h' hd hx ⟨v, u, b', rfl, gi, hv⟩
    have hi : i < n := by
      have := (List.getElem?_eq_some_iff.mp hd).1
      rwa [List.length_map, List.length_range] at this
    rw [List.getElem?_map, List.getElem?_range hi] at hd
    cases hd
    obtain ⟨j, hj, ej⟩ := hi_mem (f := g) hn i (Nat.le_of_lt hi)
    have bg : Big 3000 (canon (hiQ g i)) := by
      rw [ej]
      exact hbig j hj
    have hx' : Dt K b' xv (nQ (g i)) := hx.up gi.gb
    refine r_if1 (b := b') (c := decide (hiQ g i < g i)) (et_B (ev_less (eda_cons (ed_var rfl hv) (eda_cons (ed_var rfl hx') eda_nil)) bg (hbig i hi))) gi.gi (fun hc h3 g3 => ?_) (fun hc h3 g3 => ?_)
    · refine r_set1 (K := K) (ed_var rfl hx') g3.gi fun v4 b4 h4 g4 hv4 => ?_
      refine ⟨v4, _, b4, rfl, (gi.trans g3).trans g4, ?_⟩
      have e : hiQ g (i + 1) = g i := if_pos hc
      rw [e]
      exact hv4
    · refine ⟨v, _, b', rfl, gi.trans g3, ?_⟩
      have e : hiQ g (i + 1) = hiQ g i := if_neg (by rw [hc]; decide)
      rw [e]
      exact hv
  · rintro σ' h' ⟨v, u, b', rfl, gi, hv⟩
    rw [List.length_map, List.length_range] at hv
    exact ⟨_, rfl, kQ v b' h' ((g1.trans g2).trans gi) hv⟩
abbrev s_least : Stmt := top 9
theorem sc_least : FnScope ["numbers", "found", "number"] ["numbers"] (defScope s_least) := ⟨rfl, rfl, rfl, by decide +kernel, rfl, by decide +kernel, by decide +kernel⟩
theorem has_least (D : IsDef K mg "least" s_least ["numbers"]) (U : Has P w K mg base 1 "is_less" ["a", "b"] (spLess K 3000)) : Has P w K mg base 2 "least" ["numbers"] (spLo K) := by
  obtain ⟨f, fd, F, hm, hb⟩ := D
  obtain ⟨f_is_less, fd_is_less, G_is_less, m_is_less, k_is_less, b_is_less⟩ := U
  have sc := sc_least
  refine ⟨f, fd, F.ok sc (fun vs H Q E x => ?_) (fun cdv A outer s h0 vs Q E hr hs => ?_), hm, F.kp, hb⟩
  · obtain ⟨b, n, g, _, hA, _⟩ := x
    exact hA.length
  obtain ⟨b, n, g, eb, hA, hn, hbig, kQ⟩ := hs
  refine ⟨_, (pss_cons (ps_set (i := 1) sc.nd rfl (by first | exact Or.inl rfl | exact Or.inr rfl) (pe_ix (ix_listK (K := K) rfl) (pv 0) pe_int (fun _ _ => rfl))) (pss_cons (ps_for PassesOwn.never rfl (pi_listK (K := K) rfl (pv 0)) (pg_name (i := 2) sc.nd rfl (by first | exact Or.inl rfl | exact Or.inr rfl)) (pss_one (ps_if (pt_val (pe_call G_is_less (hr.mono (by decide)) rfl m_is_less k_is_less b_is_less .nil pass0 (pa_cons (pv 2) (pa_cons (pv 1) pa_nil)))) (pss_one (ps_set (i := 1) sc.nd rfl (by first | exact Or.inl rfl | exact Or.inr rfl) (pv 2))) pss_nil))) (pss_one (ps_ret (pv 1))))), ?_⟩
  obtain ⟨vL, rfl, hL⟩ : ∃ vL, vs = [vL] ∧ Dt K b vL (.list ((List.range n).map fun k => nQ (g k))) := by
    cases hA with
    | cons h1 h2 =>
      cases h2
      exact ⟨_, rfl, h1⟩
  refine r_set (K := K) (d := nQ (g 0)) (ed_ixL (ed_var rfl hL) ev_c (show L2.atI ((List.range n).map fun k => nQ (g k)) ((0 : Nat) : Int) = _ from listQ_at hn)) eb fun v1 b1 h1 g1 hv1 => ?_
  refine r_forL (K := K) (ds := (List.range n).map fun k => nQ (g k)) (ed_var rfl (hL.up g1.gb)) g1.gi fun a xs b2 h2 g2 _ _ => ⟨fun i σ' h' => ∃ (v : V) (u : Option V) (b' : Hp), σ' = [some vL, some v, u] ∧ Gr b2 h2 b' h' ∧ Dt K b' v (nQ (loQ g i)), ⟨v1, none, b2, rfl, Gr.refl g2.gi, hv1.up g2.gb⟩, fun i σ' h' p => ?_, ?_, ?_⟩
  · obtain ⟨_, _, b', _, g, _⟩ := p
    exact g.gb.trans g.gi
  · rintro i d xv σ' h' hd hx ⟨v, u, b', rfl, gi, hv⟩
    have hi : i < n := by
      have := (List.getElem?_eq_some_iff.mp hd).1
      rwa [List.length_map, List.length_range] at this
    rw [List.getElem?_map, List.getElem?_range hi] at hd
    cases hd
    obtain ⟨j, hj, ej⟩ := lo_mem (f := g) hn i (Nat.le_of_lt hi)
    have bg : Big 3000 (canon (loQ g i)) := by
      rw [ej]
      exact hbig j hj
    have hx' : Dt K b' xv (nQ (g i)) := hx.up gi.gb
    refine r_if1 (b := b') (c := decide (g i < loQ g i)) (et_B (ev_less (eda_cons (ed_var rfl hx') (eda_cons (ed_var rfl hv) eda_nil)) (hbig i hi) bg)) gi.gi (fun hc h3 g3 => ?_) (fun hc h3 g3 => ?_)
    · refine r_set1 (K := K) (ed_var rfl hx') g3.gi fun v4 b4 h4 g4 hv4 => ?_
      refine ⟨v4, _, b4, rfl, (gi.trans g3).trans g4, ?_⟩
      have e : loQ g (i + 1) = g i := if_pos hc
      rw [e]
      exact hv4
    · refine ⟨v, _, b', rfl, gi.trans g3, ?_⟩
      have e : loQ g (i + 1) = loQ g i := if_neg (by rw [hc]; decide)
      rw [e]
      exact hv
  · rintro σ' h' ⟨v, u, b', rfl, gi, hv⟩
    rw [List.length_map, List.length_range] at hv
    exact ⟨_, rfl, kQ v b' h' ((g1.trans g2).trans gi) hv⟩

abbrev s_width : Stmt := top 10
theorem sc_width : FnScope ["numbers"] ["numbers"] (defScope s_width) := ⟨rfl, rfl, rfl, by decide +kernel, rfl, by decide +kernel, by decide +kernel⟩
theorem has_width (D : IsDef K mg "width" s_width ["numbers"]) (U1 : Has P w K mg base 2 "greatest" ["numbers"] (spHi K)) (U2 : Has P w K mg base 2 "least" ["numbers"] (spLo K)) (U3 : Has P w K mg base 2 "minus" ["a", "b"] (spMinusR K)) : Has P w K mg base 3 "width" ["numbers"] (spWide K) := by
  obtain ⟨f, fd, F, hm, hb⟩ := D
  obtain ⟨f_greatest, fd_greatest, G_greatest, m_greatest, k_greatest, b_greatest⟩ := U1
  obtain ⟨f_least, fd_least, G_least, m_least, k_least, b_least⟩ := U2
  obtain ⟨f_minus, fd_minus, G_minus, m_minus, k_minus, b_minus⟩ := U3
  have sc := sc_width
  refine ⟨f, fd, F.ok sc (fun vs H Q E x => ?_) (fun cdv A outer s h0 vs Q E hr hs => ?_), hm, F.kp, hb⟩
  · obtain ⟨b, n, g, _, hA, _⟩ := x
    exact hA.length
  obtain ⟨b, n, g, eb, hA, hn, hbig, kQ⟩ := hs
  refine ⟨_, (pss_one (ps_ret (pe_call G_minus (hr.mono (by decide)) rfl m_minus k_minus b_minus .nil pass0 (pa_cons (pe_call G_greatest (hr.mono (by decide)) rfl m_greatest k_greatest b_greatest .nil pass0 (pa_cons (pv 0) pa_nil)) (pa_cons (pe_call G_least (hr.mono (by decide)) rfl m_least k_least b_least .nil pass0 (pa_cons (pv 0) pa_nil)) pa_nil))))), ?_⟩
  obtain ⟨vL, rfl, hL⟩ : ∃ vL, vs = [vL] ∧ Dt K b vL (listQ n g) := by
    cases hA with
    | cons h1 h2 =>
      cases h2
      exact ⟨_, rfl, h1⟩
  have hb3 : ∀ y, y < n → Big 3000 (canon (g y)) := fun y hy => (hbig y hy).mono (by decide)
  obtain ⟨j1, hj1, e1⟩ := hi_mem (f := g) hn n (Nat.le_refl _)
  obtain ⟨j2, hj2, e2⟩ := lo_mem (f := g) hn n (Nat.le_refl _)
  refine r_ret (K := K) (d := nQ (hiQ g n - loQ g n)) (ed_minusR (eda_cons (ed_hi (eda_cons (ed_var rfl hL) eda_nil) hn hb3) (eda_cons (ed_lo (eda_cons (ed_var rfl hL) eda_nil) hn hb3) eda_nil)) (by rw [e1]; exact hb3 _ hj1) (by rw [e2]; exact hb3 _ hj2)) eb fun v b' h' g hv => kQ v b' h' g hv
abbrev s__due : Stmt := top 15
theorem sc__due : FnScope ["rows", "place", "count", "gains", "leads"] ["rows", "place", "count"] (defScope s__due) := ⟨rfl, rfl, rfl, by decide +kernel, rfl, by decide +kernel, by decide +kernel⟩
theorem has_due (D : IsDef K mg "_due" s__due ["rows", "place", "count"]) (U1 : Has P w K mg base 3 "plus" ["a", "b"] (spNum2B K 3000 plusN)) (U2 : Has P w K mg base 3 "times" ["a", "b"] (spNum2B K 3000 timesN)) : Has P w K mg base 4 "_due" ["rows", "place", "count"] (spDue K) := by
  obtain ⟨f, fd, F, hm, hb⟩ := D
  obtain ⟨f_plus, fd_plus, G_plus, m_plus, k_plus, b_plus⟩ := U1
  obtain ⟨f_times, fd_times, G_times, m_times, k_times, b_times⟩ := U2
  have sc := sc__due
  refine ⟨f, fd, F.ok sc (fun vs H Q E x => ?_) (fun cdv A outer s h0 vs Q E hr hs => ?_), hm, F.kp, hb⟩
  · obtain ⟨b, n, g, h, x, t, _, hA, _⟩ := x
    exact hA.length
  obtain ⟨b, n, g, l, x, t, eb, hA, hx, ht, hg, hl, kQ⟩ := hs
  refine ⟨_, (pss_cons (ps_asg (pv 0) (pg_tupK (K := K) (n := 2) rfl rfl (pgs_cons (pg_name (i := 3) sc.nd rfl (by first | exact Or.inl rfl | exact Or.inr rfl)) (pgs_cons (pg_name (i := 4) sc.nd rfl (by first | exact Or.inl rfl | exact Or.inr rfl)) pgs_nil)))) (pss_one (ps_ret (pe_call G_plus (hr.mono (by decide)) rfl m_plus k_plus b_plus .nil pass0 (pa_cons (pe_call G_times (hr.mono (by decide)) rfl m_times k_times b_times .nil pass0 (pa_cons (pe_tup (pa_cons (pv 2) (pa_cons pe_int pa_nil))) (pa_cons (pe_ix (ix_listK (K := K) rfl) (pv 3) (pv 1) (fun _ _ => rfl)) pa_nil))) (pa_cons (pe_ix (ix_listK (K := K) rfl) (pv 4) (pv 1) (fun _ _ => rfl)) pa_nil)))))), ?_⟩
  obtain ⟨vR, rfl, hR⟩ : ∃ vR, vs = [vR, .int (x : Int), .int (t : Int)] ∧ Dt K b vR (rowsD n g l) := by
    cases hA with
    | cons h1 h2 => exact ⟨_, by rw [h2.i2], h1⟩
  refine r_asg (K := K) (d := rowsD n g l) (ed_var rfl hR) eb fun v1 b1 h1 g1 hv1 => ?_
  refine g_two hv1 g1.gi fun w1 w2 k1 k2 => ?_
  have ht1 : nD ((t : Int), 1) = nQ (natR t) := by
    unfold nQ
    rw [show natR t = ((t : Int) : Rat) from rfl, canon_int]
  have b1 : Big 500 (canon (natR t)) := by
    rw [show natR t = ((t : Int) : Rat) from rfl, canon_int]
    refine ⟨?_, ?_⟩
    · exact Nat.lt_of_lt_of_le (show ((t : Int)).natAbs < 2 ^ 20 by rw [Int.natAbs_natCast]; omega) (Nat.pow_le_pow_right (by decide) (by decide))
    · exact Nat.lt_of_lt_of_le (show ((1 : Int)).natAbs < 2 ^ 1 by decide) (Nat.pow_le_pow_right (by decide) (by decide))
  have b2 := hg x hx
  have b3 : Big 3000 (canon (natR t * g x)) := by
    exact (bigQ_times b1 b2).mono (by decide)
  refine r_ret (K := K) (d := nQ (natR t * g x + l x)) (ed_plusR (eda_cons (ed_timesR (eda_cons (by
    rw [← ht1]
    exact ed_tup (eda_cons (ed_int (ev_var rfl)) (eda_cons (ed_int ev_c) eda_nil)) (by show 2 ≤ 100000; decide)) (eda_cons (ed_ixL (ed_var rfl k1) (ev_var rfl) (listQ_at hx)) eda_nil)) (b1.mono (by decide)) (b2.mono (by decide))) (eda_cons (ed_ixL (ed_var rfl k2) (ev_var rfl) (listQ_at hx)) eda_nil)) b3 ((hl x hx).mono (by decide))) g1.gi fun v b' h' g hv => kQ v b' h' (g1.trans g) hv
abbrev s_sums_at_least : Stmt := top 12
theorem sc_sums_at_least : FnScope ["rows", "place", "count"] ["rows", "place", "count"] (defScope s_sums_at_least) := ⟨rfl, rfl, rfl, by decide +kernel, rfl, by decide +kernel, by decide +kernel⟩
theorem has_sums_least (D : IsDef K mg "sums_at_least" s_sums_at_least ["rows", "place", "count"]) (U1 : Has P w K mg base 4 "_due" ["rows", "place", "count"] (spDue K)) (U2 : Has P w K mg base 2 "greatest" ["numbers"] (spHi K)) (U3 : Has P w K mg base 2 "minus" ["a", "b"] (spMinusR K)) : Has P w K mg base 5 "sums_at_least" ["rows", "place", "count"] (spSums K true) := by
  obtain ⟨f, fd, F, hm, hb⟩ := D
  obtain ⟨f__due, fd__due, G__due, m__due, k__due, b__due⟩ := U1
  obtain ⟨f_greatest, fd_greatest, G_greatest, m_greatest, k_greatest, b_greatest⟩ := U2
  obtain ⟨f_minus, fd_minus, G_minus, m_minus, k_minus, b_minus⟩ := U3
  have sc := sc_sums_at_least
  refine ⟨f, fd, F.ok sc (fun vs H Q E x => ?_) (fun cdv A outer s h0 vs Q E hr hs => ?_), hm, F.kp, hb⟩
  · obtain ⟨b, n, g, h, x, t, _, hA, _⟩ := x
    exact hA.length
  obtain ⟨b, n, g, l, x, t, eb, hA, hx, ht, hg, hl, kQ⟩ := hs
  refine ⟨_, (pss_one (ps_ret (pe_call G_minus (hr.mono (by decide)) rfl m_minus k_minus b_minus .nil pass0 (pa_cons (pe_call G__due (hr.mono (by decide)) rfl m__due k__due b__due .nil pass0 (pa_cons (pv 0) (pa_cons (pv 1) (pa_cons (pv 2) pa_nil)))) (pa_cons (pe_call G_greatest (hr.mono (by decide)) rfl m_greatest k_greatest b_greatest .nil pass0 (pa_cons (pe_ix (ix_tupK (K := K) rfl) (pv 0) pe_int (fun _ _ => rfl)) pa_nil)) pa_nil))))), ?_⟩
  obtain ⟨vR, rfl, hR⟩ : ∃ vR, vs = [vR, .int (x : Int), .int (t : Int)] ∧ Dt K b vR (rowsD n g l) := by
    cases hA with
    | cons h1 h2 => exact ⟨_, by rw [h2.i2], h1⟩
  have hb3 : ∀ y, y < n → Big 3000 (canon (l y)) := fun y hy => (hl y hy).mono (by decide)
  have hn : 0 < n := by omega
  obtain ⟨j1, hj1, e1⟩ := hi_mem (f := l) hn n (Nat.le_refl _)
  refine r_ret (K := K) (d := nQ (natR t * g x + l x - hiQ l n)) (ed_minusR (eda_cons (ed_due (eda_cons (ed_var rfl hR) (eda_cons (ed_int (ev_var rfl)) (eda_cons (ed_int (ev_var rfl)) eda_nil))) hx ht hg hl) (eda_cons (ed_hi (eda_cons (ed_ixT (ds := [listQ n g, listQ n l]) (ed_var rfl hR) ev_c rfl) eda_nil) hn hb3) eda_nil)) (bigQ_due hx ht hg hl) (by rw [e1]; exact hb3 _ hj1)) eb fun v b' h' g hv => kQ v b' h' g hv
abbrev s_sums_at_most : Stmt := top 13
theorem sc_sums_at_most : FnScope ["rows", "place", "count"] ["rows", "place", "count"] (defScope s_sums_at_most) := ⟨rfl, rfl, rfl, by decide +kernel, rfl, by decide +kernel, by decide +kernel⟩
theorem has_sums_most (D : IsDef K mg "sums_at_most" s_sums_at_most ["rows", "place", "count"]) (U1 : Has P w K mg base 4 "_due" ["rows", "place", "count"] (spDue K)) (U2 : Has P w K mg base 2 "least" ["numbers"] (spLo K)) (U3 : Has P w K mg base 2 "minus" ["a", "b"] (spMinusR K)) : Has P w K mg base 5 "sums_at_most" ["rows", "place", "count"] (spSums K false) := by
  obtain ⟨f, fd, F, hm, hb⟩ := D
  obtain ⟨f__due, fd__due, G__due, m__due, k__due, b__due⟩ := U1
  obtain ⟨f_least, fd_least, G_least, m_least, k_least, b_least⟩ := U2
  obtain ⟨f_minus, fd_minus, G_minus, m_minus, k_minus, b_minus⟩ := U3
  have sc := sc_sums_at_most
  refine ⟨f, fd, F.ok sc (fun vs H Q E x => ?_) (fun cdv A outer s h0 vs Q E hr hs => ?_), hm, F.kp, hb⟩
  · obtain ⟨b, n, g, h, x, t, _, hA, _⟩ := x
    exact hA.length
  obtain ⟨b, n, g, l, x, t, eb, hA, hx, ht, hg, hl, kQ⟩ := hs
  refine ⟨_, (pss_one (ps_ret (pe_call G_minus (hr.mono (by decide)) rfl m_minus k_minus b_minus .nil pass0 (pa_cons (pe_call G__due (hr.mono (by decide)) rfl m__due k__due b__due .nil pass0 (pa_cons (pv 0) (pa_cons (pv 1) (pa_cons (pv 2) pa_nil)))) (pa_cons (pe_call G_least (hr.mono (by decide)) rfl m_least k_least b_least .nil pass0 (pa_cons (pe_ix (ix_tupK (K := K) rfl) (pv 0) pe_int (fun _ _ => rfl)) pa_nil)) pa_nil))))), ?_⟩
  obtain ⟨vR, rfl, hR⟩ : ∃ vR, vs = [vR, .int (x : Int), .int (t : Int)] ∧ Dt K b vR (rowsD n g l) := by
    cases hA with
    | cons h1 h2 => exact ⟨_, by rw [h2.i2], h1⟩
  have hb3 : ∀ y, y < n → Big 3000 (canon (l y)) := fun y hy => (hl y hy).mono (by decide)
  have hn : 0 < n := by omega
  obtain ⟨j1, hj1, e1⟩ := lo_mem (f := l) hn n (Nat.le_refl _)
  refine r_ret (K := K) (d := nQ (natR t * g x + l x - loQ l n)) (ed_minusR (eda_cons (ed_due (eda_cons (ed_var rfl hR) (eda_cons (ed_int (ev_var rfl)) (eda_cons (ed_int (ev_var rfl)) eda_nil))) hx ht hg hl) (eda_cons (ed_lo (eda_cons (ed_ixT (ds := [listQ n g, listQ n l]) (ed_var rfl hR) ev_c rfl) eda_nil) hn hb3) eda_nil)) (bigQ_due hx ht hg hl) (by rw [e1]; exact hb3 _ hj1)) eb fun v b' h' g hv => kQ v b' h' g hv
abbrev s_steps_for : Stmt := top 14
theorem sc_steps_for : FnScope ["rows", "near", "n", "d"] ["rows", "near"] (defScope s_steps_for) := ⟨rfl, rfl, rfl, by decide +kernel, rfl, by decide +kernel, by decide +kernel⟩
theorem has_steps_near (T : Bt mg) (D : IsDef0 K mg "steps_for" s_steps_for) (U1 : Has P w K mg base 3 "width" ["numbers"] (spWide K)) (U2 : Has P w K mg base 2 "divided" ["a", "b"] (spDivB K)) : HasK P w K mg base 4 "steps_for" ["rows", "near"] ["near"] 1 1 (spStepsN K) := by
  obtain ⟨f, fd, F, hm⟩ := D
  obtain ⟨f_width, fd_width, G_width, m_width, k_width, b_width⟩ := U1
  obtain ⟨f_divided, fd_divided, G_divided, m_divided, k_divided, b_divided⟩ := U2
  have sc := sc_steps_for
  refine ⟨f, fd, F.ok sc (fun vs H Q E x => ?_) (fun cdv A outer s h0 vs Q E hr hs => ?_), hm, F.kp, kb_of F (by decide) fun _ _ _ _ _ _ us ws hu hw => match us, ws, hu, hw with | [_], [_], _, _ => rfl⟩
  · obtain ⟨b, n, g, h, e, _, hA, _⟩ := x
    exact hA.length
  obtain ⟨b, n, g, l, er, eb, hA, hn, hl, he, hbe, kQ⟩ := hs
  refine ⟨_, (pss_cons (ps_asg (pe_call G_divided (hr.mono (by decide)) rfl m_divided k_divided b_divided .nil pass0 (pa_cons (pe_call G_width (hr.mono (by decide)) rfl m_width k_width b_width .nil pass0 (pa_cons (pe_ix (ix_tupK (K := K) rfl) (pv 0) pe_int (fun _ _ => rfl)) pa_nil)) (pa_cons (pv 1) pa_nil))) (pg_tupK (K := K) (n := 2) rfl rfl (pgs_cons (pg_name (i := 2) sc.nd rfl (by first | exact Or.inl rfl | exact Or.inr rfl)) (pgs_cons (pg_name (i := 3) sc.nd rfl (by first | exact Or.inl rfl | exact Or.inr rfl)) pgs_nil)))) (pss_one (ps_ret (pe_callB (call_max2 rfl) (by rfl) T.max (by decide +kernel) (pa_cons pe_int (pa_cons (pe_un un_neg (pe_op op_fdivW (pe_un un_neg (pv 2)) (pv 3))) pa_nil)))))), ?_⟩
  obtain ⟨vR, vE, rfl, hR, hE⟩ : ∃ vR vE, vs = [vR, vE] ∧ Dt K b vR (rowsD n g l) ∧ Dt K b vE (nQ er) := by
    cases hA with
    | cons h1 h2 =>
      cases h2 with
      | cons h3 h4 =>
        cases h4
        exact ⟨_, _, rfl, h1, h3⟩
  obtain ⟨j1, hj1, e1⟩ := hi_mem (f := l) hn n (Nat.le_refl _)
  obtain ⟨j2, hj2, e2⟩ := lo_mem (f := l) hn n (Nat.le_refl _)
  have bw : Big 1100 (canon (hiQ l n - loQ l n)) := by
    rw [e1, e2]
    exact (bigQ_minus (hl j1 hj1) (hl j2 hj2)).mono (by decide)
  have bq : Big 1700 (canon ((hiQ l n - loQ l n) / er)) := (bigQ_div bw hbe he).mono (by decide)
  refine r_asg (K := K) (d := nQ ((hiQ l n - loQ l n) / er)) (ed_divB (eda_cons (ed_wide (eda_cons (ed_ixT (ds := [listQ n g, listQ n l]) (ed_var rfl hR) ev_c rfl) eda_nil) hn fun y hy => (hl y hy).mono (by decide)) (eda_cons (ed_var rfl hE) eda_nil)) (bw.mono (by decide)) (hbe.mono (by decide)) he) eb fun v1 b1 h1 g1 hv1 => ?_
  generalize (hiQ l n - loQ l n) / er = z at *
  refine g_two (d1 := .int (canon z).1) (d2 := .int (canon z).2) hv1 g1.gi fun w1 w2 k1 k2 => ?_
  obtain rfl := k1.intI
  obtain rfl := k2.intI
  have hz := canon_red z
  have e : stepsZ z = (if -(-(canon z).1 / (canon z).2) > 1 then -(-(canon z).1 / (canon z).2) else 1) := rfl
  refine Evl.s_ret (H := h1) (v := .int (stepsZ z)) ?_ fun h' e' => kQ h' (g1.gh.trans e')
  rw [e]
  refine fun H1 eH Q q => (ev_un (ev_op (ev_un (ev_var rfl) ru_neg) (ev_var rfl) (rv_I (wide_div (b := 2000) (by have := hz.1; omega) (Nat.lt_of_lt_of_le bq.2 (Nat.pow_le_pow_right (by decide) (by decide))) (by decide) (by decide)))) ru_neg) H1 eH _ fun H2 e2 => ⟨1, _, rfl, q H2 e2⟩

abbrev s_pool : Stmt := top 17
theorem sc_pool : FnScope ["script", "pool", "state", "k", "step", "cell", "one", "two"] ["script"] (defScope s_pool) := ⟨rfl, rfl, rfl, by decide +kernel, rfl, by decide +kernel, by decide +kernel⟩
theorem has_pool (T : Bt mg) (D : IsDef K mg "_law_pool" s_pool ["script"]) : Has P w K mg base 1 "_law_pool" ["script"] (spPool K) := by
  obtain ⟨f, fd, F, hm, hb⟩ := D
  have sc := sc_pool
  refine ⟨f, fd, F.ok sc (fun vs H Q E x => ?_) (fun cdv A outer s h0 vs Q E hr hs => ?_), hm, F.kp, hb⟩
  · obtain ⟨_, _, _, rfl, _⟩ := x
    rfl
  obtain ⟨b, a, ns, rfl, eb, hS, hl, k⟩ := hs
  refine ⟨_, (pss_cons (ps_set (i := 1) sc.nd rfl (by first | exact Or.inl rfl | exact Or.inr rfl) (pe_lst pa_nil)) (pss_cons (ps_set (i := 2) sc.nd rfl (by first | exact Or.inl rfl | exact Or.inr rfl) pe_int) (pss_cons (ps_for PassesOwn.never rfl (pi_range1 (by rfl) T.range (pa_cons (pe_callB (call_min2 rfl) (by rfl) T.min (by decide +kernel) (pa_cons (pe_callB (len_K (K := K) rfl) (by rfl) T.len PySem.boot_len (pa_cons (pv 0) pa_nil)) (pa_cons pe_int pa_nil))) pa_nil)) (pg_name (i := 3) sc.nd rfl (by first | exact Or.inl rfl | exact Or.inr rfl)) (pss_cons (ps_set (i := 5) sc.nd rfl (by first | exact Or.inl rfl | exact Or.inr rfl) (pe_ix (ix_listK (K := K) rfl) (pv 0) (pv 3) (fun _ _ => rfl))) (pss_cons (ps_set (i := 2) sc.nd rfl (by first | exact Or.inl rfl | exact Or.inr rfl) (pe_op op_mod (pe_callTy cr_int1 (by rfl) T.int (by decide +kernel) (pa_cons (pe_op op_add (pe_op op_add (pe_op op_mul (pv 2) pe_int) (pe_op op_mul (pv 5) pe_int)) (pv 3)) pa_nil)) pe_int)) (pss_one (ps_if (pt_cmpR op_ge (pv 5) (pe_op op_pow pe_int pe_int) (nomark _)) (pss_one (ps_for PassesOwn.never rfl (pi_range1 (by rfl) T.range (pa_cons pe_int pa_nil)) (pg_name (i := 4) sc.nd rfl (by first | exact Or.inl rfl | exact Or.inr rfl)) (pss_cons (ps_expr (pe_appK (K := K) rfl (pv 1) (pa_cons (pe_op op_mod (pe_callTy cr_int1 (by rfl) T.int (by decide +kernel) (pa_cons (pv 5) pa_nil)) pe_int) pa_nil))) (pss_one (ps_set (i := 5) sc.nd rfl (by first | exact Or.inl rfl | exact Or.inr rfl) (pe_op op_fdivW (pv 5) pe_int)))))) (pss_cons (ps_set (i := 6) sc.nd rfl (by first | exact Or.inl rfl | exact Or.inr rfl) (pe_op op_mod (pe_callTy cr_int1 (by rfl) T.int (by decide +kernel) (pa_cons (pe_op op_add (pe_op op_add (pe_op op_mul (pv 5) pe_int) (pe_op op_mul (pv 3) pe_int)) pe_int) pa_nil)) pe_int)) (pss_cons (ps_set (i := 7) sc.nd rfl (by first | exact Or.inl rfl | exact Or.inr rfl) (pe_op op_mod (pe_callTy cr_int1 (by rfl) T.int (by decide +kernel) (pa_cons (pe_op op_add (pe_op op_add (pe_op op_mul (pv 6) pe_int) (pe_op op_mul (pv 5) pe_int)) (pv 3)) pa_nil)) pe_int)) (pss_one (ps_set (i := 1) sc.nd rfl (by first | exact Or.inl rfl | exact Or.inr rfl) (pe_op op_cat (pv 1) (pe_lst (pa_cons (pe_op op_mod (pe_callTy cr_int1 (by rfl) T.int (by decide +kernel) (pa_cons (pe_op op_fdivW (pv 6) pe_int) pa_nil)) pe_int) (pa_cons (pe_op op_mod (pe_callTy cr_int1 (by rfl) T.int (by decide +kernel) (pa_cons (pv 7) pa_nil)) pe_int) pa_nil))))))))))))) (pss_cons (ps_for PassesOwn.never rfl (pi_range1 (by rfl) T.range (pa_cons pe_int pa_nil)) (pg_name (i := 4) sc.nd rfl (by first | exact Or.inl rfl | exact Or.inr rfl)) (pss_cons (ps_set (i := 2) sc.nd rfl (by first | exact Or.inl rfl | exact Or.inr rfl) (pe_op op_mod (pe_callTy cr_int1 (by rfl) T.int (by decide +kernel) (pa_cons (pe_op op_add (pe_op op_mul (pv 2) pe_int) pe_int) pa_nil)) pe_int)) (pss_one (ps_expr (pe_appK (K := K) rfl (pv 1) (pa_cons (pe_op op_mod (pe_callTy cr_int1 (by rfl) T.int (by decide +kernel) (pa_cons (pe_op op_fdivW (pv 2) pe_int) pa_nil)) pe_int) pa_nil)))))) (pss_one (ps_ret (pv 1))))))), ?_⟩
  refine q_asgL (xs := ([] : List Int).map V.int) (el_lst ea_nil (by decide)) fun p h1 hp e1 h1p => ?_
  have g1 : Gr b h0 b h1 := Gr.stay eb e1
  have bp : b p = none := none_of eb hp
  refine q_asg (v := .int 17) ev_c fun h2 e2 => ?_
  have hlen : ∀ {σ : L2.St} {h : Hp}, Ex b h → σ[0]? = some (some (.ref a)) → Ev (tCB (rLenS K) (tCons (tVar 0) tNil)) σ h (.int (ns.length : Int)) := fun {σ h} e s => ev_is (ev_len (ev_var s) (ex_l e hS)) (by rw [List.length_map])
  have hmin : ∀ {σ : L2.St} {h : Hp}, Ex b h → σ[0]? = some (some (.ref a)) → Ev (tCB (fun xs H Q => ∃ i j : Int, xs = [V.int i, V.int j] ∧ Q (V.int (if j < i then j else i)) H) (tCons (tCB (rLenS K) (tCons (tVar 0) tNil)) (tCons (tC (V.int 63)) tNil))) σ h (.int (ns.length : Int)) := fun {σ h} e s H1 e1 Q q => (hlen e s) H1 e1 _ fun H2 e2 => ⟨(ns.length : Int), 63, rfl, by
    rw [if_neg (by omega)]
    exact q H2 e2⟩
  have G2 := g1.trans (Gr.stay g1.gi e2)
  refine s_forR1 (n := (ns.length : Int)) (ea_cons (hmin G2.gi rfl) ea_nil) (by omega) (fun m σ' h' => ∃ (p : Addr) (pl : List Int) (st : Int) (u3 u4 u5 u6 u7 : Option V), σ' = [some (.ref a), some (.ref p), some (.int st), u3, u4, u5, u6, u7] ∧ h0 p = none ∧ b p = none ∧ Gr b h0 b h' ∧ h' p = some (.lst (pl.map V.int)) ∧ pl.length ≤ 60 * m)
    (fun h3 e3 => ⟨p, [], 17, none, none, none, none, none, rfl, hp, bp, G2.trans (Gr.stay G2.gi e3), e3 _ _ (e2 _ _ h1p), by decide⟩) ?_ ?_
  · rintro m σ' h' hm ⟨p, pl, st, u3, u4, u5, u6, u7, rfl, n0, nb, G, hp', hpl⟩
    have hml : m < ns.length := by omega
    obtain ⟨r, hr0⟩ : ∃ r, ns[m]? = some r := ⟨_, List.getElem?_eq_getElem hml⟩
    have hr1 : (ns.map V.int)[m]? = some (V.int r) := by rw [List.getElem?_map, hr0] <;> rfl
    refine q_asg (v := .int r) (ev_op (ev_var rfl) (ev_var rfl) (rv_ixL (ex_l G.gi hS) (at_of rfl hr1))) fun h3 e3 => ?_
    refine q_asg (ev_op (ev_int1 (ev_op (ev_op (ev_op (ev_var rfl) ev_c (rv_I (.inr ⟨by decide, by decide⟩))) (ev_op (ev_var rfl) ev_c (rv_I (.inr ⟨by decide, by decide⟩))) rv_I0) (ev_var rfl) rv_I0)) ev_c (rv_I (by decide))) fun h4 e4 => ?_
    have e34 := e3.trans e4
    have hp4 := e34 _ _ hp'
    have G4 := G.trans (Gr.stay G.gi e34)
    generalize (st * 69621 + r * 48271 + (m : Int)) % 2147483647 = st2
    show tIfS _ _ _ _ [some (.ref a), some (.ref p), some (.int st2), some (.int (m : Int)), u4, some (.int r), u6, u7] _
    refine s_if (b := decide ((10 : Int) ^ (18 : Int).toNat ≤ r)) (et_test (ev_op (ev_var rfl) (ev_op ev_c ev_c (rv_I ⟨by decide, by decide, by decide⟩)) rv_I0)) (fun hc2 h5 e5 => ?_) (fun hc2 h5 e5 => ?_)
    · have G5 := G4.trans (Gr.stay G4.gi e5)
      refine s_forR1 (n := 60) (ea_cons ev_c ea_nil) (by omega) (fun j σ' h' => ∃ (pl2 : List Int) (c : Int) (u4 : Option V), σ' = [some (.ref a), some (.ref p), some (.int st2), some (.int (m : Int)), u4, some (.int c), u6, u7] ∧ Gr b h0 b h' ∧ h' p = some (.lst (pl2.map V.int)) ∧ pl2.length = pl.length + j)
        (fun h6 e6 => ⟨pl, r, u4, rfl, G5.trans (Gr.stay G5.gi e6), e6 _ _ (e5 _ _ hp4), rfl⟩) ?_ ?_
      · rintro j σ' h7 hj ⟨pl2, c, u4', rfl, G7, hp7, hl2⟩
        refine q_app hp7 (ev_var rfl) (ev_op (ev_int1 (ev_var rfl)) ev_c (rv_I (by decide))) (by rw [List.length_map]; omega) fun h8 e8 => ?_
        refine s_asg (ev_op (ev_var rfl) ev_c (rv_I ⟨by decide, by decide⟩)) fun h9 e9 => ?_
        have G9 := ((G7.trans (Gr.stay G7.gi e8)).mut (o := .lst (pl2.map V.int ++ [V.int (c % 60)])) n0 nb)
        refine ⟨pl2 ++ [c % 60], _, _, rfl, G9.trans (Gr.stay G9.gi e9), ?_, by rw [List.length_append, hl2, List.length_singleton]; omega⟩
        rw [List.map_append]
        exact e9 _ _ upd_same
      · rintro σ' h7 ⟨pl2, c, u4', rfl, G7, hp7, hl2⟩
        exact ⟨p, pl2, _, _, _, _, _, _, rfl, n0, nb, G7, hp7, by
          have : ((60 : Int)).toNat = 60 := rfl
          rw [this] at hl2
          omega⟩
    · refine q_asg (ev_op (ev_int1 (ev_op (ev_op (ev_op (ev_var rfl) ev_c (rv_I (.inr ⟨by decide, by decide⟩))) (ev_op (ev_var rfl) ev_c (rv_I (.inr ⟨by decide, by decide⟩))) rv_I0) ev_c rv_I0)) ev_c (rv_I (by decide))) fun h6 e6 => ?_
      refine q_asg (ev_op (ev_int1 (ev_op (ev_op (ev_op (ev_var rfl) ev_c (rv_I (.inr ⟨by decide, by decide⟩))) (ev_op (ev_var rfl) ev_c (rv_I (.inr ⟨by decide, by decide⟩))) rv_I0) (ev_var rfl) rv_I0)) ev_c (rv_I (by decide))) fun h7 e7 => ?_
      have e47 := (e5.trans e6).trans e7
      refine s_asgL (el_cat (l := p) (ev_var rfl) (e47 _ _ hp4) (el_lst (ea_cons (ev_op (ev_int1 (ev_op (ev_var rfl) ev_c (rv_I ⟨by decide, by decide⟩))) ev_c (rv_I (by decide))) (ea_cons (ev_op (ev_int1 (ev_var rfl)) ev_c (rv_I (by decide))) ea_nil)) (by show 2 ≤ 100000; decide)) (by rw [List.length_map]; show pl.length + 2 ≤ 100000; omega)) fun p2 h8 n8 e8 hp8 => ?_
      have e48 := e47.trans e8
      have G8 := G4.trans (Gr.stay G4.gi e48)
      have G47 := G4.trans (Gr.stay G4.gi e47)
      obtain ⟨x, y, hxy⟩ : ∃ x y : Int, h8 p2 = some (.lst (pl.map V.int ++ [V.int x, V.int y])) := ⟨_, _, hp8⟩
      refine ⟨p2, pl ++ [x, y], _, _, _, _, _, _, rfl, fresh_back G47.gh n8, none_of G47.gi n8, G8, ?_, ?_⟩
      · rw [List.map_append]
        exact hxy
      · rw [List.length_append]
        show pl.length + 2 ≤ 60 * (m + 1)
        omega
  · rintro σ' h' ⟨p, pl, st, u3, u4, u5, u6, u7, rfl, n0, nb, G, hp', hpl⟩
    refine L2.st_next ?_
    dsimp only
    rw [Int.toNat_natCast] at hpl
    refine s_forR1 (n := 300) (ea_cons ev_c ea_nil) (by omega) (fun j σ' h' => ∃ (pl2 : List Int) (st : Int) (u4 : Option V), σ' = [some (.ref a), some (.ref p), some (.int st), u3, u4, u5, u6, u7] ∧ Gr b h0 b h' ∧ h' p = some (.lst (pl2.map V.int)) ∧ pl2.length = pl.length + j)
      (fun h6 e6 => ⟨pl, st, u4, rfl, G.trans (Gr.stay G.gi e6), e6 _ _ hp', rfl⟩) ?_ ?_
    · rintro j σ' h7 hj ⟨pl2, st, u4', rfl, G7, hp7, hl2⟩
      refine q_asg (ev_op (ev_int1 (ev_op (ev_op (ev_var rfl) ev_c (rv_I (.inr ⟨by decide, by decide⟩))) ev_c rv_I0)) ev_c (rv_I (by decide))) fun h8 e8 => ?_
      generalize (st * 48271 + 11) % 2147483647 = st2
      refine s_app (e8 _ _ hp7) (ev_var rfl) (ev_op (ev_int1 (ev_op (ev_var rfl) ev_c (rv_I ⟨by decide, by decide⟩))) ev_c (rv_I (by decide))) (by rw [List.length_map]; omega) fun h9 e9 => ?_
      have e79 := e8.trans e9
      refine ⟨pl2 ++ [st2 / 97 % 60], st2, _, rfl, (G7.trans (Gr.stay G7.gi e79)).mut n0 nb, ?_, by rw [List.length_append, hl2, List.length_singleton]; omega⟩
      rw [List.map_append]
      exact upd_same
    · rintro σ' h7 ⟨pl2, st, u4', rfl, G7, hp7, hl2⟩
      have e300 : ((300 : Int)).toNat = 300 := rfl
      rw [e300] at hl2
      exact ⟨_, rfl, k p h7 pl2 n0 G7 hp7 (by omega) (by omega)⟩
abbrev s_stream : Stmt := top 18
theorem sc_stream : FnScope ["script"] ["script"] (defScope s_stream) := ⟨rfl, rfl, rfl, by decide +kernel, rfl, by decide +kernel, by decide +kernel⟩
theorem has_stream (D : IsDef K mg "_law_stream" s_stream ["script"]) (U : Has P w K mg base 1 "_law_pool" ["script"] (spPool K)) : Has P w K mg base 2 "_law_stream" ["script"] (spStream K) := by
  obtain ⟨f, fd, F, hm, hb⟩ := D
  obtain ⟨f_pool, fd_pool, G_pool, m_pool, k_pool, b_pool⟩ := U
  have sc := sc_stream
  refine ⟨f, fd, F.ok sc (fun vs H Q E x => ?_) (fun cdv A outer s h0 vs Q E hr hs => ?_), hm, F.kp, hb⟩
  · obtain ⟨_, _, _, rfl, _⟩ := x
    rfl
  obtain ⟨b, a, ns, rfl, eb, hS, hl, k⟩ := hs
  refine ⟨_, (pss_one (ps_ret (pe_op op_cat (pe_lst (pa_cons pe_int pa_nil)) (pe_call G_pool (hr.mono (by decide)) rfl m_pool k_pool b_pool .nil pass0 (pa_cons (pv 0) pa_nil))))), ?_⟩
  refine ret_cat (el_lst (vs := [V.int 0]) (ea_cons ev_c ea_nil) (by show 1 ≤ 100000; decide)) fun l h1 nl e1 hl1 => ?_
  refine ⟨.ref a, rfl, b, a, ns, rfl, eb.trans e1, hS, hl, fun p h2 pl np g2 hp l1 l2 => ?_⟩
  refine ⟨l, p, [V.int 0], pl.map V.int, rfl, rfl, g2.gh _ _ hl1, hp, sz_of (by rw [List.length_map]; show 1 + pl.length ≤ 100000; omega), fun p' hp' => ?_⟩
  have g3 : Gr b h0 b h2 := ⟨Ex.refl _, e1.trans g2.gh, g2.gi, fun _ q _ => q⟩
  refine k p' _ (fresh_back g3.gh hp') (Gr.hid' g3 hp') ⟨0 :: pl, ?_, ?_, ?_⟩
  · rw [upd_same]
    rfl
  · show 2 ≤ pl.length + 1
    omega
  · show pl.length + 1 ≤ 100000
    omega
abbrev s_pick : Stmt := top 19
theorem sc_pick : FnScope ["pool", "many"] ["pool", "many"] (defScope s_pick) := ⟨rfl, rfl, rfl, by decide +kernel, rfl, by decide +kernel, by decide +kernel⟩
theorem has_pick (T : Bt mg) (D : IsDef K mg "_law_pick" s_pick ["pool", "many"]) : Has P w K mg base 1 "_law_pick" ["pool", "many"] (spPick K) := by
  obtain ⟨f, fd, F, hm, hb⟩ := D
  have sc := sc_pick
  refine ⟨f, fd, F.ok sc (fun vs H Q E x => ?_) (fun cdv A outer s h0 vs Q E hr hs => ?_), hm, F.kp, hb⟩
  · obtain ⟨_, _, _, rfl, _⟩ := x
    rfl
  obtain ⟨b, q, many, rfl, eb, nq, ⟨pl, hq, l1, l2⟩, h0m, k⟩ := hs
  refine ⟨_, (pss_cons (ps_asg (pe_op op_add pe_int (pe_op op_mod (pe_callTy cr_int1 (by rfl) T.int (by decide +kernel) (pa_cons (pe_ix (ix_listK (K := K) rfl) (pv 0) pe_int (fun _ _ => rfl)) pa_nil)) (pe_op op_sub (pe_callB (len_K (K := K) rfl) (by rfl) T.len PySem.boot_len (pa_cons (pv 0) pa_nil)) pe_int))) (pg_sub (pv 0) pe_int set_list)) (pss_one (ps_ret (pe_op op_mod (pe_callTy cr_int1 (by rfl) T.int (by decide +kernel) (pa_cons (pe_ix (ix_listK (K := K) rfl) (pv 0) (pe_ix (ix_listK (K := K) rfl) (pv 0) pe_int (fun _ _ => rfl)) (fun _ _ => rfl)) pa_nil)) (pv 1))))), ?_⟩
  have hlen : ∀ {h : Hp} {σ : L2.St} {xs : List V}, h q = some (.lst xs) → σ[0]? = some (some (.ref q)) → Ev (tCB (rLenS K) (tCons (tVar 0) tNil)) σ h (.int (xs.length : Int)) := fun {h σ xs} e s => ev_len (ev_var s) (sq_of e)
  obtain ⟨x0, hx0⟩ : ∃ x, pl[0]? = some x := ⟨_, List.getElem?_eq_getElem (by omega)⟩
  have hx1 : (pl.map V.int)[0]? = some (V.int x0) := by rw [List.getElem?_map, hx0] <;> rfl
  have hm0 : 0 ≤ x0 % ((pl.length : Int) - 1) := Int.emod_nonneg _ (by omega)
  have hm1 : x0 % ((pl.length : Int) - 1) < (pl.length : Int) - 1 := Int.emod_lt_of_pos _ (by omega)
  obtain ⟨c, hc⟩ : ∃ c : Nat, (c : Int) = 1 + x0 % ((pl.length : Int) - 1) := ⟨(1 + x0 % ((pl.length : Int) - 1)).toNat, by omega⟩
  refine q_setL (j := 0) hq (v := .int (c : Int)) (ev_is (ev_op ev_c (ev_op (ev_int1 (ev_op (ev_var rfl) ev_c (rv_ixL (sq_of hq) (at_of (j := 0) rfl hx1)))) (ev_op (hlen hq rfl) ev_c rv_I0) (rv_I (by rw [List.length_map]; omega))) rv_I0) (by rw [List.length_map, hc])) (ev_var rfl) ev_c (by rw [List.length_map]; omega) fun h1 e1 => ?_
  have hq1 : (upd h1 q (.lst ((pl.map V.int).set 0 (.int (c : Int))))) q = some (.lst ((pl.set 0 (c : Int)).map V.int)) := by rw [upd_same, ← List.map_set]
  have hg : GrQ q b h0 b (upd h1 q (.lst ((pl.map V.int).set 0 (.int (c : Int))))) := by
    refine ⟨Ex.refl _, fun a o n e => ?_, fun a o e => ?_, fun a z _ => z, ⟨pl.set 0 (c : Int), hq1, by rw [List.length_set]; exact l1, by rw [List.length_set]; exact l2⟩⟩
    · rw [upd_ne n]
      exact e1 _ _ e
    · have n : a ≠ q := fun z => by rw [z, nq] at e; cases e
      rw [upd_ne n]
      exact e1 _ _ (eb _ _ e)
  have hcl : c < (pl.set 0 (c : Int)).length := by rw [List.length_set]; omega
  obtain ⟨y, hy0⟩ : ∃ y, (pl.set 0 (c : Int))[c]? = some y := ⟨_, List.getElem?_eq_getElem hcl⟩
  have hy1 : ((pl.set 0 (c : Int)).map V.int)[c]? = some (V.int y) := by rw [List.getElem?_map, hy0] <;> rfl
  have hz0 : ((pl.set 0 (c : Int)).map V.int)[0]? = some (V.int (c : Int)) := by
    rw [List.getElem?_map, List.getElem?_set_self (by omega)]
    rfl
  refine Evl.s_ret (v := .int (y % many)) (ev_op (ev_int1 (ev_op (ev_var rfl) (ev_op (ev_var rfl) ev_c (rv_ixL (sq_of hq1) (at_of (j := 0) rfl hz0))) (rv_ixL (sq_of hq1) (at_of rfl hy1)))) (ev_var rfl) (rv_I h0m)) fun h2 e2 => ?_
  exact k _ h2 (Int.emod_nonneg _ (by omega)) (Int.emod_lt_of_pos _ h0m) (hg.trans ⟨pl, hq, l1, l2⟩ ((Gr.stay hg.gi e2).toQ hg.pl))

abbrev s_cut : Stmt := top 20
theorem sc_cut : FnScope ["n", "d", "step", "one", "other"] ["n", "d"] (defScope s_cut) := ⟨rfl, rfl, rfl, by decide +kernel, rfl, by decide +kernel, by decide +kernel⟩
theorem has_cut (T : Bt mg) (D : IsDef K mg "_law_cut" s_cut ["n", "d"]) : Has P w K mg base 1 "_law_cut" ["n", "d"] (spNumber K) := by
  obtain ⟨f, fd, F, hm, hb⟩ := D
  have sc := sc_cut
  refine ⟨f, fd, F.ok sc SpF.len (fun cdv A outer s h0 vs Q E hr hs => ?_), hm, F.kp, hb⟩
  obtain ⟨b, ds, eb, hA, hn, ⟨x, y, rfl, hy, hx1, hy1⟩, k⟩ := hs
  obtain rfl := hA.i2
  refine ⟨_, (Evl.pss_cut (ps_if (pt_cmpR op_lt (pv 1) pe_int (nomark _)) (pss_one (ps_par rfl sc.nd (i := 0) (j := 1) rfl rfl (by decide) rfl rfl (pa_cons (pe_un un_neg (pv 0)) (pa_cons (pe_un un_neg (pv 1)) pa_nil)) (by rfl))) pss_nil) (pss_cons (ps_par rfl sc.nd (i := 3) (j := 4) rfl rfl (by decide) rfl rfl (pa_cons (pe_callB cr_abs (by rfl) T.abs (by decide +kernel) (pa_cons (pv 0) pa_nil)) (pa_cons (pv 1) pa_nil)) (by rfl)) (pss_cons (ps_for PassesOwn.never rfl (pi_range1 (by rfl) T.range (pa_cons pe_int pa_nil)) (pg_name (i := 2) sc.nd rfl (by first | exact Or.inl rfl | exact Or.inr rfl)) (pss_cons (ps_if (pt_cmpR op_eq (pv 4) pe_int (nomark _)) (pss_one ps_break) pss_nil) (pss_one (ps_par rfl sc.nd (i := 3) (j := 4) rfl rfl (by decide) rfl rfl (pa_cons (pv 4) (pa_cons (pe_op op_mod (pe_callTy cr_int1 (by rfl) T.int (by decide +kernel) (pa_cons (pv 3) pa_nil)) (pv 4)) pa_nil)) (by rfl))))) (pss_one (ps_ret (pe_tup (pa_cons (pe_op op_fdivW (pv 0) (pv 3)) (pa_cons (pe_op op_fdivW (pv 1) (pv 3)) pa_nil)))))))), ?_⟩
  refine ⟨fun σ' h' => σ' = [some (.int (if y < 0 then -x else x)), some (.int (if y < 0 then -y else y)), none, none, none] ∧ Gr b h0 b h', ?_, ?_⟩
  · refine r_if1 (b := b) (c := decide (y < 0)) (et_test (ev_op (ev_var rfl) ev_c rv_I0)) eb (fun hc h3 g3 => ?_) (fun hc h3 g3 => ?_)
    · have e0 : y < 0 := of_decide_eq_true hc
      refine r_par1 (K := K) (b := b) (d1 := .int (-x)) (d2 := .int (-y)) (eda_cons (ed_int (ev_un (ev_var rfl) ru_neg)) (eda_cons (ed_int (ev_un (ev_var rfl) ru_neg)) eda_nil)) g3.gi fun v1 v2 b4 h4 g4 q1 q2 => ?_
      obtain rfl := q1.intI
      obtain rfl := q2.intI
      refine ⟨?_, g3.trans (Gr.stay g3.gi g4.gh)⟩
      rw [if_pos e0, if_pos e0]
      rfl
    · have e0 : ¬ y < 0 := of_decide_eq_false hc
      refine ⟨?_, g3⟩
      rw [if_neg e0, if_neg e0]
      rfl
  · rintro σ' h' ⟨rfl, G⟩
    have hyy : (if y < 0 then -y else y).natAbs = y.natAbs := by split <;> omega
    have hxx : (if y < 0 then -x else x).natAbs = x.natAbs := by split <;> omega
    have hy0 : 0 < (if y < 0 then -y else y) := by split <;> omega
    have hnum : nD (num x y) = nD ((if y < 0 then -x else x) / ((Nat.gcd x.natAbs y.natAbs : Nat) : Int), (if y < 0 then -y else y) / ((Nat.gcd x.natAbs y.natAbs : Nat) : Int)) := rfl
    generalize hX : (if y < 0 then -x else x) = X at *
    generalize hY : (if y < 0 then -y else y) = Y at *
    refine r_par (K := K) (b := b) (d1 := .int (X.natAbs : Int)) (d2 := .int Y) (eda_cons (ed_int (ev_abs (ev_var rfl))) (eda_cons (ed_int (ev_var rfl)) eda_nil)) G.gi fun v1 v2 b4 h4 g4 q1 q2 => ?_
    obtain rfl := q1.intI
    obtain rfl := q2.intI
    have G4 := G.trans (Gr.stay G.gi g4.gh)
    obtain ⟨Yn, hYn⟩ : ∃ Yn : Nat, Y = (Yn : Int) := ⟨Y.natAbs, by omega⟩
    have hg : 0 < Nat.gcd x.natAbs y.natAbs := Nat.gcd_pos_of_pos_right _ (by omega)
    have hg2 : Nat.gcd x.natAbs y.natAbs < 2 ^ 1900 := Nat.lt_of_le_of_lt (Nat.gcd_le_right _ (by omega)) hy1
    have hw : CDivW 0 ((Nat.gcd x.natAbs y.natAbs : Nat) : Int) := wide_div (b := 1900) (by omega) (by simpa using hg2) (by decide) (by decide)
    have fin : ∀ (σ' : L2.St) (h' : Hp) (z : Nat), σ'[0]? = some (some (.int X)) → σ'[1]? = some (some (.int Y)) → σ'[3]? = some (some (.int (z : Int))) → z = Nat.gcd x.natAbs y.natAbs → Gr b h0 b h' → tRet (tTup (tCons (tOp (rI CDivW fun i j => V.int (i / j)) (tVar 0) (tVar 3)) (tCons (tOp (rI CDivW fun i j => V.int (i / j)) (tVar 1) (tVar 3)) tNil))) { nx := fun _ H' => Q .non H', rt := Q, bk := fun _ _ => False, ct := fun _ _ => False } σ' h' := fun σ' h' z e1 e1b e1c e2 G => by
      subst e2
      refine r_ret (K := K) (d := nD (num x y)) (by
        rw [hnum]
        exact ed_tup (eda_cons (ed_int (ev_op (ev_var e1) (ev_var e1c) (rv_I hw))) (eda_cons (ed_int (ev_op (ev_var e1b) (ev_var e1c) (rv_I hw))) eda_nil)) (by show 2 ≤ 100000; decide)) G.gi fun v b' h5 g5 hv => ?_
      exact k v b' h5 _ (G.trans g5) (fun n d e => by cases e; rfl) hv
    have hgx : Nat.gcd X.natAbs Yn = Nat.gcd x.natAbs y.natAbs := by
      rw [hxx]
      congr 1
      omega
    show tSeq _ _ _ [some (.int X), some (.int Y), none, some (.int ((X.natAbs : Nat) : Int)), some (.int Y)] _
    refine s_forR1 (n := 20000) (ea_cons ev_c ea_nil) (by omega) (fun i σ' h' => ∃ (p q : Nat) (u : Option V), σ' = [some (.int X), some (.int Y), u, some (.int (p : Int)), some (.int (q : Int))] ∧ Euc (Nat.gcd x.natAbs y.natAbs) i p q ∧ Gr b h0 b h')
      (fun h5 e5 => ⟨X.natAbs, Yn, none, by rw [← hYn], ⟨hgx, by rw [if_pos rfl, show Yn = y.natAbs from by omega]; exact hy1⟩, G4.trans (Gr.stay G4.gi e5)⟩) ?_ ?_
    · rintro i σ' h' hi ⟨p, q, u, rfl, hE, G⟩
      show tSeq _ _ _ [some (.int X), some (.int Y), some (.int (i : Int)), some (.int (p : Int)), some (.int (q : Int))] _
      refine r_if (b := b) (c := decide (V.int (q : Int) = V.int 0)) (et_test (ev_op (ev_var rfl) ev_c (rv_eq rfl))) G.gi (fun hc h6 g6 => ?_) (fun hc h6 g6 => ?_)
      · have e0 : (q : Int) = 0 := by
          have := of_decide_eq_true hc
          injection this
        obtain rfl : q = 0 := by omega
        exact fin _ _ p rfl rfl rfl (euc_zero hE) (G.trans g6)
      · have e0 : ¬ (q : Int) = 0 := fun z => by
          have := of_decide_eq_false hc
          exact this (by rw [z])
        refine L2.st_next ?_
        dsimp only
        refine r_par1 (K := K) (b := b) (d1 := .int (q : Int)) (d2 := .int ((p % q : Nat) : Int)) (eda_cons (ed_int (ev_var rfl)) (eda_cons (ed_int (ev_op (ev_int1 (ev_var rfl)) (ev_var rfl) ?_)) eda_nil)) (G.trans g6).gi fun v1 v2 b7 h7 g7 q1 q2 => ?_
        · have e1 : V.int ((p % q : Nat) : Int) = V.int ((p : Int) % (q : Int)) := by rw [Int.natCast_emod]
          rw [e1]
          exact rv_I (by omega)
        obtain rfl := q1.intI
        obtain rfl := q2.intI
        have G6 := G.trans g6
        exact ⟨q, p % q, _, rfl, euc_turn hE (by omega), G6.trans (Gr.stay G6.gi g7.gh)⟩
    · rintro σ' h' ⟨p, q, u, rfl, hE, G⟩
      have e0 := eucL_end hE
      subst e0
      exact fin _ _ p rfl rfl rfl (euc_zero hE) G

abbrev s_by : Stmt := top 23
theorem sc_by : FnScope ["one", "other"] ["one", "other"] (defScope s_by) := ⟨rfl, rfl, rfl, by decide +kernel, rfl, by decide +kernel, by decide +kernel⟩
theorem has_by (D : IsDef K mg "_law_by" s_by ["one", "other"]) (U : Has P w K mg base 1 "_law_cut" ["n", "d"] (spNumber K)) : Has P w K mg base 2 "_law_by" ["one", "other"] (spNum2 K timesN) := by
  obtain ⟨f, fd, F, hm, hb⟩ := D
  obtain ⟨f_cut, fd_cut, G_cut, m_cut, k_cut, b_cut⟩ := U
  have sc := sc_by
  refine ⟨f, fd, F.ok sc (fun vs H Q E x => ?_) (fun cdv A outer s h0 vs Q E hr hs => ?_), hm, F.kp, hb⟩
  · obtain ⟨b, p, q, _, hA, _⟩ := x
    exact hA.length
  obtain ⟨b, p, q, eb, hA, rp, rq, bp, bq, k⟩ := hs
  refine ⟨_, (pss_one (ps_ret (pe_call G_cut (hr.mono (by decide)) rfl m_cut k_cut b_cut .nil pass0 (pa_cons (pe_op op_mulW (pe_ix (ix_tupK (K := K) rfl) (pv 0) pe_int (fun _ _ => rfl)) (pe_ix (ix_tupK (K := K) rfl) (pv 1) pe_int (fun _ _ => rfl))) (pa_cons (pe_op op_mulW (pe_ix (ix_tupK (K := K) rfl) (pv 0) pe_int (fun _ _ => rfl)) (pe_ix (ix_tupK (K := K) rfl) (pv 1) pe_int (fun _ _ => rfl))) pa_nil))))), ?_⟩
  obtain ⟨va, vb, rfl, ha, hb2⟩ : ∃ va vb, vs = [va, vb] ∧ Dt K b va (nD p) ∧ Dt K b vb (nD q) := by
    cases hA with
    | cons h1 h2 =>
      cases h2 with
      | cons h3 h4 =>
        cases h4
        exact ⟨_, _, rfl, h1, h3⟩
  have A0 : ∀ {σ : L2.St}, σ[0]? = some (some va) → Ev (tOp (rIxT K) (tVar 0) (tC (V.int 0))) σ b (.int p.1) := fun s => ev_num0 (ed_var s ha)
  have A1 : ∀ {σ : L2.St}, σ[0]? = some (some va) → Ev (tOp (rIxT K) (tVar 0) (tC (V.int 1))) σ b (.int p.2) := fun s => ev_num1 (ed_var s ha)
  have B0 : ∀ {σ : L2.St}, σ[1]? = some (some vb) → Ev (tOp (rIxT K) (tVar 1) (tC (V.int 0))) σ b (.int q.1) := fun s => ev_num0 (ed_var s hb2)
  have B1 : ∀ {σ : L2.St}, σ[1]? = some (some vb) → Ev (tOp (rIxT K) (tVar 1) (tC (V.int 1))) σ b (.int q.2) := fun s => ev_num1 (ed_var s hb2)
  have w2000 : ∀ {z : Int}, z.natAbs < 2 ^ 900 → z.natAbs < 2 ^ 2000 := fun h => Nat.lt_of_lt_of_le h (Nat.pow_le_pow_right (by decide) (by decide))
  have p1 := w2000 bp.1
  have p2 := w2000 bp.2
  have q1 := w2000 bq.1
  have q2 := w2000 bq.2
  have hpos := mul_pos' rp.1 rq.1
  have t1 : (p.1 * q.1).natAbs < 2 ^ (900 + 900) := by rw [Int.natAbs_mul]; exact pow_mul_lt bp.1 bq.1
  have t2 : (p.2 * q.2).natAbs < 2 ^ (900 + 900) := by rw [Int.natAbs_mul]; exact pow_mul_lt bp.2 bq.2
  refine r_ret (K := K) (d := nD (timesN p q)) (ed_call (eda_cons (ed_int (ev_op (A0 rfl) (B0 rfl) (rv_I (cmulW p1 q1)))) (eda_cons (ed_int (ev_op (A1 rfl) (B1 rfl) (rv_I (cmulW p2 q2)))) eda_nil)) rfl ⟨_, _, rfl, by omega, Nat.lt_of_lt_of_le t1 (Nat.pow_le_pow_right (by decide) (by decide)), Nat.lt_of_lt_of_le t2 (Nat.pow_le_pow_right (by decide) (by decide))⟩ fun e he => he _ _ rfl) eb fun v b' h' g hv => k v b' h' g hv

abbrev s_order : Stmt := top 24
theorem sc_order : FnScope ["one", "other", "left", "right"] ["one", "other"] (defScope s_order) := ⟨rfl, rfl, rfl, by decide +kernel, rfl, by decide +kernel, by decide +kernel⟩
theorem has_order (T : Bt mg) (D : IsDef K mg "_law_order" s_order ["one", "other"]) : Has P w K mg base 1 "_law_order" ["one", "other"] (spOrder K) := by
  obtain ⟨f, fd, F, hm, hb⟩ := D
  have sc := sc_order
  refine ⟨f, fd, F.ok sc (fun vs H Q E x => ?_) (fun cdv A outer s h0 vs Q E hr hs => ?_), hm, F.kp, hb⟩
  · obtain ⟨b, r, s, _, hA, _⟩ := x
    exact hA.length
  obtain ⟨b, r, s, eb, hA, h1, h2, kQ⟩ := hs
  refine ⟨_, (pss_cons (ps_par rfl sc.nd (i := 2) (j := 3) rfl rfl (by decide) rfl rfl (pa_cons (pe_op op_mulW (pe_ix (ix_tupK (K := K) rfl) (pv 0) pe_int (fun _ _ => rfl)) (pe_ix (ix_tupK (K := K) rfl) (pv 1) pe_int (fun _ _ => rfl))) (pa_cons (pe_op op_mulW (pe_ix (ix_tupK (K := K) rfl) (pv 1) pe_int (fun _ _ => rfl)) (pe_ix (ix_tupK (K := K) rfl) (pv 0) pe_int (fun _ _ => rfl))) pa_nil)) (by rfl)) (pss_one (ps_ret (pe_op op_sub (pe_callTy cr_int1 (by rfl) T.int (by decide +kernel) (pa_cons (pe_cmpR op_gt (pv 2) (pv 3) (nomark _)) pa_nil)) (pe_callTy cr_int1 (by rfl) T.int (by decide +kernel) (pa_cons (pe_cmpR op_lt (pv 2) (pv 3) (nomark _)) pa_nil)))))), ?_⟩
  obtain ⟨va, vb, rfl, ha, hb2⟩ : ∃ va vb, vs = [va, vb] ∧ Dt K b va (nD (canon r)) ∧ Dt K b vb (nD (canon s)) := by
    cases hA with
    | cons h1 h2 =>
      cases h2 with
      | cons h3 h4 =>
        cases h4
        exact ⟨_, _, rfl, h1, h3⟩
  have w4 : ∀ {z : Int}, z.natAbs < 2 ^ 900 → z.natAbs < 2 ^ 4000 := fun h => Nat.lt_of_lt_of_le h (Nat.pow_le_pow_right (by decide) (by decide))
  refine r_par (K := K) (b := b) (d1 := .int ((canon r).1 * (canon s).2)) (d2 := .int ((canon s).1 * (canon r).2)) (eda_cons (ed_int (ev_op (ev_num0 (p := canon r) (ed_var rfl ha)) (ev_num1 (p := canon s) (ed_var rfl hb2)) (rv_I (cmulL (w4 h1.1) (w4 h2.2))))) (eda_cons (ed_int (ev_op (ev_num0 (p := canon s) (ed_var rfl hb2)) (ev_num1 (p := canon r) (ed_var rfl ha)) (rv_I (cmulL (w4 h2.1) (w4 h1.2))))) eda_nil)) eb fun v1 v2 b4 h4 g4 q1 q2 => ?_
  obtain rfl := q1.intI
  obtain rfl := q2.intI
  have e : ordQ r s = (if decide ((canon s).1 * (canon r).2 < (canon r).1 * (canon s).2) = true then 1 else 0) - (if decide ((canon r).1 * (canon s).2 < (canon s).1 * (canon r).2) = true then 1 else 0) := by
    rw [less_canon, less_canon]
    rfl
  refine Evl.s_ret (H := h4) (v := .int (ordQ r s)) ?_ fun h' e' => kQ h' (g4.gh.trans e')
  rw [e]
  exact ev_op (ev_int1b (ev_op (ev_var rfl) (ev_var rfl) rv_I0)) (ev_int1b (ev_op (ev_var rfl) (ev_var rfl) rv_I0)) rv_I0

abbrev s_less_by : Stmt := top 27
theorem sc_less_by : FnScope ["one", "other"] ["one", "other"] (defScope s_less_by) := ⟨rfl, rfl, rfl, by decide +kernel, rfl, by decide +kernel, by decide +kernel⟩
theorem has_less_by (D : IsDef K mg "_law_less_by" s_less_by ["one", "other"]) (U : Has P w K mg base 1 "_law_cut" ["n", "d"] (spNumber K)) : Has P w K mg base 2 "_law_less_by" ["one", "other"] (spMinusQ K) := by
  obtain ⟨f, fd, F, hm, hb⟩ := D
  obtain ⟨f_cut, fd_cut, G_cut, m_cut, k_cut, b_cut⟩ := U
  have sc := sc_less_by
  refine ⟨f, fd, F.ok sc (fun vs H Q E x => ?_) (fun cdv A outer s h0 vs Q E hr hs => ?_), hm, F.kp, hb⟩
  · obtain ⟨b, r, s, _, hA, _⟩ := x
    exact hA.length
  obtain ⟨b, r, s, eb, hA, h1, h2, kQ⟩ := hs
  refine ⟨_, (pss_one (ps_ret (pe_call G_cut (hr.mono (by decide)) rfl m_cut k_cut b_cut .nil pass0 (pa_cons (pe_op op_sub (pe_op op_mulW (pe_ix (ix_tupK (K := K) rfl) (pv 0) pe_int (fun _ _ => rfl)) (pe_ix (ix_tupK (K := K) rfl) (pv 1) pe_int (fun _ _ => rfl))) (pe_op op_mulW (pe_ix (ix_tupK (K := K) rfl) (pv 1) pe_int (fun _ _ => rfl)) (pe_ix (ix_tupK (K := K) rfl) (pv 0) pe_int (fun _ _ => rfl)))) (pa_cons (pe_op op_mulW (pe_ix (ix_tupK (K := K) rfl) (pv 0) pe_int (fun _ _ => rfl)) (pe_ix (ix_tupK (K := K) rfl) (pv 1) pe_int (fun _ _ => rfl))) pa_nil))))), ?_⟩
  obtain ⟨va, vb, rfl, ha, hb2⟩ : ∃ va vb, vs = [va, vb] ∧ Dt K b va (nD (canon r)) ∧ Dt K b vb (nD (canon s)) := by
    cases hA with
    | cons h1 h2 =>
      cases h2 with
      | cons h3 h4 =>
        cases h4
        exact ⟨_, _, rfl, h1, h3⟩
  have w4 : ∀ {z : Int}, z.natAbs < 2 ^ 900 → z.natAbs < 2 ^ 4000 := fun h => Nat.lt_of_lt_of_le h (Nat.pow_le_pow_right (by decide) (by decide))
  have hpos := mul_pos' (canon_red r).1 (canon_red s).1
  have h2' : Big 900 (canon (-s)) := by
    rw [neg_canon]
    refine ⟨?_, h2.2⟩
    show (-(canon s).1).natAbs < _
    rw [Int.natAbs_neg]
    exact h2.1
  have hr2 := big_plus_raw h1 h2'
  have hcn : nQ (r - s) = nD (num ((canon r).1 * (canon s).2 - (canon s).1 * (canon r).2) ((canon r).2 * (canon s).2)) := by
    have e : r - s = r + -s := by grind
    rw [e]
    unfold nQ
    rw [← plus_canon, neg_canon]
    show nD (num ((canon r).1 * (canon s).2 + -(canon s).1 * (canon r).2) ((canon r).2 * (canon s).2)) = _
    rw [Int.neg_mul]
    rfl
  have hsz : ((canon r).1 * (canon s).2 - (canon s).1 * (canon r).2).natAbs < 2 ^ (900 + 900 + 1) := by
    have := hr2.1
    rw [neg_canon] at this
    have e : (canon r).1 * (canon s).2 - (canon s).1 * (canon r).2 = (canon r).1 * (canon s).2 + -(canon s).1 * (canon r).2 := by rw [Int.neg_mul]; rfl
    rw [e]
    exact this
  refine r_ret (K := K) (d := nQ (r - s)) (by
    rw [hcn]
    exact ed_call (eda_cons (ed_int (ev_op (ev_op (ev_num0 (p := canon r) (ed_var rfl ha)) (ev_num1 (p := canon s) (ed_var rfl hb2)) (rv_I (cmulL (w4 h1.1) (w4 h2.2)))) (ev_op (ev_num0 (p := canon s) (ed_var rfl hb2)) (ev_num1 (p := canon r) (ed_var rfl ha)) (rv_I (cmulL (w4 h2.1) (w4 h1.2)))) rv_I0)) (eda_cons (ed_int (ev_op (ev_num1 (p := canon r) (ed_var rfl ha)) (ev_num1 (p := canon s) (ed_var rfl hb2)) (rv_I (cmulL (w4 h1.2) (w4 h2.2))))) eda_nil)) rfl ⟨_, _, rfl, by omega, Nat.lt_of_lt_of_le hsz (Nat.pow_le_pow_right (by decide) (by decide)), Nat.lt_of_lt_of_le (by rw [Int.natAbs_mul]; exact pow_mul_lt h1.2 h2.2) (Nat.pow_le_pow_right (by decide) (by decide : 900 + 900 ≤ 1900))⟩ fun e he => he _ _ rfl) eb fun v b' h' g hv => kQ v b' h' g hv

abbrev s_and : Stmt := top 26
theorem sc_and : FnScope ["numbers", "top", "down", "n", "d"] ["numbers"] (defScope s_and) := ⟨rfl, rfl, rfl, by decide +kernel, rfl, by decide +kernel, by decide +kernel⟩
theorem has_and (T : Bt mg) (D : IsDef K mg "_law_and" s_and ["numbers"]) (U : Has P w K mg base 1 "_law_cut" ["n", "d"] (spNumber K)) : Has P w K mg base 2 "_law_and" ["numbers"] (spTotL K) := by
  obtain ⟨f, fd, F, hm, hb⟩ := D
  obtain ⟨f_cut, fd_cut, G_cut, m_cut, k_cut, b_cut⟩ := U
  have sc := sc_and
  refine ⟨f, fd, F.ok sc (fun vs H Q E x => ?_) (fun cdv A outer s h0 vs Q E hr hs => ?_), hm, F.kp, hb⟩
  · obtain ⟨b, l, _, hA, _⟩ := x
    exact hA.length
  obtain ⟨b, l, eb, hA, hl, hp, hq, k⟩ := hs
  refine ⟨_, (pss_cons (ps_asg (pe_tup (pa_cons pe_int (pa_cons pe_int pa_nil))) (pg_tupK (K := K) (n := 2) rfl rfl (pgs_cons (pg_name (i := 1) sc.nd rfl (by first | exact Or.inl rfl | exact Or.inr rfl)) (pgs_cons (pg_name (i := 2) sc.nd rfl (by first | exact Or.inl rfl | exact Or.inr rfl)) pgs_nil)))) (pss_cons (ps_for PassesOwn.never rfl (pi_listK (K := K) rfl (pv 0)) (pg_tupK (K := K) (n := 2) rfl rfl (pgs_cons (pg_name (i := 3) sc.nd rfl (by first | exact Or.inl rfl | exact Or.inr rfl)) (pgs_cons (pg_name (i := 4) sc.nd rfl (by first | exact Or.inl rfl | exact Or.inr rfl)) pgs_nil))) (pss_one (ps_asg (pe_call G_cut (hr.mono (by decide)) rfl m_cut k_cut b_cut .nil pass0 (pa_cons (pe_op op_add (pe_op op_mulW (pv 1) (pv 4)) (pe_op op_mulW (pv 3) (pv 2))) (pa_cons (pe_op op_mulW (pv 2) (pv 4)) pa_nil))) (pg_tupK (K := K) (n := 2) rfl rfl (pgs_cons (pg_name (i := 1) sc.nd rfl (by first | exact Or.inl rfl | exact Or.inr rfl)) (pgs_cons (pg_name (i := 2) sc.nd rfl (by first | exact Or.inl rfl | exact Or.inr rfl)) pgs_nil)))))) (pss_one (ps_ret (pe_tup (pa_cons (pv 1) (pa_cons (pv 2) pa_nil))))))), ?_⟩
  obtain ⟨vL, rfl, hL⟩ : ∃ vL, vs = [vL] ∧ Dt K b vL (.list (l.map nQ)) := by
    cases hA with
    | cons h1 h2 =>
      cases h2
      exact ⟨_, rfl, h1⟩
  have w4 : ∀ {z : Int}, z.natAbs < 2 ^ 900 → z.natAbs < 2 ^ 4000 := fun h => Nat.lt_of_lt_of_le h (Nat.pow_le_pow_right (by decide) (by decide))
  refine r_asg (K := K) (d := nD (0, 1)) (ed_tup (eda_cons (ed_int ev_c) (eda_cons (ed_int ev_c) eda_nil)) (by show 2 ≤ 100000; decide)) eb fun vt b1 h1 g1 hvt => ?_
  refine g_two (d1 := .int 0) (d2 := .int 1) hvt g1.gi fun v1 v2 q1 q2 => ?_
  obtain rfl := q1.intI
  obtain rfl := q2.intI
  refine r_forL (K := K) (ds := l.map nQ) (ed_var rfl (hL.up g1.gb)) g1.gi fun a xs b2 h2 g2 _ _ => ⟨fun i σ' h' => ∃ (u3 u4 : Option V) (b' : Hp), σ' = [some vL, some (.int (canon (l.take i).sum).1), some (.int (canon (l.take i).sum).2), u3, u4] ∧ Gr b2 h2 b' h', ⟨none, none, b2, by
    rw [List.take_zero, List.sum_nil, canon_zero]
    rfl, Gr.refl g2.gi⟩, fun i σ' h' p => ?_, ?_, ?_⟩
  · obtain ⟨_, _, b', _, g⟩ := p
    exact g.gb.trans g.gi
  · rintro i d xv σ' h' hd hx ⟨u3, u4, b', rfl, g⟩
    rw [List.getElem?_map] at hd
    cases hz : l[i]? with
    | none => rw [hz] at hd; cases hd
    | some r =>
      rw [hz] at hd
      cases hd
      have hil : i < l.length := (List.getElem?_eq_some_iff.mp hz).1
      have b1 := hp i (Nat.le_of_lt hil)
      have b2' := hq r (List.mem_of_getElem? hz)
      have hsum : (l.take (i + 1)).sum = (l.take i).sum + r := by rw [take_more1 hz, sum_snoc]
      generalize (l.take i).sum = s at *
      have hr2 := big_plus_raw b1 b2'
      have hpos := mul_pos' (canon_red s).1 (canon_red r).1
      have hcn : nQ (s + r) = nD (num ((canon s).1 * (canon r).2 + (canon r).1 * (canon s).2) ((canon s).2 * (canon r).2)) := by
        unfold nQ
        rw [← plus_canon]
        rfl
      refine g_two (hx.up g.gb) g.gi fun w1 w2 hw1 hw2 => ?_
      obtain rfl := hw1.intI
      obtain rfl := hw2.intI
      refine r_asg1 (K := K) (d := nQ (s + r)) (b := b') (by
        rw [hcn]
        exact ed_call (eda_cons (ed_int (ev_op (ev_op (ev_var rfl) (ev_var rfl) (rv_I (cmulL (w4 b1.1) (w4 b2'.2)))) (ev_op (ev_var rfl) (ev_var rfl) (rv_I (cmulL (w4 b2'.1) (w4 b1.2)))) rv_I0)) (eda_cons (ed_int (ev_op (ev_var rfl) (ev_var rfl) (rv_I (cmulL (w4 b1.2) (w4 b2'.2))))) eda_nil)) rfl ⟨_, _, rfl, by omega, Nat.lt_of_lt_of_le hr2.1 (Nat.pow_le_pow_right (by decide) (by decide)), Nat.lt_of_lt_of_le hr2.2 (Nat.pow_le_pow_right (by decide) (by decide))⟩ fun e he => he _ _ rfl) g.gi fun v5 b5 h5 g5 hv5 => ?_
      refine g_two (d1 := .int (canon (s + r)).1) (d2 := .int (canon (s + r)).2) hv5 g5.gi fun w3 w4 hw3 hw4 => ?_
      obtain rfl := hw3.intI
      obtain rfl := hw4.intI
      exact ⟨_, _, b5, by rw [hsum]; rfl, g.trans g5⟩
  · rintro σ' h' ⟨u3, u4, b', rfl, g⟩
    rw [List.length_map, List.take_length]
    refine L2.st_next ?_
    dsimp only
    refine r_ret (K := K) (d := nQ l.sum) (ed_tup (eda_cons (ed_int (ev_var rfl)) (eda_cons (ed_int (ev_var rfl)) eda_nil)) (by show 2 ≤ 100000; decide)) g.gi fun v b9 h9 g9 hv => k v b9 h9 (((g1.trans g2).trans g).trans g9) hv

abbrev s_drawn : Stmt := top 22
theorem sc_drawn : FnScope ["pool", "many", "k"] ["pool", "many"] (defScope s_drawn) := ⟨rfl, rfl, rfl, by decide +kernel, rfl, by decide +kernel, by decide +kernel⟩
theorem has_drawn (T : Bt mg) (D : IsDef K mg "_law_drawn" s_drawn ["pool", "many"]) (U1 : Has P w K mg base 1 "_law_cut" ["n", "d"] (spNumber K)) (U2 : Has P w K mg base 1 "_law_pick" ["pool", "many"] (spPick K)) : Has P w K mg base 2 "_law_drawn" ["pool", "many"] (spDrawn K) := by
  obtain ⟨f, fd, F, hm, hb⟩ := D
  obtain ⟨f_cut, fd_cut, G_cut, m_cut, k_cut, b_cut⟩ := U1
  obtain ⟨f_pick, fd_pick, G_pick, m_pick, k_pick, b_pick⟩ := U2
  have sc := sc_drawn
  refine ⟨f, fd, F.ok sc (fun vs H Q E x => ?_) (fun cdv A outer s h0 vs Q E hr hs => ?_), hm, F.kp, hb⟩
  · obtain ⟨_, _, _, rfl, _⟩ := x
    rfl
  obtain ⟨b, q, n, rfl, eb, nq, hp, hn, k⟩ := hs
  refine ⟨_, (pss_one (ps_ret (pe_lc (own := [("k", 2)]) (tt := tYes) rfl sc.nd (pi_range1 (by rfl) T.range (pa_cons (pv 1) pa_nil)) (blkOk_by (N := ["pool", "many", "k"]) (sc := defScope s_drawn) (by decide +kernel)) (fun _ _ _ _ _ => (pg_name (i := 2) sc.nd rfl (by first | exact Or.inl rfl | exact Or.inr rfl))) (fun _ _ _ _ _ => pts_nil) (fun _ _ _ _ _ => (pe_call G_cut (hr.mono (by decide)) rfl m_cut k_cut b_cut .nil pass0 (pa_cons (pe_op op_sub (pe_call G_pick (hr.mono (by decide)) rfl m_pick k_pick b_pick .nil pass0 (pa_cons (pv 0) (pa_cons pe_int pa_nil))) pe_int) (pa_cons (pe_op op_add pe_int (pe_call G_pick (hr.mono (by decide)) rfl m_pick k_pick b_pick .nil pass0 (pa_cons (pv 0) (pa_cons pe_int pa_nil)))) pa_nil))))))), ?_⟩
  refine r_retQ (K := K) (q := q) (R := fun d => ∃ f, d = listQ n f ∧ ∀ k, k < n → NB 6 10 (f k)) (EXQ.imp (exq_lcR (N := fun m => m = (n : Int)) (R := fun _ e => ∃ r, NB 6 10 r ∧ e = nQ r) nq (eaq_n (ev_var rfl) nq) (fun m hm => by omega) (fun _ => rfl) fun m i b2 hm e2 n2 hi => ?_) fun d hd => ?_) eb hp fun v b' h' d g r hv => ?_
  · refine (exq_call (R := fun ds => ∃ z w : Int, ds = [.int z, .int w] ∧ -10 ≤ z ∧ z ≤ 10 ∧ 1 ≤ w ∧ w ≤ 3) ?_ fun ds hds => ?_).imp fun d hd => ?_
    · refine fun h e p Q kk => (eaq_cons n2 (exq_op0 n2 (exq_pick rfl n2 ev_c (by decide)) (Ev.toQ ev_c)) (eaq_cons n2 (exq_op0 n2 (Ev.toQ ev_c) (exq_pick rfl n2 ev_c (by decide))) eaq_nil)) h e p Q fun vs b' h' ds g r hv => kk vs b' h' ds g ?_ hv
      obtain ⟨d1, es, rfl, ⟨z1, rfl, i1, j1, c1, c2, c3⟩, d2, es2, rfl, ⟨z2, rfl, i2, j2, c4, c5, c6⟩, rfl⟩ := r
      exact ⟨z1, z2, rfl, by omega, by omega, by omega, by omega⟩
    · obtain ⟨z, w, rfl, a1, a2, a3, a4⟩ := hds
      have up : ∀ {x : Nat}, x < 2 ^ 10 → x < 2 ^ 1900 := fun h => Nat.lt_of_lt_of_le h (Nat.pow_le_pow_right (by decide) (by decide))
      exact ⟨rfl, z, w, rfl, by omega, up (by omega), up (by omega)⟩
    · obtain ⟨ds, ⟨z, w, rfl, a1, a2, a3, a4⟩, hf⟩ := hd
      have e := hf z w rfl
      refine ⟨qN (num z w), num_nb (by omega) ?_ (by omega), by rw [e, num_nQ (by omega)]⟩
      have : w = 1 ∨ w = 2 ∨ w = 3 := by omega
      rcases this with z | z | z <;> rw [z] <;> decide
  · obtain ⟨acc, m, rfl, hm, hl, he⟩ := hd
    obtain ⟨f, e1, e2⟩ := listQ_of he
    have : acc.length = n := by rw [hl, hm]; exact Int.toNat_natCast n
    rw [this] at e1 e2
    exact ⟨f, e1, e2⟩
  · obtain ⟨f, rfl, hf⟩ := r
    exact k v b' h' f g hf hv

abbrev s_extreme : Stmt := top 25
theorem sc_extreme : FnScope ["lists", "way", "found", "row", "old", "new"] ["lists", "way"] (defScope s_extreme) := ⟨rfl, rfl, rfl, by decide +kernel, rfl, by decide +kernel, by decide +kernel⟩
theorem has_extreme (T : Bt mg) (D : IsDef K mg "_law_extreme" s_extreme ["lists", "way"]) (U : Has P w K mg base 1 "_law_order" ["one", "other"] (spOrder K)) : Has P w K mg base 2 "_law_extreme" ["lists", "way"] (spExtreme K) := by
  obtain ⟨f, fd, F, hm, hb⟩ := D
  obtain ⟨f_order, fd_order, G_order, m_order, k_order, b_order⟩ := U
  have sc := sc_extreme
  refine ⟨f, fd, F.ok sc (fun vs H Q E x => ?_) (fun cdv A outer s h0 vs Q E hr hs => ?_), hm, F.kp, hb⟩
  · obtain ⟨b, o, n, g, _, hA, _⟩ := x
    exact hA.length
  obtain ⟨b, o, n, g, eb, hA, hn, hn1, hbig, kQ⟩ := hs
  refine ⟨_, (pss_cons (ps_set (i := 2) sc.nd rfl (by first | exact Or.inl rfl | exact Or.inr rfl) (pe_ix (ix_listK (K := K) rfl) (pv 0) pe_int (fun _ _ => rfl))) (pss_cons (ps_for PassesOwn.never rfl (pi_listK (K := K) rfl (pv 0)) (pg_name (i := 3) sc.nd rfl (by first | exact Or.inl rfl | exact Or.inr rfl)) (pss_one (ps_setLc (i := 2) (own := [("old", 4), ("new", 5)]) (tt := tYes) rfl sc.nd rfl rfl (sw_true rfl rfl rfl (by decide +kernel)) (pi_zipK (K := K) rfl (by rfl) T.zip (pa_cons (pv 2) (pa_cons (pv 3) pa_nil))) (blkOk_by (N := ["lists", "way", "found", "row", "old", "new"]) (sc := defScope s_extreme) (by decide +kernel)) (fun _ _ _ _ _ => (pg_tupK (K := K) (n := 2) rfl rfl (pgs_cons (pg_name (i := 4) sc.nd rfl (by first | exact Or.inl rfl | exact Or.inr rfl)) (pgs_cons (pg_name (i := 5) sc.nd rfl (by first | exact Or.inl rfl | exact Or.inr rfl)) pgs_nil)))) (fun _ _ _ _ _ => pts_nil) (fun _ _ _ _ _ => (pe_ix (ix_listK (K := K) rfl) (pe_lst (pa_cons (pv 4) (pa_cons (pv 5) pa_nil))) (pe_callTy cr_int1 (by rfl) T.int (by decide +kernel) (pa_cons (pe_cmpR op_eq (pe_call G_order (hr.mono (by decide)) rfl m_order k_order b_order .nil pass0 (pa_cons (pv 5) (pa_cons (pv 4) pa_nil))) (pv 1) (nomark _)) pa_nil)) (fun _ _ => rfl)))))) (pss_one (ps_ret (pv 2))))), ?_⟩
  obtain ⟨vL, rfl, hL⟩ : ∃ vL, vs = [vL, .int (wayZ o)] ∧ Dt K b vL (.list ((List.range n).map fun k => oneD (g k))) := by
    cases hA with
    | cons h1 h2 => exact ⟨_, by rw [h2.i1], h1⟩
  have hat0 : L2.atI ((List.range n).map fun k => oneD (g k)) ((0 : Nat) : Int) = some (oneD (g 0)) := atI_nat (by rw [List.getElem?_map, List.getElem?_range hn] <;> rfl)
  refine r_set (K := K) (d := oneD (g 0)) (ed_ixL (ed_var rfl hL) ev_c hat0) eb fun v1 b1 h1 g1 hv1 => ?_
  refine r_forL (K := K) (ds := (List.range n).map fun k => oneD (g k)) (ed_var rfl (hL.up g1.gb)) g1.gi fun a xs b2 h2 g2 _ _ => ⟨fun i σ' h' => ∃ (v : V) (u3 : Option V) (b' : Hp), σ' = [some vL, some (.int (wayZ o)), some v, u3, none, none] ∧ Gr b2 h2 b' h' ∧ Dt K b' v (oneD (tkF o i g)), ⟨v1, none, b2, rfl, Gr.refl g2.gi, by
    have : tkF o 0 g = g 0 := by unfold tkF; split <;> rfl
    rw [this]
    exact hv1.up g2.gb⟩, fun i σ' h' p => ?_, ?_, ?_⟩
  · obtain ⟨_, _, b', _, g, _⟩ := p
    exact g.gb.trans g.gi
  · rintro i d xv σ' h' hd hx ⟨v, u3, b', rfl, gi, hv⟩
    have hi : i < n := by
      have := (List.getElem?_eq_some_iff.mp hd).1
      rwa [List.length_map, List.length_range] at this
    rw [List.getElem?_map, List.getElem?_range hi] at hd
    cases hd
    obtain ⟨j, hj, ej⟩ := tkF_mem (o := o) (f := g) hn (Nat.le_of_lt hi)
    have bg : Big 900 (canon (tkF o i g)) := by
      rw [ej]
      exact hbig j hj
    have hx' : Dt K b' xv (oneD (g i)) := hx.up gi.gb
    have hres : givenD 1 (fun _ => true) (fun _ => nQ (tkF o (i + 1) g)) = [nQ (tkF o (i + 1) g)] := rfl
    show tAsg _ _ _ [some vL, some (.int (wayZ o)), some v, some xv, none, none] _
    refine r_set1 (K := K) (d := oneD (tkF o (i + 1) g)) (by
      unfold oneD
      rw [← hres]
      refine EN.ed (en_lcZ (n := 1) (ed_var rfl hv) (ed_var rfl hx') rfl (by decide) _ _ (fun _ _ => rfl) fun k d1 d2 w1 w2 b8 e8 hd1 hd2 hw1 hw2 => ⟨et_yes, fun _ => ?_⟩)
      have hk0 : k = 0 := by
        have := (List.getElem?_eq_some_iff.mp hd1).1
        have : k < 1 := this
        omega
      subst hk0
      cases hd1
      cases hd2
      have hat : L2.atI [nQ (tkF o i g), nQ (g i)] (if decide (V.int (ordQ (g i) (tkF o i g)) = V.int (wayZ o)) = true then 1 else 0) = some (nQ (tkF o (i + 1) g)) := by
        rw [tk_next]
        by_cases c : ordQ (g i) (tkF o i g) = wayZ o
        · rw [if_pos (decide_eq_true (by rw [c])), if_pos (decide_eq_true c)]
          rfl
        · rw [if_neg (fun z => c (by have := of_decide_eq_true z; injection this)), if_neg (fun z => c (of_decide_eq_true z))]
          rfl
      exact ed_ixL (K := K) (en_lst (eda_cons (ed_var rfl hw1) (eda_cons (ed_var rfl hw2) eda_nil)) (by show 2 ≤ 100000; decide)).ed (ev_int1b (ev_op (ev_order (eda_cons (ed_var rfl hw2) (eda_cons (ed_var rfl hw1) eda_nil)) (hbig i hi) bg) (ev_var rfl) (rv_eq rfl))) hat) gi.gi fun v4 b4 h4 g4 hv4 => ?_
    exact ⟨v4, _, b4, rfl, gi.trans g4, hv4⟩
  · rintro σ' h' ⟨v, u3, b', rfl, gi, hv⟩
    rw [List.length_map, List.length_range] at hv
    exact ⟨_, rfl, kQ v b' h' ((g1.trans g2).trans gi) hv⟩

abbrev s_law : Stmt := top 28
theorem sc_law : FnScope ["script", "pool", "many", "far", "rows", "wide", "slow", "kept", "turn", "top", "low", "high", "deep", "k", "count", "begun", "near", "told", "spread", "one"] ["script"] (defScope s_law) := ⟨rfl, rfl, rfl, by decide +kernel, rfl, by decide +kernel, by decide +kernel⟩
theorem ok_law {f : Addr} {fd : FuncData} (F : Fun K "law" "law" s_law f fd) (T : Bt mg) (U1 : Has P w K mg base 2 "_law_stream" ["script"] (spStream K)) (U2 : Has P w K mg base 1 "_law_pick" ["pool", "many"] (spPick K)) (U3 : Has P w K mg base 1 "_law_cut" ["n", "d"] (spNumber K)) (U4 : Has P w K mg base 2 "_law_drawn" ["pool", "many"] (spDrawn K))
    (U5 : Has P w K mg base 2 "_law_by" ["one", "other"] (spNum2 K timesN)) (U6 : Has P w K mg base 1 "_law_order" ["one", "other"] (spOrder K)) (U7 : Has P w K mg base 2 "_law_extreme" ["lists", "way"] (spExtreme K)) (U8 : Has P w K mg base 2 "_law_and" ["numbers"] (spTotL K)) (U9 : Has P w K mg base 2 "_law_less_by" ["one", "other"] (spMinusQ K))
    (V1 : Has P w K mg base 5 "sums_at_least" ["rows", "place", "count"] (spSums K true)) (V2 : Has P w K mg base 5 "sums_at_most" ["rows", "place", "count"] (spSums K false)) (V3 : HasK P w K mg base 4 "steps_for" ["rows", "near"] ["near"] 1 1 (spStepsN K)) :
    LawOk P w K mg base 6 f fd ["script"] (spLaw K) := by
  obtain ⟨f_stream, fd_stream, G_stream, m_stream, k_stream, b_stream⟩ := U1
  obtain ⟨f_pick, fd_pick, G_pick, m_pick, k_pick, b_pick⟩ := U2
  obtain ⟨f_cut, fd_cut, G_cut, m_cut, k_cut, b_cut⟩ := U3
  obtain ⟨f_drawn, fd_drawn, G_drawn, m_drawn, k_drawn, b_drawn⟩ := U4
  obtain ⟨f_by, fd_by, G_by, m_by, k_by, b_by⟩ := U5
  obtain ⟨f_order, fd_order, G_order, m_order, k_order, b_order⟩ := U6
  obtain ⟨f_extreme, fd_extreme, G_extreme, m_extreme, k_extreme, b_extreme⟩ := U7
  obtain ⟨f_and, fd_and, G_and, m_and, k_and, b_and⟩ := U8
  obtain ⟨f_less_by, fd_less_by, G_less_by, m_less_by, k_less_by, b_less_by⟩ := U9
  obtain ⟨f_sums_at_least, fd_sums_at_least, G_sums_at_least, m_sums_at_least, k_sums_at_least, b_sums_at_least⟩ := V1
  obtain ⟨f_sums_at_most, fd_sums_at_most, G_sums_at_most, m_sums_at_most, k_sums_at_most, b_sums_at_most⟩ := V2
  obtain ⟨f_steps_for, fd_steps_for, G_steps_for, m_steps_for, k_steps_for, kb_steps_for⟩ := V3
  have sc := sc_law
  refine law_ok F sc (fun vs H Q E x => ?_) (fun cd s h0 vs Q hr hs => ?_)
  · obtain ⟨a, ns, rfl, _⟩ := x
    rfl
  obtain ⟨a, ns, rfl, hS, hl, k⟩ := hs
  have hgd : (callerA.deeper (PyProof.Rows.envOfC "law" (defScope s_law) s.heap.objs.size f cd)).guards = some [] := rfl
  refine ⟨_, (pss_cons (ps_set (i := 1) sc.nd rfl (by first | exact Or.inl rfl | exact Or.inr rfl) (pe_call G_stream (hr.mono (by decide)) rfl m_stream k_stream b_stream .nil pass0 (pa_cons (pv 0) pa_nil))) (pss_cons (ps_set (i := 2) sc.nd rfl (by first | exact Or.inl rfl | exact Or.inr rfl) (pe_op op_add pe_int (pe_call G_pick (hr.mono (by decide)) rfl m_pick k_pick b_pick .nil pass0 (pa_cons (pv 1) (pa_cons pe_int pa_nil))))) (pss_cons (ps_set (i := 3) sc.nd rfl (by first | exact Or.inl rfl | exact Or.inr rfl) (pe_ix (ix_listK (K := K) rfl) (pe_lst (pa_cons (pe_tup (pa_cons pe_int (pa_cons pe_int pa_nil))) (pa_cons (pe_tup (pa_cons pe_int (pa_cons pe_int pa_nil))) (pa_cons (pe_tup (pa_cons (pe_op op_pow pe_int pe_int) (pa_cons pe_int pa_nil))) pa_nil)))) (pe_call G_pick (hr.mono (by decide)) rfl m_pick k_pick b_pick .nil pass0 (pa_cons (pv 1) (pa_cons pe_int pa_nil))) (fun _ _ => rfl))) (pss_cons (ps_set (i := 4) sc.nd rfl (by first | exact Or.inl rfl | exact Or.inr rfl) (pe_tup (pa_cons (pe_call G_drawn (hr.mono (by decide)) rfl m_drawn k_drawn b_drawn .nil pass0 (pa_cons (pv 1) (pa_cons (pv 2) pa_nil))) (pa_cons (pe_lc (own := [("one", 19)]) (tt := tYes) rfl sc.nd (pi_listK (K := K) rfl (pe_call G_drawn (hr.mono (by decide)) rfl m_drawn k_drawn b_drawn .nil pass0 (pa_cons (pv 1) (pa_cons (pv 2) pa_nil)))) (blkOk_by (N := ["script", "pool", "many", "far", "rows", "wide", "slow", "kept", "turn", "top", "low", "high", "deep", "k", "count", "begun", "near", "told", "spread", "one"]) (sc := defScope s_law) (by decide +kernel)) (fun _ _ _ _ _ => (pg_name (i := 19) sc.nd rfl (by first | exact Or.inl rfl | exact Or.inr rfl))) (fun _ _ _ _ _ => pts_nil) (fun _ _ _ _ _ => (pe_call G_by (hr.mono (by decide)) rfl m_by k_by b_by .nil pass0 (pa_cons (pv 3) (pa_cons (pv 19) pa_nil))))) pa_nil)))) (Evl.pss_cut (ps_if (pt_cmpR op_eq (pe_call G_pick (hr.mono (by decide)) rfl m_pick k_pick b_pick .nil pass0 (pa_cons (pv 1) (pa_cons pe_int pa_nil))) pe_int (nomark _)) (pss_one (ps_set (i := 4) sc.nd rfl (by first | exact Or.inl rfl | exact Or.inr rfl) (pe_tup (pa_cons (pe_ix (ix_tupK (K := K) rfl) (pv 4) pe_int (fun _ _ => rfl)) (pa_cons (pe_lc (own := [("one", 19)]) (tt := tYes) rfl sc.nd (pi_listK (K := K) rfl (pe_ix (ix_tupK (K := K) rfl) (pv 4) pe_int (fun _ _ => rfl))) (blkOk_by (N := ["script", "pool", "many", "far", "rows", "wide", "slow", "kept", "turn", "top", "low", "high", "deep", "k", "count", "begun", "near", "told", "spread", "one"]) (sc := defScope s_law) (by decide +kernel)) (fun _ _ _ _ _ => (pg_name (i := 19) sc.nd rfl (by first | exact Or.inl rfl | exact Or.inr rfl))) (fun _ _ _ _ _ => pts_nil) (fun _ _ _ _ _ => (pe_ix (ix_listK (K := K) rfl) (pe_ix (ix_tupK (K := K) rfl) (pv 4) pe_int (fun _ _ => rfl)) pe_int (fun _ _ => rfl)))) pa_nil))))) pss_nil) (pss_cons (ps_set (i := 5) sc.nd rfl (by first | exact Or.inl rfl | exact Or.inr rfl) (pe_ix (ix_listK (K := K) rfl) (pe_lst (pa_cons (pe_tup (pa_cons pe_int (pa_cons pe_int pa_nil))) (pa_cons (pe_tup (pa_cons pe_int (pa_cons pe_int pa_nil))) pa_nil))) (pe_call G_pick (hr.mono (by decide)) rfl m_pick k_pick b_pick .nil pass0 (pa_cons (pv 1) (pa_cons pe_int pa_nil))) (fun _ _ => rfl))) (pss_cons (ps_set (i := 6) sc.nd rfl (by first | exact Or.inl rfl | exact Or.inr rfl) (pe_tup (pa_cons (pe_ix (ix_tupK (K := K) rfl) (pv 4) pe_int (fun _ _ => rfl)) (pa_cons (pe_lc (own := [("one", 19)]) (tt := tYes) rfl sc.nd (pi_listK (K := K) rfl (pe_call G_drawn (hr.mono (by decide)) rfl m_drawn k_drawn b_drawn .nil pass0 (pa_cons (pv 1) (pa_cons (pv 2) pa_nil)))) (blkOk_by (N := ["script", "pool", "many", "far", "rows", "wide", "slow", "kept", "turn", "top", "low", "high", "deep", "k", "count", "begun", "near", "told", "spread", "one"]) (sc := defScope s_law) (by decide +kernel)) (fun _ _ _ _ _ => (pg_name (i := 19) sc.nd rfl (by first | exact Or.inl rfl | exact Or.inr rfl))) (fun _ _ _ _ _ => pts_nil) (fun _ _ _ _ _ => (pe_call G_by (hr.mono (by decide)) rfl m_by k_by b_by .nil pass0 (pa_cons (pv 5) (pa_cons (pv 19) pa_nil))))) pa_nil)))) (Evl.pss_cut (ps_if (pt_cmpR op_eq (pe_call G_pick (hr.mono (by decide)) rfl m_pick k_pick b_pick .nil pass0 (pa_cons (pv 1) (pa_cons pe_int pa_nil))) pe_int (nomark _)) (pss_one (ps_set (i := 6) sc.nd rfl (by first | exact Or.inl rfl | exact Or.inr rfl) (pe_tup (pa_cons (pe_ix (ix_tupK (K := K) rfl) (pv 4) pe_int (fun _ _ => rfl)) (pa_cons (pe_lc (own := [("one", 19)]) (tt := tYes) rfl sc.nd (pi_listK (K := K) rfl (pe_ix (ix_tupK (K := K) rfl) (pv 6) pe_int (fun _ _ => rfl))) (blkOk_by (N := ["script", "pool", "many", "far", "rows", "wide", "slow", "kept", "turn", "top", "low", "high", "deep", "k", "count", "begun", "near", "told", "spread", "one"]) (sc := defScope s_law) (by decide +kernel)) (fun _ _ _ _ _ => (pg_name (i := 19) sc.nd rfl (by first | exact Or.inl rfl | exact Or.inr rfl))) (fun _ _ _ _ _ => pts_nil) (fun _ _ _ _ _ => (pe_ix (ix_listK (K := K) rfl) (pe_ix (ix_tupK (K := K) rfl) (pv 6) pe_int (fun _ _ => rfl)) pe_int (fun _ _ => rfl)))) pa_nil))))) pss_nil) (pss_cons (ps_set (i := 7) sc.nd rfl (by first | exact Or.inl rfl | exact Or.inr rfl) (pe_callB (repr_K (K := K) hgd hr.units rfl) (by rfl) T.repr (by decide +kernel) (pa_cons (pe_tup (pa_cons (pv 4) (pa_cons (pv 6) pa_nil))) pa_nil))) (pss_cons (ps_par rfl sc.nd (i := 9) (j := 10) rfl rfl (by decide) rfl rfl (pa_cons (pe_ix (ix_listK (K := K) rfl) (pe_call G_extreme (hr.mono (by decide)) rfl m_extreme k_extreme b_extreme .nil pass0 (pa_cons (pe_lc (own := [("one", 19)]) (tt := tYes) rfl sc.nd (pi_listK (K := K) rfl (pe_ix (ix_tupK (K := K) rfl) (pv 4) pe_int (fun _ _ => rfl))) (blkOk_by (N := ["script", "pool", "many", "far", "rows", "wide", "slow", "kept", "turn", "top", "low", "high", "deep", "k", "count", "begun", "near", "told", "spread", "one"]) (sc := defScope s_law) (by decide +kernel)) (fun _ _ _ _ _ => (pg_name (i := 19) sc.nd rfl (by first | exact Or.inl rfl | exact Or.inr rfl))) (fun _ _ _ _ _ => pts_nil) (fun _ _ _ _ _ => (pe_lst (pa_cons (pv 19) pa_nil)))) (pa_cons pe_int pa_nil))) pe_int (fun _ _ => rfl)) (pa_cons (pe_ix (ix_listK (K := K) rfl) (pe_call G_extreme (hr.mono (by decide)) rfl m_extreme k_extreme b_extreme .nil pass0 (pa_cons (pe_lc (own := [("one", 19)]) (tt := tYes) rfl sc.nd (pi_listK (K := K) rfl (pe_ix (ix_tupK (K := K) rfl) (pv 4) pe_int (fun _ _ => rfl))) (blkOk_by (N := ["script", "pool", "many", "far", "rows", "wide", "slow", "kept", "turn", "top", "low", "high", "deep", "k", "count", "begun", "near", "told", "spread", "one"]) (sc := defScope s_law) (by decide +kernel)) (fun _ _ _ _ _ => (pg_name (i := 19) sc.nd rfl (by first | exact Or.inl rfl | exact Or.inr rfl))) (fun _ _ _ _ _ => pts_nil) (fun _ _ _ _ _ => (pe_lst (pa_cons (pv 19) pa_nil)))) (pa_cons (pe_un un_neg pe_int) pa_nil))) pe_int (fun _ _ => rfl)) pa_nil)) (by rfl)) (pss_cons (ps_par rfl sc.nd (i := 11) (j := 12) rfl rfl (by decide) rfl rfl (pa_cons (pe_ix (ix_listK (K := K) rfl) (pe_call G_extreme (hr.mono (by decide)) rfl m_extreme k_extreme b_extreme .nil pass0 (pa_cons (pe_lc (own := [("one", 19)]) (tt := tYes) rfl sc.nd (pi_listK (K := K) rfl (pe_ix (ix_tupK (K := K) rfl) (pv 6) pe_int (fun _ _ => rfl))) (blkOk_by (N := ["script", "pool", "many", "far", "rows", "wide", "slow", "kept", "turn", "top", "low", "high", "deep", "k", "count", "begun", "near", "told", "spread", "one"]) (sc := defScope s_law) (by decide +kernel)) (fun _ _ _ _ _ => (pg_name (i := 19) sc.nd rfl (by first | exact Or.inl rfl | exact Or.inr rfl))) (fun _ _ _ _ _ => pts_nil) (fun _ _ _ _ _ => (pe_lst (pa_cons (pv 19) pa_nil)))) (pa_cons pe_int pa_nil))) pe_int (fun _ _ => rfl)) (pa_cons (pe_ix (ix_listK (K := K) rfl) (pe_call G_extreme (hr.mono (by decide)) rfl m_extreme k_extreme b_extreme .nil pass0 (pa_cons (pe_lc (own := [("one", 19)]) (tt := tYes) rfl sc.nd (pi_listK (K := K) rfl (pe_ix (ix_tupK (K := K) rfl) (pv 6) pe_int (fun _ _ => rfl))) (blkOk_by (N := ["script", "pool", "many", "far", "rows", "wide", "slow", "kept", "turn", "top", "low", "high", "deep", "k", "count", "begun", "near", "told", "spread", "one"]) (sc := defScope s_law) (by decide +kernel)) (fun _ _ _ _ _ => (pg_name (i := 19) sc.nd rfl (by first | exact Or.inl rfl | exact Or.inr rfl))) (fun _ _ _ _ _ => pts_nil) (fun _ _ _ _ _ => (pe_lst (pa_cons (pv 19) pa_nil)))) (pa_cons (pe_un un_neg pe_int) pa_nil))) pe_int (fun _ _ => rfl)) pa_nil)) (by rfl)) (pss_cons (ps_for PassesOwn.never rfl (pi_range1 (by rfl) T.range (pa_cons pe_int pa_nil)) (pg_name (i := 8) sc.nd rfl (by first | exact Or.inl rfl | exact Or.inr rfl)) (pss_cons (ps_set (i := 13) sc.nd rfl (by first | exact Or.inl rfl | exact Or.inr rfl) (pe_call G_pick (hr.mono (by decide)) rfl m_pick k_pick b_pick .nil pass0 (pa_cons (pv 1) (pa_cons (pv 2) pa_nil)))) (pss_cons (ps_set (i := 14) sc.nd rfl (by first | exact Or.inl rfl | exact Or.inr rfl) (pe_ix (ix_listK (K := K) rfl) (pe_lst (pa_cons pe_int (pa_cons pe_int (pa_cons (pe_call G_pick (hr.mono (by decide)) rfl m_pick k_pick b_pick .nil pass0 (pa_cons (pv 1) (pa_cons pe_int pa_nil))) (pa_cons pe_int (pa_cons (pe_op op_mul (pe_call G_pick (hr.mono (by decide)) rfl m_pick k_pick b_pick .nil pass0 (pa_cons (pv 1) (pa_cons pe_int pa_nil))) pe_int) pa_nil)))))) (pe_call G_pick (hr.mono (by decide)) rfl m_pick k_pick b_pick .nil pass0 (pa_cons (pv 1) (pa_cons pe_int pa_nil))) (fun _ _ => rfl))) (pss_cons (ps_set (i := 15) sc.nd rfl (by first | exact Or.inl rfl | exact Or.inr rfl) (pe_call G_and (hr.mono (by decide)) rfl m_and k_and b_and .nil pass0 (pa_cons (pe_lst (pa_cons (pe_call G_by (hr.mono (by decide)) rfl m_by k_by b_by .nil pass0 (pa_cons (pe_tup (pa_cons (pv 14) (pa_cons pe_int pa_nil))) (pa_cons (pe_ix (ix_listK (K := K) rfl) (pe_ix (ix_tupK (K := K) rfl) (pv 4) pe_int (fun _ _ => rfl)) (pv 13) (fun _ _ => rfl)) pa_nil))) (pa_cons (pe_ix (ix_listK (K := K) rfl) (pe_ix (ix_tupK (K := K) rfl) (pv 4) pe_int (fun _ _ => rfl)) (pv 13) (fun _ _ => rfl)) pa_nil))) pa_nil))) (pss_cons (ps_if (pt_cmpR (neD_K (K := K) hr.units rfl) (pe_call G_sums_at_least (hr.mono (by decide)) rfl m_sums_at_least k_sums_at_least b_sums_at_least .nil pass0 (pa_cons (pv 4) (pa_cons (pv 13) (pa_cons (pv 14) pa_nil)))) (pe_call G_less_by (hr.mono (by decide)) rfl m_less_by k_less_by b_less_by .nil pass0 (pa_cons (pv 15) (pa_cons (pv 9) pa_nil))) (nomark _)) (pss_one (ps_ret pe_bl)) pss_nil) (pss_cons (ps_if (pt_cmpR (neD_K (K := K) hr.units rfl) (pe_call G_sums_at_most (hr.mono (by decide)) rfl m_sums_at_most k_sums_at_most b_sums_at_most .nil pass0 (pa_cons (pv 4) (pa_cons (pv 13) (pa_cons (pv 14) pa_nil)))) (pe_call G_less_by (hr.mono (by decide)) rfl m_less_by k_less_by b_less_by .nil pass0 (pa_cons (pv 15) (pa_cons (pv 10) pa_nil))) (nomark _)) (pss_one (ps_ret pe_bl)) pss_nil) (pss_cons (ps_set (i := 16) sc.nd rfl (by first | exact Or.inl rfl | exact Or.inr rfl) (pe_call G_cut (hr.mono (by decide)) rfl m_cut k_cut b_cut .nil pass0 (pa_cons (pe_op op_add pe_int (pe_call G_pick (hr.mono (by decide)) rfl m_pick k_pick b_pick .nil pass0 (pa_cons (pv 1) (pa_cons pe_int pa_nil)))) (pa_cons (pe_op op_add pe_int (pe_call G_pick (hr.mono (by decide)) rfl m_pick k_pick b_pick .nil pass0 (pa_cons (pv 1) (pa_cons pe_int pa_nil)))) pa_nil)))) (pss_cons (ps_set (i := 17) sc.nd rfl (by first | exact Or.inl rfl | exact Or.inr rfl) (pe_callK G_steps_for (hr.mono (by decide)) rfl m_steps_for k_steps_for kb_steps_for pass0 (pa_cons (pv 6) pa_nil) (pk_cons (pv 16) pk_nil))) (pss_cons (ps_set (i := 18) sc.nd rfl (by first | exact Or.inl rfl | exact Or.inr rfl) (pe_call G_less_by (hr.mono (by decide)) rfl m_less_by k_less_by b_less_by .nil pass0 (pa_cons (pv 11) (pa_cons (pv 12) pa_nil)))) (pss_cons (ps_if (PW.pt (pw_or (pt_not (pt_val (pe_callB (isi_K (K := K) rfl) (by rfl) T.isinstance (by decide +kernel) (pa_cons (pv 17) (pa_cons (pe_bltn (v := .ty "int") (by rfl) T.int (by decide +kernel) rfl) pa_nil))))) (pw_or (pt_val (pe_callB (isi_K (K := K) rfl) (by rfl) T.isinstance (by decide +kernel) (pa_cons (pv 17) (pa_cons (pe_bltn (v := .ty "bool") (by rfl) T.bool (by decide +kernel) rfl) pa_nil)))) (pw_or1 (pt_cmpR op_lt (pv 17) pe_int (nomark _)))))) (pss_one (ps_ret pe_bl)) pss_nil) (pss_cons (ps_if (pt_cmpR op_gt (pe_call G_order (hr.mono (by decide)) rfl m_order k_order b_order .nil pass0 (pa_cons (pv 18) (pa_cons (pe_call G_by (hr.mono (by decide)) rfl m_by k_by b_by .nil pass0 (pa_cons (pv 16) (pa_cons (pe_tup (pa_cons (pv 17) (pa_cons pe_int pa_nil))) pa_nil))) pa_nil))) pe_int (nomark _)) (pss_one (ps_ret pe_bl)) pss_nil) (pss_one (ps_if (PW.pt (pw_and (pt_cmpR op_gt (pv 17) pe_int (nomark _)) (pw_and1 (pt_cmpR op_le (pe_call G_order (hr.mono (by decide)) rfl m_order k_order b_order .nil pass0 (pa_cons (pv 18) (pa_cons (pe_call G_by (hr.mono (by decide)) rfl m_by k_by b_by .nil pass0 (pa_cons (pv 16) (pa_cons (pe_tup (pa_cons (pe_op op_sub (pv 17) pe_int) (pa_cons pe_int pa_nil))) pa_nil))) pa_nil))) pe_int (nomark _))))) (pss_one (ps_ret pe_bl)) pss_nil))))))))))))) (pss_one (ps_ret (pe_cmpR op_eq (pe_callB (repr_K (K := K) hgd hr.units rfl) (by rfl) T.repr (by decide +kernel) (pa_cons (pe_tup (pa_cons (pv 4) (pa_cons (pv 6) pa_nil))) pa_nil)) (pv 7) (nomark _)))))))))))))))), ?_⟩
  refine ⟨_, rfl, h0, a, ns, rfl, Ex.refl _, hS, hl, fun q h1 nq g1 p1 => ?_⟩
  refine r_setQ (K := K) (q := q) (exq_op0 nq (Ev.toQ ev_c) (exq_pick rfl nq ev_c (by decide))) g1.gi p1 fun v2 b2 h2 d2 g2 r2 hv2 => ?_
  obtain ⟨z, rfl, i, j, rfl, ⟨j0, j7⟩, rfl⟩ := r2
  obtain rfl := hv2.intI
  obtain ⟨n, hn⟩ : ∃ n : Nat, (n : Int) = 1 + j := ⟨(1 + j).toNat, by omega⟩
  rw [← hn]
  have n1 : 1 ≤ n := by omega
  have n7 : n ≤ 7 := by omega
  have nq2 := g2.nq p1 nq
  have p2 := g2.pl
  have G2 := g1.thenQ nq g2
  have t2 : ∀ {σ : L2.St} {b : Hp} {ta tb : TE} {n d : Int}, Ev ta σ b (.int n) → Ev tb σ b (.int d) → ED K (tTup (tCons ta (tCons tb tNil))) σ b (nD (n, d)) := fun x y => ed_tup (eda_cons (ed_int x) (eda_cons (ed_int y) eda_nil)) (by show 2 ≤ 100000; decide)
  have hp15 : ∀ {σ : L2.St} {b : Hp}, Ev (tOp (rI CPow fun i j => .int (i ^ j.toNat)) (tC (V.int 10)) (tC (V.int 15))) σ b (.int 1000000000000000) := fun {σ b} => ev_is (ev_op ev_c ev_c (rv_I ⟨by decide, by decide, by decide⟩)) (by decide)
  have nbq : ∀ {p : Int × Int} {M B : Nat}, Red p → p.2.natAbs ∣ M → p.1.natAbs ≤ B → nD p = nQ (qN p) ∧ NB M B (qN p) := fun {p M B} hr hM hB => by
    have e : num p.1 p.2 = p := by
      rw [num_canon (by have := hr.1; omega)]
      exact (canon_red_self hr).symm
    have := num_nb (n := p.1) (d := p.2) (M := M) (B := B) (by have := hr.1; omega) hM hB
    rw [e] at this
    refine ⟨?_, this⟩
    unfold nQ
    rw [← canon_red_self hr]
  have nbfar : nD (1000000000000000, 13) = nQ (qN (1000000000000000, 13)) ∧ NB 13 76923076923077 (qN (1000000000000000, 13)) := by
    have hr : Red (1000000000000000, 13) := ⟨by decide, by decide +kernel⟩
    refine ⟨(nbq (M := 13) (B := 1000000000000000) hr (by decide) (by decide)).1, zt_den hr (by decide), ?_, q_le hr (c := 76923076923077) (by decide)⟩
    have h0 := qN_nonneg hr (by decide)
    have := natR_nonneg 76923076923077
    grind
  refine r_setQ (K := K) (q := q) (exq_ix (T := fun d => ∃ r, d = nQ r ∧ NB 13 76923076923077 r) (RL := fun ds => ds = [nD (1, 1), nD (1, 1), nD (1000000000000000, 13)]) nq2 ((ED.toQ (en_lst (eda_cons (t2 ev_c ev_c) (eda_cons (t2 ev_c ev_c) (eda_cons (t2 hp15 ev_c) eda_nil))) (by show 3 ≤ 100000; decide)).ed).imp fun d e => ⟨_, e, rfl⟩) (exq_pick rfl nq2 ev_c (by decide)) fun ds i hds hi => ?_) g2.gi p2 fun v3 b3 h3 d3 g3 r3 hv3 => ?_
  · subst hds
    have : i = 0 ∨ i = 1 ∨ i = 2 := by omega
    rcases this with z | z | z
    · exact ⟨nD (1, 1), by rw [z]; rfl, _, nbq ⟨by decide, by decide⟩ (by decide) (by decide)⟩
    · exact ⟨nD (1, 1), by rw [z]; rfl, _, nbq ⟨by decide, by decide⟩ (by decide) (by decide)⟩
    · exact ⟨nD (1000000000000000, 13), by rw [z]; rfl, _, nbfar⟩
  obtain ⟨far, rfl, hfar⟩ := r3
  have G3 := G2.thenQ nq g3
  have nq3 := g3.nq p2 nq2
  have p3 := g3.pl
  -- bounds
  have nbBig : ∀ {M B : Nat} {r : Rat}, NB M B r → 0 < M → 1 ≤ B → B * M < 2 ^ 59 → Big 59 (canon r) := fun h h1 h2 h3 => h.big h1 h2 h3
  have up9 : ∀ {r : Rat}, Big 59 (canon r) → Big 900 (canon r) := fun h => h.mono (by decide)
  have up5 : ∀ {r : Rat}, Big 59 (canon r) → Big 500 (canon r) := fun h => h.mono (by decide)
  have bfar : Big 59 (canon far) := nbBig hfar (by decide) (by decide) (by decide)
  have b6 : ∀ {r : Rat}, NB 6 10 r → Big 59 (canon r) := fun h => nbBig h (by decide) (by decide) (by decide)
  have bfl : ∀ {x : Rat}, NB 6 10 x → Big 59 (canon (far * x)) := fun {x} h => by
    have := hfar.mul h
    exact nbBig this (by decide) (by decide) (by decide)
  show tSeq _ _ _ [some (.ref a), some (.ref q), some (.int (n : Int)), some v3, none, none, none, none, none, none, none, none, none, none, none, none, none, none, none, none] _
  refine r_setQ (K := K) (q := q) (exq_tup (eaq_cons nq3 (exq_drawn rfl nq3 (ev_var rfl) (by omega)) (eaq_cons nq3 (exq_map (r := fun f k => far * f k) nq3 (exq_drawn rfl nq3 (ev_var rfl) (by omega)) (by omega) (fun _ => rfl) fun f pf k v b4 hk e4 hv => ed_timesQ (eda_cons (ed_var rfl (hv3.up e4)) (eda_cons (ed_var rfl hv) eda_nil)) (up9 bfar) (up9 (b6 (pf k hk)))) eaq_nil)) fun ds hds => ?_) g3.gi p3 fun v4 b4 h4 d4 g4 r4 hv4 => ?_
  · obtain ⟨_, _, rfl, _, _, _, rfl, _, rfl⟩ := hds
    show 2 ≤ 100000
    decide
  obtain ⟨ds, rfl, _, _, rfl, ⟨g, rfl, hg⟩, _, _, rfl, ⟨f0, hf0, rfl⟩, rfl⟩ := r4
  have hbg : ∀ k, k < n → Big 59 (canon (g k)) := fun k hk => b6 (hg k hk)
  obtain ⟨l, hl1, hbl⟩ : ∃ l : Nat → Rat, (fun k => far * f0 k) = l ∧ ∀ k, k < n → Big 59 (canon (l k)) := ⟨_, rfl, fun k hk => bfl (hf0 k hk)⟩
  rw [hl1] at hv4
  replace hv4 : Dt K b4 v4 (rowsD n g l) := hv4
  have G4 := G3.thenQ nq g4
  have nq4 := g4.nq p3 nq3
  have p4 := g4.pl
  show tCut _ _ _ [some (.ref a), some (.ref q), some (.int (n : Int)), some v3, some v4, none, none, none, none, none, none, none, none, none, none, none, none, none, none, none] _
  have listC : ∀ {x : Rat}, givenD ((List.range n).map fun k => nQ (l k)).length (fun _ => true) (fun _ => nQ x) = (List.range n).map fun _ => nQ x := fun {x} => by rw [givenD_all, List.length_map, List.length_range]
  refine ⟨fun σ' h' => ∃ (v : V) (l : Nat → Rat) (b' : Hp), σ' = [some (.ref a), some (.ref q), some (.int (n : Int)), some v3, some v, none, none, none, none, none, none, none, none, none, none, none, none, none, none, none] ∧ Gr h0 h0 b' h' ∧ b' q = none ∧ PoolAt h' q ∧ Dt K b' v (rowsD n g l) ∧ ∀ k, k < n → Big 59 (canon (l k)), ?_, ?_⟩
  · refine r_if1Q (exq_pick rfl nq4 ev_c (by decide)) g4.gi p4 (fun h5 g5 => ?_) (fun h5 g5 => ?_)
    · refine r_set1 (K := K) (d := rowsD n g (fun _ => l 0)) (ed_tup (eda_cons (ed_ixT (ds := [listQ n g, listQ n l]) (ed_var rfl hv4) ev_c rfl) (eda_cons (d := listQ n (fun _ => l 0)) (by
        unfold listQ
        rw [← listC]
        exact EN.ed (en_lcL (ed_ixT (ds := [listQ n g, listQ n l]) (ed_var rfl hv4) ev_c rfl) (by rw [List.length_map, List.length_range]; omega) _ _ (fun _ => rfl) fun i d x b6 e6 hd hx => ⟨et_yes, fun _ => ed_ixL (ed_ixT (ds := [listQ n g, listQ n l]) (ed_var rfl (hv4.up e6)) ev_c rfl) ev_c (listQ_at (k := 0) n1)⟩)) eda_nil)) (by show 2 ≤ 100000; decide)) g5.gi fun v6 b6' h6 g6 hv6 => ?_
      have GX := G4.thenQ nq (g5.trans p4 (g6.toQ g5.pl))
      exact ⟨v6, _, b6', rfl, GX, (g6.toQ g5.pl).nq g5.pl nq4, g5.pl.up g6.gh, hv6, fun k hk => hbl 0 n1⟩
    · exact ⟨v4, l, b4, rfl, G4.thenQ nq g5, nq4, g5.pl, hv4, hbl⟩
  clear hv4 hbl hl1 hf0 listC
  rintro σ' h5 ⟨v5, l, b5, rfl, G5, nq5, p5, hv5, hbl⟩
  have nbw : ∀ d, d = nD (1, 1) ∨ d = nD (1000, 13) → ∃ r, d = nQ r ∧ NB 13 1000 r := fun d hd => by
    rcases hd with rfl | rfl
    · exact ⟨_, nbq ⟨by decide, by decide⟩ (by decide) (by decide)⟩
    · exact ⟨_, nbq ⟨by decide, by decide +kernel⟩ (by decide) (by decide)⟩
  refine r_setQ (K := K) (q := q) (exq_ix (T := fun d => ∃ r, d = nQ r ∧ NB 13 1000 r) (RL := fun ds => ds = [nD (1, 1), nD (1000, 13)]) nq5 ((ED.toQ (en_lst (eda_cons (t2 ev_c ev_c) (eda_cons (t2 ev_c ev_c) eda_nil)) (by show 2 ≤ 100000; decide)).ed).imp fun d e => ⟨_, e, rfl⟩) (exq_pick rfl nq5 ev_c (by decide)) fun ds i hds hi => ?_) (Gr.gi G5) p5 fun v6 b6' h6 d6 g6 r6 hv6 => ?_
  · subst hds
    have : i = 0 ∨ i = 1 := by omega
    rcases this with z | z
    · exact ⟨nD (1, 1), by rw [z]; rfl, nbw _ (.inl rfl)⟩
    · exact ⟨nD (1000, 13), by rw [z]; rfl, nbw _ (.inr rfl)⟩
  obtain ⟨wide, rfl, hwide⟩ := r6
  have G6 := G5.thenQ nq g6
  have nq6 := g6.nq p5 nq5
  have p6 := g6.pl
  have bwide : Big 59 (canon wide) := nbBig hwide (by decide) (by decide) (by decide)
  have bwl : ∀ {x : Rat}, NB 6 10 x → Big 59 (canon (wide * x)) := fun {x} h => by
    have := hwide.mul h
    exact nbBig this (by decide) (by decide) (by decide)
  have hv56 := hv5.up g6.gb
  show tSeq _ _ _ [some (.ref a), some (.ref q), some (.int (n : Int)), some v3, some v5, some v6, none, none, none, none, none, none, none, none, none, none, none, none, none, none] _
  refine r_setQ (K := K) (q := q) (exq_tup (eaq_cons nq6 (ED.toQ (ed_ixT (ds := [listQ n g, listQ n l]) (ed_var rfl hv56) ev_c rfl)) (eaq_cons nq6 (exq_map (r := fun f k => wide * f k) nq6 (exq_drawn rfl nq6 (ev_var rfl) (by omega)) (by omega) (fun _ => rfl) fun f pf k v b4 hk e4 hv => ed_timesQ (eda_cons (ed_var rfl (hv6.up e4)) (eda_cons (ed_var rfl hv) eda_nil)) (up9 bwide) (up9 (b6 (pf k hk)))) eaq_nil)) fun ds hds => ?_) g6.gi p6 fun v7 b7 h7 d7 g7 r7 hv7 => ?_
  · obtain ⟨_, _, rfl, _, _, _, rfl, _, rfl⟩ := hds
    show 2 ≤ 100000
    decide
  obtain ⟨ds, rfl, _, _, rfl, rfl, _, _, rfl, ⟨f0, hf0, rfl⟩, rfl⟩ := r7
  obtain ⟨m, hm1, hbm⟩ : ∃ m : Nat → Rat, (fun k => wide * f0 k) = m ∧ ∀ k, k < n → Big 59 (canon (m k)) := ⟨_, rfl, fun k hk => bwl (hf0 k hk)⟩
  rw [hm1] at hv7
  replace hv7 : Dt K b7 v7 (rowsD n g m) := hv7
  have G7 := G6.thenQ nq g7
  have nq7 := g7.nq p6 nq6
  have p7 := g7.pl
  have hv57 := hv56.up g7.gb
  show tCut _ _ _ [some (.ref a), some (.ref q), some (.int (n : Int)), some v3, some v5, some v6, some v7, none, none, none, none, none, none, none, none, none, none, none, none, none] _
  have listC : ∀ {x : Rat}, givenD ((List.range n).map fun k => nQ (m k)).length (fun _ => true) (fun _ => nQ x) = (List.range n).map fun _ => nQ x := fun {x} => by rw [givenD_all, List.length_map, List.length_range]
  refine ⟨fun σ' h' => ∃ (v : V) (m : Nat → Rat) (b' : Hp), σ' = [some (.ref a), some (.ref q), some (.int (n : Int)), some v3, some v5, some v6, some v, none, none, none, none, none, none, none, none, none, none, none, none, none] ∧ Gr h0 h0 b' h' ∧ b' q = none ∧ PoolAt h' q ∧ Dt K b' v5 (rowsD n g l) ∧ Dt K b' v (rowsD n g m) ∧ ∀ k, k < n → Big 59 (canon (m k)), ?_, ?_⟩
  · refine r_if1Q (exq_pick rfl nq7 ev_c (by decide)) g7.gi p7 (fun h8 g8 => ?_) (fun h8 g8 => ?_)
    · refine r_set1 (K := K) (d := rowsD n g (fun _ => m 0)) (ed_tup (eda_cons (ed_ixT (ds := [listQ n g, listQ n l]) (ed_var rfl hv57) ev_c rfl) (eda_cons (d := listQ n (fun _ => m 0)) (by
        unfold listQ
        rw [← listC]
        exact EN.ed (en_lcL (ed_ixT (ds := [listQ n g, listQ n m]) (ed_var rfl hv7) ev_c rfl) (by rw [List.length_map, List.length_range]; omega) _ _ (fun _ => rfl) fun i d x b9 e9 hd hx => ⟨et_yes, fun _ => ed_ixL (ed_ixT (ds := [listQ n g, listQ n m]) (ed_var rfl (hv7.up e9)) ev_c rfl) ev_c (listQ_at (k := 0) n1)⟩)) eda_nil)) (by show 2 ≤ 100000; decide)) g8.gi fun v9 b9 h9 g9 hv9 => ?_
      have GX := G7.thenQ nq (g8.trans p7 (g9.toQ g8.pl))
      exact ⟨v9, _, b9, rfl, GX, (g9.toQ g8.pl).nq g8.pl nq7, g8.pl.up g9.gh, hv57.up g9.gb, hv9, fun k hk => hbm 0 n1⟩
    · exact ⟨v7, m, b7, rfl, G7.thenQ nq g8, nq7, g8.pl, hv57, hv7, hbm⟩
  clear hv7 hbm hm1 hf0 listC hv57 hv56 nq7 p7 G7
  rintro σ' h8 ⟨v8, m, b8, rfl, G8, nq8, p8, hv5, hv8, hbm⟩
  -- the text of both rows
  have nR : Nice 4 2700 (PyData.tuple [rowsD n g l, rowsD n g m]) := (nice_tup (k := 3) (L := 1300) (n := 2) (fun d hd => by
    rcases List.mem_cons.mp hd with rfl | hd
    · exact nice_rows (by omega) hbg hbl
    · rw [List.mem_singleton.mp hd]
      exact nice_rows (by omega) hbg hbm) (by show 2 ≤ 2; decide)).mono (by decide) (by decide)
  have hrep : ∀ {σ : L2.St} {b' : Hp}, Ex b8 b' → σ[4]? = some (some v5) → σ[6]? = some (some v8) → Ev (tCB (rRepr K) (tCons (tTup (tCons (tVar 4) (tCons (tVar 6) tNil))) tNil)) σ b' (.str (PyData.tuple [rowsD n g l, rowsD n g m]).shown) := fun {σ b'} e s1 s2 => ev_reprN (ed_tup (eda_cons (ed_var s1 (hv5.up e)) (eda_cons (ed_var s2 (hv8.up e)) eda_nil)) (by show 2 ≤ 100000; decide)) nR (fun v H x => ref_tup x) (by decide) (by decide)
  refine r_sc (hrep (Ex.refl _) rfl rfl) G8.gi fun h9 g9 => ?_
  generalize (PyData.tuple [rowsD n g l, rowsD n g m]).shown = kept at hrep
  have p9 := p8.up g9.gh
  have G9 := G8.trans g9
  have h9l : ∀ k, k < n → Big 900 (canon (l k)) := fun k hk => up9 (hbl k hk)
  have h9m : ∀ k, k < n → Big 900 (canon (m k)) := fun k hk => up9 (hbm k hk)
  have ones : ∀ {σ : L2.St} {b' : Hp} {i : Nat} {v : V} {F : Nat → Rat}, Dt K b' v (rowsD n g F) → σ[i]? = some (some v) → (∀ x : V, ((wipe σ [19]).set 19 (some x))[19]? = some (some x)) → (∀ x, wipe ((wipe σ [19]).set 19 (some x)) [19] = wipe σ [19]) → ED K (tLc (iList K (tOp (rIxT K) (tVar i) (tC (V.int 1)))) (gName 19) tYes (tLst (tCons (tVar 19) tNil)) [19]) σ b' (onesD n F) := fun {σ b' i v F} hv s w1 w2 => by
    have e1 : ((List.range n).map fun k => oneD (F k)) = givenD ((List.range n).map fun k => nQ (F k)).length (fun _ => true) (fun k => oneD (F k)) := by rw [givenD_all, List.length_map, List.length_range]
    unfold onesD
    rw [e1]
    refine EN.ed (en_lcL (ed_ixT (ds := [listQ n g, listQ n F]) (ed_var s hv) ev_c rfl) (by rw [List.length_map, List.length_range]; omega) _ _ w2 fun i d x b6 e6 hd hx => ⟨et_yes, fun _ => ?_⟩)
    have hi : i < n := by
      have := (List.getElem?_eq_some_iff.mp hd).1
      rwa [List.length_map, List.length_range] at this
    rw [List.getElem?_map, List.getElem?_range hi] at hd
    cases hd
    exact EN.ed (en_lst (eda_cons (ed_var (w1 x) hx) eda_nil) (by show 1 ≤ 100000; decide))
  have at0 : ∀ {x : Rat}, L2.atI [nQ x] (0 : Int) = some (nQ x) := fun {x} => rfl
  refine r_par (K := K) (b := b8) (d1 := nQ (tkF true n l)) (d2 := nQ (tkF false n l)) (eda_cons (ed_ixL (ed_extreme (o := true) (eda_cons (ones hv5 rfl (fun _ => rfl) (fun _ => rfl)) (eda_cons (ed_int ev_c) eda_nil)) n1 (by omega) h9l) ev_c at0) (eda_cons (ed_ixL (ed_extreme (o := false) (eda_cons (ones hv5 rfl (fun _ => rfl) (fun _ => rfl)) (eda_cons (ed_int (ev_un ev_c ru_neg)) eda_nil)) n1 (by omega) h9l) ev_c at0) eda_nil)) G9.gi fun w9 w10 b10 h10 g10 k9 k10 => ?_
  have hv8' := hv8.up g10.gb
  refine r_par (K := K) (b := b10) (d1 := nQ (tkF true n m)) (d2 := nQ (tkF false n m)) (eda_cons (ed_ixL (ed_extreme (o := true) (eda_cons (ones hv8' rfl (fun _ => rfl) (fun _ => rfl)) (eda_cons (ed_int ev_c) eda_nil)) n1 (by omega) h9m) ev_c at0) (eda_cons (ed_ixL (ed_extreme (o := false) (eda_cons (ones hv8' rfl (fun _ => rfl) (fun _ => rfl)) (eda_cons (ed_int (ev_un ev_c ru_neg)) eda_nil)) n1 (by omega) h9m) ev_c at0) eda_nil)) g10.gi fun w11 w12 b11 h11 g11 k11 k12 => ?_
  have G11 := (G9.trans g10).trans g11
  have p11 := (p9.up g10.gh).up g11.gh
  have nq11 : b11 q = none := g11.gf q (g10.gf q nq8 p9.some) (p9.up g10.gh).some
  show tSeq _ _ _ [some (.ref a), some (.ref q), some (.int (n : Int)), some v3, some v5, some v6, some v8, some (.str kept), none, some w9, some w10, some w11, some w12, none, none, none, none, none, none, none] _
  have hn0 : (0 : Int) < (n : Int) := by omega
  have t2q : ∀ {σ : L2.St} {b : Hp} {ta : TE} {c : Nat}, Ev ta σ b (.int (c : Int)) → ED K (tTup (tCons ta (tCons (tC (V.int 1)) tNil))) σ b (nQ (natR c)) := fun {σ b ta c} x => by
    have : nQ (natR c) = nD ((c : Int), 1) := by
      unfold nQ
      rw [show natR c = ((c : Int) : Rat) from rfl, canon_int]
    rw [this]
    exact t2 x ev_c
  have t2z : ∀ {σ : L2.St} {b : Hp} {ta : TE} {c : Int}, Ev ta σ b (.int c) → ED K (tTup (tCons ta (tCons (tC (V.int 1)) tNil))) σ b (nQ (c : Rat)) := fun {σ b ta c} x => by
    have : nQ (c : Rat) = nD (c, 1) := by
      unfold nQ
      rw [canon_int]
    rw [this]
    exact t2 x ev_c
  obtain ⟨jh, hjh, ejh⟩ := tkF_mem (o := true) (f := l) (n := n) n1 (Nat.le_refl _)
  obtain ⟨jl, hjl, ejl⟩ := tkF_mem (o := false) (f := l) (n := n) n1 (Nat.le_refl _)
  obtain ⟨mh, hmh, emh⟩ := tkF_mem (o := true) (f := m) (n := n) n1 (Nat.le_refl _)
  obtain ⟨ml, hml, eml⟩ := tkF_mem (o := false) (f := m) (n := n) n1 (Nat.le_refl _)
  have btop : Big 59 (canon (tkF true n l)) := by rw [ejh]; exact hbl _ hjh
  have blow : Big 59 (canon (tkF false n l)) := by rw [ejl]; exact hbl _ hjl
  have bhi : Big 59 (canon (tkF true n m)) := by rw [emh]; exact hbm _ hmh
  have bdp : Big 59 (canon (tkF false n m)) := by rw [eml]; exact hbm _ hml
  have bspr : Big 120 (canon (tkF true n m - tkF false n m)) := (bigQ_minus bhi bdp).mono (by decide)
  refine s_forR1 (H := h11) (n := 3) (ea_cons ev_c ea_nil) (by omega) (fun _ σ' h' => ∃ (u8 u13 u14 u15 u16 u17 u18 u19 : Option V) (b' : Hp), σ' = [some (.ref a), some (.ref q), some (.int (n : Int)), some v3, some v5, some v6, some v8, some (.str kept), u8, some w9, some w10, some w11, some w12, u13, u14, u15, u16, u17, u18, u19] ∧ Gr h0 h0 b' h' ∧ Ex b11 b' ∧ b' q = none ∧ PoolAt h' q)
    (fun h e => ⟨none, none, none, none, none, none, none, none, b11, rfl, G11.trans (Gr.stay G11.gi e), Ex.refl _, nq11, p11.up e⟩) ?_ ?_
  · rintro i σ' h' hi ⟨u8, u13, u14, u15, u16, u17, u18, u19, b', rfl, Gi, ex, nb, pp⟩
    show tSeq _ _ _ [some (.ref a), some (.ref q), some (.int (n : Int)), some v3, some v5, some v6, some v8, some (.str kept), some (.int (i : Int)), some w9, some w10, some w11, some w12, u13, u14, u15, u16, u17, u18, u19] _
    refine r_setQ (K := K) (q := q) (exq_pick rfl nb (ev_var rfl) hn0) Gi.gi pp fun vx bx hx dx gx rx hvx => ?_
    obtain ⟨z, rfl, z0, z1⟩ := rx
    obtain rfl := hvx.intI
    obtain ⟨x, rfl⟩ : ∃ x : Nat, z = (x : Int) := ⟨z.toNat, by omega⟩
    have hxn : x < n := by omega
    have Gx := Gi.thenQ nq gx
    have nbx := gx.nq pp nb
    have px := gx.pl
    refine r_setQ (K := K) (q := q) (exq_ix (T := fun d => ∃ c : Nat, d = .int (c : Int) ∧ c ≤ 1020) nbx (exq_lst (eaq_cons nbx (Ev.toQ ev_c) (eaq_cons nbx (Ev.toQ ev_c) (eaq_cons nbx (exq_pick rfl nbx ev_c (by decide)) (eaq_cons nbx (Ev.toQ ev_c) (eaq_cons nbx (exq_op nbx (exq_pick rfl nbx ev_c (by decide)) (Ev.toQ ev_c) fun _ _ _ h => .inr (by rw [h]; exact ⟨by decide, by decide⟩)) eaq_nil))))) fun ds hds => ?_) (exq_pick rfl nbx ev_c (by decide)) fun ds i hds hi => ?_) Gx.gi px fun vc bc hc dc gc rc hvc => ?_
    · obtain ⟨_, _, rfl, _, _, _, rfl, _, _, _, rfl, _, _, _, rfl, _, _, _, rfl, _, rfl⟩ := hds
      show 5 ≤ 100000
      decide
    · obtain ⟨_, _, rfl, ⟨c1, rfl, rfl⟩, _, _, rfl, ⟨c2, rfl, rfl⟩, _, _, rfl, ⟨c3, rfl, y0, y1⟩, _, _, rfl, ⟨c4, rfl, rfl⟩, _, _, rfl, ⟨c5, rfl, i5, j5, ⟨y2, y3⟩, rfl, rfl⟩, rfl⟩ := hds
      have : i = 0 ∨ i = 1 ∨ i = 2 ∨ i = 3 ∨ i = 4 := by omega
      rcases this with z | z | z | z | z
      · exact ⟨_, by rw [z]; rfl, 0, rfl, by decide⟩
      · exact ⟨_, by rw [z]; rfl, 1, rfl, by decide⟩
      · exact ⟨_, by rw [z]; rfl, c3.toNat, by rw [Int.toNat_of_nonneg y0], by omega⟩
      · exact ⟨_, by rw [z]; rfl, 1000, rfl, by decide⟩
      · exact ⟨_, by rw [z]; rfl, (i5 * 20).toNat, by rw [Int.toNat_of_nonneg (by omega)], by omega⟩
    obtain ⟨c, rfl, hc1⟩ := rc
    obtain rfl := hvc.intI
    have Gc := Gx.thenQ nq gc
    have nbc := gc.nq px nbx
    have pc := gc.pl
    have exc : Ex b11 bc := ex.trans (gx.gb.trans gc.gb)
    have h5c := hv5.up (g10.gb.trans (g11.gb.trans exc))
    have h8c := hv8.up (g10.gb.trans (g11.gb.trans exc))
    have bc20 : Big 20 (canon (natR c)) := bigQ_nat (by omega) (by decide)
    have bcg : Big 79 (canon (natR c * g x)) := bigQ_times bc20 (hbg x hxn)
    have bsum : Big 139 (canon (natR c * g x + l x)) := bigQ_plus bcg (hbl x hxn)
    have hs2 : [natR c * g x, l x].sum = natR c * g x + l x := by rw [List.sum_cons, List.sum_cons, List.sum_nil, Rat.add_zero]
    refine r_set (K := K) (d := nQ (natR c * g x + l x)) (by
      rw [← hs2]
      refine ed_totL (l := [natR c * g x, l x]) (eda_cons (EN.ed (en_lst (eda_cons (ed_timesQ (eda_cons (t2q (ev_var rfl)) (eda_cons (ed_ixL (ed_ixT (ds := [listQ n g, listQ n l]) (ed_var rfl h5c) ev_c rfl) (ev_var rfl) (listQ_at hxn)) eda_nil)) (bc20.mono (by decide)) (up9 (hbg x hxn))) (eda_cons (ed_ixL (ed_ixT (ds := [listQ n g, listQ n l]) (ed_var rfl h5c) ev_c rfl) (ev_var rfl) (listQ_at hxn)) eda_nil)) (by show 2 ≤ 100000; decide))) eda_nil) (by show 2 ≤ 1000; decide) (fun i hi => ?_) (fun r hr => ?_)
      · have : i = 0 ∨ i = 1 ∨ i = 2 := by
          have : i ≤ 2 := hi
          omega
        rcases this with z | z | z
        · rw [z]
          show Big 900 (canon 0)
          rw [canon_zero]
          exact (show Big 1 (0, 1) from ⟨by decide, by decide⟩).mono (by decide)
        · rw [z]
          show Big 900 (canon (natR c * g x + 0))
          rw [Rat.add_zero]
          exact bcg.mono (by decide)
        · rw [z]
          show Big 900 (canon [natR c * g x, l x].sum)
          rw [hs2]
          exact bsum.mono (by decide)
      · rcases List.mem_cons.mp hr with rfl | hr
        · exact bcg.mono (by decide)
        · rw [List.mem_singleton.mp hr]
          exact up9 (hbl x hxn)) gc.gi fun vb bb hb gb hvb => ?_
    have Gb := Gc.trans gb
    have h5b := h5c.up gb.gb
    have h8b := h8c.up gb.gb
    have exb := exc.trans gb.gb
    have k9b := k9.up (g11.gb.trans exb)
    have k10b := k10.up (g11.gb.trans exb)
    have k11b := k11.up exb
    have k12b := k12.up exb
    have nbb : bb q = none := gb.gf q nbc pc.some
    have pb := pc.up gb.gh
    show tSeq _ _ _ [some (.ref a), some (.ref q), some (.int (n : Int)), some v3, some v5, some v6, some v8, some (.str kept), some (.int (i : Int)), some w9, some w10, some w11, some w12, some (.int (x : Int)), some (.int (c : Int)), some vb, u16, u17, u18, u19] _
    refine r_if (b := bb) (c := false) (et_test (ev_differQ (p := canon (natR c * g x + l x - tkF true n l)) (ed_sums (eda_cons (ed_var rfl h5b) (eda_cons (ed_int (ev_var rfl)) (eda_cons (ed_int (ev_var rfl)) eda_nil))) hxn (by omega) (fun y hy => up5 (hbg y hy)) fun y hy => up5 (hbl y hy)) (ed_minusQ (eda_cons (ed_var rfl hvb) (eda_cons (ed_var rfl k9b) eda_nil)) (bsum.mono (by decide)) (up9 btop)))) gb.gi (fun z => by cases z) fun _ hd gd => ?_
    refine L2.st_next ?_
    dsimp only
    refine r_if (b := bb) (c := false) (et_test (ev_differQ (p := canon (natR c * g x + l x - tkF false n l)) (ed_sums (eda_cons (ed_var rfl h5b) (eda_cons (ed_int (ev_var rfl)) (eda_cons (ed_int (ev_var rfl)) eda_nil))) hxn (by omega) (fun y hy => up5 (hbg y hy)) fun y hy => up5 (hbl y hy)) (ed_minusQ (eda_cons (ed_var rfl hvb) (eda_cons (ed_var rfl k10b) eda_nil)) (bsum.mono (by decide)) (up9 blow)))) gd.gi (fun z => by cases z) fun _ he ge => ?_
    refine L2.st_next ?_
    dsimp only
    have pe := (pb.up gd.gh).up ge.gh
    have Ge := (Gb.trans gd).trans ge
    refine r_setQ (K := K) (q := q) (R := fun d => ∃ z w : Int, d = nD (num z w) ∧ 1 ≤ z ∧ z ≤ 30 ∧ 1 ≤ w ∧ w ≤ 60) ((exq_call (R := fun ds => ∃ z w : Int, ds = [.int z, .int w] ∧ 1 ≤ z ∧ z ≤ 30 ∧ 1 ≤ w ∧ w ≤ 60) (fun h e p Q kk => (eaq_cons nbb (exq_op0 nbb (Ev.toQ ev_c) (exq_pick rfl nbb ev_c (by decide))) (eaq_cons nbb (exq_op0 nbb (Ev.toQ ev_c) (exq_pick rfl nbb ev_c (by decide))) eaq_nil)) h e p Q fun vs b' h' ds g r hv => kk vs b' h' ds g (by
        obtain ⟨d1, es, rfl, ⟨z1, rfl, i1, j1, rfl, ⟨c2, c3⟩, rfl⟩, d2, es2, rfl, ⟨z2, rfl, i2, j2, rfl, ⟨c5, c6⟩, rfl⟩, rfl⟩ := r
        exact ⟨_, _, rfl, by omega, by omega, by omega, by omega⟩) hv) fun ds hds => (by
        obtain ⟨z, w, rfl, a1, a2, a3, a4⟩ := hds
        have up : ∀ {x : Nat}, x < 2 ^ 10 → x < 2 ^ 1900 := fun h => Nat.lt_of_lt_of_le h (Nat.pow_le_pow_right (by decide) (by decide))
        exact ⟨rfl, z, w, rfl, by omega, up (by omega), up (by omega)⟩)).imp fun d hd => by
        obtain ⟨ds, ⟨z, w, rfl, a1, a2, a3, a4⟩, hf⟩ := hd
        exact ⟨z, w, hf z w rfl, a1, a2, a3, a4⟩) Ge.gi pe fun vn bn hn' dn gn rn hvn => ?_
    obtain ⟨z, w, rfl, a1, a2, a3, a4⟩ := rn
    rw [num_nQ (by omega)] at hvn
    have her0 : 0 < qN (num z w) := by
      rw [q_num (by omega), Rat.div_def]
      exact Rat.mul_pos (cast_pos (by omega)) (Rat.inv_pos.mpr (cast_pos (by omega)))
    have ber : Big 59 (canon (qN (num z w))) := by
      rw [← canon_red_self (num_red (by omega))]
      exact (bigQ_num (j := 10) (k := 0) (by omega) (by omega) (by omega)).mono (by decide)
    generalize qN (num z w) = er at *
    have Gn := Ge.thenQ nq gn
    have nbn := gn.nq pe nbb
    have pn := gn.pl
    refine r_callK (K := K) (n := 1) (m := 1) (eda_cons (ed_var rfl (h8b.up gn.gb)) eda_nil) (eda_cons (ed_var rfl hvn) eda_nil) gn.gi rfl rfl fun us bC hC gC hA => ?_
    refine ⟨bC, n, g, m, er, gC.gi, hA, n1, (fun y hy => up5 (hbm y hy)), her0, up5 ber, fun hD eD => ?_⟩
    have GD := (Gn.trans gC).trans (Gr.stay gC.gi eD)
    have hspr : hiQ m n - loQ m n = tkF true n m - tkF false n m := rfl
    rw [hspr]
    have hvnD := hvn.up gC.gb
    have hst := steps_ge ((tkF true n m - tkF false n m) / er)
    have bst := steps_big ((bigQ_div bspr ber her0).mono (by decide : 120 + 59 ≤ 200)) (by decide)
    have hz1 : tkF true n m - tkF false n m ≤ er * ((stepsZ ((tkF true n m - tkF false n m) / er) : Int) : Rat) := by
      have h1 := hst.2.1
      have h2 := Rat.mul_le_mul_of_nonneg_left h1 (Rat.le_of_lt her0)
      have h3 : er * ((tkF true n m - tkF false n m) / er) = tkF true n m - tkF false n m := by
        rw [Rat.mul_comm]
        exact Rat.div_mul_cancel (by grind)
      rw [h3] at h2
      exact h2
    have hz2 : 1 < stepsZ ((tkF true n m - tkF false n m) / er) → er * ((stepsZ ((tkF true n m - tkF false n m) / er) - 1 : Int) : Rat) < tkF true n m - tkF false n m := fun hh => by
      have h1 := hst.2.2 hh
      have h2 := Rat.mul_lt_mul_of_pos_left h1 her0
      have h3 : er * ((tkF true n m - tkF false n m) / er) = tkF true n m - tkF false n m := by
        rw [Rat.mul_comm]
        exact Rat.div_mul_cancel (by grind)
      rw [h3] at h2
      exact h2
    have hz3 := hst.1
    generalize stepsZ ((tkF true n m - tkF false n m) / er) = tz at *
    have k11D := (k11b.up gn.gb).up gC.gb
    have k12D := (k12b.up gn.gb).up gC.gb
    refine r_set (K := K) (d := nQ (tkF true n m - tkF false n m)) (ed_minusQ (eda_cons (ed_var rfl k11D) (eda_cons (ed_var rfl k12D) eda_nil)) (up9 bhi) (up9 bdp)) GD.gi fun vs bS hS gS hvS => ?_
    have GS := GD.trans gS
    have hvnS := hvnD.up gS.gb
    show tSeq _ _ _ [some (.ref a), some (.ref q), some (.int (n : Int)), some v3, some v5, some v6, some v8, some (.str kept), some (.int (i : Int)), some w9, some w10, some w11, some w12, some (.int (x : Int)), some (.int (c : Int)), some vb, some vn, some (.int tz), some vs, u19] _
    refine r_if (b := bS) (c := false) (et_is (et_or (a := false) (b := false) (et_is (et_not (et_B (ev_isiI (i := tz) (r := true) (ev_var rfl) (by decide +kernel)))) rfl) fun _ => et_is (et_or (a := false) (b := false) (et_B (ev_isiI (i := tz) (r := false) (ev_var rfl) (by decide +kernel))) fun _ => et_test (ev_is (ev_op (ev_var rfl) ev_c rv_I0) (congrArg V.bl (decide_eq_false (by omega))))) rfl) rfl) gS.gi (fun z => by cases z) fun _ hE gE => ?_
    refine L2.st_next ?_
    dsimp only
    have byE : ∀ {σ : L2.St} {ta : TE} {y : Int}, σ[16]? = some (some vn) → Ev ta σ bS (.int y) → Big 200 (canon (y : Rat)) → ED K (tCall (spNum2 K timesN) [] E0 (tCons (tVar 16) (tCons (tTup (tCons ta (tCons (tC (V.int 1)) tNil))) tNil))) σ bS (nQ (er * (y : Rat))) := fun {σ ta y} s e hb => ed_timesQ (eda_cons (ed_var s hvnS) (eda_cons (t2z e) eda_nil)) (up9 ber) (hb.mono (by decide))
    have bpr : ∀ {y : Int}, Big 200 (canon (y : Rat)) → Big 900 (canon (er * (y : Rat))) := fun h => (bigQ_times ber h).mono (by decide)
    refine r_if (b := bS) (c := false) (et_test (ev_is (ev_op (ev_order (eda_cons (ed_var rfl hvS) (eda_cons (byE rfl (ev_var rfl) bst.1) eda_nil)) (bspr.mono (by decide)) (bpr bst.1)) ev_c rv_I0) (congrArg V.bl (ord_le hz1)))) gE.gi (fun z => by cases z) fun _ hF gF => ?_
    refine L2.st_next ?_
    dsimp only
    refine r_if1 (b := bS) (c := false) ?_ gF.gi (fun z => by cases z) fun _ hG gG => ?_
    · by_cases ht : 1 < tz
      · exact et_is (et_and (a := true) (b := false) (et_test (ev_is (ev_op (ev_var rfl) ev_c rv_I0) (congrArg V.bl (decide_eq_true ht)))) fun _ => et_test (ev_is (ev_op (ev_order (eda_cons (ed_var rfl hvS) (eda_cons (byE rfl (ev_op (ev_var rfl) ev_c rv_I0) bst.2) eda_nil)) (bspr.mono (by decide)) (bpr bst.2)) ev_c rv_I0) (congrArg V.bl (ord_gt (hz2 ht))))) rfl
      · exact et_is (et_and (a := false) (b := false) (et_test (ev_is (ev_op (ev_var rfl) ev_c rv_I0) (congrArg V.bl (decide_eq_false ht)))) fun z => by cases z) rfl
    · have GG := ((GS.trans gE).trans gF).trans gG
      have pD := (pn.up gC.gh).up eD
      have pS := pD.up gS.gh
      have nbC : bC q = none := gC.gf q nbn pn.some
      exact ⟨_, _, _, _, _, _, _, _, bS, rfl, GG, exb.trans (gn.gb.trans (gC.gb.trans gS.gb)), gS.gf q nbC pD.some, ((pS.up gE.gh).up gF.gh).up gG.gh⟩
  · rintro σ' h' ⟨u8, u13, u14, u15, u16, u17, u18, u19, b', rfl, Gi, ex, nb, pp⟩
    refine L2.st_next ?_
    dsimp only
    refine Evl.s_ret (H := h') (v := .bl true) (Ev.mono Gi.gi (ev_eqS (hrep (g10.gb.trans (g11.gb.trans ex)) rfl rfl) (ev_var rfl) rfl)) fun h16 _ => k h16

end
theorem all_mk {l : PySem.W.OpenLaw} {w : World} {K : PySem.W.Frag} {h : Heap} {mg : Str → Option Value} {fa f1 f2 f3 f4 f5 f6 f7 f8 f9 f10 f11 f12 f13 f14 f15 f16 f17 f18 f19 f20 f21 f22 f23 f24 : Addr} (X : K.In h) (G : h.Ns mainGlobals mg) (hfa : mg "law" = some (.ref fa))
    {oc1 kV1 dc1 pm1 cd1 ct1 : Value} {od1 an1 : Option Addr} {sl1 : Array (Option Value)}
    {oc2 kV2 dc2 pm2 cd2 ct2 : Value} {od2 an2 : Option Addr} {sl2 : Array (Option Value)}
    {oc3 kV3 dc3 pm3 cd3 ct3 : Value} {od3 an3 : Option Addr} {sl3 : Array (Option Value)}
    {oc4 kV4 dc4 pm4 cd4 ct4 : Value} {od4 an4 : Option Addr} {sl4 : Array (Option Value)}
    {oc5 kV5 dc5 pm5 cd5 ct5 : Value} {od5 an5 : Option Addr} {sl5 : Array (Option Value)}
    {oc6 kV6 dc6 pm6 cd6 ct6 : Value} {od6 an6 : Option Addr} {sl6 : Array (Option Value)}
    {oc7 kV7 dc7 pm7 cd7 ct7 : Value} {od7 an7 : Option Addr} {sl7 : Array (Option Value)}
    {oc8 kV8 dc8 pm8 cd8 ct8 : Value} {od8 an8 : Option Addr} {sl8 : Array (Option Value)}
    {oc9 kV9 dc9 pm9 cd9 ct9 : Value} {od9 an9 : Option Addr} {sl9 : Array (Option Value)}
    {oc10 kV10 dc10 pm10 cd10 ct10 : Value} {od10 an10 : Option Addr} {sl10 : Array (Option Value)}
    {oc11 kV11 dc11 pm11 cd11 ct11 : Value} {od11 an11 : Option Addr} {sl11 : Array (Option Value)}
    {oc12 kV12 dc12 pm12 cd12 ct12 : Value} {od12 an12 : Option Addr} {sl12 : Array (Option Value)}
    {oc13 kV13 dc13 pm13 cd13 ct13 : Value} {od13 an13 : Option Addr} {sl13 : Array (Option Value)}
    {oc14 kV14 dc14 pm14 cd14 ct14 : Value} {od14 an14 : Option Addr} {sl14 : Array (Option Value)}
    {oc15 kV15 dc15 pm15 cd15 ct15 : Value} {od15 an15 : Option Addr} {sl15 : Array (Option Value)}
    {oc16 kV16 dc16 pm16 cd16 ct16 : Value} {od16 an16 : Option Addr} {sl16 : Array (Option Value)}
    {oc17 kV17 dc17 pm17 cd17 ct17 : Value} {od17 an17 : Option Addr} {sl17 : Array (Option Value)}
    {oc18 kV18 dc18 pm18 cd18 ct18 : Value} {od18 an18 : Option Addr} {sl18 : Array (Option Value)}
    {oc19 kV19 dc19 pm19 cd19 ct19 : Value} {od19 an19 : Option Addr} {sl19 : Array (Option Value)}
    {oc20 kV20 dc20 pm20 cd20 ct20 : Value} {od20 an20 : Option Addr} {sl20 : Array (Option Value)}
    {oc21 kV21 dc21 pm21 cd21 ct21 : Value} {od21 an21 : Option Addr} {sl21 : Array (Option Value)}
    {oc22 kV22 dc22 pm22 cd22 ct22 : Value} {od22 an22 : Option Addr} {sl22 : Array (Option Value)}
    {oc23 kV23 dc23 pm23 cd23 ct23 : Value} {od23 an23 : Option Addr} {sl23 : Array (Option Value)}
    {oc24 kV24 dc24 pm24 cd24 ct24 : Value} {od24 an24 : Option Addr} {sl24 : Array (Option Value)}
    (a1 : PySem.W.nsIn K mainGlobals "lowest" = some (some (.ref f1)))
    (l1 : K.lookup f1 = some ⟨oc1, od1, .func (PySem.W.fnOf "lowest" "lowest" (defArgs s_lowest) (defBody s_lowest) (defScope s_lowest) .none kV1 dc1 pm1 an1 cd1 ct1), sl1⟩)
    (c1 : PySem.W.codeIn K cd1 "lowest" = true) (k1 : PySem.W.keepIn K (.ref f1) = true)
    (a2 : PySem.W.nsIn K mainGlobals "plus" = some (some (.ref f2)))
    (l2 : K.lookup f2 = some ⟨oc2, od2, .func (PySem.W.fnOf "plus" "plus" (defArgs s_plus) (defBody s_plus) (defScope s_plus) .none kV2 dc2 pm2 an2 cd2 ct2), sl2⟩)
    (c2 : PySem.W.codeIn K cd2 "plus" = true) (k2 : PySem.W.keepIn K (.ref f2) = true)
    (a3 : PySem.W.nsIn K mainGlobals "minus" = some (some (.ref f3)))
    (l3 : K.lookup f3 = some ⟨oc3, od3, .func (PySem.W.fnOf "minus" "minus" (defArgs s_minus) (defBody s_minus) (defScope s_minus) .none kV3 dc3 pm3 an3 cd3 ct3), sl3⟩)
    (c3 : PySem.W.codeIn K cd3 "minus" = true) (k3 : PySem.W.keepIn K (.ref f3) = true)
    (a4 : PySem.W.nsIn K mainGlobals "times" = some (some (.ref f4)))
    (l4 : K.lookup f4 = some ⟨oc4, od4, .func (PySem.W.fnOf "times" "times" (defArgs s_times) (defBody s_times) (defScope s_times) .none kV4 dc4 pm4 an4 cd4 ct4), sl4⟩)
    (c4 : PySem.W.codeIn K cd4 "times" = true) (k4 : PySem.W.keepIn K (.ref f4) = true)
    (a5 : PySem.W.nsIn K mainGlobals "divided" = some (some (.ref f5)))
    (l5 : K.lookup f5 = some ⟨oc5, od5, .func (PySem.W.fnOf "divided" "divided" (defArgs s_divided) (defBody s_divided) (defScope s_divided) .none kV5 dc5 pm5 an5 cd5 ct5), sl5⟩)
    (c5 : PySem.W.codeIn K cd5 "divided" = true) (k5 : PySem.W.keepIn K (.ref f5) = true)
    (a6 : PySem.W.nsIn K mainGlobals "is_less" = some (some (.ref f6)))
    (l6 : K.lookup f6 = some ⟨oc6, od6, .func (PySem.W.fnOf "is_less" "is_less" (defArgs s_is_less) (defBody s_is_less) (defScope s_is_less) .none kV6 dc6 pm6 an6 cd6 ct6), sl6⟩)
    (c6 : PySem.W.codeIn K cd6 "is_less" = true) (k6 : PySem.W.keepIn K (.ref f6) = true)
    (a7 : PySem.W.nsIn K mainGlobals "greatest" = some (some (.ref f7)))
    (l7 : K.lookup f7 = some ⟨oc7, od7, .func (PySem.W.fnOf "greatest" "greatest" (defArgs s_greatest) (defBody s_greatest) (defScope s_greatest) .none kV7 dc7 pm7 an7 cd7 ct7), sl7⟩)
    (c7 : PySem.W.codeIn K cd7 "greatest" = true) (k7 : PySem.W.keepIn K (.ref f7) = true)
    (a8 : PySem.W.nsIn K mainGlobals "least" = some (some (.ref f8)))
    (l8 : K.lookup f8 = some ⟨oc8, od8, .func (PySem.W.fnOf "least" "least" (defArgs s_least) (defBody s_least) (defScope s_least) .none kV8 dc8 pm8 an8 cd8 ct8), sl8⟩)
    (c8 : PySem.W.codeIn K cd8 "least" = true) (k8 : PySem.W.keepIn K (.ref f8) = true)
    (a9 : PySem.W.nsIn K mainGlobals "width" = some (some (.ref f9)))
    (l9 : K.lookup f9 = some ⟨oc9, od9, .func (PySem.W.fnOf "width" "width" (defArgs s_width) (defBody s_width) (defScope s_width) .none kV9 dc9 pm9 an9 cd9 ct9), sl9⟩)
    (c9 : PySem.W.codeIn K cd9 "width" = true) (k9 : PySem.W.keepIn K (.ref f9) = true)
    (a10 : PySem.W.nsIn K mainGlobals "sums_at_least" = some (some (.ref f10)))
    (l10 : K.lookup f10 = some ⟨oc10, od10, .func (PySem.W.fnOf "sums_at_least" "sums_at_least" (defArgs s_sums_at_least) (defBody s_sums_at_least) (defScope s_sums_at_least) .none kV10 dc10 pm10 an10 cd10 ct10), sl10⟩)
    (c10 : PySem.W.codeIn K cd10 "sums_at_least" = true) (k10 : PySem.W.keepIn K (.ref f10) = true)
    (a11 : PySem.W.nsIn K mainGlobals "sums_at_most" = some (some (.ref f11)))
    (l11 : K.lookup f11 = some ⟨oc11, od11, .func (PySem.W.fnOf "sums_at_most" "sums_at_most" (defArgs s_sums_at_most) (defBody s_sums_at_most) (defScope s_sums_at_most) .none kV11 dc11 pm11 an11 cd11 ct11), sl11⟩)
    (c11 : PySem.W.codeIn K cd11 "sums_at_most" = true) (k11 : PySem.W.keepIn K (.ref f11) = true)
    (a12 : PySem.W.nsIn K mainGlobals "steps_for" = some (some (.ref f12)))
    (l12 : K.lookup f12 = some ⟨oc12, od12, .func (PySem.W.fnOf "steps_for" "steps_for" (defArgs s_steps_for) (defBody s_steps_for) (defScope s_steps_for) .none kV12 dc12 pm12 an12 cd12 ct12), sl12⟩)
    (c12 : PySem.W.codeIn K cd12 "steps_for" = true) (k12 : PySem.W.keepIn K (.ref f12) = true)
    (a13 : PySem.W.nsIn K mainGlobals "_due" = some (some (.ref f13)))
    (l13 : K.lookup f13 = some ⟨oc13, od13, .func (PySem.W.fnOf "_due" "_due" (defArgs s__due) (defBody s__due) (defScope s__due) .none kV13 dc13 pm13 an13 cd13 ct13), sl13⟩)
    (c13 : PySem.W.codeIn K cd13 "_due" = true) (k13 : PySem.W.keepIn K (.ref f13) = true)
    (a14 : PySem.W.nsIn K mainGlobals "_law_pool" = some (some (.ref f14)))
    (l14 : K.lookup f14 = some ⟨oc14, od14, .func (PySem.W.fnOf "_law_pool" "_law_pool" (defArgs s_pool) (defBody s_pool) (defScope s_pool) .none kV14 dc14 pm14 an14 cd14 ct14), sl14⟩)
    (c14 : PySem.W.codeIn K cd14 "_law_pool" = true) (k14 : PySem.W.keepIn K (.ref f14) = true)
    (a15 : PySem.W.nsIn K mainGlobals "_law_stream" = some (some (.ref f15)))
    (l15 : K.lookup f15 = some ⟨oc15, od15, .func (PySem.W.fnOf "_law_stream" "_law_stream" (defArgs s_stream) (defBody s_stream) (defScope s_stream) .none kV15 dc15 pm15 an15 cd15 ct15), sl15⟩)
    (c15 : PySem.W.codeIn K cd15 "_law_stream" = true) (k15 : PySem.W.keepIn K (.ref f15) = true)
    (a16 : PySem.W.nsIn K mainGlobals "_law_pick" = some (some (.ref f16)))
    (l16 : K.lookup f16 = some ⟨oc16, od16, .func (PySem.W.fnOf "_law_pick" "_law_pick" (defArgs s_pick) (defBody s_pick) (defScope s_pick) .none kV16 dc16 pm16 an16 cd16 ct16), sl16⟩)
    (c16 : PySem.W.codeIn K cd16 "_law_pick" = true) (k16 : PySem.W.keepIn K (.ref f16) = true)
    (a17 : PySem.W.nsIn K mainGlobals "_law_cut" = some (some (.ref f17)))
    (l17 : K.lookup f17 = some ⟨oc17, od17, .func (PySem.W.fnOf "_law_cut" "_law_cut" (defArgs s_cut) (defBody s_cut) (defScope s_cut) .none kV17 dc17 pm17 an17 cd17 ct17), sl17⟩)
    (c17 : PySem.W.codeIn K cd17 "_law_cut" = true) (k17 : PySem.W.keepIn K (.ref f17) = true)
    (a18 : PySem.W.nsIn K mainGlobals "_law_drawn" = some (some (.ref f18)))
    (l18 : K.lookup f18 = some ⟨oc18, od18, .func (PySem.W.fnOf "_law_drawn" "_law_drawn" (defArgs s_drawn) (defBody s_drawn) (defScope s_drawn) .none kV18 dc18 pm18 an18 cd18 ct18), sl18⟩)
    (c18 : PySem.W.codeIn K cd18 "_law_drawn" = true) (k18 : PySem.W.keepIn K (.ref f18) = true)
    (a19 : PySem.W.nsIn K mainGlobals "_law_by" = some (some (.ref f19)))
    (l19 : K.lookup f19 = some ⟨oc19, od19, .func (PySem.W.fnOf "_law_by" "_law_by" (defArgs s_by) (defBody s_by) (defScope s_by) .none kV19 dc19 pm19 an19 cd19 ct19), sl19⟩)
    (c19 : PySem.W.codeIn K cd19 "_law_by" = true) (k19 : PySem.W.keepIn K (.ref f19) = true)
    (a20 : PySem.W.nsIn K mainGlobals "_law_order" = some (some (.ref f20)))
    (l20 : K.lookup f20 = some ⟨oc20, od20, .func (PySem.W.fnOf "_law_order" "_law_order" (defArgs s_order) (defBody s_order) (defScope s_order) .none kV20 dc20 pm20 an20 cd20 ct20), sl20⟩)
    (c20 : PySem.W.codeIn K cd20 "_law_order" = true) (k20 : PySem.W.keepIn K (.ref f20) = true)
    (a21 : PySem.W.nsIn K mainGlobals "_law_extreme" = some (some (.ref f21)))
    (l21 : K.lookup f21 = some ⟨oc21, od21, .func (PySem.W.fnOf "_law_extreme" "_law_extreme" (defArgs s_extreme) (defBody s_extreme) (defScope s_extreme) .none kV21 dc21 pm21 an21 cd21 ct21), sl21⟩)
    (c21 : PySem.W.codeIn K cd21 "_law_extreme" = true) (k21 : PySem.W.keepIn K (.ref f21) = true)
    (a22 : PySem.W.nsIn K mainGlobals "_law_and" = some (some (.ref f22)))
    (l22 : K.lookup f22 = some ⟨oc22, od22, .func (PySem.W.fnOf "_law_and" "_law_and" (defArgs s_and) (defBody s_and) (defScope s_and) .none kV22 dc22 pm22 an22 cd22 ct22), sl22⟩)
    (c22 : PySem.W.codeIn K cd22 "_law_and" = true) (k22 : PySem.W.keepIn K (.ref f22) = true)
    (a23 : PySem.W.nsIn K mainGlobals "_law_less_by" = some (some (.ref f23)))
    (l23 : K.lookup f23 = some ⟨oc23, od23, .func (PySem.W.fnOf "_law_less_by" "_law_less_by" (defArgs s_less_by) (defBody s_less_by) (defScope s_less_by) .none kV23 dc23 pm23 an23 cd23 ct23), sl23⟩)
    (c23 : PySem.W.codeIn K cd23 "_law_less_by" = true) (k23 : PySem.W.keepIn K (.ref f23) = true)
    (a24 : PySem.W.nsIn K mainGlobals "law" = some (some (.ref f24)))
    (l24 : K.lookup f24 = some ⟨oc24, od24, .func (PySem.W.fnOf "law" "law" (defArgs s_law) (defBody s_law) (defScope s_law) .none kV24 dc24 pm24 an24 cd24 ct24), sl24⟩)
    (c24 : PySem.W.codeIn K cd24 "law" = true) (k24 : PySem.W.keepIn K (.ref f24) = true)
    (z_len : PySem.W.nsIn K mainGlobals "len" = some none)
    (z_int : PySem.W.nsIn K mainGlobals "int" = some none)
    (z_range : PySem.W.nsIn K mainGlobals "range" = some none)
    (z_abs : PySem.W.nsIn K mainGlobals "abs" = some none)
    (z_repr : PySem.W.nsIn K mainGlobals "repr" = some none)
    (z_list : PySem.W.nsIn K mainGlobals "list" = some none)
    (z_isinstance : PySem.W.nsIn K mainGlobals "isinstance" = some none)
    (z_sum : PySem.W.nsIn K mainGlobals "sum" = some none)
    (z_zip : PySem.W.nsIn K mainGlobals "zip" = some none)
    (z_bool : PySem.W.nsIn K mainGlobals "bool" = some none)
    (z_enumerate : PySem.W.nsIn K mainGlobals "enumerate" = some none)
    (z_tuple : PySem.W.nsIn K mainGlobals "tuple" = some none)
    (z_str : PySem.W.nsIn K mainGlobals "str" = some none)
    (z_all : PySem.W.nsIn K mainGlobals "all" = some none)
    (z_any : PySem.W.nsIn K mainGlobals "any" = some none)
    (z_min : PySem.W.nsIn K mainGlobals "min" = some none)
    (z_max : PySem.W.nsIn K mainGlobals "max" = some none)
    (hgcd : PySem.W.nsIn K mainGlobals "gcd" = some (some (.builtin "math.gcd"))) :
    ∃ fd : FuncData, (∀ (s : Shared) (v : Value), BindsTo s fd ⟨[v], []⟩ [("script", v)]) ∧ ∀ B : Heap, K.In B → B.Ns mainGlobals mg → LawOk l.prog w K mg B 6 fa fd ["script"] (spLaw K) := by
  have e := hfa.symm.trans (PySem.W.mg_of X G a24)
  cases e
  have T : Bt mg := ⟨PySem.W.mg_none_of X G z_len, PySem.W.mg_none_of X G z_int, PySem.W.mg_none_of X G z_range, PySem.W.mg_none_of X G z_abs, PySem.W.mg_none_of X G z_repr, PySem.W.mg_none_of X G z_list, PySem.W.mg_none_of X G z_isinstance, PySem.W.mg_none_of X G z_sum, PySem.W.mg_none_of X G z_zip, PySem.W.mg_none_of X G z_bool, PySem.W.mg_none_of X G z_enumerate, PySem.W.mg_none_of X G z_tuple, PySem.W.mg_none_of X G z_str, PySem.W.mg_none_of X G z_all, PySem.W.mg_none_of X G z_any, PySem.W.mg_none_of X G z_min, PySem.W.mg_none_of X G z_max⟩
  have F1 := fun_mk (st := s_lowest) l1 c1 k1
  have D1 : IsDef K mg "lowest" s_lowest ["n", "d"] := ⟨_, _, F1, PySem.W.mg_of X G a1, F1.binds (ps := ["n", "d"]) fun _ _ _ _ _ _ us hl => match us, hl with | [_, _], _ => rfl⟩
  have F2 := fun_mk (st := s_plus) l2 c2 k2
  have D2 : IsDef K mg "plus" s_plus ["a", "b"] := ⟨_, _, F2, PySem.W.mg_of X G a2, F2.binds (ps := ["a", "b"]) fun _ _ _ _ _ _ us hl => match us, hl with | [_, _], _ => rfl⟩
  have F3 := fun_mk (st := s_minus) l3 c3 k3
  have D3 : IsDef K mg "minus" s_minus ["a", "b"] := ⟨_, _, F3, PySem.W.mg_of X G a3, F3.binds (ps := ["a", "b"]) fun _ _ _ _ _ _ us hl => match us, hl with | [_, _], _ => rfl⟩
  have F4 := fun_mk (st := s_times) l4 c4 k4
  have D4 : IsDef K mg "times" s_times ["a", "b"] := ⟨_, _, F4, PySem.W.mg_of X G a4, F4.binds (ps := ["a", "b"]) fun _ _ _ _ _ _ us hl => match us, hl with | [_, _], _ => rfl⟩
  have F5 := fun_mk (st := s_divided) l5 c5 k5
  have D5 : IsDef K mg "divided" s_divided ["a", "b"] := ⟨_, _, F5, PySem.W.mg_of X G a5, F5.binds (ps := ["a", "b"]) fun _ _ _ _ _ _ us hl => match us, hl with | [_, _], _ => rfl⟩
  have F6 := fun_mk (st := s_is_less) l6 c6 k6
  have D6 : IsDef K mg "is_less" s_is_less ["a", "b"] := ⟨_, _, F6, PySem.W.mg_of X G a6, F6.binds (ps := ["a", "b"]) fun _ _ _ _ _ _ us hl => match us, hl with | [_, _], _ => rfl⟩
  have F7 := fun_mk (st := s_greatest) l7 c7 k7
  have D7 : IsDef K mg "greatest" s_greatest ["numbers"] := ⟨_, _, F7, PySem.W.mg_of X G a7, F7.binds (ps := ["numbers"]) fun _ _ _ _ _ _ us hl => match us, hl with | [_], _ => rfl⟩
  have F8 := fun_mk (st := s_least) l8 c8 k8
  have D8 : IsDef K mg "least" s_least ["numbers"] := ⟨_, _, F8, PySem.W.mg_of X G a8, F8.binds (ps := ["numbers"]) fun _ _ _ _ _ _ us hl => match us, hl with | [_], _ => rfl⟩
  have F9 := fun_mk (st := s_width) l9 c9 k9
  have D9 : IsDef K mg "width" s_width ["numbers"] := ⟨_, _, F9, PySem.W.mg_of X G a9, F9.binds (ps := ["numbers"]) fun _ _ _ _ _ _ us hl => match us, hl with | [_], _ => rfl⟩
  have F10 := fun_mk (st := s_sums_at_least) l10 c10 k10
  have D10 : IsDef K mg "sums_at_least" s_sums_at_least ["rows", "place", "count"] := ⟨_, _, F10, PySem.W.mg_of X G a10, F10.binds (ps := ["rows", "place", "count"]) fun _ _ _ _ _ _ us hl => match us, hl with | [_, _, _], _ => rfl⟩
  have F11 := fun_mk (st := s_sums_at_most) l11 c11 k11
  have D11 : IsDef K mg "sums_at_most" s_sums_at_most ["rows", "place", "count"] := ⟨_, _, F11, PySem.W.mg_of X G a11, F11.binds (ps := ["rows", "place", "count"]) fun _ _ _ _ _ _ us hl => match us, hl with | [_, _, _], _ => rfl⟩
  have F12 := fun_mk (st := s_steps_for) l12 c12 k12
  have D12 : IsDef0 K mg "steps_for" s_steps_for := ⟨_, _, F12, PySem.W.mg_of X G a12⟩
  have F13 := fun_mk (st := s__due) l13 c13 k13
  have D13 : IsDef K mg "_due" s__due ["rows", "place", "count"] := ⟨_, _, F13, PySem.W.mg_of X G a13, F13.binds (ps := ["rows", "place", "count"]) fun _ _ _ _ _ _ us hl => match us, hl with | [_, _, _], _ => rfl⟩
  have F14 := fun_mk (st := s_pool) l14 c14 k14
  have D14 : IsDef K mg "_law_pool" s_pool ["script"] := ⟨_, _, F14, PySem.W.mg_of X G a14, F14.binds (ps := ["script"]) fun _ _ _ _ _ _ us hl => match us, hl with | [_], _ => rfl⟩
  have F15 := fun_mk (st := s_stream) l15 c15 k15
  have D15 : IsDef K mg "_law_stream" s_stream ["script"] := ⟨_, _, F15, PySem.W.mg_of X G a15, F15.binds (ps := ["script"]) fun _ _ _ _ _ _ us hl => match us, hl with | [_], _ => rfl⟩
  have F16 := fun_mk (st := s_pick) l16 c16 k16
  have D16 : IsDef K mg "_law_pick" s_pick ["pool", "many"] := ⟨_, _, F16, PySem.W.mg_of X G a16, F16.binds (ps := ["pool", "many"]) fun _ _ _ _ _ _ us hl => match us, hl with | [_, _], _ => rfl⟩
  have F17 := fun_mk (st := s_cut) l17 c17 k17
  have D17 : IsDef K mg "_law_cut" s_cut ["n", "d"] := ⟨_, _, F17, PySem.W.mg_of X G a17, F17.binds (ps := ["n", "d"]) fun _ _ _ _ _ _ us hl => match us, hl with | [_, _], _ => rfl⟩
  have F18 := fun_mk (st := s_drawn) l18 c18 k18
  have D18 : IsDef K mg "_law_drawn" s_drawn ["pool", "many"] := ⟨_, _, F18, PySem.W.mg_of X G a18, F18.binds (ps := ["pool", "many"]) fun _ _ _ _ _ _ us hl => match us, hl with | [_, _], _ => rfl⟩
  have F19 := fun_mk (st := s_by) l19 c19 k19
  have D19 : IsDef K mg "_law_by" s_by ["one", "other"] := ⟨_, _, F19, PySem.W.mg_of X G a19, F19.binds (ps := ["one", "other"]) fun _ _ _ _ _ _ us hl => match us, hl with | [_, _], _ => rfl⟩
  have F20 := fun_mk (st := s_order) l20 c20 k20
  have D20 : IsDef K mg "_law_order" s_order ["one", "other"] := ⟨_, _, F20, PySem.W.mg_of X G a20, F20.binds (ps := ["one", "other"]) fun _ _ _ _ _ _ us hl => match us, hl with | [_, _], _ => rfl⟩
  have F21 := fun_mk (st := s_extreme) l21 c21 k21
  have D21 : IsDef K mg "_law_extreme" s_extreme ["lists", "way"] := ⟨_, _, F21, PySem.W.mg_of X G a21, F21.binds (ps := ["lists", "way"]) fun _ _ _ _ _ _ us hl => match us, hl with | [_, _], _ => rfl⟩
  have F22 := fun_mk (st := s_and) l22 c22 k22
  have D22 : IsDef K mg "_law_and" s_and ["numbers"] := ⟨_, _, F22, PySem.W.mg_of X G a22, F22.binds (ps := ["numbers"]) fun _ _ _ _ _ _ us hl => match us, hl with | [_], _ => rfl⟩
  have F23 := fun_mk (st := s_less_by) l23 c23 k23
  have D23 : IsDef K mg "_law_less_by" s_less_by ["one", "other"] := ⟨_, _, F23, PySem.W.mg_of X G a23, F23.binds (ps := ["one", "other"]) fun _ _ _ _ _ _ us hl => match us, hl with | [_, _], _ => rfl⟩
  have m_gcdB := PySem.W.mg_of X G hgcd
  refine ⟨PySem.W.fnOf "law" "law" (defArgs s_law) (defBody s_law) (defScope s_law) .none kV24 dc24 pm24 an24 cd24 ct24, fun s v => .of_eq rfl, fun B _ _ => ?_⟩
  have U10 := has_lowest (P := l.prog) (w := w) (base := B) m_gcdB D1
  have U15 := has_plus D2 U10
  have U16 := has_times (P := l.prog) (w := w) (base := B) D4 m_gcdB
  have U17 := has_divided D5 U10
  have U18 := has_minusR D3 U10
  have U19 := has_is_less (P := l.prog) (w := w) (base := B) D6
  have U20 := has_greatest D7 U19
  have U21 := has_least D8 U19
  have U22 := has_width D9 U20 U21 U18
  have U23 := has_due D13 U15 U16
  have U24 := has_sums_least D10 U23 U20 U18
  have U25 := has_sums_most D11 U23 U21 U18
  have U26 := has_steps_near T D12 U22 U17
  have W1 := has_pool (P := l.prog) (w := w) (base := B) T D14
  have W2 := has_stream D15 W1
  have W3 := has_pick (P := l.prog) (w := w) (base := B) T D16
  have W4 := has_cut (P := l.prog) (w := w) (base := B) T D17
  have W5 := has_drawn T D18 W4 W3
  have W6 := has_by D19 W4
  have W7 := has_order (P := l.prog) (w := w) (base := B) T D20
  have W8 := has_extreme T D21 W7
  have W9 := has_and T D22 W4
  have W10 := has_less_by D23 W4
  exact ok_law (fun_mk (st := s_law) l24 c24 k24) T W2 W3 W4 W5 W6 W7 W8 W9 W10 U24 U25 U26
end Md

open PySem PySem.W PyProof.Rows in
set_option maxRecDepth 100000 in
set_option maxHeartbeats 0 in
theorem PySem.Challenge.cw_meanhold_k43_sums_of_first_gains_holds : PySem.Challenge.rw_meanhold_k43_sums_of_first_gains.Holds := by
  w_on; o_law; k_head; (case hw => w_witness2)
  k_fill
  refine Md.law_walk (l := PySem.Challenge.rw_meanhold_k43_sums_of_first_gains) (k := 6) (sp := Md.spLaw) (x := "script") rfl rfl ⟨rfl, by decide, by decide⟩ (fun w h Y => PySem.W.kIn_of Y) ?F (fun K H a ns hl _ hS => ⟨a, ns, rfl, hS, hl, fun _ => rfl⟩)
  case F =>
    intro w mg fa h KX G hmg
    refine' Md.all_mk KX G hmg ?a1 ?l1 ?c1 ?k1 ?a2 ?l2 ?c2 ?k2 ?a3 ?l3 ?c3 ?k3 ?a4 ?l4 ?c4 ?k4 ?a5 ?l5 ?c5 ?k5 ?a6 ?l6 ?c6 ?k6 ?a7 ?l7 ?c7 ?k7 ?a8 ?l8 ?c8 ?k8 ?a9 ?l9 ?c9 ?k9 ?a10 ?l10 ?c10 ?k10 ?a11 ?l11 ?c11 ?k11 ?a12 ?l12 ?c12 ?k12 ?a13 ?l13 ?c13 ?k13 ?a14 ?l14 ?c14 ?k14 ?a15 ?l15 ?c15 ?k15 ?a16 ?l16 ?c16 ?k16 ?a17 ?l17 ?c17 ?k17 ?a18 ?l18 ?c18 ?k18 ?a19 ?l19 ?c19 ?k19 ?a20 ?l20 ?c20 ?k20 ?a21 ?l21 ?c21 ?k21 ?a22 ?l22 ?c22 ?k22 ?a23 ?l23 ?c23 ?k23 ?a24 ?l24 ?c24 ?k24 ?z_len ?z_int ?z_range ?z_abs ?z_repr ?z_list ?z_isinstance ?z_sum ?z_zip ?z_bool ?z_enumerate ?z_tuple ?z_str ?z_all ?z_any ?z_min ?z_max ?hgcd
    (case a1 => k_is)
    (case l1 => k_is)
    (case c1 => k_is)
    (case k1 => k_is)
    (case a2 => k_is)
    (case l2 => k_is)
    (case c2 => k_is)
    (case k2 => k_is)
    (case a3 => k_is)
    (case l3 => k_is)
    (case c3 => k_is)
    (case k3 => k_is)
    (case a4 => k_is)
    (case l4 => k_is)
    (case c4 => k_is)
    (case k4 => k_is)
    (case a5 => k_is)
    (case l5 => k_is)
    (case c5 => k_is)
    (case k5 => k_is)
    (case a6 => k_is)
    (case l6 => k_is)
    (case c6 => k_is)
    (case k6 => k_is)
    (case a7 => k_is)
    (case l7 => k_is)
    (case c7 => k_is)
    (case k7 => k_is)
    (case a8 => k_is)
    (case l8 => k_is)
    (case c8 => k_is)
    (case k8 => k_is)
    (case a9 => k_is)
    (case l9 => k_is)
    (case c9 => k_is)
    (case k9 => k_is)
    (case a10 => k_is)
    (case l10 => k_is)
    (case c10 => k_is)
    (case k10 => k_is)
    (case a11 => k_is)
    (case l11 => k_is)
    (case c11 => k_is)
    (case k11 => k_is)
    (case a12 => k_is)
    (case l12 => k_is)
    (case c12 => k_is)
    (case k12 => k_is)
    (case a13 => k_is)
    (case l13 => k_is)
    (case c13 => k_is)
    (case k13 => k_is)
    (case a14 => k_is)
    (case l14 => k_is)
    (case c14 => k_is)
    (case k14 => k_is)
    (case a15 => k_is)
    (case l15 => k_is)
    (case c15 => k_is)
    (case k15 => k_is)
    (case a16 => k_is)
    (case l16 => k_is)
    (case c16 => k_is)
    (case k16 => k_is)
    (case a17 => k_is)
    (case l17 => k_is)
    (case c17 => k_is)
    (case k17 => k_is)
    (case a18 => k_is)
    (case l18 => k_is)
    (case c18 => k_is)
    (case k18 => k_is)
    (case a19 => k_is)
    (case l19 => k_is)
    (case c19 => k_is)
    (case k19 => k_is)
    (case a20 => k_is)
    (case l20 => k_is)
    (case c20 => k_is)
    (case k20 => k_is)
    (case a21 => k_is)
    (case l21 => k_is)
    (case c21 => k_is)
    (case k21 => k_is)
    (case a22 => k_is)
    (case l22 => k_is)
    (case c22 => k_is)
    (case k22 => k_is)
    (case a23 => k_is)
    (case l23 => k_is)
    (case c23 => k_is)
    (case k23 => k_is)
    (case a24 => k_is)
    (case l24 => k_is)
    (case c24 => k_is)
    (case k24 => k_is)
    (case z_len => k_is)
    (case z_int => k_is)
    (case z_range => k_is)
    (case z_abs => k_is)
    (case z_repr => k_is)
    (case z_list => k_is)
    (case z_isinstance => k_is)
    (case z_sum => k_is)
    (case z_zip => k_is)
    (case z_bool => k_is)
    (case z_enumerate => k_is)
    (case z_tuple => k_is)
    (case z_str => k_is)
    (case z_all => k_is)
    (case z_any => k_is)
    (case z_min => k_is)
    (case z_max => k_is)
    (case hgcd => k_is)

