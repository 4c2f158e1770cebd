import PyProof.Rows.All
import Wide.All
import OpenK.AllK
import Wide.FinOn
import HandS.ForMost
import HandS.ForExc
import HandS.Evl
import HandS.Steps
import HandS.Wide
import HandS.Walk
import HandS.Gcd
import HandS.IsInst
import HandS.ExcInit
import HandS.ExcField
import HandS.ExcIs
import PySem.Challenge.RW_meanhold_k06_ways_that_follow
set_option Elab.async false
set_option maxRecDepth 100000
set_option maxHeartbeats 2000000
/-! Data in the abstract heap: lists that are tracked, tuples; what an expression evaluates to, told as data. -/
namespace Md
open PySem L2 Evl

mutual
/-- the value v is the datum d: lists are tracked, tuples stand -/
inductive Dt (K : PySem.W.Frag) (H : Hp) : V → PyData → Prop
  | none : Dt K H V.non PyData.none
  | bool (b : Bool) : Dt K H (V.bl b) (PyData.bool b)
  | int (i : Int) : Dt K H (V.int i) (PyData.int i)
  | str (x : Str) : Dt K H (V.str x) (PyData.str x)
  | list {a : Addr} {xs : List V} {ds : List PyData} : H a = some (HO.lst xs) → DtA K H xs ds → Dt K H (V.ref a) (PyData.list ds)
  | tuple {a : Addr} {xs : List V} {ds : List PyData} : SqT K H a xs → DtA K H xs ds → Dt K H (V.ref a) (PyData.tuple ds)
inductive DtA (K : PySem.W.Frag) (H : Hp) : List V → List PyData → Prop
  | nil : DtA K H [] []
  | cons {v : V} {vs : List V} {d : PyData} {ds : List PyData} : Dt K H v d → DtA K H vs ds → DtA K H (v :: vs) (d :: ds)
end

section
variable {K : PySem.W.Frag} {H H' : Hp}
mutual
theorem Dt.mono (e : Ex H H') : ∀ (d : PyData) (v : V), Dt K H v d → Dt K H' v d
  | .none, _, h => by cases h; exact Dt.none
  | .bool b, _, h => by cases h; exact Dt.bool b
  | .int i, _, h => by cases h; exact Dt.int i
  | .str x, _, h => by cases h; exact Dt.str x
  | .list ds, _, h => by
    cases h with
    | list h1 h2 => exact Dt.list (e _ _ h1) (DtA.mono e ds _ h2)
  | .tuple ds, _, h => by
    cases h with
    | tuple h1 h2 => exact Dt.tuple (ex_t e h1) (DtA.mono e ds _ h2)
  | .dict _, _, h => by cases h
theorem DtA.mono (e : Ex H H') : ∀ (ds : List PyData) (vs : List V), DtA K H vs ds → DtA K H' vs ds
  | [], _, h => by cases h; exact DtA.nil
  | d :: ds, _, h => by
    cases h with
    | cons h1 h2 => exact DtA.cons (Dt.mono e d _ h1) (DtA.mono e ds _ h2)
end
theorem Dt.up {v : V} {d : PyData} (h : Dt K H v d) (e : Ex H H') : Dt K H' v d := Dt.mono e d v h
theorem DtA.up {vs : List V} {ds : List PyData} (h : DtA K H vs ds) (e : Ex H H') : DtA K H' vs ds := DtA.mono e ds vs h
mutual
theorem Dt.dp : ∀ (d : PyData) (v : V), Dt K H v d → Dp K H v d
  | .none, _, h => by cases h; exact Dp.non
  | .bool b, _, h => by cases h; exact Dp.bl b
  | .int i, _, h => by cases h; exact Dp.int i
  | .str x, _, h => by cases h; exact Dp.str x
  | .list ds, _, h => by
    cases h with
    | list h1 h2 => exact Dp.lst (SqL.of h1) (DtA.dp ds _ h2)
  | .tuple ds, _, h => by
    cases h with
    | tuple h1 h2 => exact Dp.tup h1 (DtA.dp ds _ h2)
  | .dict _, _, h => by cases h
theorem DtA.dp : ∀ (ds : List PyData) (vs : List V), DtA K H vs ds → DpAll K H vs ds
  | [], _, h => by cases h; exact DpAll.nil
  | d :: ds, _, h => by
    cases h with
    | cons h1 h2 => exact DpAll.cons (Dt.dp d _ h1) (DtA.dp ds _ h2)
end
theorem DtA.length : ∀ {ds : List PyData} {vs : List V}, DtA K H vs ds → vs.length = ds.length
  | [], _, h => by cases h; rfl
  | _ :: ds, _, h => by
    cases h with
    | cons _ h2 => exact congrArg Nat.succ (DtA.length h2)
theorem DtA.get : ∀ {ds : List PyData} {vs : List V} {i : Nat} {d : PyData}, DtA K H vs ds → ds[i]? = some d → ∃ v, vs[i]? = some v ∧ Dt K H v d
  | [], _, _, _, _, e => by simp at e
  | d :: ds, _, 0, _, h, e => by
    cases h with
    | cons h1 _ =>
      simp only [List.getElem?_cons_zero, Option.some.injEq] at e
      subst e
      exact ⟨_, rfl, h1⟩
  | _ :: ds, _, i + 1, _, h, e => by
    cases h with
    | cons _ h2 =>
      simp only [List.getElem?_cons_succ] at e
      obtain ⟨v, e1, h3⟩ := DtA.get h2 e
      exact ⟨v, by simpa using e1, h3⟩
theorem DtA.getV : ∀ {ds : List PyData} {vs : List V} {i : Nat} {v : V}, DtA K H vs ds → vs[i]? = some v → ∃ d, ds[i]? = some d ∧ Dt K H v d
  | [], _, _, _, h, e => by cases h; simp at e
  | d :: ds, _, 0, _, h, e => by
    cases h with
    | cons h1 _ =>
      simp only [List.getElem?_cons_zero, Option.some.injEq] at e
      subst e
      exact ⟨_, rfl, h1⟩
  | _ :: ds, _, i + 1, _, h, e => by
    cases h with
    | cons _ h2 =>
      simp only [List.getElem?_cons_succ] at e
      obtain ⟨d, e1, h3⟩ := DtA.getV h2 e
      exact ⟨d, by simpa using e1, h3⟩
theorem DtA.atI {ds : List PyData} {vs : List V} {i : Int} {d : PyData} (h : DtA K H vs ds) (e : L2.atI ds i = some d) : ∃ v, L2.atI vs i = some v ∧ Dt K H v d := by
  unfold L2.atI at e ⊢
  rw [h.length]
  cases q : ixN ds.length i with
  | none => rw [q] at e; cases e
  | some j =>
    rw [q] at e
    exact h.get e
theorem DtA.append : ∀ {ds es : List PyData} {vs us : List V}, DtA K H vs ds → DtA K H us es → DtA K H (vs ++ us) (ds ++ es)
  | [], _, _, _, h, g => by cases h; exact g
  | _ :: ds, _, _, _, h, g => by
    cases h with
    | cons h1 h2 => exact DtA.cons h1 (DtA.append h2 g)
theorem DtA.take : ∀ {ds : List PyData} {vs : List V} (n : Nat), DtA K H vs ds → DtA K H (vs.take n) (ds.take n)
  | _, _, 0, _ => DtA.nil
  | [], _, n + 1, h => by cases h; exact DtA.nil
  | _ :: ds, _, n + 1, h => by
    cases h with
    | cons h1 h2 => exact DtA.cons h1 (DtA.take n h2)
theorem DtA.drop : ∀ {ds : List PyData} {vs : List V} (n : Nat), DtA K H vs ds → DtA K H (vs.drop n) (ds.drop n)
  | _, _, 0, h => h
  | [], _, n + 1, h => by cases h; exact DtA.nil
  | _ :: ds, _, n + 1, h => by
    cases h with
    | cons _ h2 => exact DtA.drop n h2
theorem DtA.one {v : V} {d : PyData} (h : Dt K H v d) : DtA K H [v] [d] := DtA.cons h DtA.nil
theorem DtA.ints : ∀ ns : List Int, DtA K H (ns.map V.int) (ns.map PyData.int)
  | [] => DtA.nil
  | n :: ns => DtA.cons (Dt.int n) (DtA.ints ns)
def cutD (ds : List PyData) (lo hi : Option Int) : List PyData := (ds.drop (HT.sIx ds.length 0 lo)).take (HT.sIx ds.length ds.length hi - HT.sIx ds.length 0 lo)
theorem DtA.cut {ds : List PyData} {vs : List V} (h : DtA K H vs ds) (lo hi : Option Int) : DtA K H (cutV vs lo hi) (cutD ds lo hi) := by
  unfold cutV cutD
  rw [h.length]
  exact (h.drop _).take _
theorem Dt.listI {v : V} {ds : List PyData} (h : Dt K H v (.list ds)) : ∃ a xs, v = V.ref a ∧ H a = some (HO.lst xs) ∧ DtA K H xs ds := by
  cases h with
  | list h1 h2 => exact ⟨_, _, rfl, h1, h2⟩
theorem Dt.tupleI {v : V} {ds : List PyData} (h : Dt K H v (.tuple ds)) : ∃ a xs, v = V.ref a ∧ SqT K H a xs ∧ DtA K H xs ds := by
  cases h with
  | tuple h1 h2 => exact ⟨_, _, rfl, h1, h2⟩
theorem Dt.intI {v : V} {i : Int} (h : Dt K H v (.int i)) : v = V.int i := by cases h; rfl
theorem Dt.strI {v : V} {x : Str} (h : Dt K H v (.str x)) : v = V.str x := by cases h; rfl
theorem Dt.boolI {v : V} {b : Bool} (h : Dt K H v (.bool b)) : v = V.bl b := by cases h; rfl
theorem Dt.noneI {v : V} (h : Dt K H v .none) : v = V.non := by cases h; rfl
end

/-! ### what an expression evaluates to, as data. b: the part of the heap h that is spoken of -/
structure Gr (b h b' h' : Hp) : Prop where
  gb : Ex b b'
  gh : Ex h h'
  gi : Ex b' h'
  gf : ∀ a, b a = none → h a ≠ none → b' a = none
theorem Gr.refl {b h : Hp} (e : Ex b h) : Gr b h b h := ⟨Ex.refl b, Ex.refl h, e, fun _ q _ => q⟩
theorem Gr.trans {b h b1 h1 b2 h2 : Hp} (x : Gr b h b1 h1) (y : Gr b1 h1 b2 h2) : Gr b h b2 h2 := ⟨x.gb.trans y.gb, x.gh.trans y.gh, y.gi, fun a q n => y.gf a (x.gf a q n) fun z => by
  cases e : h a with
  | none => exact n e
  | some o =>
    rw [x.gh a o e] at z
    cases z⟩
theorem Gr.stay {b h h' : Hp} (e : Ex b h) (e' : Ex h h') : Gr b h b h' := ⟨Ex.refl b, e', e.trans e', fun _ q _ => q⟩
/-- a new object, spoken of -/
theorem Gr.new {b h : Hp} {p : Addr} {o : HO} (e : Ex b h) (n : h p = none) : Gr b h (upd b p o) (upd h p o) := by
  have nb : b p = none := by
    cases q : b p with
    | none => rfl
    | some u =>
      rw [e p u q] at n
      cases n
  refine ⟨Ex.new nb, Ex.new n, fun a u q => ?_, fun a q z => ?_⟩
  · by_cases ha : a = p
    · subst ha
      rw [upd_same] at q ⊢
      exact q
    · rw [upd_ne ha] at q ⊢
      exact e a u q
  · rw [upd_ne (fun ha => z (by rw [ha]; exact n))]
    exact q
/-- a new object, not spoken of (a list that will change) -/
theorem Gr.hid {b h : Hp} {p : Addr} {o : HO} (e : Ex b h) (n : h p = none) : Gr b h b (upd h p o) := Gr.stay e (Ex.new n)
/-- what is not spoken of is changed: it was not there at the start -/
theorem Gr.mut {b0 h0 b h : Hp} {p : Addr} {o : HO} (g : Gr b0 h0 b h) (n : h0 p = none) (nb : b p = none) : Gr b0 h0 b (upd h p o) := ⟨g.gb, Ex.mut g.gh n, Ex.mut g.gi nb, g.gf⟩
/-- from now on it is spoken of -/
theorem Gr.tell {b0 h0 b h : Hp} {p : Addr} {o : HO} (g : Gr b0 h0 b h) (n : h0 p = none) (nb : b p = none) (hp : h p = some o) : Gr b0 h0 (upd b p o) h := by
  refine ⟨g.gb.trans (Ex.new nb), g.gh, fun a u q => ?_, fun a q z => ?_⟩
  · by_cases ha : a = p
    · subst ha
      rw [upd_same] at q
      rw [hp]
      exact q
    · rw [upd_ne ha] at q
      exact g.gi a u q
  · rw [upd_ne (fun ha => z (by rw [ha]; exact n))]
    exact g.gf a q z
theorem none_of {b h : Hp} (e : Ex b h) {p : Addr} (n : h p = none) : b p = none := fresh_back e n
def ED (K : PySem.W.Frag) (te : TE) (σ : L2.St) (b : Hp) (d : PyData) : Prop := ∀ h, Ex b h → ∀ Q : VK, (∀ v b' h', Gr b h b' h' → Dt K b' v d → Q v h') → te σ h Q
def EDA (K : PySem.W.Frag) (ta : TA) (σ : L2.St) (b : Hp) (ds : List PyData) : Prop := ∀ h, Ex b h → ∀ Q : List V → Hp → Prop, (∀ vs b' h', Gr b h b' h' → DtA K b' vs ds → Q vs h') → ta σ h Q
section
variable {K : PySem.W.Frag} {σ : L2.St} {b b' h h' : Hp} {te ta tb : TE} {ts tr : TA} {d d' : PyData} {ds : List PyData} {v : V} {i : Int}
/-- the same of a greater part, where what is handed on is as before -/
theorem Gr.back {b1 b2 h1 : Hp} (e : Ex b b1) (g : Gr b h b2 h1) (e1 : Ex b1 h) : ∃ b3, Gr b1 h b3 h1 ∧ Ex b2 b3 ∧ ∀ a, b2 a = none → b1 a = none → b3 a = none := by
  refine ⟨fun a => match b2 a with | some o => some o | none => b1 a, ⟨fun a o q => ?_, g.gh, fun a o q => ?_, fun a q n => ?_⟩, fun a o q => ?_, fun a z1 z2 => by simp only [z1, z2]⟩
  · cases z : b2 a with
    | none => simpa [z] using q
    | some u =>
      have h1 := g.gi a u z
      have h2 := g.gh a o (e1 a o q)
      rw [h1] at h2
      simp [z, h2]
  · cases z : b2 a with
    | none =>
      simp only [z] at q
      exact g.gh a o (e1 a o q)
    | some u =>
      simp only [z] at q
      rw [← q]
      exact g.gi a u z
  · have z : b2 a = none := g.gf a (fresh_back e q) n
    simp only [z]
    exact q
  · simp only [q]
theorem ED.up (x : ED K te σ b d) (e : Ex b b') : ED K te σ b' d := fun h e1 _ q => x h (e.trans e1) _ fun v b2 h2 g hv => by
  obtain ⟨b3, g3, e3, _⟩ := g.back e e1
  exact q v b3 h2 g3 (hv.up e3)
theorem EDA.up (x : EDA K ts σ b ds) (e : Ex b b') : EDA K ts σ b' ds := fun h e1 _ q => x h (e.trans e1) _ fun v b2 h2 g hv => by
  obtain ⟨b3, g3, e3, _⟩ := g.back e e1
  exact q v b3 h2 g3 (hv.up e3)
theorem ed_var {k : Nat} (hs : σ[k]? = some (some v)) (hd : Dt K b v d) : ED K (tVar k) σ b d := fun h e _ q => ⟨v, hs, q v b h (Gr.refl e) hd⟩
theorem ed_val (hd : Dt K b v d) (he : Ev te σ b v) : ED K te σ b d := fun h e _ q => he h e _ fun h2 e2 => q v b h2 (Gr.stay e e2) hd
theorem ed_of (x : Ev te σ b v) (hd : ∀ H2, Dt K H2 v d) : ED K te σ b d := fun h e _ q => x h e _ fun h2 e2 => q v b h2 (Gr.stay e e2) (hd b)
theorem ed_int (x : Ev te σ b (.int i)) : ED K te σ b (.int i) := ed_of x fun _ => Dt.int i
theorem ed_str {z : Str} (x : Ev te σ b (.str z)) : ED K te σ b (.str z) := ed_of x fun _ => Dt.str z
theorem ed_none (x : Ev te σ b .non) : ED K te σ b .none := ed_of x fun _ => Dt.none
theorem ed_bool {k : Bool} (x : Ev te σ b (.bl k)) : ED K te σ b (.bool k) := ed_of x fun _ => Dt.bool k
theorem ev_int (x : ED K te σ b (.int i)) : Ev te σ b (.int i) := fun h e _ q => x h e _ fun v b2 h2 g hd => by
  rw [hd.intI]
  exact q h2 g.gh
theorem ev_str {z : Str} (x : ED K te σ b (.str z)) : Ev te σ b (.str z) := fun h e _ q => x h e _ fun v b2 h2 g hd => by
  rw [hd.strI]
  exact q h2 g.gh
theorem ev_bool {k : Bool} (x : ED K te σ b (.bool k)) : Ev te σ b (.bl k) := fun h e _ q => x h e _ fun v b2 h2 g hd => by
  rw [hd.boolI]
  exact q h2 g.gh
theorem ev_none (x : ED K te σ b .none) : Ev te σ b .non := fun h e _ q => x h e _ fun v b2 h2 g hd => by
  rw [hd.noneI]
  exact q h2 g.gh
theorem ed_ixL (ha : ED K ta σ b (.list ds)) (hb : Ev tb σ b (.int i)) (hi : L2.atI ds i = some d) : ED K (tOp (rIxL K) ta tb) σ b d := fun h e _ q => ha h e _ fun x b2 h2 g2 hx => hb h2 (e.trans g2.gh) _ fun h3 e3 => by
  obtain ⟨a, xs, rfl, k1, k2⟩ := hx.listI
  obtain ⟨v, hv, hd⟩ := k2.atI hi
  exact ⟨a, xs, i, v, rfl, rfl, sq_of (e3 _ _ (g2.gi _ _ k1)), hv, q v b2 h3 (g2.trans (Gr.stay g2.gi e3)) hd⟩
theorem ed_ixT (ha : ED K ta σ b (.tuple ds)) (hb : Ev tb σ b (.int i)) (hi : L2.atI ds i = some d) : ED K (tOp (rIxT K) ta tb) σ b d := fun h e _ q => ha h e _ fun x b2 h2 g2 hx => hb h2 (e.trans g2.gh) _ fun h3 e3 => by
  obtain ⟨a, xs, rfl, k1, k2⟩ := hx.tupleI
  obtain ⟨v, hv, hd⟩ := k2.atI hi
  exact ⟨a, xs, i, v, rfl, rfl, ex_t e3 (ex_t g2.gi k1), hv, q v b2 h3 (g2.trans (Gr.stay g2.gi e3)) hd⟩
theorem eda_nil : EDA K tNil σ b [] := fun h e _ q => q [] b h (Gr.refl e) DtA.nil
theorem eda_cons (x : ED K te σ b d) (hr : EDA K tr σ b ds) : EDA K (tCons te tr) σ b (d :: ds) := fun h e _ q => x h e _ fun v b2 h2 g2 hv => hr.up g2.gb h2 g2.gi _ fun vs b3 h3 g3 hvs =>
  q (v :: vs) b3 h3 (g2.trans g3) (DtA.cons (hv.up g3.gb) hvs)
theorem ed_tup (x : EDA K ts σ b ds) (hl : ds.length ≤ 100000) : ED K (tTup ts) σ b (.tuple ds) := fun h e _ q => x h e _ fun vs b2 h2 g2 hvs =>
  ⟨sz_of (by rw [hvs.length]; exact hl), fun p hp => q (.ref p) _ _ (g2.trans (Gr.new g2.gi hp)) (Dt.tuple (st_of upd_same) (hvs.up (Ex.new (none_of g2.gi hp))))⟩
theorem ev_lenL (ha : ED K te σ b (.list ds)) : Ev (tCB (rLenS K) (tCons te tNil)) σ b (.int (ds.length : Int)) := fun h e _ q => ha h e _ fun v b2 h2 g2 hv => by
  obtain ⟨a, xs, rfl, h1, k2⟩ := hv.listI
  refine ⟨a, xs, rfl, .inl (sq_of (g2.gi _ _ h1)), ?_⟩
  rw [k2.length]
  exact q h2 g2.gh
theorem ev_lenT (ha : ED K te σ b (.tuple ds)) : Ev (tCB (rLenS K) (tCons te tNil)) σ b (.int (ds.length : Int)) := fun h e _ q => ha h e _ fun v b2 h2 g2 hv => by
  obtain ⟨a, xs, rfl, h1, k2⟩ := hv.tupleI
  refine ⟨a, xs, rfl, .inr (ex_t g2.gi h1), ?_⟩
  rw [k2.length]
  exact q h2 g2.gh
/-- == of data -/
theorem ev_eqD (ha : ED K ta σ b d) (hb : ED K tb σ b d') (s1 : SeqAt.shaped d = true) (s2 : SeqAt.shaped d' = true) : Ev (tOp (rEqD K) ta tb) σ b (.bl (PyData.eqv d d')) := fun h e _ q =>
  ha h e _ fun x b2 h2 g2 hx => hb.up g2.gb h2 g2.gi _ fun y b3 h3 g3 hy => ⟨d, d', Dt.dp _ _ ((hx.up g3.gb).up g3.gi), Dt.dp _ _ (hy.up g3.gi), s1, s2, q h3 (g2.gh.trans g3.gh)⟩
theorem ev_neD (ha : ED K ta σ b d) (hb : ED K tb σ b d') (s1 : SeqAt.shaped d = true) (s2 : SeqAt.shaped d' = true) : Ev (tOp (rNeD K) ta tb) σ b (.bl (!PyData.eqv d d')) := fun h e _ q =>
  ha h e _ fun x b2 h2 g2 hx => hb.up g2.gb h2 g2.gi _ fun y b3 h3 g3 hy => ⟨d, d', Dt.dp _ _ ((hx.up g3.gb).up g3.gi), Dt.dp _ _ (hy.up g3.gi), s1, s2, q h3 (g2.gh.trans g3.gh)⟩
/-- what int(n), int(flag) ask -/
def rInt1 : List V → Hp → VK → Prop := fun xs H Q => (∃ i, xs = [V.int i] ∧ Q (V.int i) H) ∨ ∃ k, xs = [V.bl k] ∧ Q (V.int (if k then 1 else 0)) H
theorem cr_int1 {X : Cx} : CallR X (.type "int") rInt1 := call_int1
theorem ev_int1 (x : Ev te σ b (.int i)) : Ev (tCB rInt1 (tCons te tNil)) σ b (.int i) := fun h e _ q => x h e _ fun h2 e2 => .inl ⟨i, rfl, q h2 e2⟩
theorem ev_int1b {k : Bool} (x : Ev te σ b (.bl k)) : Ev (tCB rInt1 (tCons te tNil)) σ b (.int (if k then 1 else 0)) := fun h e _ q => x h e _ fun h2 e2 => .inr ⟨k, rfl, q h2 e2⟩
/-- a def's promise by data -/
def SpF (K : PySem.W.Frag) (n : Nat) (pre : List PyData → Prop) (f : List PyData → PyData → Prop) : Sp := fun vs h Q _ => ∃ b ds, Ex b h ∧ DtA K b vs ds ∧ ds.length = n ∧ pre ds ∧ ∀ v b' h' d, Gr b h b' h' → f ds d → Dt K b' v d → Q v h'
theorem SpF.len {n : Nat} {pre : List PyData → Prop} {f : List PyData → PyData → Prop} : ∀ vs H Q E, SpF K n pre f vs H Q E → vs.length = n := fun vs H Q E x => by
  obtain ⟨b, ds, _, h1, h2, _⟩ := x
  rw [h1.length, h2]
theorem ed_call {n : Nat} {pre : List PyData → Prop} {f : List PyData → PyData → Prop} {E : XK} (x : EDA K ts σ b ds) (hn : ds.length = n) (hp : pre ds) (he : ∀ e, f ds e → e = d) : ED K (tCall (SpF K n pre f) [] E ts) σ b d := fun h e _ q =>
  x h e _ fun vs b2 h2 g2 hvs => ⟨b2, ds, g2.gi, by rw [List.append_nil]; exact hvs, hn, hp, fun v b3 h3 d3 g3 hf hv => q v b3 h3 (g2.trans g3) (he d3 hf ▸ hv)⟩
/-- the same where only a relation is known of what comes back -/
def EX (K : PySem.W.Frag) (te : TE) (σ : L2.St) (b : Hp) (P : PyData → Prop) : Prop := ∀ h, Ex b h → ∀ Q : VK, (∀ v b' h' d, Gr b h b' h' → P d → Dt K b' v d → Q v h') → te σ h Q
theorem ex_call {n : Nat} {pre : List PyData → Prop} {f : List PyData → PyData → Prop} {E : XK} (x : EDA K ts σ b ds) (hn : ds.length = n) (hp : pre ds) : EX K (tCall (SpF K n pre f) [] E ts) σ b (f ds) := fun h e _ q =>
  x h e _ fun vs b2 h2 g2 hvs => ⟨b2, ds, g2.gi, by rw [List.append_nil]; exact hvs, hn, hp, fun v b3 h3 d3 g3 hf hv => q v b3 h3 d3 (g2.trans g3) hf hv⟩
theorem ED.ex (x : ED K te σ b d) : EX K te σ b (· = d) := fun h e _ q => x h e _ fun v b2 h2 g hv => q v b2 h2 d g rfl hv
end

/-! ### new lists -/
/-- a new list of data, not yet spoken of -/
def EN (K : PySem.W.Frag) (te : TE) (σ : L2.St) (b : Hp) (ds : List PyData) : Prop := ∀ h, Ex b h → ∀ Q : VK, (∀ p vs b' h', h p = none → b' p = none → Gr b h b' h' → h' p = some (.lst vs) → DtA K b' vs ds → Q (.ref p) h') → te σ h Q
section
variable {K : PySem.W.Frag} {σ : L2.St} {b b' : Hp} {te ta tb : TE} {ts tr : TA} {ds es : List PyData}
theorem EN.ed (x : EN K te σ b ds) : ED K te σ b (.list ds) := fun h e _ q => x h e _ fun p vs b2 h2 np nb g2 hp hv => q (.ref p) _ h2 (g2.tell np nb hp) (Dt.list upd_same (hv.up (Ex.new nb)))
theorem EN.up (x : EN K te σ b ds) (e : Ex b b') : EN K te σ b' ds := fun h e1 _ q => x h (e.trans e1) _ fun p us b2 h2 np nb g hp hv => by
  obtain ⟨b3, g3, e3, e4⟩ := g.back e e1
  exact q p us b3 h2 np (e4 p nb (none_of e1 np)) g3 hp (hv.up e3)
theorem gone {b h b1 h1 : Hp} (g : Gr b h b1 h1) {p : Addr} (n : h1 p = none) : h p = none := fresh_back g.gh n
theorem en_lst (x : EDA K ts σ b ds) (hl : ds.length ≤ 100000) : EN K (tLst ts) σ b ds := fun h e _ q => x h e _ fun vs b2 h2 g2 hvs =>
  ⟨sz_of (by rw [hvs.length]; exact hl), fun p hp => q p vs b2 _ (gone g2 hp) (none_of g2.gi hp) (g2.trans (Gr.hid g2.gi hp)) upd_same hvs⟩
theorem en_list (ha : ED K te σ b (.list ds)) : EN K (tCB (rListS K) (tCons te tNil)) σ b ds := fun h e _ q => ha h e _ fun v b2 h2 g2 hv => by
  obtain ⟨a, xs, rfl, k1, k2⟩ := hv.listI
  exact ⟨a, xs, rfl, .inl (sq_of (g2.gi _ _ k1)), fun l hl => q l xs b2 _ (gone g2 hl) (none_of g2.gi hl) (g2.trans (Gr.hid g2.gi hl)) upd_same k2⟩
theorem en_sl {tl th : TO} {lo hi : Option Int} (x : ED K te σ b (.list ds)) (h1 : EvO tl σ b lo) (h2 : EvO th σ b hi) : EN K (tSl (rSlL K) te tl th) σ b (cutD ds lo hi) := fun h e _ q =>
  x h e _ fun v b2 h2' g2 hv => h1 h2' (g2.gb.trans g2.gi) _ fun h3 e3 => h2 h3 ((g2.gb.trans g2.gi).trans e3) _ fun h4 e4 => by
    obtain ⟨a, xs, rfl, k1, k2⟩ := hv.listI
    have e24 := e3.trans e4
    have g4 := g2.trans (Gr.stay g2.gi e24)
    exact ⟨a, xs, rfl, sq_of (g4.gi _ _ k1), fun p hp => q p _ b2 _ (gone g4 hp) (none_of g4.gi hp) (g4.trans (Gr.hid g4.gi hp)) upd_same (k2.cut lo hi)⟩
theorem en_cat (ha : ED K ta σ b (.list ds)) (hb : ED K tb σ b (.list es)) (hl : ds.length + es.length ≤ 100000) : EN K (tOp rCat ta tb) σ b (ds ++ es) := fun h e _ q =>
  ha h e _ fun x b2 h2 g2 hx => hb.up g2.gb h2 g2.gi _ fun y b3 h3 g3 hy => by
    obtain ⟨a, xs, rfl, k1, k2⟩ := hx.listI
    obtain ⟨c, ys, rfl, l1, l2⟩ := hy.listI
    have g4 := g2.trans g3
    exact ⟨a, c, xs, ys, rfl, rfl, g3.gi _ _ (g3.gb _ _ k1), g3.gi _ _ l1, sz_of (by rw [k2.length, l2.length]; exact hl), fun p hp => q p _ b3 _ (gone g4 hp) (none_of g4.gi hp) (g4.trans (Gr.hid g4.gi hp)) upd_same ((k2.up g3.gb).append l2)⟩
end

/-! ### comprehensions -/
/-- what the turns below n give -/
def givenD (n : Nat) (f : Nat → Bool) (r : Nat → PyData) : List PyData := ((List.range n).filter f).map r
theorem givenD_yes {n : Nat} {f : Nat → Bool} {r : Nat → PyData} (h : f n = true) : givenD (n + 1) f r = givenD n f r ++ [r n] := by
  simp [givenD, List.range_succ, h]
theorem givenD_no {n : Nat} {f : Nat → Bool} {r : Nat → PyData} (h : f n = false) : givenD (n + 1) f r = givenD n f r := by
  simp [givenD, List.range_succ, h]
theorem givenD_len (n : Nat) (f : Nat → Bool) (r : Nat → PyData) : (givenD n f r).length ≤ n := by
  have h := List.length_filter_le f (List.range n)
  simpa [givenD] using h
theorem givenD_all (n : Nat) (r : Nat → PyData) : givenD n (fun _ => true) r = (List.range n).map r := by
  unfold givenD
  rw [List.filter_eq_self.mpr fun _ _ => rfl]
section
variable {K : PySem.W.Frag} {σ : L2.St} {b h1 : Hp} {te : TE} {t : TT} {g : TG} {vs : List Nat}
theorem et_yes : EvT tYes σ b true := fun h _ _ q => q h (Ex.refl h)
theorem lc_data {J : It} {n : Nat} {G : Hp → Prop} {Y : Nat → Hp → V → Hp → Prop} (w : Walk J n G Y) {Dl : Addr} {Qd : Hp → Prop} (f : Nat → Bool) (r : Nat → PyData) (eb : Ex b h1) (hD : h1 Dl = none) (hn : n ≤ 40000) (hG : ∀ h, Ex h1 h → G h)
    (hs : ∀ i x b2 h h', i < n → Ex h1 h → Gr b h1 b2 h → Y i h x h' → ∃ b3, Gr b2 h b3 h' ∧ ∀ Q : L2.St → Hp → Prop, (∀ σ2, wipe σ2 vs = wipe σ vs → EvT t σ2 b3 (f i) → (f i = true → ED K te σ2 b3 (r i)) → Q σ2 h') → g x (wipe σ vs) h' Q)
    (hd : ∀ b2 h us, Gr b h1 b2 h → b2 Dl = none → h Dl = some (.lst us) → DtA K b2 us (givenD n f r) → Qd h) :
    ∃ W : Nat → Nat → Hp → Prop, (∃ m, W 0 m (upd h1 Dl (.lst []))) ∧ ∀ i m H, W i m H →
      (J.stop i H ∧ Qd H) ∨ (J.go i H ∧ ∃ Nx : Hp → Prop, (∀ H', Nx H' → ∃ m', m' < m ∧ W (i + 1) m' H') ∧ ∀ x H', J.yld i H x H' → g x (wipe σ vs) H' fun σ2 H2 => wipe σ2 vs = wipe σ vs ∧ t σ2 H2 fun k H3 =>
        if k = true then te σ2 H3 fun y H4 => ∃ acc, H4 Dl = some (.lst acc) ∧ acc.length < sizeLine ∧ Nx (upd H4 Dl (.lst (acc ++ [y]))) else Nx H3) := by
  refine lc_it w (fun i h => ∃ b2 us, Gr b h1 b2 h ∧ b2 Dl = none ∧ h Dl = some (.lst us) ∧ DtA K b2 us (givenD i f r)) ?_ (fun i h _ p => ?_) ?_ ?_
  · exact ⟨b, [], Gr.hid eb hD, none_of eb hD, upd_same, DtA.nil⟩
  · obtain ⟨b2, us, g2, _⟩ := p
    exact hG h g2.gh
  · rintro i x h2 h3 hi ⟨b2, us, g2, nb, hu, hA⟩ hy
    obtain ⟨b3, g3, hq⟩ := hs i x b2 h2 h3 hi g2.gh g2 hy
    have nb3 : b3 Dl = none := g3.gf Dl nb (by rw [hu]; intro z; cases z)
    refine hq _ fun σ2 hw ht he => ⟨hw, ht h3 g3.gi _ fun h4 e4 => ?_⟩
    have g4 : Gr b3 h3 b3 h4 := Gr.stay g3.gi e4
    have hu4 : h4 Dl = some (.lst us) := e4 _ _ (g3.gh _ _ hu)
    cases hf : f i with
    | true =>
      show te σ2 h4 _
      refine he hf h4 g4.gi _ fun y b5 h5 g5 hy5 => ⟨us, g5.gh _ _ hu4, sz_lt (by have := givenD_len i f r; rw [hA.length]; omega), ?_⟩
      have nb5 : b5 Dl = none := g5.gf Dl nb3 (by rw [hu4]; intro z; cases z)
      refine ⟨b5, us ++ [y], ((g2.trans g3).trans (g4.trans g5)).mut hD nb5, nb5, upd_same, ?_⟩
      rw [givenD_yes hf]
      exact ((hA.up g3.gb).up g5.gb).append (DtA.one hy5)
    | false =>
      show ∃ b2 us, _
      refine ⟨b3, us, (g2.trans g3).trans g4, nb3, hu4, ?_⟩
      rw [givenD_no hf]
      exact hA.up g3.gb
  · rintro h ⟨b2, us, g2, nb, hu, hA⟩
    exact hd b2 h us g2 nb hu hA
end
end Md


set_option Elab.async false
set_option linter.all false
set_option maxRecDepth 100000
set_option maxHeartbeats 2000000
namespace Md
open PySem L2 Evl
section
variable {K : PySem.W.Frag} {σ : L2.St} {b h h0 : Hp} {te tl ta tb : TE} {t : TT} {g : TG} {vs : List Nat} {ds es : List PyData} {d d1 d2 d3 : PyData} {v : V} {Q : L2.St → Hp → Prop}
theorem g_two {i j : Nat} (x : Dt K b v (.tuple [d1, d2])) (e : Ex b h) (k : ∀ v1 v2, Dt K b v1 d1 → Dt K b v2 d2 → Q ((σ.set i (some v1)).set j (some v2)) h) : gTup K 2 (gCons (gName i) (gCons (gName j) gNil)) v σ h Q := by
  obtain ⟨a, xs, rfl, h1, h2⟩ := x.tupleI
  cases h2 with
  | cons q1 h2 =>
    cases h2 with
    | cons q2 h2 =>
      cases h2
      exact ⟨a, _, rfl, ex_t e h1, rfl, _, _, rfl, _, _, rfl, rfl, k _ _ q1 q2⟩
theorem g_three {i j l : Nat} (x : Dt K b v (.tuple [d1, d2, d3])) (e : Ex b h) (k : ∀ v1 v2 v3, Dt K b v1 d1 → Dt K b v2 d2 → Dt K b v3 d3 → Q (((σ.set i (some v1)).set j (some v2)).set l (some v3)) h) :
    gTup K 3 (gCons (gName i) (gCons (gName j) (gCons (gName l) gNil))) v σ h Q := by
  obtain ⟨a, xs, rfl, h1, h2⟩ := x.tupleI
  cases h2 with
  | cons q1 h2 =>
    cases h2 with
    | cons q2 h2 =>
      cases h2 with
      | cons q3 h2 =>
        cases h2
        exact ⟨a, _, rfl, ex_t e h1, rfl, _, _, rfl, _, _, rfl, _, _, rfl, rfl, k _ _ _ q1 q2 q3⟩
/-- [te for g in tl if t] -/
theorem en_lcG (x : ED K tl σ b (.list ds)) (hz : ds.length ≤ 40000) (f : Nat → Bool) (r : Nat → PyData)
    (hs : ∀ i d x b2 h2, Ex b b2 → Ex b2 h2 → ds[i]? = some d → Dt K b2 x d → ∀ Q : L2.St → Hp → Prop, (∀ σ2, wipe σ2 vs = wipe σ vs → EvT t σ2 b2 (f i) → (f i = true → ED K te σ2 b2 (r i)) → Q σ2 h2) → g x (wipe σ vs) h2 Q) :
    EN K (tLc (iList K tl) g t te vs) σ b (givenD ds.length f r) := fun h e _ q => x h e _ fun v b1 h1 g1 hv => by
  obtain ⟨a, xs, rfl, k1, k2⟩ := hv.listI
  refine ⟨a, rfl, ⟨xs, sq_of (g1.gi _ _ k1)⟩, fun Dl hD => ?_⟩
  rw [← k2.length] at hz q
  refine lc_data (walk_list (xs := xs)) f r g1.gi hD hz (fun h' e' => sq_of (e' _ _ (g1.gi _ _ k1))) (fun i y b2 h2 h3 hi e2 g2 hy => ?_) (fun b2 h2 us g2 nb hu hA => q Dl us b2 h2 (gone g1 hD) nb (g1.trans g2) hu hA)
  obtain ⟨rfl, hy⟩ := hy
  obtain ⟨dd, hdd, hx⟩ := k2.getV hy
  exact ⟨b2, Gr.refl g2.gi, fun Q k => hs i dd y b2 _ (g1.gb.trans g2.gb) g2.gi hdd (hx.up g2.gb) Q k⟩
theorem en_lcL {j : Nat} (x : ED K tl σ b (.list ds)) (hz : ds.length ≤ 40000) (f : Nat → Bool) (r : Nat → PyData) (hw : ∀ x, wipe ((wipe σ vs).set j (some x)) vs = wipe σ vs)
    (hs : ∀ i d x b2, Ex b b2 → ds[i]? = some d → Dt K b2 x d → EvT t ((wipe σ vs).set j (some x)) b2 (f i) ∧ (f i = true → ED K te ((wipe σ vs).set j (some x)) b2 (r i))) :
    EN K (tLc (iList K tl) (gName j) t te vs) σ b (givenD ds.length f r) :=
  en_lcG x hz f r fun i d x b2 h2 e _ hd hx Q k => k _ (hw x) (hs i d x b2 e hd hx).1 (hs i d x b2 e hd hx).2
/-- [te for j in range(n) if t] -/
theorem en_lcR {ts : TA} {j : Nat} {n : Int} (x : EvA ts σ b [.int n]) (hn : 0 ≤ n ∧ n ≤ 40000) (f : Nat → Bool) (r : Nat → PyData) (hw : ∀ x, wipe ((wipe σ vs).set j (some x)) vs = wipe σ vs)
    (hs : ∀ (i : Nat) b2, Ex b b2 → (i : Int) < n → EvT t ((wipe σ vs).set j (some (.int (i : Int)))) b2 (f i) ∧ (f i = true → ED K te ((wipe σ vs).set j (some (.int (i : Int)))) b2 (r i))) :
    EN K (tLc (iRng1 ts) (gName j) t te vs) σ b (givenD n.toNat f r) := fun h e _ q => x h e _ fun h1 e1 => by
  have g1 : Gr b h b h1 := Gr.stay e e1
  refine ⟨n, rfl, by omega, by omega, fun Dl hD => ?_⟩
  refine lc_data (walk_range (lo := 0) (n := n.toNat)) f r g1.gi hD (by omega) (fun _ _ => trivial) (fun i y b2 h2 h3 hi e2 g2 hy => ?_) (fun b2 h2 us g2 nb hu hA => q Dl us b2 h2 (gone g1 hD) nb (g1.trans g2) hu hA)
  obtain ⟨rfl, hy⟩ := hy
  have e0 : (0 : Int) + (i : Int) = (i : Int) := Int.zero_add _
  have hy' : y = V.int (i : Int) := by
    rw [hy]
    show V.int ((0 : Int) + (i : Int)) = V.int (i : Int)
    rw [e0]
  subst hy'
  refine ⟨b2, Gr.refl g2.gi, fun Q k => ?_⟩
  have z := hs i b2 g2.gb (by omega)
  exact k _ (hw _) z.1 z.2
/-- [te for j in range(n)], of what comes only a relation is known -/
theorem en_lcRX {ts : TA} {j : Nat} {n : Int} (x : EvA ts σ b [.int n]) (hn : 0 ≤ n ∧ n ≤ 40000) (R : Nat → PyData → Prop) (hw : ∀ x, wipe ((wipe σ vs).set j (some x)) vs = wipe σ vs)
    (hs : ∀ (i : Nat) b2, Ex b b2 → (i : Int) < n → EX K te ((wipe σ vs).set j (some (.int (i : Int)))) b2 (R i)) :
    EX K (tLc (iRng1 ts) (gName j) tYes te vs) σ b (fun d => ∃ acc, d = .list acc ∧ acc.length = n.toNat ∧ ∀ i e, acc[i]? = some e → R i e) := fun h e _ q => x h e _ fun h1 e1 => by
  have g1 : Gr b h b h1 := Gr.stay e e1
  refine ⟨n, rfl, by omega, by omega, fun Dl hD => ?_⟩
  refine lc_it (walk_range (lo := 0) (n := n.toNat)) (fun i h => ∃ b2 us acc, Gr b h1 b2 h ∧ b2 Dl = none ∧ h Dl = some (.lst us) ∧ DtA K b2 us acc ∧ acc.length = i ∧ ∀ k e, acc[k]? = some e → R k e) ?_ (fun _ _ _ _ => trivial) ?_ ?_
  · exact ⟨b, [], [], Gr.hid g1.gi hD, none_of g1.gi hD, upd_same, DtA.nil, rfl, fun k e z => by simp at z⟩
  · rintro i y h2 h3 hi ⟨b2, us, acc, g2, nb, hu, hA, hl, hR⟩ hy
    obtain ⟨rfl, hy⟩ := hy
    have e0 : (0 : Int) + (i : Int) = (i : Int) := Int.zero_add _
    have hy' : y = V.int (i : Int) := by
      rw [hy]
      show V.int ((0 : Int) + (i : Int)) = V.int (i : Int)
      rw [e0]
    subst hy'
    refine ⟨hw _, ?_⟩
    show te _ h3 _
    refine hs i b2 g2.gb (by omega) h3 g2.gi _ fun y b5 h5 d g5 hd hy5 => ⟨us, g5.gh _ _ hu, sz_lt (by rw [hA.length]; omega), ?_⟩
    have nb5 : b5 Dl = none := g5.gf Dl nb (by rw [hu]; intro z; cases z)
    refine ⟨b5, us ++ [y], acc ++ [d], (g2.trans g5).mut hD nb5, nb5, upd_same, (hA.up g5.gb).append (DtA.one hy5), by rw [List.length_append, hl]; rfl, fun k e hk => ?_⟩
    rcases Nat.lt_or_ge k acc.length with z | z
    · rw [List.getElem?_append_left z] at hk
      exact hR k e hk
    · rw [List.getElem?_append_right z] at hk
      have : k - acc.length = 0 := by
        rcases Nat.eq_zero_or_pos (k - acc.length) with w | w
        · exact w
        · rw [List.getElem?_eq_none (by rw [List.length_singleton]; omega)] at hk
          cases hk
      rw [this] at hk
      cases hk
      have : k = i := by omega
      rw [this]
      exact hd
  · rintro h2 ⟨b2, us, acc, g2, nb, hu, hA, hl, hR⟩
    exact q (.ref Dl) (upd b2 Dl (.lst us)) h2 (.list acc) ((g1.trans g2).tell (gone g1 hD) nb hu) ⟨acc, rfl, hl, hR⟩ (Dt.list upd_same (hA.up (Ex.new nb)))
/-- for over a list of data -/
theorem r_forL {D : Ends} {tu : TS} (x : ED K tl σ b (.list ds)) (e : Ex b h0)
    (k : ∀ a xs b1 h1, Gr b h0 b1 h1 → b1 a = some (.lst xs) → DtA K b1 xs ds → ∃ Pv : Nat → L2.St → Hp → Prop, Pv 0 σ h1 ∧ (∀ i σ' h', Pv i σ' h' → Ex b1 h') ∧
      (∀ i d x σ' h', ds[i]? = some d → Dt K b1 x d → Pv i σ' h' → g x σ' h' fun σ2 h2 => tu { D with nx := Pv (i + 1), ct := Pv (i + 1), bk := D.nx } σ2 h2) ∧ ∀ σ' h', Pv ds.length σ' h' → D.nx σ' h') :
    tFor (iList K tl) g tu D σ h0 := x h0 e _ fun v b1 h1 g1 hv => by
  obtain ⟨a, xs, rfl, k1, k2⟩ := hv.listI
  obtain ⟨Pv, p0, pe, ps, pd⟩ := k a xs b1 h1 g1 k1 k2
  refine ⟨a, rfl, ⟨xs, sq_of (g1.gi _ _ k1)⟩, for_list Pv p0 (fun i σ' h' _ p => sq_of (pe i σ' h' p _ _ k1)) (fun i y σ' h' hy p => ?_) (fun σ' h' p => pd σ' h' (by rw [← k2.length]; exact p))⟩
  obtain ⟨dd, hdd, hx⟩ := k2.getV hy
  exact ps i dd y σ' h' hdd hx p
/-! statements: what follows is told at the new pair of heaps -/
variable {D : Ends} {tz tu tw : TS}
theorem r_set {i : Nat} (x : ED K te σ b d) (e : Ex b h) (k : ∀ v b' h', Gr b h b' h' → Dt K b' v d → tz D (σ.set i (some v)) h') : tSeq (tAsg te (gName i)) tz D σ h := x h e _ fun v b' h' g hv => k v b' h' g hv
theorem r_set1 {i : Nat} (x : ED K te σ b d) (e : Ex b h) (k : ∀ v b' h', Gr b h b' h' → Dt K b' v d → D.nx (σ.set i (some v)) h') : tAsg te (gName i) D σ h := x h e _ fun v b' h' g hv => k v b' h' g hv
theorem r_asg (x : ED K te σ b d) (e : Ex b h) (k : ∀ v b' h', Gr b h b' h' → Dt K b' v d → g v σ h' (tz D)) : tSeq (tAsg te g) tz D σ h := x h e _ fun v b' h' g hv => k v b' h' g hv
theorem r_setX {i : Nat} {P : PyData → Prop} (x : EX K te σ b P) (e : Ex b h) (k : ∀ v b' h' d, Gr b h b' h' → P d → Dt K b' v d → tz D (σ.set i (some v)) h') : tSeq (tAsg te (gName i)) tz D σ h := x h e _ fun v b' h' d g hp hv => k v b' h' d g hp hv
theorem r_setN {i : Nat} (x : EN K te σ b ds) (e : Ex b h) (k : ∀ p us b' h', h p = none → b' p = none → Gr b h b' h' → h' p = some (.lst us) → DtA K b' us ds → tz D (σ.set i (some (.ref p))) h') : tSeq (tAsg te (gName i)) tz D σ h := x h e _ fun p us b' h' np nb g hp hu => k p us b' h' np nb g hp hu
theorem r_sc {i : Nat} (x : Ev te σ b v) (e : Ex b h) (k : ∀ h', Gr b h b h' → tz D (σ.set i (some v)) h') : tSeq (tAsg te (gName i)) tz D σ h := x h e _ fun h' e' => k h' (Gr.stay e e')
theorem r_ret (x : ED K te σ b d) (e : Ex b h) (k : ∀ v b' h', Gr b h b' h' → Dt K b' v d → D.rt v h') : tRet te D σ h := x h e _ fun v b' h' g hv => k v b' h' g hv
theorem r_retX {P : PyData → Prop} (x : EX K te σ b P) (e : Ex b h) (k : ∀ v b' h' d, Gr b h b' h' → P d → Dt K b' v d → D.rt v h') : tRet te D σ h := x h e _ fun v b' h' d g hp hv => k v b' h' d g hp hv
theorem r_if {c : Bool} (x : EvT t σ b c) (e : Ex b h) (h1 : c = true → ∀ h', Gr b h b h' → tu { D with nx := tz D } σ h') (h2 : c = false → ∀ h', Gr b h b h' → tw { D with nx := tz D } σ h') : tSeq (tIfS t tu tw) tz D σ h :=
  q_if (x.mono e) (fun hc h' e' => h1 hc h' (Gr.stay e e')) (fun hc h' e' => h2 hc h' (Gr.stay e e'))
theorem r_if1 {c : Bool} (x : EvT t σ b c) (e : Ex b h) (h1 : c = true → ∀ h', Gr b h b h' → tu D σ h') (h2 : c = false → ∀ h', Gr b h b h' → tw D σ h') : tIfS t tu tw D σ h :=
  s_if (x.mono e) (fun hc h' e' => h1 hc h' (Gr.stay e e')) (fun hc h' e' => h2 hc h' (Gr.stay e e'))
end

/-! ### repr of data -/
section
variable {X : Cx}
def rRepr (K : PySem.W.Frag) : List V → Hp → VK → Prop := fun xs H Q => ∃ p d, xs = [.ref p] ∧ Dp K H (.ref p) d ∧ d.showable = true ∧ d.hasDict = false ∧ d.depth ≤ 60 ∧ d.shown.length ≤ sizeLine ∧ Q (.str d.shown) H
theorem cr_repr (hg : X.A.guards = some []) (hu : X.A.units + 64 < cLine) : CallR X (.builtin "repr") (rRepr X.K) := by
  intro pins s σ H xs us Q I r x
  obtain ⟨p, d, rfl, hd, h1, h2, h3, h4, q⟩ := x
  obtain ⟨u, rfl, ru⟩ := vals1 r
  obtain rfl : u = Value.ref p := ru
  obtain ⟨as, hr⟩ := Dp.reads I d _ _ hd rfl
  exact PySem.repr_of_reads' hr h1 (PySem.PyData.noDict_hsm h2) hg (by omega) (fun _ _ e => e) (fun h' u tk hk => ⟨.str _, H, I.kept (t' := tk) hk, ⟨_, rfl⟩, q⟩) h4
end
theorem ev_repr {K : PySem.W.Frag} {σ : L2.St} {b : Hp} {te : TE} {d : PyData} (x : ED K te σ b d) (hl : ∀ v H, Dt K H v d → ∃ p, v = .ref p) (h1 : d.showable = true) (h2 : d.hasDict = false) (h3 : d.depth ≤ 60) (h4 : d.shown.length ≤ sizeLine) :
    Ev (tCB (rRepr K) (tCons te tNil)) σ b (.str d.shown) := fun h e _ q => x h e _ fun v b2 h2' g2 hv => by
  obtain ⟨p, rfl⟩ := hl v _ hv
  exact ⟨p, d, rfl, Dt.dp _ _ (hv.up g2.gi), h1, h2, h3, h4, q h2' g2.gh⟩

/-! ### the rules with the written part named -/
section
variable {X : Cx} {K : PySem.W.Frag} {tg e e2 : Expr} {te tl ta : TE} {ts : TA} {pos p tpos : Pos}
theorem ix_listK (h : X.K = K) : IxR X (rIxL K) := h ▸ ix_list
theorem ix_tupK (h : X.K = K) : IxR X (rIxT K) := h ▸ ix_tup
theorem sl_listK (h : X.K = K) : SlR X (rSlL K) := h ▸ sl_list
theorem len_K (h : X.K = K) : CallR X (.builtin "len") (rLenS K) := h ▸ call_len_seq
theorem list_K (h : X.K = K) : CallR X (.type "list") (rListS K) := h ▸ call_list_of
theorem sum_K (hc : X.calm = true) (h : X.K = K) : CallR X (.builtin "sum") (rSum K) := h ▸ cr_sum hc
theorem all_K (hc : X.calm = true) (h : X.K = K) : CallR X (.builtin "all") (rAll K) := h ▸ cr_all hc
theorem any_K (hc : X.calm = true) (h : X.K = K) : CallR X (.builtin "any") (rAny K) := h ▸ cr_any hc
theorem min_K (hc : X.calm = true) (h : X.K = K) : CallR X (.builtin "min") (rMin K) := h ▸ cr_min hc
theorem max_K (hc : X.calm = true) (h : X.K = K) : CallR X (.builtin "max") (rMax K) := h ▸ cr_max hc
theorem isi_K (h : X.K = K) : CallR X (.builtin "isinstance") (rIsi K) := h ▸ call_isi
theorem isiT_K (h : X.K = K) : CallR X (.builtin "isinstance") (rIsiT K) := h ▸ call_isiT
theorem repr_K (hg : X.A.guards = some []) (hu : X.A.units + 64 < cLine) (h : X.K = K) : CallR X (.builtin "repr") (rRepr K) := h ▸ cr_repr hg hu
theorem eqD_K (hu : X.A.units + 64 < cLine) (h : X.K = K) : OpR X (compareOp .Eq) (rEqD K) := h ▸ op_eqD hu
theorem neD_K (hu : X.A.units + 64 < cLine) (h : X.K = K) : OpR X (compareOp .NotEq) (rNeD K) := h ▸ op_neD hu
theorem inS_K (h : X.K = K) : OpR X (compareOp .In) (rIn K false) := h ▸ op_in_seq
theorem niS_K (h : X.K = K) : OpR X (compareOp .NotIn) (rIn K true) := h ▸ op_notIn_seq
theorem pi_listK (h : X.K = K) (hl : PE X e tl) : PI X tg e (iList K tl) := h ▸ pi_list hl
theorem pg_tupK {es : List Expr} {k : Nat} {t : TGs} {n : Nat} (h : X.K = K) (hc : X.calm = true) (ht : PGs X es t) (hn : (assignEach es X.env).length = n := by rfl) (hst : (assignEach es X.env).findIdx? (·.1) = none := by rfl) :
    PG X (.Tuple es k pos) (gTup K n t) := h ▸ pg_tup hc ht hn hst
theorem pi_zipK {elts : List Expr} {kk : Nat} (h : X.K = K) (hg : Gl X "zip") (hm : X.mg "zip" = none) (ha : PA X [e, e2] ts) (hs : starEach [e, e2] X.env = (false, eval e X.env) :: starEach [e2] X.env := by rfl) (hpl : (backTo pos (starEach [e2] X.env)).any (·.1) = false := by rfl) :
    PI X (.Tuple elts kk tpos) (.Call (.Name "zip" p) [e, e2] [] pos) (iZip K ts) := h ▸ pi_zip hg hm ha hs hpl
theorem pi_enumK {elts : List Expr} {kk : Nat} (h : X.K = K) (hg : Gl X "enumerate") (hm : X.mg "enumerate" = none) (ha : PA X [e] ts) (hs : starEach [e] X.env = [(false, eval e X.env)] := by rfl) :
    PI X (.Tuple elts kk tpos) (.Call (.Name "enumerate" p) [e] [] pos) (iEnum K ts) := h ▸ pi_enum hg hm ha hs
theorem pe_appK {o : Expr} {to : TE} {apos cpos : Pos} (h : X.K = K) (ho : PE X o to) (ha : PA X [e] ts) (hbase : attributeBase o "append" X.env (eval o X.env) = eval o X.env := by rfl)
    (hfew : ((backTo cpos (starEach [e] X.env)).all (fun x => !x.1) && (backToKw cpos (keywordEach [] X.env)).all (fun x => x.1.isSome) && decide ([e].length + ([] : List Keyword).length + (if ([] : List Keyword).isEmpty then 0 else 1) < 30)) = true := by rfl)
    (hline : (apos.endLine == cpos.line) = true := by rfl) (hs : starEach [e] X.env = (false, eval e X.env) :: starEach [] X.env := by rfl) (hp : (backTo cpos (starEach [] X.env)).any (·.1) = false := by rfl) :
    PE X (.Call (.Attribute o "append" apos) [e] [] cpos) (tBM K "list" rAppend to ts) :=
  h ▸ pe_bm PySem.F.plainAttrs_list PySem.F.slot_list_append PySem.F.type_list_append mt_append ho ha hbase hfew hline hs hp
end
end Md


set_option Elab.async false
set_option linter.all false
set_option maxRecDepth 100000
set_option maxHeartbeats 2000000
namespace Md
open PySem L2 Evl
/-! ### the numbers -/
theorem mod_twice {x y : Nat} (h : y ≤ x) (h0 : 0 < y) : x % y * 2 ≤ x := by
  have h1 := Nat.mod_lt x h0
  have h2 := Nat.div_add_mod x y
  have h3 : 1 ≤ x / y := (Nat.le_div_iff_mul_le h0).mpr (by omega)
  have h4 : y * 1 ≤ y * (x / y) := Nat.mul_le_mul_left y h3
  omega
/-- behind i turns of Euclid's way: x and y -/
def Euc (g : Nat) (i x y : Nat) : Prop := Nat.gcd x y = g ∧ (if i = 0 then y < 2 ^ 1900 else y < x ∧ x * y * 2 ^ (i - 1) < 2 ^ 3800)
theorem euc_turn {g i x y : Nat} (h : Euc g i x y) (h0 : 0 < y) : Euc g (i + 1) y (x % y) := by
  obtain ⟨h1, h2⟩ := h
  refine ⟨by rw [← h1, Nat.gcd_comm x y, Nat.gcd_rec y x, Nat.gcd_comm], ?_⟩
  have hm := Nat.mod_lt x h0
  rw [if_neg (by omega)]
  refine ⟨hm, ?_⟩
  by_cases hi : i = 0
  · rw [if_pos hi] at h2
    subst hi
    show y * (x % y) * 2 ^ 0 < 2 ^ 3800
    rw [Nat.pow_zero, Nat.mul_one, show (3800 : Nat) = 1900 + 1900 from rfl, Nat.pow_add]
    exact Nat.mul_lt_mul'' h2 (Nat.lt_trans hm h2)
  · rw [if_neg hi] at h2
    obtain ⟨h3, h4⟩ := h2
    obtain ⟨j, rfl⟩ : ∃ j, i = j + 1 := ⟨i - 1, by omega⟩
    show y * (x % y) * 2 ^ (j + 1) < 2 ^ 3800
    refine Nat.lt_of_le_of_lt ?_ h4
    show y * (x % y) * 2 ^ (j + 1) ≤ x * y * 2 ^ j
    have h5 : x % y * 2 ≤ x := mod_twice (Nat.le_of_lt h3) h0
    calc y * (x % y) * 2 ^ (j + 1) = y * (x % y * 2) * 2 ^ j := by rw [Nat.pow_succ]; simp [Nat.mul_comm, Nat.mul_left_comm, Nat.mul_assoc]
      _ ≤ y * x * 2 ^ j := Nat.mul_le_mul_right _ (Nat.mul_le_mul_left _ h5)
      _ = x * y * 2 ^ j := by rw [Nat.mul_comm y x]
theorem euc_end {g x y : Nat} (h : Euc g 4000 x y) : y = 0 := by
  obtain ⟨_, h2⟩ := h
  rw [if_neg (by decide)] at h2
  obtain ⟨h3, h4⟩ := h2
  cases y with
  | zero => rfl
  | succ y =>
    exfalso
    have h5 : 1 ≤ x * (y + 1) := Nat.mul_pos (by omega) (by omega)
    have h6 : 1 * 2 ^ (4000 - 1) ≤ x * (y + 1) * 2 ^ (4000 - 1) := Nat.mul_le_mul_right _ h5
    have h7 : (2 : Nat) ^ 3800 ≤ 2 ^ (4000 - 1) := Nat.pow_le_pow_right (by decide) (by decide)
    rw [Nat.one_mul] at h6
    exact absurd (Nat.lt_of_lt_of_le h4 (Nat.le_trans h7 h6)) (Nat.lt_irrefl _)
theorem euc_zero {g i x : Nat} (h : Euc g i x 0) : x = g := by
  have := h.1
  rwa [Nat.gcd_zero_right] at this
/-- a number in lowest terms -/
def num (n d : Int) : Int × Int := ((if d < 0 then -n else n) / ((Nat.gcd n.natAbs d.natAbs : Nat) : Int), (if d < 0 then -d else d) / ((Nat.gcd n.natAbs d.natAbs : Nat) : Int))
def nD (p : Int × Int) : PyData := .tuple [.int p.1, .int p.2]
section
variable {K : PySem.W.Frag} {σ : L2.St} {b h : Hp} {te : TE} {i : Int}
def rAbs : List V → Hp → VK → Prop := fun xs H Q => ∃ i, xs = [V.int i] ∧ Q (V.int (if i < 0 then -i else i)) H
theorem cr_abs {X : Cx} : CallR X (.builtin "abs") rAbs := call_abs
theorem ev_abs (x : Ev te σ b (.int i)) : Ev (tCB rAbs (tCons te tNil)) σ b (.int (i.natAbs : Int)) := fun h e _ q => x h e _ fun h2 e2 => ⟨i, rfl, by
  have e3 : (if i < 0 then -i else i) = (i.natAbs : Int) := by split <;> omega
  rw [e3]
  exact q h2 e2⟩
end
/-! ### what stands behind the top -/
structure Bt (mg : Str → Option Value) : Prop where
  len : mg "len" = none
  int : mg "int" = none
  range : mg "range" = none
  abs : mg "abs" = none
  repr : mg "repr" = none
  list : mg "list" = none
  isinstance : mg "isinstance" = none
  sum : mg "sum" = none
  zip : mg "zip" = none
  bool : mg "bool" = none
  enumerate : mg "enumerate" = none
  tuple : mg "tuple" = none
  str : mg "str" = none
  all : mg "all" = none
  any : mg "any" = none
  min : mg "min" = none
  max : mg "max" = none
/-- a def stands behind its name -/
def IsDef (K : PySem.W.Frag) (mg : Str → Option Value) (x : Str) (st : Stmt) (ps : List Str) : Prop := ∃ f fd, Fun K x x st f fd ∧ mg x = some (.ref f) ∧ Binds K fd ps []
/-- it keeps its promise -/
def Has (P : Program) (w : World) (K : PySem.W.Frag) (mg : Str → Option Value) (base : Heap) (k : Nat) (x : Str) (ps : List Str) (sp : Sp) : Prop :=
  ∃ f fd, FnOk P w K mg base CX0 k f fd ps sp ∧ mg x = some (.ref f) ∧ PySem.W.keepIn K (.ref f) = true ∧ Binds K fd ps []
/-- the draws: n numbers from 0 to 999 -/
def spDraws (K : PySem.W.Frag) : Sp := fun vs h Q _ => ∃ (b : Hp) (a : Addr) (ns : List Int) (n : Nat), vs = [.ref a, .int (n : Int)] ∧ Ex b h ∧ SqL K b a (ns.map V.int) ∧ ns.length ≤ 63 ∧ n ≤ 1000 ∧
  ∀ v b' h' (ds : List Int), Gr b h b' h' → ds.length = n → (∀ d ∈ ds, 0 ≤ d ∧ d < 1000) → Dt K b' v (.list (ds.map PyData.int)) → Q v h'
def spGcd (K : PySem.W.Frag) : Sp := SpF K 2 (fun ds => ∃ a b : Int, ds = [.int a, .int b] ∧ b.natAbs < 2 ^ 1900) (fun ds d => ∀ a b : Int, ds = [.int a, .int b] → d = .int ((Nat.gcd a.natAbs b.natAbs : Nat) : Int))
/-- n / d in lowest terms: d is not 0 -/
def spNumber (K : PySem.W.Frag) : Sp := SpF K 2 (fun ds => ∃ n d : Int, ds = [.int n, .int d] ∧ d ≠ 0 ∧ n.natAbs < 2 ^ 1900 ∧ d.natAbs < 2 ^ 1900) (fun ds r => ∀ n d : Int, ds = [.int n, .int d] → r = nD (num n d))
section
variable {K : PySem.W.Frag} {b : Hp} {vs : List V}
theorem DtA.i1 {x : Int} (h : DtA K b vs [.int x]) : vs = [.int x] := by
  cases h with
  | cons h1 h2 =>
    cases h2
    rw [h1.intI]
theorem DtA.i2 {x y : Int} (h : DtA K b vs [.int x, .int y]) : vs = [.int x, .int y] := by
  cases h with
  | cons h1 h2 =>
    rw [h1.intI, h2.i1]
end

/-! ### lists of ints -/
section
variable {K : PySem.W.Frag} {σ : L2.St} {b h : Hp} {te ta tb : TE}
theorem DtA.intsI : ∀ {ns : List Int} {vs : List V}, DtA K b vs (ns.map PyData.int) → vs = ns.map V.int
  | [], _, h => by cases h; rfl
  | n :: ns, _, h => by
    cases h with
    | cons h1 h2 => rw [h1.intI, h2.intsI]; rfl
theorem at_ints {ns : List Int} {j : Nat} {z : Int} (e : z = (j : Int)) (h : j < ns.length) : L2.atI (ns.map PyData.int) z = some (.int (ns.getD j 0)) := by
  subst e
  refine atI_nat ?_
  rw [List.getElem?_map, List.getD_eq_getElem?_getD, List.getElem?_eq_getElem h]
  rfl
theorem at_pick (ns : List Int) {z : Int} (h0 : 0 ≤ z) (h : z < (ns.length : Int)) : ∃ x ∈ ns, L2.atI (ns.map PyData.int) z = some (.int x) := by
  have hj : z.toNat < ns.length := by omega
  refine ⟨ns.getD z.toNat 0, ?_, at_ints (by omega) hj⟩
  rw [List.getD_eq_getElem?_getD, List.getElem?_eq_getElem hj]
  exact List.getElem_mem hj
theorem ev_ixI {ns : List Int} {z : Int} (j : Nat) (x : ED K ta σ b (.list (ns.map PyData.int))) (y : Ev tb σ b (.int z)) (e : z = (j : Int)) (hj : j < ns.length) : Ev (tOp (rIxL K) ta tb) σ b (.int (ns.getD j 0)) := ev_int (ed_ixL x y (at_ints e hj))
theorem ev_sum {ns : List Int} (x : ED K te σ b (.list (ns.map PyData.int))) : Ev (tCB (rSum K) (tCons te tNil)) σ b (.int ns.sum) := fun h e _ q => x h e _ fun v b2 h2 g2 hv => by
  obtain ⟨a, xs, rfl, k1, k2⟩ := hv.listI
  rw [k2.intsI] at k1
  exact ⟨a, ns, rfl, sq_of (g2.gi _ _ k1), q h2 g2.gh⟩
theorem ds_get {ns : List Int} {j : Nat} (h : ∀ d ∈ ns, 0 ≤ d ∧ d < 1000) : 0 ≤ ns.getD j 0 ∧ ns.getD j 0 < 1000 := by
  rw [List.getD_eq_getElem?_getD]
  cases e : ns[j]? with
  | none => decide
  | some x => exact h x (List.mem_of_getElem? e)
end
theorem map_range_ints (n : Nat) (r : Nat → Int) : (List.range n).map (fun i => PyData.int (r i)) = ((List.range n).map r).map PyData.int := by
  rw [List.map_map]
  rfl

/-- a part of a list of draws -/
theorem sIx_of {n : Nat} (d : Nat) {j : Nat} (h : j ≤ n) : HT.sIx n d (some (j : Int)) = j := by
  rw [HT.sIx_nat, Nat.min_eq_left h]
theorem cut_ints {ds : List Int} {lo n : Nat} (hl : lo + n ≤ ds.length) (hd : ∀ d ∈ ds, 0 ≤ d ∧ d < 1000) : ∃ es : List Int, cutD (ds.map PyData.int) (some (lo : Int)) (some ((lo + n : Nat) : Int)) = es.map PyData.int ∧ es.length = n ∧ ∀ d ∈ es, 0 ≤ d ∧ d < 1000 := by
  refine ⟨(ds.drop lo).take n, ?_, by rw [List.length_take, List.length_drop]; omega, fun d h => hd d (List.mem_of_mem_drop (List.mem_of_mem_take h))⟩
  unfold cutD
  rw [List.length_map, sIx_of 0 (show lo ≤ ds.length by omega), sIx_of _ hl, ← List.map_drop, ← List.map_take, show lo + n - lo = n by omega]
/-! ### games -/
inductive Pl where
  | draw (g : Int × Int) (bs : List ((Int × Int) × Int))
  | side (g : Int × Int) (o : Bool) (ts : List Int)
def brD (p : (Int × Int) × Int) : PyData := .tuple [nD p.1, .int p.2]
def Pl.gain : Pl → Int × Int
  | .draw g _ => g
  | .side g _ _ => g
def Pl.kind : Pl → Str
  | .draw _ _ => "draw"
  | .side _ o _ => if o then "ours" else "theirs"
def Pl.bd : Pl → List PyData
  | .draw _ bs => bs.map brD
  | .side _ _ ts => ts.map PyData.int
def Pl.D (p : Pl) : PyData := .tuple [nD p.gain, .str p.kind, .list p.bd]
def gameD (G : List Pl) : PyData := .list (G.map Pl.D)
/-- a number with small parts, in lowest terms -/
def SmallN (p : Int × Int) : Prop := 1 ≤ p.2 ∧ p.2 < 1000 ∧ p.1.natAbs < 1000 ∧ Nat.gcd p.1.natAbs p.2.natAbs = 1
def WfP (many : Int) : Pl → Prop
  | .draw g bs => SmallN g ∧ 1 ≤ bs.length ∧ bs.length ≤ 6 ∧ (∀ p ∈ bs, 0 ≤ p.2 ∧ p.2 < many) ∧ ∃ ws : List Int, ws.length = bs.length ∧ (∀ w ∈ ws, 1 ≤ w ∧ w ≤ 5) ∧ bs.map (·.1) = ws.map (fun w => num w ws.sum)
  | .side g _ ts => SmallN g ∧ 1 ≤ ts.length ∧ ts.length ≤ 6 ∧ ∀ t ∈ ts, 0 ≤ t ∧ t < many
def WfG (G : List Pl) : Prop := 1 ≤ G.length ∧ G.length ≤ 12 ∧ ∀ p ∈ G, WfP (G.length : Int) p
theorem num_small {n d : Int} (hn : n.natAbs < 1000) (h0 : d ≠ 0) (hd : d.natAbs < 1000) : SmallN (num n d) := by
  unfold num SmallN
  simp only
  generalize hg : Nat.gcd n.natAbs d.natAbs = g
  have g0 : 0 < g := by rw [← hg]; exact Nat.gcd_pos_of_pos_right _ (by omega)
  generalize hN : (if d < 0 then -n else n) = N
  generalize hDd : (if d < 0 then -d else d) = Dd
  have eN : N.natAbs = n.natAbs := by rw [← hN]; split <;> omega
  have eD : Dd = (d.natAbs : Int) := by rw [← hDd]; split <;> omega
  obtain ⟨a, ha⟩ : g ∣ n.natAbs := by rw [← hg]; exact Nat.gcd_dvd_left _ _
  obtain ⟨c, hc⟩ : g ∣ d.natAbs := by rw [← hg]; exact Nat.gcd_dvd_right _ _
  have hab : Nat.gcd a c = 1 := by
    have := Nat.gcd_mul_left g a c
    rw [← ha, ← hc, hg] at this
    exact Nat.eq_of_mul_eq_mul_left g0 (by omega)
  have hc0 : 0 < c := by
    rcases Nat.eq_zero_or_pos c with z | z
    · subst z; omega
    · exact z
  have gi : (0 : Int) < (g : Int) := by omega
  have e1 : Dd / (g : Int) = (c : Int) := by
    rw [eD, hc]
    rw [Int.natCast_mul]
    exact Int.mul_ediv_cancel_left _ (by omega)
  have e2 : (N / (g : Int)).natAbs = a := by
    rcases Int.natAbs_eq N with z | z
    · rw [z, eN, ha, Int.natCast_mul, Int.mul_ediv_cancel_left _ (by omega)]
      rfl
    · rw [z, eN, ha, Int.natCast_mul, ← Int.mul_neg, Int.mul_ediv_cancel_left _ (by omega), Int.natAbs_neg]
      rfl
  have hcl : c ≤ g * c := Nat.le_mul_of_pos_left c g0
  have hal : a ≤ g * a := Nat.le_mul_of_pos_left a g0
  rw [e1, e2]
  refine ⟨by omega, by omega, by omega, ?_⟩
  rw [Int.natAbs_natCast]
  exact hab
theorem map_getD {α : Type} (ws : List Int) (f : Int → α) : (List.range ws.length).map (fun i => f (ws.getD i 0)) = ws.map f := by
  refine List.ext_getElem? fun i => ?_
  rw [List.getElem?_map, List.getElem?_map]
  by_cases h : i < ws.length
  · rw [List.getElem?_range h, List.getElem?_eq_getElem h]
    show some (f (ws.getD i 0)) = some (f ws[i])
    rw [List.getD_eq_getElem?_getD, List.getElem?_eq_getElem h]
    rfl
  · rw [List.getElem?_eq_none (by rw [List.length_range]; omega), List.getElem?_eq_none (by omega)]
    rfl
theorem sum_small : ∀ {ws : List Int}, (∀ w ∈ ws, 1 ≤ w ∧ w ≤ 5) → ws.sum ≤ 5 * ws.length
  | [], _ => by simp
  | x :: ws, h => by
    have h1 := h x List.mem_cons_self
    have h2 := sum_small fun w hw => h w (List.mem_cons_of_mem _ hw)
    rw [List.sum_cons, List.length_cons]
    omega
theorem sum_pos : ∀ {ws : List Int}, (∀ w ∈ ws, 1 ≤ w ∧ w ≤ 5) → (ws.length : Int) ≤ ws.sum
  | [], _ => by simp
  | x :: ws, h => by
    have h1 := h x List.mem_cons_self
    have h2 := sum_pos fun w hw => h w (List.mem_cons_of_mem _ hw)
    rw [List.sum_cons, List.length_cons]
    omega
theorem wf_bd {many : Int} {p : Pl} (h : WfP many p) : 1 ≤ p.bd.length ∧ p.bd.length ≤ 6 := by
  cases p with
  | draw g bs =>
    obtain ⟨_, h1, h2, _⟩ := h
    have e : (Pl.draw g bs).bd.length = bs.length := List.length_map _
    omega
  | side g o ts =>
    obtain ⟨_, h1, h2, _⟩ := h
    have e : (Pl.side g o ts).bd.length = ts.length := List.length_map _
    omega
/-- a place drawn from fifteen draws -/
def spPlace (K : PySem.W.Frag) : Sp := fun vs h Q _ => ∃ (b : Hp) (ds : List Int) (many : Int), Ex b h ∧ DtA K b vs [.list (ds.map PyData.int), .int many] ∧ ds.length = 15 ∧ (∀ d ∈ ds, 0 ≤ d ∧ d < 1000) ∧ 1 ≤ many ∧
  ∀ v b' h' p, Gr b h b' h' → WfP many p → Dt K b' v p.D → Q v h'
/-- a game of at most `most` places -/
def spGame (K : PySem.W.Frag) : Sp := fun vs h Q _ => ∃ (b : Hp) (ds : List Int) (most : Int), Ex b h ∧ DtA K b vs [.list (ds.map PyData.int), .int most] ∧ 1 ≤ most ∧ most ≤ 12 ∧ 1 + 15 * most ≤ (ds.length : Int) ∧ (∀ d ∈ ds, 0 ≤ d ∧ d < 1000) ∧
  ∀ v b' h' G, Gr b h b' h' → WfG G → (G.length : Int) ≤ most → Dt K b' v (gameD G) → Q v h'
theorem all_some {α : Type} {W : α → Prop} {D : α → PyData} : ∀ {acc : List PyData}, (∀ e ∈ acc, ∃ p, W p ∧ e = D p) → ∃ G : List α, acc = G.map D ∧ ∀ p ∈ G, W p
  | [], _ => ⟨[], rfl, fun _ h => by cases h⟩
  | e :: acc, h => by
    obtain ⟨p, hp, rfl⟩ := h e List.mem_cons_self
    obtain ⟨G, rfl, hG⟩ := all_some fun x hx => h x (List.mem_cons_of_mem _ hx)
    exact ⟨p :: G, rfl, fun q hq => by
      rcases List.mem_cons.mp hq with rfl | hq
      · exact hp
      · exact hG q hq⟩
/-- a strategy of a side of a game: what it tells at each place -/
def stD (S : List (Option Nat)) : PyData := .list (S.map fun o => match o with | some j => .int (j : Int) | none => .none)
def WfS (x : Str) (G : List Pl) (S : List (Option Nat)) : Prop := S.length = G.length ∧ ∀ (i : Nat) (p : Pl), G[i]? = some p → (p.kind = x → ∃ j, S[i]? = some (some j) ∧ j < p.bd.length) ∧ (p.kind ≠ x → S[i]? = some none)
def spStrategy (K : PySem.W.Frag) : Sp := fun vs h Q _ => ∃ (b : Hp) (G : List Pl) (x : Str) (ds : List Int), Ex b h ∧ DtA K b vs [gameD G, .str x, .list (ds.map PyData.int)] ∧ WfG G ∧ G.length ≤ ds.length ∧ (∀ d ∈ ds, 0 ≤ d ∧ d < 1000) ∧
  ∀ v b' h' S, Gr b h b' h' → WfS x G S → Dt K b' v (stD S) → Q v h'
/-- the target that a place's branch j tells -/
def Pl.at (p : Pl) (j : Nat) : Int := match p with
  | .draw _ bs => (bs.getD j ((0, 1), 0)).2
  | .side _ _ ts => ts.getD j 0
/-- the strategy put in -/
def putP (x : Str) (p : Pl) (o : Option Nat) : Pl := if p.kind = x then .draw p.gain [((1, 1), p.at (o.getD 0))] else p
def putG (x : Str) : List Pl → List (Option Nat) → List Pl
  | p :: G, o :: S => putP x p o :: putG x G S
  | _, _ => []
theorem putG_len (x : Str) : ∀ (G : List Pl) (S : List (Option Nat)), S.length = G.length → (putG x G S).length = G.length
  | [], _, _ => by cases ‹List (Option Nat)› <;> rfl
  | p :: G, o :: S, h => congrArg Nat.succ (putG_len x G S (Nat.succ.inj h))
theorem putG_get (x : Str) : ∀ (G : List Pl) (S : List (Option Nat)) (i : Nat) (p : Pl) (o : Option Nat), G[i]? = some p → S[i]? = some o → (putG x G S)[i]? = some (putP x p o)
  | [], _, _, _, _, h, _ => by simp at h
  | q :: G, [], _, _, _, _, h => by simp at h
  | q :: G, r :: S, 0, p, o, h1, h2 => by
    simp only [List.getElem?_cons_zero, Option.some.injEq] at h1 h2
    subst h1 h2
    rfl
  | q :: G, r :: S, i + 1, p, o, h1, h2 => by
    simp only [List.getElem?_cons_succ] at h1 h2
    exact putG_get x G S i p o h1 h2
theorem putG_more (x : Str) (G : List Pl) (S : List (Option Nat)) (i : Nat) (p : Pl) (o : Option Nat) (h1 : G[i]? = some p) (h2 : S[i]? = some o) : putG x (G.take (i + 1)) (S.take (i + 1)) = putG x (G.take i) (S.take i) ++ [putP x p o] := by
  induction G generalizing S i with
  | nil => simp at h1
  | cons q G ih =>
    cases S with
    | nil => simp at h2
    | cons r S =>
      cases i with
      | zero =>
        simp only [List.getElem?_cons_zero, Option.some.injEq] at h1 h2
        subst h1 h2
        simp [putG]
      | succ i =>
        simp only [List.getElem?_cons_succ] at h1 h2
        simp only [List.take_succ_cons, putG, List.cons_append]
        rw [ih S i h1 h2]
def Side (x : Str) : Prop := x = "ours" ∨ x = "theirs"
def SmG (G : List Pl) : Prop := G.length ≤ 12 ∧ ∀ p ∈ G, p.bd.length ≤ 6
def spPut (K : PySem.W.Frag) : Sp := fun vs h Q _ => ∃ (b : Hp) (G : List Pl) (x : Str) (S : List (Option Nat)), Ex b h ∧ DtA K b vs [gameD G, .str x, stD S] ∧ SmG G ∧ Side x ∧ WfS x G S ∧
  ∀ v b' h', Gr b h b' h' → Dt K b' v (gameD (putG x G S)) → Q v h'
theorem kind_draw {g : Int × Int} {bs : List ((Int × Int) × Int)} {x : Str} (h : Side x) : (Pl.draw g bs).kind ≠ x := by
  rcases h with rfl | rfl
  · exact (by decide +kernel : ("draw" : Str) ≠ "ours")
  · exact (by decide +kernel : ("draw" : Str) ≠ "theirs")
theorem at_bd {p : Pl} {x : Str} {j : Nat} (h : Side x) (hk : p.kind = x) (hj : j < p.bd.length) : p.bd[j]? = some (.int (p.at j)) := by
  cases p with
  | draw g bs => exact absurd hk (kind_draw h)
  | side g o ts =>
    have hj' : j < ts.length := by
      have : (ts.map PyData.int).length = ts.length := List.length_map _
      have h2 : j < (ts.map PyData.int).length := hj
      omega
    show (ts.map PyData.int)[j]? = some (.int (ts.getD j 0))
    rw [List.getElem?_map, List.getElem?_eq_getElem hj', List.getD_eq_getElem?_getD, List.getElem?_eq_getElem hj']
    rfl
section
variable {K : PySem.W.Frag} {σ : L2.St} {b h : Hp} {te ta : TE} {d : PyData} {q : Addr} {us : List V} {D : Ends} {tz : TS}
/-- found.append(e), found a list that is not spoken of -/
theorem r_app1 (hq : h q = some (.lst us)) (ha : Ev ta σ h (.ref q)) (x : ED K te σ b d) (e : Ex b h) (nb : b q = none) (hz : us.length < 100000)
    (k : ∀ v b' h', Gr b h b' h' → b' q = none → h' q = some (.lst us) → Dt K b' v d → D.nx σ (upd h' q (.lst (us ++ [v])))) : tDrop (tBM K "list" rAppend ta (tCons te tNil)) D σ h :=
  ha h (Ex.refl h) _ fun h1 e1 => ⟨Or.inl ⟨rfl, us, sq_of (e1 _ _ hq)⟩, x h1 (e.trans e1) _ fun v b2 h2 g2 hv =>
    ⟨q, us, v, rfl, rfl, g2.gh _ _ (e1 _ _ hq), sz_lt hz, k v b2 h2 ((Gr.stay e e1).trans g2) (g2.gf q nb (by rw [e1 _ _ hq]; intro z; cases z)) (g2.gh _ _ (e1 _ _ hq)) hv⟩⟩
end
def svV : Option Nat → V
  | some j => .int (j : Int)
  | none => .non
def svD : Option Nat → PyData
  | some j => .int (j : Int)
  | none => .none
theorem stD_eq (S : List (Option Nat)) : stD S = .list (S.map svD) := by
  unfold stD svD
  rfl
theorem DtA.sv {K : PySem.W.Frag} {b : Hp} : ∀ S : List (Option Nat), DtA K b (S.map svV) (S.map svD)
  | [] => DtA.nil
  | some j :: S => DtA.cons (Dt.int _) (DtA.sv S)
  | none :: S => DtA.cons Dt.none (DtA.sv S)
theorem game_at {G : List Pl} {i : Nat} {p : Pl} (h : G[i]? = some p) : L2.atI (G.map Pl.D) (i : Int) = some p.D := atI_nat (by rw [List.getElem?_map, h] <;> rfl)
end Md


set_option Elab.async false
set_option linter.all false
set_option maxRecDepth 100000
set_option maxHeartbeats 2000000
namespace Md
open PySem L2 Evl
/-! ### data that repr and == take: how deep, how long its text -/
structure Nice (k L : Nat) (d : PyData) : Prop where
  show_ : d.showable = true
  nd : d.hasDict = false
  dep : d.depth ≤ k
  lay : d.canLay0 = true
  len : d.shown.length ≤ L
theorem Nice.mono {k L k' L' : Nat} {d : PyData} (h : Nice k L d) (hk : k ≤ k') (hl : L ≤ L') : Nice k' L' d := ⟨h.show_, h.nd, Nat.le_trans h.dep hk, h.lay, Nat.le_trans h.len hl⟩
theorem nice_none : Nice 0 4 .none := ⟨rfl, rfl, Nat.le_refl _, rfl, by decide +kernel⟩
theorem nice_int {i : Int} (h : i.natAbs < 10 ^ 18) : Nice 0 19 (.int i) := by
  refine ⟨?_, rfl, Nat.le_refl _, rfl, ?_⟩
  · show decide (i.natAbs.log2 < 1920) = true
    refine decide_eq_true ?_
    by_cases h0 : i.natAbs = 0
    · rw [h0]; decide
    · rw [Nat.log2_lt h0]
      exact Nat.lt_trans h (by decide +kernel)
  · have := PySem.int_text_length_le10 (k := 18) (by decide) h
    show (Str.ofString (toString i)).length ≤ 19
    rw [ofString_length]
    exact this
theorem nice_str {z : Str} {L : Nat} (h : (PyData.str z).shown.length ≤ L) (h2 : (PyData.str z).canLay0 = true) : Nice 0 L (.str z) := ⟨rfl, rfl, Nat.le_refl _, h2, h⟩
theorem nice_all {k L : Nat} : ∀ {ds : List PyData}, (∀ d ∈ ds, Nice k L d) → PyData.showableAll ds = true ∧ PyData.hasDictAll ds = false ∧ PyData.depthAll ds ≤ k ∧ PyData.canLayAll0 ds = true ∧ piled (PyData.shownAll ds) ≤ ds.length * (L + 2)
  | [], _ => ⟨rfl, rfl, Nat.zero_le _, rfl, by rw [List.length_nil, Nat.zero_mul]; exact Nat.le_refl _⟩
  | d :: ds, h => by
    obtain ⟨h1, h2, h3, h4, h5⟩ := nice_all fun x hx => h x (List.mem_cons_of_mem _ hx)
    have hd := h d List.mem_cons_self
    refine ⟨?_, ?_, ?_, ?_, ?_⟩
    · show (d.showable && PyData.showableAll ds) = true
      rw [hd.show_, h1] <;> rfl
    · show (d.hasDict || PyData.hasDictAll ds) = false
      rw [hd.nd, h2] <;> rfl
    · show max d.depth (PyData.depthAll ds) ≤ k
      exact Nat.max_le.mpr ⟨hd.dep, h3⟩
    · show (d.canLay0 && PyData.canLayAll0 ds) = true
      rw [hd.lay, h4] <;> rfl
    · show piled (d.shown :: PyData.shownAll ds) ≤ _
      rw [piled_cons, List.length_cons, Nat.add_mul, Nat.one_mul]
      have := hd.len
      omega
theorem textFrom_le : ∀ (ts : List Str) (k : Nat) (acc : Str), (textFrom k acc ts).length ≤ acc.length + piled ts
  | [], k, acc => by show acc.length ≤ acc.length + piled []; omega
  | t :: r, k, acc => by
    have h := textFrom_le r (k + 1) (acc ++ (if k > 0 then ", " else "" : String) ++ t)
    have e : (acc ++ (if k > 0 then ", " else "" : String) ++ t).length ≤ acc.length + 2 + t.length := by
      rw [strLen_append, strLen_append]
      split
      · exact Nat.le_refl _
      · show acc.length + 0 + t.length ≤ _
        omega
    rw [piled_cons]
    show (textFrom (k + 1) _ r).length ≤ _
    omega
theorem listText_le (ts : List Str) : (listText ts).length ≤ piled ts + 2 := by
  unfold listText
  rw [strLen_append]
  have := textFrom_le ts 0 "["
  have e1 : (("[" : String) : Str).length = 1 := by decide +kernel
  have e2 : (("]" : String) : Str).length = 1 := by decide +kernel
  omega
theorem tupleText_le (ts : List Str) : (tupleText ts).length ≤ piled ts + 4 := by
  unfold tupleText
  rw [strLen_append, strLen_append]
  have e1 : (("(" : Str)).length = 1 := by decide +kernel
  have e3 : ((if ts.length == 1 then ",)" else ")" : String) : Str).length ≤ 2 := by
    split
    · decide +kernel
    · decide +kernel
  by_cases h : ts = []
  · subst h
    have e2 : (Str.join ", " []).length = 0 := by decide +kernel
    omega
  · have := join_length_add ts h
    omega
theorem nice_list {k L n : Nat} {ds : List PyData} (h : ∀ d ∈ ds, Nice k L d) (hn : ds.length ≤ n) : Nice (k + 1) (n * (L + 2) + 4) (.list ds) := by
  obtain ⟨h1, h2, h3, h4, h5⟩ := nice_all h
  refine ⟨h1, h2, Nat.succ_le_succ h3, h4, ?_⟩
  show (listText (PyData.shownAll ds)).length ≤ _
  have := listText_le (PyData.shownAll ds)
  have e : ds.length * (L + 2) ≤ n * (L + 2) := Nat.mul_le_mul_right _ hn
  omega
theorem nice_tup {k L n : Nat} {ds : List PyData} (h : ∀ d ∈ ds, Nice k L d) (hn : ds.length ≤ n) : Nice (k + 1) (n * (L + 2) + 4) (.tuple ds) := by
  obtain ⟨h1, h2, h3, h4, h5⟩ := nice_all h
  refine ⟨h1, h2, Nat.succ_le_succ h3, h4, ?_⟩
  show (tupleText (PyData.shownAll ds)).length ≤ _
  have := tupleText_le (PyData.shownAll ds)
  have e : ds.length * (L + 2) ≤ n * (L + 2) := Nat.mul_le_mul_right _ hn
  omega
theorem nice_kind (p : Pl) : Nice 0 20 (.str p.kind) := by
  cases p with
  | draw g bs => exact nice_str (z := "draw") (L := 20) (by decide +kernel) (by decide +kernel)
  | side g o ts =>
    cases o with
    | true => exact nice_str (z := "ours") (L := 20) (by decide +kernel) (by decide +kernel)
    | false => exact nice_str (z := "theirs") (L := 20) (by decide +kernel) (by decide +kernel)
/-- numbers of a game or a strategy -/
def NumOk (p : Int × Int) : Prop := p.1.natAbs < 10 ^ 18 ∧ p.2.natAbs < 10 ^ 18
theorem nice_num {p : Int × Int} (h : NumOk p) : Nice 1 46 (nD p) := nice_tup (L := 19) (n := 2) (fun d hd => by
  simp only [List.mem_cons, List.not_mem_nil, or_false] at hd
  rcases hd with rfl | rfl
  · exact nice_int h.1
  · exact nice_int h.2) (by show 2 ≤ 2; decide)
def OkP : Pl → Prop
  | .draw g bs => NumOk g ∧ bs.length ≤ 6 ∧ ∀ p ∈ bs, NumOk p.1 ∧ p.2.natAbs < 10 ^ 18
  | .side g _ ts => NumOk g ∧ ts.length ≤ 6 ∧ ∀ t ∈ ts, t.natAbs < 10 ^ 18
def OkG (G : List Pl) : Prop := G.length ≤ 12 ∧ ∀ p ∈ G, OkP p
theorem Nice.shaped {k L : Nat} {d : PyData} (h : Nice k L d) (hk : k ≤ 64) : SeqAt.shaped d = true := by
  unfold SeqAt.shaped
  rw [h.lay, decide_eq_true (Nat.le_trans h.dep hk)] <;> rfl
theorem Nice.eqv {k L : Nat} {d : PyData} (h : Nice k L d) : PyData.eqv d d = true := PySem.SeqAt.eqv_refl d h.lay
theorem nice_place {p : Pl} (h : OkP p) : Nice 4 2000 p.D := by
  have hl : Nice 3 616 (.list p.bd) := by
    cases p with
    | draw g bs =>
      refine (nice_list (k := 2) (L := 100) (n := 6) (fun d hd => ?_) (by show (bs.map brD).length ≤ 6; rw [List.length_map]; exact h.2.1)).mono (by decide) (by decide)
      obtain ⟨q, hq, rfl⟩ := List.mem_map.mp hd
      have hq2 := h.2.2 q hq
      refine (nice_tup (k := 1) (L := 46) (n := 2) (fun d hd => ?_) (by show 2 ≤ 2; decide)).mono (by decide) (by decide)
      simp only [List.mem_cons, List.not_mem_nil, or_false] at hd
      rcases hd with rfl | rfl
      · exact nice_num hq2.1
      · exact (nice_int hq2.2).mono (by decide) (by decide)
    | side g o ts =>
      refine (nice_list (k := 0) (L := 19) (n := 6) (fun d hd => ?_) (by show (ts.map PyData.int).length ≤ 6; rw [List.length_map]; exact h.2.1)).mono (by decide) (by decide)
      obtain ⟨q, hq, rfl⟩ := List.mem_map.mp hd
      exact nice_int (h.2.2 q hq)
  have hg : NumOk p.gain := by
    cases p with
    | draw g bs => exact h.1
    | side g o ts => exact h.1
  refine (nice_tup (k := 3) (L := 616) (n := 3) (fun d hd => ?_) (by show 3 ≤ 3; decide)).mono (by decide) (by decide)
  simp only [List.mem_cons, List.not_mem_nil, or_false] at hd
  rcases hd with rfl | rfl | rfl
  · exact (nice_num hg).mono (by decide) (by decide)
  · exact (nice_kind p).mono (by decide) (by decide)
  · exact hl
theorem nice_game {G : List Pl} (h : OkG G) : Nice 5 25000 (gameD G) := by
  refine (nice_list (k := 4) (L := 2000) (n := 12) (fun d hd => ?_) (by rw [List.length_map]; exact h.1)).mono (by decide) (by decide)
  obtain ⟨q, hq, rfl⟩ := List.mem_map.mp hd
  exact nice_place (h.2 q hq)
theorem nice_st {S : List (Option Nat)} (h : S.length ≤ 12) (hs : ∀ o ∈ S, ∀ j, o = some j → j < 1000) : Nice 1 300 (stD S) := by
  rw [stD_eq]
  refine (nice_list (k := 0) (L := 19) (n := 12) (fun d hd => ?_) (by rw [List.length_map]; exact h)).mono (by decide) (by decide)
  obtain ⟨q, hq, rfl⟩ := List.mem_map.mp hd
  cases q with
  | none => exact nice_none.mono (by decide) (by decide)
  | some j =>
    have := hs _ hq j rfl
    refine nice_int ?_
    have : ((j : Int)).natAbs < 1000 := by omega
    exact Nat.lt_trans this (by decide)
theorem ok_small {p : Int × Int} (h : SmallN p) : NumOk p := ⟨Nat.lt_trans h.2.2.1 (by decide), Nat.lt_trans (show p.2.natAbs < 1000 by have := h.1; have := h.2.1; omega) (by decide)⟩
theorem num_le {n d : Int} (h : d ≠ 0) : (num n d).1.natAbs ≤ n.natAbs ∧ (num n d).2.natAbs ≤ d.natAbs := by
  unfold num
  simp only
  have hg : 0 < Nat.gcd n.natAbs d.natAbs := Nat.gcd_pos_of_pos_right _ (by omega)
  generalize Nat.gcd n.natAbs d.natAbs = g at hg
  have key : ∀ z : Int, (z / (g : Int)).natAbs ≤ z.natAbs := fun z => by
    have := Int.natAbs_ediv_le_natAbs z (g : Int)
    exact this
  have e1 : (if d < 0 then -n else n).natAbs = n.natAbs := by split <;> omega
  have e2 : (if d < 0 then -d else d).natAbs = d.natAbs := by split <;> omega
  exact ⟨e1 ▸ key _, e2 ▸ key _⟩
theorem wf_okP {many : Int} {p : Pl} (h : WfP many p) (hm : many ≤ 12) : OkP p := by
  cases p with
  | draw g bs =>
    obtain ⟨h1, h2, h3, h4, ws, h5, h6, h7⟩ := h
    refine ⟨ok_small h1, h3, fun p hp => ⟨?_, ?_⟩⟩
    · have hm1 : p.1 ∈ bs.map (·.1) := List.mem_map.mpr ⟨p, hp, rfl⟩
      rw [h7] at hm1
      obtain ⟨w, hw, e⟩ := List.mem_map.mp hm1
      rw [← e]
      have h8 := h6 w hw
      have h9 := sum_small h6
      have h10 := sum_pos h6
      have h11 : ws.sum ≠ 0 := by omega
      have h12 := num_le (n := w) h11
      exact ⟨Nat.lt_of_le_of_lt h12.1 (Nat.lt_trans (show w.natAbs < 1000 by omega) (by decide)), Nat.lt_of_le_of_lt h12.2 (Nat.lt_trans (show ws.sum.natAbs < 1000 by omega) (by decide))⟩
    · have := h4 p hp
      exact Nat.lt_trans (show p.2.natAbs < 1000 by omega) (by decide)
  | side g o ts =>
    obtain ⟨h1, h2, h3, h4⟩ := h
    refine ⟨ok_small h1, h3, fun t ht => ?_⟩
    have := h4 t ht
    exact Nat.lt_trans (show t.natAbs < 1000 by omega) (by decide)
theorem wf_okG {G : List Pl} (h : WfG G) : OkG G := ⟨h.2.1, fun p hp => wf_okP (h.2.2 p hp) (by have := h.2.1; omega)⟩
theorem ok_put {x : Str} {p : Pl} {o : Option Nat} (h : OkP p) : OkP (putP x p o) := by
  unfold putP
  split
  · have hg : NumOk p.gain := by
      cases p with
      | draw g bs => exact h.1
      | side g o ts => exact h.1
    refine ⟨hg, by show 1 ≤ 6; decide, fun q hq => ?_⟩
    rw [List.mem_singleton] at hq
    subst hq
    refine ⟨⟨by show (1 : Int).natAbs < 10 ^ 18; decide, by show (1 : Int).natAbs < 10 ^ 18; decide⟩, ?_⟩
    cases p with
    | draw g bs =>
      show ((bs.getD (o.getD 0) ((0, 1), 0)).2).natAbs < 10 ^ 18
      rw [List.getD_eq_getElem?_getD]
      cases e : bs[o.getD 0]? with
      | none => decide
      | some q => exact (h.2.2 q (List.mem_of_getElem? e)).2
    | side g oo ts =>
      show (ts.getD (o.getD 0) 0).natAbs < 10 ^ 18
      rw [List.getD_eq_getElem?_getD]
      cases e : ts[o.getD 0]? with
      | none => decide
      | some q => exact h.2.2 q (List.mem_of_getElem? e)
  · exact h
theorem ok_putG (x : Str) : ∀ (G : List Pl) (S : List (Option Nat)), (∀ p ∈ G, OkP p) → ∀ p ∈ putG x G S, OkP p
  | [], _, _, p, hp => by cases ‹List (Option Nat)› <;> cases hp
  | q :: G, [], _, p, hp => by cases hp
  | q :: G, o :: S, h, p, hp => by
    rcases List.mem_cons.mp hp with rfl | hp
    · exact ok_put (h q List.mem_cons_self)
    · exact ok_putG x G S (fun y hy => h y (List.mem_cons_of_mem _ hy)) p hp
theorem ok_bd {p : Pl} (h : OkP p) : p.bd.length ≤ 6 := by
  cases p with
  | draw g bs => exact (List.length_map (as := bs) brD).symm ▸ h.2.1
  | side g o ts => exact (List.length_map (as := ts) PyData.int).symm ▸ h.2.1
/-! ### places with a list of their own -/
def ConstT (K : PySem.W.Frag) (mg : Str → Option Value) (x : Str) (d : PyData) : Prop := ∃ a, mg x = some (.ref a) ∧ ∀ H, Dt K H (.ref a) d
/-- u is a tuple whose third item is a list that was not there in h -/
def OwnL (K : PySem.W.Frag) (h b' : Hp) (u : V) : Prop := ∃ t g kd l bs, u = .ref t ∧ SqT K b' t [g, kd, .ref l] ∧ h l = none ∧ b' l = some (.lst bs) ∧ bs.length ≤ 6
theorem OwnL.up {K : PySem.W.Frag} {h b b' : Hp} {u : V} (x : OwnL K h b u) (e : Ex b b') : OwnL K h b' u := by
  obtain ⟨t, g, kd, l, bs, h1, h2, h3, h4, h5⟩ := x
  exact ⟨t, g, kd, l, bs, h1, ex_t e h2, h3, e _ _ h4, h5⟩
theorem OwnL.of {K : PySem.W.Frag} {h h' b : Hp} {u : V} (x : OwnL K h' b u) (e : Ex h h') : OwnL K h b u := by
  obtain ⟨t, g, kd, l, bs, h1, h2, h3, h4, h5⟩ := x
  exact ⟨t, g, kd, l, bs, h1, h2, fresh_back e h3, h4, h5⟩
def OwnQ (K : PySem.W.Frag) (h : Hp) (p : Addr) (b' : Hp) (u : V) : Prop := ∃ t g kd l bs, u = .ref t ∧ SqT K b' t [g, kd, .ref l] ∧ h l = none ∧ l ≠ p ∧ b' l = some (.lst bs) ∧ bs.length ≤ 6
theorem OwnL.q {K : PySem.W.Frag} {h b : Hp} {u : V} {p : Addr} (x : OwnL K h b u) (n : b p = none) : OwnQ K h p b u := by
  obtain ⟨t, g, kd, l, bs, h1, h2, h3, h4, h5⟩ := x
  exact ⟨t, g, kd, l, bs, h1, h2, h3, ne_of_none h4 n, h4, h5⟩
theorem OwnQ.up {K : PySem.W.Frag} {h b b' : Hp} {u : V} {p : Addr} (x : OwnQ K h p b u) (e : Ex b b') : OwnQ K h p b' u := by
  obtain ⟨t, g, kd, l, bs, h1, h2, h3, h4, h5, h6⟩ := x
  exact ⟨t, g, kd, l, bs, h1, ex_t e h2, h3, h4, e _ _ h5, h6⟩
def spTold (K : PySem.W.Frag) : Sp := fun vs h Q _ => ∃ (b : Hp) (p : Pl) (x : Str) (o : Option Nat), Ex b h ∧ DtA K b vs [p.D, .str x, svD o] ∧ Side x ∧ (p.kind = x → ∃ j, o = some j ∧ j < p.bd.length) ∧ p.bd.length ≤ 6 ∧
  ∀ v b' h', Gr b h b' h' → Dt K b' v (putP x p o).D → OwnL K h b' v → Q v h'
def spWith (K : PySem.W.Frag) : Sp := fun vs h Q _ => ∃ (b : Hp) (G : List Pl) (x : Str) (S : List (Option Nat)), Ex b h ∧ DtA K b vs [gameD G, .str x, stD S] ∧ SmG G ∧ Side x ∧ WfS x G S ∧
  ∀ p us b' h', Gr b h b' h' → h p = none → Dt K b' (.ref p) (gameD (putG x G S)) → b' p = some (.lst us) → (∀ u ∈ us, OwnQ K h p b' u) → Q (.ref p) h'
theorem tup3N {K : PySem.W.Frag} {σ : L2.St} {b h : Hp} {t1 t2 t3 : TE} {d1 d2 : PyData} {ds : List PyData} {Q : VK} (x1 : ED K t1 σ b d1) (x2 : ED K t2 σ b d2) (x3 : EN K t3 σ b ds) (e : Ex b h) (hl : ds.length ≤ 6)
    (k : ∀ v b' h', Gr b h b' h' → Dt K b' v (.tuple [d1, d2, .list ds]) → OwnL K h b' v → Q v h') : tTup (tCons t1 (tCons t2 (tCons t3 tNil))) σ h Q :=
  x1 h e _ fun v1 b1 h1 g1 k1 => x2.up g1.gb h1 g1.gi _ fun v2 b2 h2 g2 k2 => x3.up (g1.gb.trans g2.gb) h2 g2.gi _ fun l us b3 h3 nl nb g3 hl3 hus => ⟨by show 3 ≤ sizeLine; decide, fun t ht => by
    have G := (g1.trans g2).trans g3
    have hl0 : h l = none := fresh_back (g1.gh.trans g2.gh) nl
    have G' := G.tell hl0 nb hl3
    have G2 := G'.trans (Gr.new (o := .tup [v1, v2, .ref l]) G'.gi ht)
    have nt : (upd b3 l (.lst us)) t = none := none_of G'.gi ht
    have e1 : Ex b3 (upd (upd b3 l (.lst us)) t (.tup [v1, v2, .ref l])) := (Ex.new nb).trans (Ex.new nt)
    have nlt : l ≠ t := ne_of_none hl3 ht
    have hul : (upd (upd b3 l (.lst us)) t (.tup [v1, v2, .ref l])) l = some (.lst us) := by rw [upd_ne nlt, upd_same]
    have hut : SqT K (upd (upd b3 l (.lst us)) t (.tup [v1, v2, .ref l])) t [v1, v2, .ref l] := st_of upd_same
    exact k (.ref t) _ _ G2 (Dt.tuple hut (DtA.cons (((k1.up g2.gb).up g3.gb).up e1) (DtA.cons ((k2.up g3.gb).up e1) (DtA.one (Dt.list hul (hus.up e1)))))) ⟨t, v1, v2, l, us, rfl, hut, hl0, hul, by rw [hus.length]; exact hl⟩⟩
theorem tyes_of {A B : Hp → Prop} {σ : L2.St} {H : Hp} (h : A H) : tYes σ H (fun k H' => if k = true then A H' else B H') := by
  show (if true = true then A H else B H)
  rw [if_pos rfl]
  exact h
theorem sqT_upd {K : PySem.W.Frag} {h : Hp} {t l : Addr} {xs bs cs : List V} (x : SqT K h t xs) (hl : h l = some (.lst bs)) : SqT K (upd h l (.lst cs)) t xs := by
  rcases x with (x | ⟨o, x⟩) | x
  · exact .inl (.inl (by rw [upd_ne (ne_of x hl (by intro z; cases z))]; exact x))
  · exact .inl (.inr ⟨o, by rw [upd_ne (ne_of x hl (by intro z; cases z))]; exact x⟩)
  · exact .inr x
theorem kd_ou : ¬ (("ours" : Str) = "theirs") := by decide +kernel
theorem kd_to : ¬ (("theirs" : Str) = "ours") := by decide +kernel
theorem put_comm (p : Pl) (o t : Option Nat) : putP "theirs" (putP "ours" p o) t = putP "ours" (putP "theirs" p t) o := by
  have hd : ∀ (g : Int × Int) (bs : List ((Int × Int) × Int)) (x : Str) (z : Option Nat), Side x → putP x (.draw g bs) z = .draw g bs := fun g bs x z hx => by
    unfold putP
    rw [if_neg (kind_draw hx)]
  by_cases h1 : p.kind = "ours"
  · have e1 : putP "ours" p o = .draw p.gain [((1, 1), p.at (o.getD 0))] := by unfold putP; rw [if_pos h1]
    have e2 : putP "theirs" p t = p := by unfold putP; rw [if_neg (by rw [h1]; exact kd_ou)]
    rw [e2, e1, hd _ _ _ _ (.inr rfl)]
  · have e1 : putP "ours" p o = p := by unfold putP; rw [if_neg h1]
    rw [e1]
    by_cases h2 : p.kind = "theirs"
    · have e2 : putP "theirs" p t = .draw p.gain [((1, 1), p.at (t.getD 0))] := by unfold putP; rw [if_pos h2]
      rw [e2, hd _ _ _ _ (.inl rfl)]
    · have e2 : putP "theirs" p t = p := by unfold putP; rw [if_neg h2]
      rw [e2, e1]
theorem putG_comm : ∀ (G : List Pl) (S T : List (Option Nat)), S.length = G.length → T.length = G.length → putG "theirs" (putG "ours" G S) T = putG "ours" (putG "theirs" G T) S
  | [], S, T, hS, hT => by
    cases S with
    | nil => cases T with
      | nil => rfl
      | cons _ _ => cases hT
    | cons _ _ => cases hS
  | p :: G, o :: S, t :: T, hS, hT => by
    show putP "theirs" (putP "ours" p o) t :: putG "theirs" (putG "ours" G S) T = putP "ours" (putP "theirs" p t) o :: putG "ours" (putG "theirs" G T) S
    rw [put_comm, putG_comm G S T (Nat.succ.inj hS) (Nat.succ.inj hT)]
theorem wfS_put {x y : Str} {G : List Pl} {S T : List (Option Nat)} (hx : Side x) (hy : Side y) (hxy : x ≠ y) (hS : WfS x G S) (hT : WfS y G T) : WfS y (putG x G S) T := by
  have hl := putG_len x G S hS.1
  refine ⟨by rw [hl]; exact hT.1, fun i q hq => ?_⟩
  have hi : i < G.length := by
    have := (List.getElem?_eq_some_iff.mp hq).1
    omega
  obtain ⟨p, hp⟩ : ∃ p, G[i]? = some p := ⟨_, List.getElem?_eq_getElem hi⟩
  obtain ⟨o, ho⟩ : ∃ o, S[i]? = some o := ⟨_, List.getElem?_eq_getElem (by rw [hS.1]; exact hi)⟩
  have e := putG_get x G S i p o hp ho
  rw [hq] at e
  have e' : q = putP x p o := Option.some.inj e
  have hTi := hT.2 i p hp
  by_cases hk : p.kind = x
  · have e2 : q = .draw p.gain [((1, 1), p.at (o.getD 0))] := by rw [e']; unfold putP; rw [if_pos hk]
    refine ⟨fun z => absurd z (by rw [e2]; exact kind_draw hy), fun _ => hTi.2 (by rw [hk]; exact hxy)⟩
  · have e2 : q = p := by rw [e']; unfold putP; rw [if_neg hk]
    rw [e2]
    exact hTi
theorem smG_of {G : List Pl} (h : OkG G) : SmG G := ⟨h.1, fun p hp => ok_bd (h.2 p hp)⟩
theorem okG_put {x : Str} {G : List Pl} {S : List (Option Nat)} (h : OkG G) (hl : S.length = G.length) : OkG (putG x G S) := ⟨by rw [putG_len x G S hl]; exact h.1, ok_putG x G S h.2⟩
theorem wfS_small {x : Str} {G : List Pl} {S : List (Option Nat)} (h : OkG G) (hS : WfS x G S) : ∀ o ∈ S, ∀ j, o = some j → j < 1000 := by
  intro o ho j hj
  obtain ⟨i, hi, rfl⟩ := List.mem_iff_getElem.mp ho
  have hiG : i < G.length := by rw [← hS.1]; exact hi
  have hp : G[i]? = some G[i] := List.getElem?_eq_getElem hiG
  have hSi := hS.2 i _ hp
  have e : S[i]? = some S[i] := List.getElem?_eq_getElem hi
  by_cases hk : G[i].kind = x
  · obtain ⟨n, hn, hb⟩ := hSi.1 hk
    rw [e, hj] at hn
    have hjn : j = n := Option.some.inj (Option.some.inj hn)
    have := ok_bd (h.2 _ (List.getElem_mem hiG))
    omega
  · have hn := hSi.2 hk
    rw [e, hj] at hn
    cases hn
section
variable {K : PySem.W.Frag} {σ : L2.St} {b h : Hp} {te : TE} {ts : TA} {ds : List PyData} {D : Ends} {tz : TS} {sp : Sp} {E : XK}
theorem r_call {i : Nat} (x : EDA K ts σ b ds) (e : Ex b h) (k : ∀ vs b' h', Gr b h b' h' → DtA K b' vs ds → sp vs h' (fun v h2 => tz D (σ.set i (some v)) h2) E) : tSeq (tAsg (tCall sp [] E ts) (gName i)) tz D σ h :=
  x h e _ fun vs b' h' g hv => by
    rw [List.append_nil]
    exact k vs b' h' g hv
theorem ed_put {G : List Pl} {x : Str} {S : List (Option Nat)} (y : EDA K ts σ b [gameD G, .str x, stD S]) (h1 : SmG G) (h2 : Side x) (h3 : WfS x G S) : ED K (tCall (spPut K) [] E ts) σ b (gameD (putG x G S)) := fun h e _ q =>
  y h e _ fun vs b2 h2' g2 hv => ⟨b2, G, x, S, g2.gi, by rw [List.append_nil]; exact hv, h1, h2, h3, fun v b3 h3 g3 hv3 => q v b3 h3 (g2.trans g3) hv3⟩
theorem ed_with {G : List Pl} {x : Str} {S : List (Option Nat)} (y : EDA K ts σ b [gameD G, .str x, stD S]) (h1 : SmG G) (h2 : Side x) (h3 : WfS x G S) : ED K (tCall (spWith K) [] E ts) σ b (gameD (putG x G S)) := fun h e _ q =>
  y h e _ fun vs b2 h2' g2 hv => ⟨b2, G, x, S, g2.gi, by rw [List.append_nil]; exact hv, h1, h2, h3, fun p us b3 h3 g3 hn hv3 _ _ => q (.ref p) b3 h3 (g2.trans g3) hv3⟩
theorem ev_isiL (x : ED K te σ b (.list ds)) : Ev (tCB (rIsi K) (tCons te (tCons (tC (.ty "list")) tNil))) σ b (.bl true) := fun h e _ q => x h e _ fun v b2 h2 g2 hv => by
  obtain ⟨a, xs, rfl, k1, k2⟩ := hv.listI
  exact ⟨.ref a, .ty "list", .type "list", .type "list", true, rfl, .ty _, .base (.lst (g2.gi _ _ k1)), kit_ty (by decide +kernel), q h2 g2.gh⟩
theorem ref_list {v : V} {H : Hp} (x : Dt K H v (.list ds)) : ∃ p, v = .ref p := by
  obtain ⟨a, _, e, _⟩ := x.listI
  exact ⟨a, e⟩
theorem ref_tup {v : V} {H : Hp} (x : Dt K H v (.tuple ds)) : ∃ p, v = .ref p := by
  obtain ⟨a, _, e, _⟩ := x.tupleI
  exact ⟨a, e⟩
theorem ev_reprN {k L : Nat} {d : PyData} (x : ED K te σ b d) (n : Nice k L d) (hl : ∀ v H, Dt K H v d → ∃ p, v = .ref p) (hk : k ≤ 60) (hL : L ≤ 16000000) : Ev (tCB (rRepr K) (tCons te tNil)) σ b (.str d.shown) :=
  ev_repr x hl n.show_ n.nd (Nat.le_trans n.dep hk) (Nat.le_trans n.len (Nat.le_trans hL (by decide)))
theorem ev_same {ta tb : TE} {k L : Nat} {d : PyData} (x : ED K ta σ b d) (y : ED K tb σ b d) (n : Nice k L d) (hk : k ≤ 64) : Ev (tOp (rEqD K) ta tb) σ b (.bl true) := by
  have := ev_eqD x y (n.shaped hk) (n.shaped hk)
  rwa [n.eqv] at this
theorem ev_differ {ta tb : TE} {k L : Nat} {d : PyData} (x : ED K ta σ b d) (y : ED K tb σ b d) (n : Nice k L d) (hk : k ≤ 64) : Ev (tOp (rNeD K) ta tb) σ b (.bl false) := by
  have := ev_neD x y (n.shaped hk) (n.shaped hk)
  rwa [n.eqv] at this
theorem ev_eqS {ta tb : TE} {v : V} (x : Ev ta σ b v) (y : Ev tb σ b v) (hs : scal v v = true) : Ev (tOp rEq ta tb) σ b (.bl true) := by
  have := ev_op x y (rv_eq hs)
  rwa [decide_eq_true rfl] at this
theorem ev_neS {ta tb : TE} {v : V} (x : Ev ta σ b v) (y : Ev tb σ b v) (hs : scal v v = true) : Ev (tOp rNe ta tb) σ b (.bl false) := by
  have := ev_op x y (rv_ne hs)
  rwa [decide_eq_true rfl] at this
end
end Md


set_option Elab.async false
set_option linter.all false
set_option maxRecDepth 100000
set_option maxHeartbeats 2000000
namespace Md
open PySem PySem.Spec PyProof.Rows L2 Evl
/-! ### the law's own call: it stands at the caller's place, where no repr runs -/
def LawOk (P : Program) (w : World) (K : PySem.W.Frag) (mg : Str → Option Value) (base : Heap) (k : Nat) (f : Addr) (fd : FuncData) (ps : List Str) (sp : Sp) : Prop :=
  ∀ (s : Shared) (H : Hp) (ar : Args) (us : List Value) (vs : List V) (Q : VK), Room k callerA → Env0 P w K mg base callerA [] s H →
    BindsTo s fd ar (ps.zip us) → Vals vs us → sp vs H Q E0 → codeAny (model P w) callerA (.call (.ref f) ar) (CR CX0 [] P w H s Q E0) s
theorem law_ok {P : Program} {w : World} {K : PySem.W.Frag} {mg : Str → Option Value} {base : Heap} {x qual : Str} {st : Stmt} {f : Addr} {fd : FuncData} {N ps : List Str} {k : Nat} {sp : Sp} (F : Fun K x qual st f fd)
    (S : FnScope N ps (defScope st)) (len : ∀ vs H Q E, sp vs H Q E → vs.length = ps.length)
    (body : ∀ (cd : Value) (s : Shared) (H : Hp) (vs : List V) (Q : VK), Room k (callerA.deeper (envOfC qual (defScope st) s.heap.objs.size f cd)) → sp vs H Q E0 →
      ∃ t, PSs (cxOf CX0 P w K mg base N qual (defScope st) f cd callerA [] s H E0).nox (defBody st) t ∧ t { nx := fun _ H' => Q .non H', rt := Q } (start N vs) H) : LawOk P w K mg base (k + 1) f fd ps sp := by
  obtain ⟨oc, od, kV, dc, pm, an, cd, ct, sl, rfl, lk, hcd⟩ := F.ex
  intro s H ar us vs Q room e0 hb rv hs
  have hlen := len _ _ _ _ hs
  have old : ∀ c o, base.get? c = some o → s.heap.get? c = some o := fun c o e => (e0.bs c o e).1
  have kin : K.In s.heap := e0.mod.kin.keeps old
  have nolim : s.heap.NoLimit := e0.mod.nolimit.keeps old
  have kinds : ∀ y ∈ ps.zip us, (defScope st).names.lookup y.1 = some .local ∨ ((defScope st).names.lookup y.1 = some .cell ∧ ((cellsFrom (s.heap.objs.size + 1) (defScope st).names []).lookup y.1).isSome = true) := by
    rintro ⟨n, v⟩ hy
    rcases S.par n (List.of_mem_zip hy).1 with z | z
    · exact .inl z
    · exact .inr ⟨z, PySem.W.cellsFrom_some _ _ _ (.inl z)⟩
  refine codeAny_call_function room.depth (kin _ _ lk) rfl S.co S.gen rfl (PySem.W.codeRec_of kin hcd) (hb _ _ _ _ (wpAny_newFunctionEnv_cells S.kind kinds ?_))
  rintro env rfl s1 call
  refine ⟨nolim.keeps call.toInCall.keep, codeAny_func ?_⟩
  obtain ⟨t, ht, hq⟩ := body cd s H vs Q (room.deeper _) hs
  have start_ : Inv (cxOf CX0 P w K mg base N qual (defScope st) f cd callerA [] s H E0) [] (start N vs) H s1 := inv_start S room.hd e0 hlen rv call
  refine wpAny_mono (ht.nox.run [] s1 (start N vs) H _ start_ hq) ?_ (fun _ _ z => z)
  intro fl s2 z
  cases fl with
  | next =>
    obtain ⟨σ2, H2, J, q⟩ := z
    exact ⟨V.non, H2, J.os, J.bare, J.base, J.hok, rfl, q⟩
  | ret u =>
    obtain ⟨v, σ2, H2, J, r, q⟩ := z
    exact ⟨v, H2, J.os, J.bare, J.base, J.hok, r, q⟩
  | brk =>
    obtain ⟨_, _, _, q⟩ := z
    cases q
  | cont =>
    obtain ⟨_, _, _, q⟩ := z
    cases q
/-- the law's call on the script, from its promise -/
theorem law_run {P : Program} {w : World} {K : PySem.W.Frag} {mg mb : Str → Option Value} {k : Nat} {f a : Addr} {fd : FuncData} {x : Str} {sp : Sp} {s1 : Shared} {us : List Value} {ns : List Int}
    (kx : K.In s1.heap) (gl : s1.heap.Ns mainGlobals mg) (bl : s1.heap.Ns builtinsNs mb) (bb : ∀ y : Str, y ≠ "__name__" → mb y = bootBuiltins y) (nl : s1.heap.NoLimit) (gn : s1.gens = #[])
    (ha : s1.heap.get? a = some { cls := .type "list", data := .seq us.toArray }) (hi : IntsAre us ns) (hz : ns.length ≤ sizeLine) (room : Room k callerA)
    (F : ∀ B : Heap, K.In B → B.Ns mainGlobals mg → LawOk P w K mg B k f fd [x] sp) (hb : ∀ (s : Shared) (u : Value), BindsTo s fd ⟨[u], []⟩ [(x, u)])
    (hsp : ∀ H : Hp, Only H → SqL K H a (ns.map V.int) → sp [.ref a] H (fun v _ => v = .bl true) E0) :
    codeAny (model P w) callerA (.call (.ref f) ⟨[.ref a], []⟩) (fun r s2 => r = .ok (.ret (.bool true)) ∧ OldK s1.heap s2.heap ∧ s2.os = s1.os ∧ AllBare s2.gens) s1 := by
  have rv := vals_ints hi
  have hlen := hi.length
  have key : ∀ H : Hp, Only H → SqL K H a (ns.map V.int) → HOk P w H s1.heap → (∀ c, H c ≠ none → c = a) → (H a ≠ none → K.lookup a = none) →
      codeAny (model P w) callerA (.call (.ref f) ⟨[.ref a], []⟩) (fun r s2 => r = .ok (.ret (.bool true)) ∧ OldK s1.heap s2.heap ∧ s2.os = s1.os ∧ AllBare s2.gens) s1 := by
    intro H only sq ok one out
    have nodict : ∀ {c : Addr} {o : Obj} {es : Array DictEntry} {n : Nat}, s1.heap.get? c = some o → o.data = .dict es n → H c = none := by
      intro c o es n e d
      cases q : H c with
      | none => rfl
      | some u =>
        obtain rfl : c = a := one c (by rw [q]; simp)
        rw [ha] at e
        cases e
        cases d
    have ns_ : ∀ {c : Addr} {m : Str → Option Value}, s1.heap.Ns c m → (hidT s1.heap H).Ns c m := by
      rintro c m ⟨o, es, n, e, d, r⟩
      exact ⟨o, es, n, hidT_get e (nodict e d), d, r⟩
    have kB : K.In (hidT s1.heap H) := fun c o e => hidT_get (kx c o e) (by
      cases q : H c with
      | none => rfl
      | some u =>
        obtain rfl : c = a := one c (by rw [q]; simp)
        rw [out (by rw [q]; simp)] at e
        cases e)
    have lim : (hidT s1.heap H).NoLimit := by
      obtain ⟨mc, h1, h2⟩ := nl
      exact ⟨mc, ns_ h1, h2⟩
    have e0 : Env0 P w K mg (hidT s1.heap H) callerA [] s1 H := ⟨rfl, ⟨kB, ns_ gl, ⟨mb, ns_ bl, bb⟩, lim⟩, fun c o e => of_hidT e, Nat.le_of_eq (hidT_size _ _), trivial, (fun c hc => absurd (show c ∈ ([] : List Addr) from hc) (by simp)), ok, .of_eq gn⟩
    refine codeAny_mono (F _ kB (ns_ gl) s1 H ⟨[.ref a], []⟩ [.ref a] [.ref a] _ room e0 (hb s1 (.ref a)) (.cons rfl .nil) (hsp H only sq)) ?_
    intro r s2 z
    cases r with
    | error e => cases z
    | ok fl =>
      cases fl with
      | next => cases z
      | brk => cases z
      | cont => cases z
      | ret u =>
        obtain ⟨v, H2, os, bare, un, ok2, ru, q⟩ := z
        obtain rfl : v = .bl true := q
        obtain rfl : u = Value.bool true := ru
        refine ⟨rfl, OldK.of_keep (fun c o e => ?_), os, bare⟩
        cases q : H c with
        | none => exact un.keep c o e q (fun z => absurd (show c ∈ ([] : List Addr) from z) (by simp)) (by simp)
        | some u =>
          rcases only c with z | ⟨ob, xs, z⟩
          · rw [q] at z
            cases z
          · obtain ⟨e1, _⟩ := ok c _ z
            obtain ⟨e2, _⟩ := ok2 c _ (un.frzs c ob _ z)
            rw [e] at e1
            cases e1
            exact e2
  cases hk : K.lookup a with
  | some o =>
    have e := kx a o hk
    rw [ha] at e
    cases e
    refine key (fun _ => none) (fun _ => .inl rfl) (.inr ⟨_, us.toArray, _, hk, rfl, rfl, rfl, by rw [List.size_toArray, hlen]; exact hz, by simpa using rv⟩) (fun c u z => ?_) (fun c z => absurd rfl z) (fun z => absurd rfl z)
    cases (show (none : Option HO) = some u from z)
  | none =>
    let O : Obj := { cls := .type "list", data := .seq us.toArray }
    let H0 : Hp := fun c => if c = a then some (.frz O (.lst (ns.map V.int))) else none
    have at_a : H0 a = some (.frz O (.lst (ns.map V.int))) := if_pos rfl
    have off : ∀ c, c ≠ a → H0 c = none := fun c hc => if_neg hc
    refine key H0 (fun c => ?_) (.inl (.inr ⟨O, at_a⟩)) (fun c u z => ?_) (fun c z => ?_) (fun _ => hk)
    · by_cases hc : c = a
      · exact .inr ⟨O, ns.map V.int, by rw [hc]; exact at_a⟩
      · exact .inl (off c hc)
    · by_cases hc : c = a
      · subst hc
        rw [at_a] at z
        cases z
        exact ⟨ha, by rw [List.length_map]; exact hz, us, _, rv, ha⟩
      · rw [off c hc] at z
        cases z
    · by_cases hc : c = a
      · exact hc
      · exact absurd (off c hc) z
/-- what k_head leaves, from the law's promise -/
theorem law_walk {l : PySem.W.OpenLaw} {k : Nat} {q : Program} {loose : List Str} {XP : (Str → Option Value) → Heap → Prop} {YP : World → Heap → Prop} {d : DefRec} {K : Params → PySem.W.Frag} {sp : PySem.W.Frag → Sp} {x : Str}
    (hn : l.most = some 63) (hdf : d.params.defaults = []) (room : Room k callerA) (hY : ∀ (w : World) (h : Heap), YP w h → (K w.params).In h)
    (F : ∀ (w : World) (mg : Str → Option Value) (fa : Addr) (h : Heap), (K w.params).In h → h.Ns mainGlobals mg → mg d.name = some (.ref fa) →
      ∃ fd : FuncData, (∀ (s : Shared) (u : Value), BindsTo s fd ⟨[u], []⟩ [(x, u)]) ∧ ∀ B : Heap, (K w.params).In B → B.Ns mainGlobals mg → LawOk l.prog w (K w.params) mg B k fa fd [x] (sp (K w.params)))
    (hsp : ∀ (K : PySem.W.Frag) (H : Hp) (a : Addr) (ns : List Int), ns.length ≤ 63 → Only H → SqL K H a (ns.map V.int) → sp K [.ref a] H (fun v _ => v = .bl true) E0) :
    PySem.W.WalkO q loose XP YP l.row.toRowW d [] (fun f vs => PySem.call f vs) := by
  refine Att.attach_call hn hdf fun w s₀ s₁ mg mb fa o pm cd doc a vs ns G Y ho hd hcd hmg hobj hints hlen hg => ?_
  have kx := hY w _ Y
  obtain ⟨fd, hb, hF⟩ := F w mg fa _ kx G.T.g hmg
  exact law_run kx G.T.g G.T.b G.T.builtins G.T.nolimit hg hobj hints (Nat.le_trans hlen (by decide)) room hF hb fun H only sq => hsp _ H a ns hlen only sq
/-- the law gives True of any script of at most 63 ints -/
def spLaw (K : PySem.W.Frag) : Sp := fun vs H Q _ => ∃ (a : Addr) (ns : List Int), vs = [.ref a] ∧ SqL K H a (ns.map V.int) ∧ ns.length ≤ 63 ∧ ∀ H', Q (.bl true) H'
end Md


set_option Elab.async false
set_option linter.all false
set_option maxRecDepth 100000
set_option maxHeartbeats 2000000
namespace Md
open PySem L2 Evl
/-! ### calls by keywords that may raise -/
def tCallKS (sp : Sp) (gV : List V → List V → List V) (E : L2.St → XK) (t tk : TA) : TE := fun σ H Q => t σ H fun vs H1 => tk σ H1 fun zs H2 => sp (gV vs zs) H2 Q (E σ)
section
variable {X : Cx} {CX : CXT} {k : Nat} {f : Addr} {fd : FuncData} {ps ks : List Str} {sp : Sp} {E : L2.St → XK} {x : Str} {p pos : Pos} {e : Expr} {es : List Expr} {kws : List Keyword} {t tk : TA} {g : List Value → List Value → List Value} {gV : List V → List V → List V}
theorem pe_callKS (F : FnOk X.prog X.w X.K X.mg X.base CX k f fd ps sp) (hr : Room k X.A) (hg : Gl X x) (hm : X.mg x = some (.ref f)) (hk : PySem.W.keepIn X.K (.ref f) = true) (hb : KBinds X.K fd ps ks g gV) (hx : ∀ σ, PassesAt CX X σ (E σ))
    (ha : PA X (e :: es) t) (hkw : PK X kws tk) (h1 : (backToKw pos (keywordEach kws X.env)).all (·.1.isSome) = true := by rfl) (h2 : (backToKw pos (keywordEach kws X.env)).filterMap (·.1) = ks := by rfl)
    (h3 : (x == ("__debug__" : Str)) = false := by decide) (h4 : starEach (e :: es) X.env = (false, eval e X.env) :: starEach es X.env := by rfl)
    (h5 : ((backTo pos (starEach (e :: es) X.env)).any (·.1) || (backToKw pos (keywordEach kws X.env)).any (·.1.isNone)) = false := by rfl) :
    PE X (.Call (.Name x p) (e :: es) kws pos) (tCallKS sp gV E t tk) := by
  refine ⟨fun pins s σ H Q I z => ?_⟩
  refine wpAny_Call_Name_kw (ld_glob I hg hm ?_ h3)
  refine PySem.W.callWith_KW (h₀ := X.base) I.ok.mod.kin hk h1 (thn (ha.run pos pins s σ H _ I z) fun us s1 ⟨vs, H1, I1, r, q⟩ => ?_) h5 h4
  refine thn (hkw.run pos pins s1 σ H1 _ I1 q) fun ws s2 ⟨zs, H2, I2, rz, q2⟩ => ⟨I2.kIn, ?_⟩
  rw [h2]
  have rr := hb.rel r rz
  have hl : (g us ws).length = ps.length := by rw [← rr.length]; exact F.len _ _ _ _ q2
  refine wpAny_call (codeAny_mono (F.run X.A X.stack s2 H2 ⟨us, ks.zip ws⟩ (g us ws) (gV vs zs) Q (E σ) hr I2.env0 (hb.to s2 us ws I2.kIn hl) rr q2) ?_)
  intro res s3 hres
  cases res with
  | error er => exact hx σ pins H2 s2 er s3 I2 hres
  | ok fl =>
    cases fl with
    | ret u => exact I2.after hres
    | next => cases hres
    | brk => cases hres
    | cont => cases hres
end
/-- nothing is raised by a call that may raise, where its promise says so -/
theorem passX0 {X : Cx} : Passes (L2.CX X.prog X.w) X E0 := fun _ _ _ _ _ _ _ h => by
  obtain ⟨a, B, H', cls, d, _, _, _, _, _, _, _, z⟩ := h
  cases z
/-! ### the error with a place -/
def NBAt (H : Hp) (C : Addr) (n : Int) (E : XK) : Prop := ∀ d h', Ex H h' → H d = none → h' d = some (.xd [(("at" : Str), .int n)]) → E (.ref C) (some d) h'
theorem NBAt.up {H H' : Hp} {C : Addr} {n : Int} {E : XK} (x : NBAt H C n E) (e : Ex H H') : NBAt H' C n E := fun d h' e' nd hd => x d h' (e.trans e') (fresh_back e nd) hd
/-- NoBranch.__init__ -/
def spNB (C : Addr) : Sp := fun vs H Q _ => ∃ a n, vs = [.ref a, .int n] ∧ H a = some (exo a C none) ∧ ∀ dx, H dx = none → dx ≠ a → Q .non (upd (upd H dx (exd dx [(("at" : Str), .int n)])) a (exo a C (some dx)))
theorem nb_made {C : Addr} {n : Int} {ta : TA} {σ : L2.St} {h : Hp} {Q : XK} (x : EvA ta σ h [.int n]) (q : NBAt h C n Q) : tMkO C (spNB C) [] ta σ h Q := x h (Ex.refl h) _ fun h1 e1 => by
  refine ⟨by show 1 ≤ 1000; decide, fun a ha => ?_⟩
  refine ⟨a, n, rfl, upd_same, fun dx hdx hne => ⟨rfl, dx, [(("at" : Str), .int n)], upd_same, ?_, ?_, ?_⟩⟩
  · rw [upd_ne hne, upd_same]
  · rw [upd_ne hne] at hdx
    exact hdx
  · have hdx' : h1 dx = none := by
      rw [upd_ne hne] at hdx
      exact hdx
    refine q dx _ (fun b o hb => ?_) (fresh_back e1 hdx') upd_same
    have hb1 := e1 b o hb
    have n1 : b ≠ a := ne_of_none hb1 ha
    have n2 : b ≠ dx := ne_of_none hb1 hdx'
    rw [upd_ne n2, del_ne n1, upd_ne n1, upd_ne n2, upd_ne n1]
    exact hb1
/-! ### ways -/
def Pl.tg : Pl → List Int
  | .draw _ bs => bs.map (·.2)
  | .side _ _ ts => ts
theorem tg_len (p : Pl) : p.tg.length = p.bd.length := by
  cases p with
  | draw g bs =>
    show (bs.map (·.2)).length = (bs.map brD).length
    rw [List.length_map, List.length_map]
  | side g o ts =>
    show ts.length = (ts.map PyData.int).length
    rw [List.length_map]
def plAt (G : List Pl) (x : Nat) : Pl := G.getD x (.side (0, 1) true [])
theorem plAt_get {G : List Pl} {x : Nat} (h : x < G.length) : G[x]? = some (plAt G x) := by
  unfold plAt
  rw [List.getD_eq_getElem?_getD, List.getElem?_eq_getElem h]
  rfl
def stepT (G : List Pl) (x : Nat) (n : Int) : Nat := ((plAt G x).tg.getD n.toNat 0).toNat
def okB (G : List Pl) (x : Nat) (n : Int) : Prop := 0 ≤ n ∧ n < ((plAt G x).tg.length : Int)
instance (G : List Pl) (x : Nat) (n : Int) : Decidable (okB G x n) := by unfold okB; exact inferInstance
def lastF (G : List Pl) : Nat → List Int → Nat
  | x, [] => x
  | x, n :: r => lastF G (stepT G x n) r
def pathF (G : List Pl) : Nat → List Int → List Nat
  | x, [] => [x]
  | x, n :: r => x :: pathF G (stepT G x n) r
theorem lastF_app (G : List Pl) : ∀ (r : List Int) (x : Nat) (n : Int), lastF G x (r ++ [n]) = stepT G (lastF G x r) n
  | [], x, n => rfl
  | m :: r, x, n => lastF_app G r (stepT G x m) n
theorem pathF_app (G : List Pl) : ∀ (r : List Int) (x : Nat) (n : Int), pathF G x (r ++ [n]) = pathF G x r ++ [stepT G (lastF G x r) n]
  | [], x, n => rfl
  | m :: r, x, n => by
    show x :: pathF G (stepT G x m) (r ++ [n]) = x :: (pathF G (stepT G x m) r ++ [stepT G (lastF G (stepT G x m) r) n])
    rw [pathF_app G r]
theorem pathF_len (G : List Pl) : ∀ (r : List Int) (x : Nat), (pathF G x r).length = r.length + 1
  | [], x => rfl
  | m :: r, x => congrArg Nat.succ (pathF_len G r (stepT G x m))
theorem pathF_get (G : List Pl) : ∀ (r : List Int) (x j : Nat), j ≤ r.length → (pathF G x r)[j]? = some (lastF G x (r.take j))
  | [], x, 0, _ => rfl
  | [], x, j + 1, h => by simp at h
  | m :: r, x, 0, _ => rfl
  | m :: r, x, j + 1, h => by
    show (pathF G (stepT G x m) r)[j]? = some (lastF G (stepT G x m) (r.take j))
    exact pathF_get G r (stepT G x m) j (by simpa using h)
theorem pathF_last (G : List Pl) : ∀ (r : List Int) (x : Nat), ∃ l, pathF G x r = l ++ [lastF G x r]
  | [], x => ⟨[], rfl⟩
  | m :: r, x => by
    obtain ⟨l, hl⟩ := pathF_last G r (stepT G x m)
    exact ⟨x :: l, by show x :: pathF G (stepT G x m) r = _; rw [hl]; rfl⟩
/-- targets are places -/
def WfT (G : List Pl) : Prop := G.length ≤ 12 ∧ ∀ p ∈ G, ∀ t ∈ p.tg, 0 ≤ t ∧ t < (G.length : Int)
theorem wfT_of {G : List Pl} (h : WfG G) : WfT G := ⟨h.2.1, fun p hp t ht => by
  have hw := h.2.2 p hp
  cases p with
  | draw g bs =>
    obtain ⟨q, hq, rfl⟩ := List.mem_map.mp ht
    exact hw.2.2.2.1 q hq
  | side g o ts => exact hw.2.2.2 t ht⟩
theorem stepT_lt {G : List Pl} {x : Nat} {n : Int} (h : WfT G) (hx : x < G.length) (hn : okB G x n) : stepT G x n < G.length ∧ ((stepT G x n : Nat) : Int) = (plAt G x).tg.getD n.toNat 0 := by
  unfold stepT
  have hl : n.toNat < (plAt G x).tg.length := by have := hn.1; have := hn.2; omega
  have hm : (plAt G x).tg.getD n.toNat 0 ∈ (plAt G x).tg := by
    rw [List.getD_eq_getElem?_getD, List.getElem?_eq_getElem hl]
    exact List.getElem_mem hl
  have := h.2 _ (List.mem_of_getElem? (plAt_get hx)) _ hm
  omega
/-- each number up to the i-th is a branch -/
def OkTo (G : List Pl) (x : Nat) (r : List Int) (i : Nat) : Prop := ∀ j n, j < i → r[j]? = some n → okB G (lastF G x (r.take j)) n
theorem lastF_lt {G : List Pl} (h : WfT G) : ∀ (r : List Int) (x : Nat), x < G.length → OkTo G x r r.length → lastF G x r < G.length
  | [], x, hx, _ => hx
  | n :: r, x, hx, ho => by
    have h0 : okB G x n := ho 0 n (Nat.zero_lt_succ _) rfl
    exact lastF_lt h r (stepT G x n) (stepT_lt h hx h0).1 fun j m hj hm => ho (j + 1) m (Nat.succ_lt_succ hj) (by simpa using hm)
theorem OkTo.take {G : List Pl} {x : Nat} {r : List Int} {i : Nat} (h : OkTo G x r i) (hi : i ≤ r.length) : OkTo G x (r.take i) (r.take i).length := fun j n hj hn => by
  rw [List.length_take, Nat.min_eq_left hi] at hj
  rw [List.getElem?_take_of_lt hj] at hn
  rw [List.take_take, Nat.min_eq_left (Nat.le_of_lt hj)]
  exact h j n hj hn
theorem at_lt {G : List Pl} (h : WfT G) {x : Nat} {r : List Int} {i : Nat} (hx : x < G.length) (ho : OkTo G x r i) (hi : i ≤ r.length) : lastF G x (r.take i) < G.length := lastF_lt h _ _ hx (ho.take hi)
def intsD (l : List Int) : PyData := .list (l.map PyData.int)
def natsD (l : List Nat) : PyData := .list (l.map fun x : Nat => PyData.int (x : Int))
/-- targets_of -/
def spTargets (K : PySem.W.Frag) : Sp := fun vs h Q _ => ∃ (b : Hp) (p : Pl), Ex b h ∧ DtA K b vs [p.D] ∧ p.bd.length ≤ 6 ∧ ∀ v b' h', Gr b h b' h' → Dt K b' v (intsD p.tg) → Q v h'
/-- has_branch -/
def spHas (K : PySem.W.Frag) : Sp := fun vs h Q _ => ∃ (b : Hp) (p : Pl) (n : Int), Ex b h ∧ DtA K b vs [p.D, .int n] ∧ ∀ h', Ex h h' → Q (.bl (decide (0 ≤ n ∧ n < (p.tg.length : Int)))) h'
def spWhole : Sp := fun vs h Q _ => ∃ n : Int, vs = [.int n] ∧ Q (.bl true) h
/-- places_on: C is NoBranch -/
def spPlaces (K : PySem.W.Frag) (C : Addr) : Sp := fun vs h Q E => ∃ (b : Hp) (G : List Pl) (x : Nat) (r : List Int), Ex b h ∧ DtA K b vs [gameD G, .int (x : Int), intsD r] ∧ WfT G ∧ SmG G ∧ x < G.length ∧ r.length ≤ 1000 ∧
  (OkTo G x r r.length → ∀ v b' h', Gr b h b' h' → Dt K b' v (natsD (pathF G x r)) → Q v h') ∧
  (∀ j n, r[j]? = some n → OkTo G x r j → ¬ okB G (lastF G x (r.take j)) n → NBAt h C (j : Int) E)
section
variable {K : PySem.W.Frag} {σ : L2.St} {b h : Hp} {te ta tb tc : TE} {ts : TA} {ds : List PyData} {E : XK}
theorem ed_targets {p : Pl} (y : EDA K ts σ b [p.D]) (hl : p.bd.length ≤ 6) : ED K (tCall (spTargets K) [] E ts) σ b (intsD p.tg) := fun h e _ q =>
  y h e _ fun vs b2 h2 g2 hv => ⟨b2, p, g2.gi, by rw [List.append_nil]; exact hv, hl, fun v b3 h3 g3 hv3 => q v b3 h3 (g2.trans g3) hv3⟩
theorem ev_has {p : Pl} {n : Int} (y : EDA K ts σ b [p.D, .int n]) : Ev (tCall (spHas K) [] E ts) σ b (.bl (decide (0 ≤ n ∧ n < (p.tg.length : Int)))) := fun h e _ q =>
  y h e _ fun vs b2 h2 g2 hv => ⟨b2, p, n, g2.gi, by rw [List.append_nil]; exact hv, fun h3 e3 => q h3 (g2.gh.trans e3)⟩
theorem ev_whole {n : Int} (y : Ev te σ b (.int n)) : Ev (tCall spWhole [] E (tCons te tNil)) σ b (.bl true) := fun h e _ q => y h e _ fun h2 e2 => ⟨n, rfl, q h2 e2⟩
theorem ev_isiI {i : Int} {T : String} {r : Bool} (x : Ev te σ b (.int i)) (hk : kitB "int" T = some r) : Ev (tCB (rIsi K) (tCons te (tCons (tC (.ty T)) tNil))) σ b (.bl r) := fun h e _ q => x h e _ fun h2 e2 =>
  ⟨.int i, .ty T, .type "int", .type T, r, rfl, .ty _, .base (.int i), kit_ty hk, q h2 e2⟩
theorem ev_isiB {i : Bool} {T : String} {r : Bool} (x : Ev te σ b (.bl i)) (hk : kitB "bool" T = some r) : Ev (tCB (rIsi K) (tCons te (tCons (tC (.ty T)) tNil))) σ b (.bl r) := fun h e _ q => x h e _ fun h2 e2 =>
  ⟨.bl i, .ty T, .type "bool", .type T, r, rfl, .ty _, .base (.bl i), kit_ty hk, q h2 e2⟩
theorem ev_chain {f g : Int → Int → Bool} {i j k : Int} (x : Ev ta σ b (.int i)) (y : Ev tb σ b (.int j)) (z : Ev tc σ b (.int k)) : Ev (tChain (rI0 fun i j => .bl (f i j)) (rI0 fun i j => .bl (g i j)) ta tb tc) σ b (.bl (f i j && g j k)) := fun h e Q q =>
  x h e _ fun h2 e2 => y h2 (e.trans e2) _ fun h3 e3 => ⟨i, j, rfl, rfl, f i j, rfl, by
    cases hf : f i j with
    | false =>
      rw [if_neg Bool.false_ne_true]
      have q' := q h3 (e2.trans e3)
      rwa [hf, Bool.false_and] at q'
    | true =>
      rw [if_pos rfl]
      refine z h3 ((e.trans e2).trans e3) _ fun h4 e4 => ⟨j, k, rfl, rfl, ?_⟩
      have q' := q h4 ((e2.trans e3).trans e4)
      rwa [hf, Bool.true_and] at q'⟩
theorem at_pre (l : List V) (v : V) : L2.atI (l ++ [v]) (-1) = some v := atI_last l v
theorem nats_at {l : List Nat} {j x : Nat} {z : Int} (e : z = (j : Int)) (h : l[j]? = some x) : L2.atI (l.map fun x : Nat => PyData.int (x : Int)) z = some (.int (x : Int)) := by
  subst e
  exact atI_nat (by rw [List.getElem?_map, h] <;> rfl)
end
theorem kind_is_draw {p : Pl} (h : p.kind = "draw") : ∃ g bs, p = .draw g bs := by
  cases p with
  | draw g bs => exact ⟨g, bs, rfl⟩
  | side g o ts =>
    exfalso
    cases o with
    | true => exact absurd h (by show ¬ (("ours" : Str) = "draw"); decide +kernel)
    | false => exact absurd h (by show ¬ (("theirs" : Str) = "draw"); decide +kernel)
theorem not_draw {p : Pl} (h : ¬ p.kind = "draw") : p.bd = p.tg.map PyData.int := by
  cases p with
  | draw g bs => exact absurd rfl h
  | side g o ts => rfl
/-- it keeps its promise; it may raise -/
def HasX (P : Program) (w : World) (K : PySem.W.Frag) (mg : Str → Option Value) (base : Heap) (k : Nat) (x : Str) (ps : List Str) (sp : Sp) : Prop :=
  ∃ f fd, FnOk P w K mg base (L2.CX P w) k f fd ps sp ∧ mg x = some (.ref f) ∧ PySem.W.keepIn K (.ref f) = true ∧ Binds K fd ps []
theorem take_more1 {α : Type} {l : List α} {i : Nat} {x : α} (h : l[i]? = some x) : l.take (i + 1) = l.take i ++ [x] := by
  rw [List.take_succ, h]
  rfl
theorem DtA.nats {K : PySem.W.Frag} {b : Hp} : ∀ l : List Nat, DtA K b (l.map fun x : Nat => V.int (x : Int)) (l.map fun x : Nat => PyData.int (x : Int))
  | [] => DtA.nil
  | x :: l => DtA.cons (Dt.int _) (DtA.nats l)
/-- the second items of a list of branches -/
theorem ed_lcTg {K : PySem.W.Frag} {σ : L2.St} {b : Hp} {tl : TE} {g : Int × Int} {bs : List ((Int × Int) × Int)} {vs : List Nat} {i j : Nat} (x : ED K tl σ b (.list (Pl.draw g bs).bd)) (hl : (Pl.draw g bs).bd.length ≤ 6)
    (hw : ∀ x y, wipe (((wipe σ vs).set i (some x)).set j (some y)) vs = wipe σ vs) (hj : ∀ x y, (((wipe σ vs).set i (some x)).set j (some y))[j]? = some (some y) := by intros; rfl) :
    ED K (tLc (iList K tl) (gTup K 2 (gCons (gName i) (gCons (gName j) gNil))) tYes (tVar j) vs) σ b (intsD (Pl.draw g bs).tg) := by
  have hbl : (bs.map brD).length ≤ 6 := hl
  have e : givenD (bs.map brD).length (fun _ => true) (fun i => PyData.int ((bs.getD i ((0, 1), 0)).2)) = (bs.map (·.2)).map PyData.int := by
    rw [givenD_all, List.length_map]
    refine List.ext_getElem? fun i => ?_
    rw [List.getElem?_map, List.getElem?_map, List.getElem?_map]
    by_cases h : i < bs.length
    · rw [List.getElem?_range h, List.getElem?_eq_getElem h]
      show some (PyData.int ((bs.getD i ((0, 1), 0)).2)) = some (PyData.int (bs[i].2))
      rw [List.getD_eq_getElem?_getD, List.getElem?_eq_getElem h]
      rfl
    · rw [List.getElem?_eq_none (by rw [List.length_range]; omega), List.getElem?_eq_none (by omega)]
      rfl
  unfold intsD
  rw [show (Pl.draw g bs).tg = bs.map (·.2) from rfl, ← e]
  refine EN.ed (en_lcG x (Nat.le_trans hbl (by decide)) (fun _ => true) _ fun n d y b2 h2 e2 e3 hd hx Q q => ?_)
  have hd' : (bs.map brD)[n]? = some d := hd
  rw [List.getElem?_map] at hd'
  cases z : bs[n]? with
  | none =>
    rw [z] at hd'
    cases hd'
  | some bb =>
    rw [z] at hd'
    cases hd'
    refine g_two (d1 := nD bb.1) (d2 := .int bb.2) hx e3 fun w1 w2 q1 q2 => ?_
    refine q _ (hw w1 w2) et_yes fun _ => ?_
    have e5 : PyData.int ((bs.getD n ((0, 1), 0)).2) = .int bb.2 := by
      rw [List.getD_eq_getElem?_getD, z] <;> rfl
    rw [e5]
    exact ed_var (hj w1 w2) q2
/-- the places of a way -/
def spPath (K : PySem.W.Frag) : Sp := fun vs h Q _ => ∃ (b : Hp) (G : List Pl) (x : Nat) (r : List Int), Ex b h ∧ DtA K b vs [gameD G, .int (x : Int), intsD r] ∧ WfT G ∧ SmG G ∧ x < G.length ∧ r.length ≤ 1000 ∧ OkTo G x r r.length ∧
  ∀ v b' h', Gr b h b' h' → Dt K b' v (natsD (pathF G x r)) → Q v h'
/-- zip of two lists of data, walked by a comprehension -/
theorem en_lcZ {K : PySem.W.Frag} {σ : L2.St} {b : Hp} {ta tb te : TE} {t : TT} {vs : List Nat} {i j n : Nat} {ds es : List PyData} (x : ED K ta σ b (.list ds)) (y : ED K tb σ b (.list es)) (hn : n = min ds.length es.length) (hz : n ≤ 40000) (f : Nat → Bool) (r : Nat → PyData)
    (hw : ∀ x y, wipe (((wipe σ vs).set i (some x)).set j (some y)) vs = wipe σ vs)
    (hs : ∀ k d1 d2 v1 v2 b2, Ex b b2 → ds[k]? = some d1 → es[k]? = some d2 → Dt K b2 v1 d1 → Dt K b2 v2 d2 →
      EvT t (((wipe σ vs).set i (some v1)).set j (some v2)) b2 (f k) ∧ (f k = true → ED K te (((wipe σ vs).set i (some v1)).set j (some v2)) b2 (r k))) :
    EN K (tLc (iZip K (tCons ta (tCons tb tNil))) (gTup K 2 (gCons (gName i) (gCons (gName j) gNil))) t te vs) σ b (givenD n f r) := fun h e _ q =>
  x h e _ fun v1 b1 h1 g1 hv1 => y.up g1.gb h1 g1.gi _ fun v2 b2 h2 g2 hv2 => by
    obtain ⟨a1, xs, rfl, k1, k2⟩ := hv1.listI
    obtain ⟨a2, ys, rfl, l1, l2⟩ := hv2.listI
    have G2 := g1.trans g2
    have s1 : ∀ h, Ex h2 h → SqL K h a1 xs := fun h e => sq_of (e _ _ (g2.gi _ _ (g2.gb _ _ k1)))
    have s2 : ∀ h, Ex h2 h → SqL K h a2 ys := fun h e => sq_of (e _ _ (g2.gi _ _ l1))
    refine ⟨a1, a2, xs, ys, rfl, s1 h2 (Ex.refl _), s2 h2 (Ex.refl _), fun Dl hD => ?_⟩
    refine lc_data (walk_zip (xs := xs) (ys := ys) (n := n) (by rw [k2.length, l2.length]; exact hn)) f r g2.gi hD hz (fun h' e' => ⟨s1 h' e', s2 h' e'⟩) (fun k z b3 h3 h4 hk e3 g3 hy => ?_) (fun b3 h3 us g3 nb hu hA => q Dl us b3 h3 (gone G2 hD) nb (G2.trans g3) hu hA)
    obtain ⟨T, w1, w2, rfl, nT, rfl, hw1, hw2⟩ := hy
    obtain ⟨d1, hd1, q1⟩ := k2.getV hw1
    obtain ⟨d2, hd2, q2⟩ := l2.getV hw2
    have g4 := Gr.new (o := .tup [w1, w2]) g3.gi nT
    have q1' := ((q1.up g2.gb).up g3.gb).up g4.gb
    have q2' := (q2.up g3.gb).up g4.gb
    refine ⟨_, g4, fun Q kk => ?_⟩
    refine g_two (Dt.tuple (st_of upd_same) (DtA.cons q1' (DtA.one q2'))) g4.gi fun u1 u2 p1 p2 => ?_
    have z := hs k d1 d2 u1 u2 _ (((g1.gb.trans g2.gb).trans g3.gb).trans g4.gb) hd1 hd2 p1 p2
    exact kk _ (hw u1 u2) z.1 z.2
theorem DtA.boolsI {K : PySem.W.Frag} {b : Hp} : ∀ {bs : List Bool} {vs : List V}, DtA K b vs (bs.map PyData.bool) → vs = bs.map V.bl
  | [], _, h => by cases h; rfl
  | n :: ns, _, h => by
    cases h with
    | cons h1 h2 => rw [h1.boolI, h2.boolsI]; rfl
theorem ev_all {K : PySem.W.Frag} {σ : L2.St} {b : Hp} {te : TE} {bs : List Bool} (x : ED K te σ b (.list (bs.map PyData.bool))) : Ev (tCB (rAll K) (tCons te tNil)) σ b (.bl (bs.all id)) := fun h e _ q => x h e _ fun v b2 h2 g2 hv => by
  obtain ⟨a, xs, rfl, k1, k2⟩ := hv.listI
  rw [k2.boolsI] at k1
  exact ⟨a, bs, rfl, sq_of (g2.gi _ _ k1), q h2 g2.gh⟩
theorem all_filter (f e : Nat → Bool) : ∀ l : List Nat, ((l.filter f).map e).all id = l.all (fun j => !(f j && !e j))
  | [] => rfl
  | x :: l => by
    have ih := all_filter f e l
    rw [List.filter_cons, List.all_cons]
    cases hf : f x with
    | true =>
      rw [if_pos rfl, List.map_cons, List.all_cons, ih]
      cases e x <;> rfl
    | false =>
      rw [if_neg Bool.false_ne_true, ih]
      rfl
theorem kind_side {p : Pl} (h : p.kind ≠ "draw") (h2 : ¬ p.kind = "theirs") : p.kind = "ours" := by
  cases p with
  | draw g bs => exact absurd rfl h
  | side g o ts =>
    cases o with
    | true => rfl
    | false => exact absurd rfl h2
/-- a way that takes some told branches -/
def spToldWay (K : PySem.W.Frag) : Sp := fun vs h Q _ => ∃ (b : Hp) (G : List Pl) (x : Nat) (So St : List (Option Nat)) (ds : List Int), Ex b h ∧ DtA K b vs [gameD G, .int (x : Int), stD So, stD St, .list (ds.map PyData.int)] ∧ WfG G ∧ x < G.length ∧
  WfS "ours" G So ∧ WfS "theirs" G St ∧ (∀ d ∈ ds, 0 ≤ d ∧ d < 1000) ∧ ds.length ≤ 1000 ∧ ∀ v b' h' r, Gr b h b' h' → r.length = ds.length → OkTo G x r r.length → Dt K b' v (intsD r) → Q v h'
/-- does the way follow: at the k-th step -/
def fK (G : List Pl) (y : Str) (x : Nat) (r : List Int) (k : Nat) : Bool := decide (V.str (plAt G (lastF G x (r.take k))).kind = V.str y)
def eK (G : List Pl) (S : List (Option Nat)) (x : Nat) (r : List Int) (k : Nat) : Bool := decide (V.int (r.getD k 0) = svV (S.getD (lastF G x (r.take k)) none))
def folF (G : List Pl) (y : Str) (S : List (Option Nat)) (x : Nat) (r : List Int) : Bool := (List.range r.length).all fun k => !(fK G y x r k && !eK G S x r k)
def spFollows (K : PySem.W.Frag) (C : Addr) : Sp := fun vs h Q E => ∃ (b : Hp) (G : List Pl) (x : Nat) (r : List Int) (y : Str) (S : List (Option Nat)), Ex b h ∧ DtA K b vs [gameD G, .int (x : Int), intsD r, .str y, stD S] ∧ WfT G ∧ SmG G ∧ x < G.length ∧ r.length ≤ 1000 ∧ WfS y G S ∧
  (OkTo G x r r.length → ∀ h', Ex h h' → Q (.bl (folF G y S x r)) h') ∧ (∀ j n, r[j]? = some n → OkTo G x r j → ¬ okB G (lastF G x (r.take j)) n → NBAt h C (j : Int) E)
def spRefused (K : PySem.W.Frag) : Sp := fun vs h Q _ => ∃ (b : Hp) (G : List Pl) (x : Nat) (r : List Int) (S : List (Option Nat)), Ex b h ∧ DtA K b vs [gameD G, .int (x : Int), intsD r, stD S] ∧ WfT G ∧ SmG G ∧ x < G.length ∧ r.length ≤ 1000 ∧ WfS "ours" G S ∧
  (OkTo G x r r.length → ∀ h', Ex h h' → Q .non h') ∧ (∀ j n, r[j]? = some n → OkTo G x r j → ¬ okB G (lastF G x (r.take j)) n → ∀ h', Ex h h' → Q (.int (j : Int)) h')
theorem ev_refused {K : PySem.W.Frag} {σ : L2.St} {b : Hp} {ts : TA} {E : XK} {G : List Pl} {x : Nat} {r : List Int} {S : List (Option Nat)} {j : Nat} {n : Int} (y : EDA K ts σ b [gameD G, .int (x : Int), intsD r, stD S]) (hW : WfT G) (hsm : SmG G) (hx : x < G.length) (hr : r.length ≤ 1000) (hS : WfS "ours" G S)
    (hj : r[j]? = some n) (ho : OkTo G x r j) (hb : ¬ okB G (lastF G x (r.take j)) n) : Ev (tCall (spRefused K) [] E ts) σ b (.int (j : Int)) := fun h e _ q =>
  y h e _ fun vs b2 h2 g2 hv => ⟨b2, G, x, r, S, g2.gi, by rw [List.append_nil]; exact hv, hW, hsm, hx, hr, hS, (fun hok => absurd (hok j n ((List.getElem?_eq_some_iff.mp hj).1) hj) hb), fun j' n' hj' ho' hb' h3 e3 => by
    have : j' = j := by
      rcases Nat.lt_trichotomy j' j with z | z | z
      · exact absurd (ho j' n' z hj') hb'
      · exact z
      · exact absurd (ho' j n z hj) hb
    rw [this]
    exact q h3 (g2.gh.trans e3)⟩
/-- positional arguments, then keywords, of fixed numbers -/
def gK (n m : Nat) {α : Type} (us ws : List α) : List α := if us.length = n ∧ ws.length = m then us ++ ws else []
theorem kb_of {K : PySem.W.Frag} {x : Str} {st : Stmt} {f : Addr} {fd : FuncData} {ps ks : List Str} {n m : Nat} (F : Fun K x x st f fd) (hp : 0 < ps.length)
    (h : ∀ (kV doc pm : Value) (an : Option Addr) (cdv ct : Value) (us ws : List Value), us.length = n → ws.length = m → bindArgs (PySem.W.fnOf x x (defArgs st) (defBody st) (defScope st) .none kV doc pm an cdv ct) ⟨us, ks.zip ws⟩ = pure (ps.zip (us ++ ws))) :
    KBinds K fd ps ks (gK n m) (gK n m) := by
  obtain ⟨oc, od, kV, doc, pm, an, cdv, ct, osl, rfl, lk, hcd⟩ := F.ex
  refine ⟨fun s us ws kin hl => ?_, fun {vs us zs ws} r1 r2 => ?_⟩
  · by_cases z : us.length = n ∧ ws.length = m
    · have e : gK n m us ws = us ++ ws := if_pos z
      rw [e]
      exact .of_eq (h kV doc pm an cdv ct us ws z.1 z.2)
    · have e : gK n m us ws = [] := if_neg z
      rw [e] at hl
      have hl' : 0 = ps.length := hl
      omega
  · unfold gK
    rw [r1.length, r2.length]
    split
    · exact r1.append r2
    · exact .nil
section
variable {K : PySem.W.Frag} {σ : L2.St} {b b' h : Hp} {te t1 t2 : TE} {ts tk : TA} {E : XK} {P P1 P2 : PyData → Prop}
theorem EX.up (x : EX K te σ b P) (e : Ex b b') : EX K te σ b' P := fun h e1 _ q => x h (e.trans e1) _ fun v b2 h2 d g hp hv => by
  obtain ⟨b3, g3, e3, _⟩ := g.back e e1
  exact q v b3 h2 d g3 hp (hv.up e3)
theorem ex_lst2 (x1 : EX K t1 σ b P1) (x2 : EX K t2 σ b P2) : EX K (tLst (tCons t1 (tCons t2 tNil))) σ b (fun d => ∃ d1 d2, d = .list [d1, d2] ∧ P1 d1 ∧ P2 d2) := fun h e _ q =>
  x1 h e _ fun v1 b1 h1 d1 g1 p1 k1 => x2.up g1.gb h1 g1.gi _ fun v2 b2 h2 d2 g2 p2 k2 => ⟨by show 2 ≤ sizeLine; decide, fun p hp =>
    have G := (g1.trans g2).trans (Gr.new (o := .lst [v1, v2]) g2.gi hp)
    have e3 : Ex b2 (upd b2 p (.lst [v1, v2])) := Ex.new (none_of g2.gi hp)
    q (.ref p) _ _ (.list [d1, d2]) G ⟨d1, d2, rfl, p1, p2⟩ (Dt.list upd_same (DtA.cons ((k1.up g2.gb).up e3) (DtA.one (k2.up e3))))⟩
theorem ex_strategy {G : List Pl} {x : Str} {es : List Int} (y : EDA K ts σ b [gameD G, .str x, .list (es.map PyData.int)]) (h1 : WfG G) (h2 : G.length ≤ es.length) (h3 : ∀ d ∈ es, 0 ≤ d ∧ d < 1000) :
    EX K (tCall (spStrategy K) [] E ts) σ b (fun d => ∃ S, WfS x G S ∧ d = stD S) := fun h e _ q =>
  y h e _ fun vs b2 h2' g2 hv => ⟨b2, G, x, es, g2.gi, by rw [List.append_nil]; exact hv, h1, h2, h3, fun v b3 h3 S g3 hS hv3 => q v b3 h3 (stD S) (g2.trans g3) ⟨S, hS, rfl⟩ hv3⟩
theorem ed_path {G : List Pl} {x : Nat} {r : List Int} (y : EDA K ts σ b [gameD G, .int (x : Int), intsD r]) (h1 : WfT G) (h2 : SmG G) (h3 : x < G.length) (h4 : r.length ≤ 1000) (h5 : OkTo G x r r.length) : ED K (tCall (spPath K) [] E ts) σ b (natsD (pathF G x r)) := fun h e _ q =>
  y h e _ fun vs b2 h2' g2 hv => ⟨b2, G, x, r, g2.gi, by rw [List.append_nil]; exact hv, h1, h2, h3, h4, h5, fun v b3 h3 g3 hv3 => q v b3 h3 (g2.trans g3) hv3⟩
theorem gK_app {b : Hp} {n m : Nat} {vs zs : List V} {ds : List PyData} (h1 : vs.length = n) (h2 : zs.length = m) (h : DtA K b (vs ++ zs) ds) : DtA K b (gK n m vs zs) ds := by
  unfold gK
  rw [if_pos ⟨h1, h2⟩]
  exact h
/-- follows, called by keywords on a way whose numbers are all branches -/
theorem ev_follows {C : Addr} {G : List Pl} {x : Nat} {r : List Int} {y : Str} {S : List (Option Nat)} (a : EDA K ts σ b [gameD G, .int (x : Int), intsD r]) (c : EDA K tk σ b [.str y, stD S]) (h1 : WfT G) (h2 : SmG G) (h3 : x < G.length) (h4 : r.length ≤ 1000) (h5 : WfS y G S) (h6 : OkTo G x r r.length) :
    Ev (L2.tCallK (spFollows K C) (gK 3 2) E0 ts tk) σ b (.bl (folF G y S x r)) := fun h e _ q =>
  a h e _ fun vs b2 h2' g2 hv => c.up g2.gb h2' g2.gi _ fun zs b3 h3' g3 hz => ⟨b3, G, x, r, y, S, g3.gi, gK_app hv.length hz.length ((hv.up g3.gb).append hz), h1, h2, h3, h4, h5, fun _ h4' e4 => q h4' ((g2.gh.trans g3.gh).trans e4), fun j n hj _ hb => absurd (h6 j n (List.getElem?_eq_some_iff.mp hj).1 hj) hb⟩
end
theorem cut_take {ds : List Int} {a : Nat} (h : a ≤ ds.length) : cutD (ds.map PyData.int) none (some (a : Int)) = (ds.take a).map PyData.int := by
  unfold cutD
  rw [List.length_map, HT.sIx_none, sIx_of _ h, List.drop_zero, Nat.sub_zero, List.map_take]
theorem cut_drop {ds : List Int} {a : Nat} (h : a ≤ ds.length) : cutD (ds.map PyData.int) (some (a : Int)) none = (ds.drop a).map PyData.int := by
  unfold cutD
  rw [List.length_map, HT.sIx_none, sIx_of _ h, ← List.map_drop, ← List.map_take, List.take_of_length_le (by rw [List.length_drop]; exact Nat.le_refl _)]
theorem okTo_pre {G : List Pl} {x : Nat} {r r' : List Int} {a : Nat} (h : OkTo G x r r.length) (ha : a ≤ r.length) (hr : r'.take a = r.take a) : OkTo G x r' a := fun j n hj hn => by
  have e1 : r'[j]? = r[j]? := by
    have := congrArg (fun l : List Int => l[j]?) hr
    rwa [List.getElem?_take_of_lt hj, List.getElem?_take_of_lt hj] at this
  have e2 : r'.take j = r.take j := by
    have := congrArg (List.take j) hr
    rwa [List.take_take, List.take_take, Nat.min_eq_left (Nat.le_of_lt hj)] at this
  rw [e2]
  exact h j n (by omega) (by rw [← e1]; exact hn)
theorem ok_ints {G : List Pl} {x : Nat} {r : List Int} (hsm : SmG G) (hW : WfT G) (hx : x < G.length) (h : OkTo G x r r.length) : ∀ n ∈ r, 0 ≤ n ∧ n < 7 := fun n hn => by
  obtain ⟨j, hj, e⟩ := List.mem_iff_getElem.mp hn
  have e' : r[j]? = some n := by rw [List.getElem?_eq_getElem hj, e]
  have hk := h j n hj e'
  have hcl := at_lt hW hx (fun i m hi hm => h i m (by omega) hm) (Nat.le_of_lt hj)
  have := hsm.2 _ (List.mem_of_getElem? (plAt_get hcl))
  have t := tg_len (plAt G (lastF G x (r.take j)))
  have := hk.1
  have := hk.2
  omega
theorem nice_ints {r : List Int} (h : ∀ n ∈ r, 0 ≤ n ∧ n < 7) (hl : r.length ≤ 1000) : Nice 1 22000 (intsD r) := by
  refine (nice_list (k := 0) (L := 19) (n := 1000) (fun d hd => ?_) (by rw [List.length_map]; exact hl)).mono (by decide) (by decide)
  obtain ⟨q, hq, rfl⟩ := List.mem_map.mp hd
  have := h q hq
  exact nice_int (Nat.lt_trans (show q.natAbs < 1000 by omega) (by decide))
def IsDef0 (K : PySem.W.Frag) (mg : Str → Option Value) (x : Str) (st : Stmt) : Prop := ∃ f fd, Fun K x x st f fd ∧ mg x = some (.ref f)
/-- with keywords alone behind n arguments; it may raise -/
def HasXK (P : Program) (w : World) (K : PySem.W.Frag) (mg : Str → Option Value) (base : Heap) (k : Nat) (x : Str) (ps ks : List Str) (n m : Nat) (sp : Sp) : Prop :=
  ∃ f fd, FnOk P w K mg base (L2.CX P w) k f fd ps sp ∧ mg x = some (.ref f) ∧ PySem.W.keepIn K (.ref f) = true ∧ KBinds K fd ps ks (gK n m) (gK n m)
end Md


set_option Elab.async false
set_option linter.all false
set_option maxRecDepth 100000
set_option maxHeartbeats 2000000
namespace Md
open PySem L2 Evl
def top (i : Nat) : Stmt := PySem.Challenge.pw_meanhold_k06_ways_that_follow.main.body.getD i (.Pass ⟨0, 0, 0, 0⟩)
section
variable {P : Program} {w : World} {K : PySem.W.Frag} {mg : Str → Option Value} {base : Heap}
abbrev s_gcd : Stmt := top 13
theorem sc_gcd : FnScope ["a", "b", "step", "rest"] ["a", "b"] (defScope s_gcd) := ⟨rfl, rfl, rfl, by decide +kernel, rfl, by decide +kernel, by decide +kernel⟩
theorem has_gcd (T : Bt mg) (D : IsDef K mg "_law_gcd" s_gcd ["a", "b"]) : Has P w K mg base 1 "_law_gcd" ["a", "b"] (spGcd K) := by
  obtain ⟨f, fd, F, hm, hb⟩ := D
  have sc := sc_gcd
  refine ⟨f, fd, F.ok sc SpF.len (fun cdv A outer s h0 vs Q E hr hs => ?_), hm, F.kp, hb⟩
  obtain ⟨b, ds, eb, hA, hn, ⟨x, y, rfl, hy⟩, k⟩ := hs
  obtain rfl := hA.i2
  refine ⟨_, (pss_cons (ps_set (i := 0) sc.nd rfl (by first | exact Or.inl rfl | exact Or.inr rfl) (pe_callB cr_abs (by rfl) T.abs (by decide +kernel) (pa_cons (pv 0) pa_nil))) (pss_cons (ps_set (i := 1) sc.nd rfl (by first | exact Or.inl rfl | exact Or.inr rfl) (pe_callB cr_abs (by rfl) T.abs (by decide +kernel) (pa_cons (pv 1) pa_nil))) (pss_cons (ps_for PassesOwn.never rfl (pi_range1 (by rfl) T.range (pa_cons pe_int pa_nil)) (pg_name (i := 2) sc.nd rfl (by first | exact Or.inl rfl | exact Or.inr rfl)) (pss_cons (ps_if (pt_cmpR op_eq (pv 1) pe_int (nomark _)) (pss_one ps_break) pss_nil) (pss_cons (ps_set (i := 3) sc.nd rfl (by first | exact Or.inl rfl | exact Or.inr rfl) (pe_op op_mod (pe_callTy cr_int1 (by rfl) T.int (by decide +kernel) (pa_cons (pv 0) pa_nil)) (pv 1))) (pss_cons (ps_set (i := 0) sc.nd rfl (by first | exact Or.inl rfl | exact Or.inr rfl) (pv 1)) (pss_one (ps_set (i := 1) sc.nd rfl (by first | exact Or.inl rfl | exact Or.inr rfl) (pv 3))))))) (pss_one (ps_ret (pv 0)))))), ?_⟩
  refine r_sc (ev_abs (ev_var rfl)) eb fun h1 g1 => ?_
  refine r_sc (ev_abs (ev_var rfl)) g1.gi fun h2 g2 => ?_
  have G2 := g1.trans g2
  have fin : ∀ (σ' : L2.St) (h' : Hp) (z : Nat), σ'[0]? = some (some (.int (z : Int))) → z = Nat.gcd x.natAbs y.natAbs → Gr b h0 b h' → tRet (tVar 0) { nx := fun _ H' => Q .non H', rt := Q, bk := fun _ _ => False, ct := fun _ _ => False } σ' h' := fun σ' h' z e1 e2 G => by
    subst e2
    exact ⟨_, e1, k _ b h' _ G (fun a c e => by cases e; rfl) (Dt.int _)⟩
  refine s_forR1 (n := 4000) ((ea_cons ev_c ea_nil)) (by omega) (fun i σ' h' => ∃ (p q : Nat) (u v : Option V), σ' = [some (.int (p : Int)), some (.int (q : Int)), u, v] ∧ Euc (Nat.gcd x.natAbs y.natAbs) i p q ∧ Gr b h0 b h')
    (fun h3 e3 => ⟨x.natAbs, y.natAbs, none, none, rfl, ⟨rfl, by rw [if_pos rfl]; exact hy⟩, G2.trans (Gr.stay G2.gi e3)⟩) ?_ ?_
  · rintro i σ' h' hi ⟨p, q, u, v, rfl, hE, G⟩
    refine r_if (b := b) (c := decide (V.int (q : Int) = V.int 0)) (et_test (ev_op (ev_var rfl) ev_c (rv_eq rfl))) G.gi (fun hc h3 g3 => ?_) (fun hc h3 g3 => ?_)
    · have e0 : (q : Int) = 0 := by
        have := of_decide_eq_true hc
        injection this
      obtain rfl : q = 0 := by omega
      exact fin _ _ p rfl (euc_zero hE) (G.trans g3)
    · have e0 : ¬ (q : Int) = 0 := fun z => by
        have := of_decide_eq_false hc
        exact this (by rw [z])
      refine r_sc (v := .int ((p % q : Nat) : Int)) (ev_op (ev_int1 (ev_var rfl)) (ev_var rfl) ?_) (G.trans g3).gi fun h4 g4 => ?_
      · have e1 : V.int ((p % q : Nat) : Int) = V.int ((p : Int) % (q : Int)) := by rw [Int.natCast_emod]
        rw [e1]
        exact rv_I (by omega)
      refine r_sc (ev_var rfl) g4.gi fun h5 g5 => ?_
      exact ⟨_, rfl, q, p % q, _, _, rfl, euc_turn hE (by omega), ((G.trans g3).trans g4).trans g5⟩
  · rintro σ' h' ⟨p, q, u, v, rfl, hE, G⟩
    have e0 := euc_end hE
    subst e0
    exact fin _ _ p rfl (euc_zero hE) G

abbrev s_number : Stmt := top 14
theorem sc_number : FnScope ["n", "d", "common"] ["n", "d"] (defScope s_number) := ⟨rfl, rfl, rfl, by decide +kernel, rfl, by decide +kernel, by decide +kernel⟩
theorem has_number (D : IsDef K mg "_law_number" s_number ["n", "d"]) (U : Has P w K mg base 1 "_law_gcd" ["a", "b"] (spGcd K)) : Has P w K mg base 2 "_law_number" ["n", "d"] (spNumber K) := by
  obtain ⟨f, fd, F, hm, hb⟩ := D
  obtain ⟨f_gcd, fd_gcd, G_gcd, m_gcd, k_gcd, b_gcd⟩ := U
  have sc := sc_number
  refine ⟨f, fd, F.ok sc SpF.len (fun cdv A outer s h0 vs Q E hr hs => ?_), hm, F.kp, hb⟩
  obtain ⟨b, ds, eb, hA, hn, ⟨x, y, rfl, hy, hx1, hy1⟩, k⟩ := hs
  obtain rfl := hA.i2
  refine ⟨_, (Evl.pss_cut (ps_if (pt_cmpR op_lt (pv 1) pe_int (nomark _)) (pss_cons (ps_set (i := 0) sc.nd rfl (by first | exact Or.inl rfl | exact Or.inr rfl) (pe_un un_neg (pv 0))) (pss_one (ps_set (i := 1) sc.nd rfl (by first | exact Or.inl rfl | exact Or.inr rfl) (pe_un un_neg (pv 1))))) pss_nil) (pss_cons (ps_set (i := 2) sc.nd rfl (by first | exact Or.inl rfl | exact Or.inr rfl) (pe_call G_gcd (hr.mono (by decide)) rfl m_gcd k_gcd b_gcd .nil pass0 (pa_cons (pv 0) (pa_cons (pv 1) pa_nil)))) (pss_one (ps_ret (pe_tup (pa_cons (pe_op op_fdivW (pv 0) (pv 2)) (pa_cons (pe_op op_fdivW (pv 1) (pv 2)) pa_nil))))))), ?_⟩
  refine ⟨fun σ' h' => σ' = [some (.int (if y < 0 then -x else x)), some (.int (if y < 0 then -y else y)), none] ∧ Gr b h0 b h', ?_, ?_⟩
  · refine r_if1 (b := b) (c := decide (y < 0)) (et_test (ev_op (ev_var rfl) ev_c rv_I0)) eb (fun hc h3 g3 => ?_) (fun hc h3 g3 => ?_)
    · have e0 : y < 0 := of_decide_eq_true hc
      refine r_sc (ev_un (ev_var rfl) ru_neg) g3.gi fun h4 g4 => ?_
      refine ⟨_, rfl, _, rfl, ?_, g3.trans g4⟩
      rw [if_pos e0, if_pos e0]
      rfl
    · have e0 : ¬ y < 0 := of_decide_eq_false hc
      refine ⟨?_, g3⟩
      rw [if_neg e0, if_neg e0]
      rfl
  · rintro σ' h' ⟨rfl, G⟩
    have hyy : (if y < 0 then -y else y).natAbs = y.natAbs := by split <;> omega
    have hxx : (if y < 0 then -x else x).natAbs = x.natAbs := by split <;> omega
    refine r_sc (b := b) (v := .int ((Nat.gcd x.natAbs y.natAbs : Nat) : Int)) (ev_int (ed_call (eda_cons (ed_int (ev_var rfl)) (eda_cons (ed_int (ev_var rfl)) eda_nil)) rfl ⟨_, _, rfl, by rw [hyy]; exact hy1⟩ fun e he => ?_)) G.gi fun h4 g4 => ?_
    · rw [he _ _ rfl, hxx, hyy]
    have hg : 0 < Nat.gcd x.natAbs y.natAbs := Nat.gcd_pos_of_pos_right _ (by omega)
    have hg2 : Nat.gcd x.natAbs y.natAbs < 2 ^ 1900 := Nat.lt_of_le_of_lt (Nat.gcd_le_right _ (by omega)) hy1
    have hw : CDivW 0 ((Nat.gcd x.natAbs y.natAbs : Nat) : Int) := wide_div (b := 1900) (by omega) (by simpa using hg2) (by decide) (by decide)
    refine r_ret (K := K) (d := nD (num x y)) (ed_tup (eda_cons (ed_int (ev_op (ev_var rfl) (ev_var rfl) (rv_I hw))) (eda_cons (ed_int (ev_op (ev_var rfl) (ev_var rfl) (rv_I hw))) eda_nil)) (by show 2 ≤ 100000; decide)) g4.gi fun v b' h5 g5 hv => ?_
    exact k v b' h5 _ ((G.trans g4).trans g5) (fun n d e => by cases e; rfl) hv

abbrev s_draws : Stmt := top 12
theorem sc_draws : FnScope ["script", "count", "rests", "draws", "k", "value", "cell", "at", "mixed"] ["script", "count"] (defScope s_draws) := ⟨rfl, rfl, rfl, by decide +kernel, rfl, by decide +kernel, by decide +kernel⟩
theorem has_draws (T : Bt mg) (D : IsDef K mg "_law_draws" s_draws ["script", "count"]) : Has P w K mg base 1 "_law_draws" ["script", "count"] (spDraws K) := by
  obtain ⟨f, fd, F, hm, hb⟩ := D
  have sc := sc_draws
  refine ⟨f, fd, F.ok sc (fun vs H Q E x => ?_) (fun cdv A outer s h0 vs Q E hr hs => ?_), hm, F.kp, hb⟩
  · obtain ⟨_, _, _, _, rfl, _⟩ := x
    rfl
  obtain ⟨b, a, ns, n, rfl, eb, hS, hl, hn, k⟩ := hs
  refine ⟨_, (pss_cons (ps_setLc (i := 2) (own := [("cell", 6)]) (tt := tYes) rfl sc.nd rfl rfl (sw_true rfl rfl rfl (by decide +kernel)) (pi_listK (K := K) rfl (pv 0)) (blkOk_by (N := ["script", "count", "rests", "draws", "k", "value", "cell", "at", "mixed"]) (sc := defScope s_draws) (by decide +kernel)) (fun _ _ _ _ _ => (pg_name (i := 6) sc.nd rfl (by first | exact Or.inl rfl | exact Or.inr rfl))) (fun _ _ _ _ _ => pts_nil) (fun _ _ _ _ _ => (pv 6))) (pss_cons (ps_set (i := 3) sc.nd rfl (by first | exact Or.inl rfl | exact Or.inr rfl) (pe_lst pa_nil)) (pss_cons (ps_for PassesOwn.never rfl (pi_range1 (by rfl) T.range (pa_cons (pv 1) pa_nil)) (pg_name (i := 4) sc.nd rfl (by first | exact Or.inl rfl | exact Or.inr rfl)) (pss_cons (ps_set (i := 5) sc.nd rfl (by first | exact Or.inl rfl | exact Or.inr rfl) pe_int) (Evl.pss_cut (ps_if (pt_cmpR op_gt (pe_callB (len_K (K := K) rfl) (by rfl) T.len PySem.boot_len (pa_cons (pv 2) pa_nil)) pe_int (nomark _)) (pss_cons (ps_set (i := 7) sc.nd rfl (by first | exact Or.inl rfl | exact Or.inr rfl) (pe_op op_mod (pe_callTy cr_int1 (by rfl) T.int (by decide +kernel) (pa_cons (pv 4) pa_nil)) (pe_callB (len_K (K := K) rfl) (by rfl) T.len PySem.boot_len (pa_cons (pv 2) pa_nil)))) (pss_one (ps_if (pt_cmpR op_ge (pe_ix (ix_listK (K := K) rfl) (pv 2) (pv 7) (fun _ _ => rfl)) (pe_op op_pow pe_int pe_int) (nomark _)) (pss_cons (ps_set (i := 5) sc.nd rfl (by first | exact Or.inl rfl | exact Or.inr rfl) (pe_op op_mod (pe_callTy cr_int1 (by rfl) T.int (by decide +kernel) (pa_cons (pe_ix (ix_listK (K := K) rfl) (pv 2) (pv 7) (fun _ _ => rfl)) pa_nil)) pe_int)) (pss_one (ps_asg (pe_op op_fdivW (pe_ix (ix_listK (K := K) rfl) (pv 2) (pv 7) (fun _ _ => rfl)) pe_int) (pg_sub (pv 2) (pv 7) set_list)))) (pss_cons (ps_set (i := 8) sc.nd rfl (by first | exact Or.inl rfl | exact Or.inr rfl) (pe_op op_mod (pe_callTy cr_int1 (by rfl) T.int (by decide +kernel) (pa_cons (pe_op op_add (pe_op op_add (pe_op op_mul (pe_ix (ix_listK (K := K) rfl) (pv 2) (pv 7) (fun _ _ => rfl)) pe_int) (pe_op op_mul (pv 4) pe_int)) pe_int) pa_nil)) pe_int)) (pss_cons (ps_set (i := 8) sc.nd rfl (by first | exact Or.inl rfl | exact Or.inr rfl) (pe_op op_mod (pe_callTy cr_int1 (by rfl) T.int (by decide +kernel) (pa_cons (pe_op op_add (pe_op op_mul (pv 8) pe_int) (pv 7)) pa_nil)) pe_int)) (pss_one (ps_set (i := 5) sc.nd rfl (by first | exact Or.inl rfl | exact Or.inr rfl) (pe_op op_mod (pe_callTy cr_int1 (by rfl) T.int (by decide +kernel) (pa_cons (pe_op op_fdivW (pv 8) pe_int) pa_nil)) pe_int)))))))) pss_nil) (pss_one (ps_expr (pe_appK (K := K) rfl (pv 3) (pa_cons (pv 5) pa_nil))))))) (pss_one (ps_ret (pv 3)))))), ?_⟩
  have hlc : EvL (tLc (iList K (tVar 0)) (gName 6) tYes (tVar 6) [6]) (start ["script", "count", "rests", "draws", "k", "value", "cell", "at", "mixed"] [V.ref a, V.int (n : Int)]) b (given (ns.map V.int).length (fun _ => true) (fun i => V.int (ns.getD i 0))) := by
    refine el_lcL (fun _ => true) (fun i => V.int (ns.getD i 0)) (ev_var rfl) hS (by rw [List.length_map]; omega) (fun x => rfl) (fun i x H1 e hx => et_yes) (fun i x H1 e hx _ => ?_)
    refine ev_is (ev_var rfl) ?_
    rw [List.getElem?_map] at hx
    cases z : ns[i]? with
    | none =>
      rw [z] at hx
      cases hx
    | some y =>
      rw [z] at hx
      cases hx
      rw [List.getD_eq_getElem?_getD, z]
      rfl
  refine q_asgL (hlc.mono eb) fun p h1 hp e1 h1p => ?_
  obtain ⟨rs, hrl, hrs⟩ : ∃ rs : List Int, rs.length = ns.length ∧ given (ns.map V.int).length (fun _ => true) (fun i => V.int (ns.getD i 0)) = rs.map V.int := by
    refine ⟨(List.range ns.length).map fun i => ns.getD i 0, by simp, ?_⟩
    unfold given
    rw [List.filter_eq_self.mpr fun _ _ => rfl, List.length_map, List.map_map]
    rfl
  rw [hrs] at h1p
  have bp : b p = none := none_of eb hp
  have g1 : Gr b h0 b h1 := Gr.stay eb e1
  refine q_asgL (el_lst ea_nil (by decide)) fun q h2 hq e2 h2q => ?_
  have npq : p ≠ q := ne_of_none h1p hq
  have hq0 : h0 q = none := fresh_back e1 hq
  have bq : b q = none := none_of eb hq0
  refine s_forR1 (n := (n : Int)) (ea_cons (ev_var rfl) ea_nil) (by omega) (fun i σ' h' => ∃ (rs ds : List Int) (u v x y z : Option V), σ' = [some (.ref a), some (.int (n : Int)), some (.ref p), some (.ref q), u, v, x, y, z] ∧
      rs.length = ns.length ∧ ds.length = i ∧ (∀ d ∈ ds, 0 ≤ d ∧ d < 1000) ∧ Gr b h0 b h' ∧ h' p = some (.lst (rs.map V.int)) ∧ h' q = some (.lst (ds.map V.int))) ?_ ?_ ?_
  · intro H1 e
    refine ⟨rs, [], none, none, none, none, none, rfl, hrl, rfl, (fun d hd => by cases hd), g1.trans (Gr.stay g1.gi (e2.trans e)), e _ _ (e2 _ _ h1p), e _ _ h2q⟩
  · rintro i σ' h' hi ⟨rs, ds, u, v, x, y, z, rfl, hrl, hdl, hds, G, hp', hq'⟩
    refine q_asg ev_c fun h2 e2 => ?_
    have hp2 := e2 _ _ hp'
    have hq2 := e2 _ _ hq'
    have G2 := G.trans (Gr.stay G.gi e2)
    refine ⟨fun σ' h' => ∃ (rs : List Int) (d : Int) (x y z : Option V), σ' = [some (.ref a), some (.int (n : Int)), some (.ref p), some (.ref q), some (.int (i : Int)), some (.int d), x, y, z] ∧
      rs.length = ns.length ∧ (0 ≤ d ∧ d < 1000) ∧ Gr b h0 b h' ∧ h' p = some (.lst (rs.map V.int)) ∧ h' q = some (.lst (ds.map V.int)), ?_, ?_⟩
    · refine s_if (b := decide (((0 : Nat) : Int) < ((rs.map V.int).length : Int))) (et_test (ev_op (ev_len (ev_var rfl) (sq_of hp2)) ev_c rv_I0)) (fun hc h3 e3 => ?_) (fun hc h3 e3 => ?_)
      · have hpos : 0 < rs.length := by
          have := of_decide_eq_true hc
          rw [List.length_map] at this
          omega
        have hp3 := e3 _ _ hp2
        have hq3 := e3 _ _ hq2
        have G3 := G2.trans (Gr.stay G2.gi e3)
        have hj : i % rs.length < rs.length := Nat.mod_lt _ hpos
        refine q_asg (v := .int ((i % rs.length : Nat) : Int)) (ev_op (ev_int1 (ev_var rfl)) (ev_len (ev_var rfl) (sq_of hp3)) ?_) fun h4 e4 => ?_
        · have e1 : V.int ((i % rs.length : Nat) : Int) = V.int ((i : Int) % ((rs.map V.int).length : Int)) := by rw [List.length_map, Int.natCast_emod]
          rw [e1]
          exact rv_I (by rw [List.length_map]; omega)
        have hp4 := e4 _ _ hp3
        have hq4 := e4 _ _ hq3
        have G4 := G3.trans (Gr.stay G3.gi e4)
        obtain ⟨r, hr0⟩ : ∃ r, rs[i % rs.length]? = some r := ⟨_, List.getElem?_eq_getElem hj⟩
        have hr1 : (rs.map V.int)[i % rs.length]? = some (V.int r) := by rw [List.getElem?_map, hr0] <;> rfl
        have hix : ∀ {σ : L2.St} {h : Hp}, Ex h4 h → σ[2]? = some (some (.ref p)) → σ[7]? = some (some (.int ((i % rs.length : Nat) : Int))) → Ev (tOp (rIxL K) (tVar 2) (tVar 7)) σ h (.int r) := fun {σ h} e s1 s2 =>
          ev_op (ev_var s1) (ev_var s2) (rv_ixL (sq_of (e _ _ hp4)) (at_of rfl hr1))
        refine s_if (b := decide ((10 : Int) ^ (18 : Int).toNat ≤ r)) (et_test (ev_op (hix (Ex.refl _) rfl rfl) (ev_op ev_c ev_c (rv_I ⟨by decide, by decide, by decide⟩)) rv_I0)) (fun hc2 h5 e5 => ?_) (fun hc2 h5 e5 => ?_)
        · refine q_asg (ev_op (ev_int1 (hix e5 rfl rfl)) ev_c (rv_I (by decide))) fun h6 e6 => ?_
          have e46 := e5.trans e6
          refine s_setL (e46 _ _ hp4) (ev_op (hix e46 rfl rfl) ev_c (rv_I ⟨by decide, by decide⟩)) (ev_var rfl) (ev_var rfl) (by rw [List.length_map]; exact hj) fun h7 e7 => ?_
          refine ⟨rs.set (i % rs.length) (r / 1000), r % 1000, _, _, _, rfl, by rw [List.length_set, hrl], ⟨Int.emod_nonneg _ (by decide), Int.emod_lt_of_pos _ (by decide)⟩, (G4.trans (Gr.stay G4.gi (e46.trans e7))).mut hp bp, ?_, ?_⟩
          · rw [upd_same, ← List.map_set]
          · rw [upd_ne npq.symm]
            exact e7 _ _ (e46 _ _ hq4)
        · refine q_asg (ev_op (ev_int1 (ev_op (ev_op (ev_op (hix e5 rfl rfl) ev_c (rv_I (.inr ⟨by decide, by decide⟩))) (ev_op (ev_var rfl) ev_c (rv_I (.inr ⟨by decide, by decide⟩))) rv_I0) ev_c rv_I0)) ev_c (rv_I (by decide))) fun h6 e6 => ?_
          refine q_asg (ev_op (ev_int1 (ev_op (ev_op (ev_var rfl) ev_c (rv_I (.inr ⟨by decide, by decide⟩))) (ev_var rfl) rv_I0)) ev_c (rv_I (by decide))) fun h7 e7 => ?_
          refine s_asg (ev_op (ev_int1 (ev_op (ev_var rfl) ev_c (rv_I ⟨by decide, by decide⟩))) ev_c (rv_I (by decide))) fun h8 e8 => ?_
          have e48 := ((e5.trans e6).trans e7).trans e8
          exact ⟨rs, _, _, _, _, rfl, hrl, ⟨Int.emod_nonneg _ (by decide), Int.emod_lt_of_pos _ (by decide)⟩, G4.trans (Gr.stay G4.gi e48), e48 _ _ hp4, e48 _ _ hq4⟩
      · exact ⟨rs, 0, _, _, _, rfl, hrl, by decide, G2.trans (Gr.stay G2.gi e3), e3 _ _ hp2, e3 _ _ hq2⟩
    · rintro σ' h3 ⟨rs, d, x, y, z, rfl, hrl, hd, G3, hp3, hq3⟩
      refine s_app hq3 (ev_var rfl) (ev_var rfl) (by rw [List.length_map]; omega) fun h4 e4 => ?_
      refine ⟨rs, ds ++ [d], _, _, _, _, _, rfl, hrl, by rw [List.length_append, hdl]; rfl, fun t ht => ?_, (G3.trans (Gr.stay G3.gi e4)).mut hq0 bq, ?_, ?_⟩
      · rcases List.mem_append.mp ht with ht | ht
        · exact hds t ht
        · rw [List.mem_singleton.mp ht]
          exact hd
      · rw [upd_ne npq]
        exact e4 _ _ hp3
      · rw [upd_same, List.map_append]
        rfl
  · rintro σ' h' ⟨rs, ds, u, v, x, y, z, rfl, hrl, hdl, hds, G, hp', hq'⟩
    refine ⟨_, rfl, k _ (upd b q (.lst (ds.map V.int))) h' ds (G.tell hq0 bq hq') (by rw [hdl]; omega) hds (Dt.list upd_same (DtA.ints ds))⟩

abbrev s_place : Stmt := top 18
theorem sc_place : FnScope ["draws", "many", "kind", "gain", "size", "places", "weights", "k"] ["draws", "many"] (defScope s_place) := ⟨rfl, rfl, rfl, by decide +kernel, rfl, by decide +kernel, by decide +kernel⟩
theorem has_place (T : Bt mg) (D : IsDef K mg "_law_place" s_place ["draws", "many"]) (U : Has P w K mg base 2 "_law_number" ["n", "d"] (spNumber K)) : Has P w K mg base 3 "_law_place" ["draws", "many"] (spPlace K) := by
  obtain ⟨f, fd, F, hm, hb⟩ := D
  obtain ⟨f_number, fd_number, G_number, m_number, k_number, b_number⟩ := U
  have sc := sc_place
  refine ⟨f, fd, F.ok sc (fun vs H Q E x => ?_) (fun cdv A outer s h0 vs Q E hr hs => ?_), hm, F.kp, hb⟩
  · obtain ⟨b, ds, most, _, hA, _⟩ := x
    exact hA.length
  obtain ⟨b, ds, many, eb, hA, hl, hd, hmany, k⟩ := hs
  refine ⟨_, (pss_cons (ps_set (i := 2) sc.nd rfl (by first | exact Or.inl rfl | exact Or.inr rfl) (pe_op op_mod (pe_callTy cr_int1 (by rfl) T.int (by decide +kernel) (pa_cons (pe_ix (ix_listK (K := K) rfl) (pv 0) pe_int (fun _ _ => rfl)) pa_nil)) pe_int)) (pss_cons (ps_set (i := 3) sc.nd rfl (by first | exact Or.inl rfl | exact Or.inr rfl) (pe_call G_number (hr.mono (by decide)) rfl m_number k_number b_number .nil pass0 (pa_cons (pe_op op_sub (pe_op op_mod (pe_callTy cr_int1 (by rfl) T.int (by decide +kernel) (pa_cons (pe_ix (ix_listK (K := K) rfl) (pv 0) pe_int (fun _ _ => rfl)) pa_nil)) pe_int) pe_int) (pa_cons (pe_ix (ix_listK (K := K) rfl) (pe_lst (pa_cons pe_int (pa_cons pe_int (pa_cons pe_int (pa_cons pe_int pa_nil))))) (pe_op op_mod (pe_callTy cr_int1 (by rfl) T.int (by decide +kernel) (pa_cons (pe_ix (ix_listK (K := K) rfl) (pv 0) pe_int (fun _ _ => rfl)) pa_nil)) pe_int) (fun _ _ => rfl)) pa_nil)))) (Evl.pss_cut (ps_if (pt_cmpR op_eq (pe_op op_mod (pe_op op_fdivW (pe_callTy cr_int1 (by rfl) T.int (by decide +kernel) (pa_cons (pe_ix (ix_listK (K := K) rfl) (pv 0) pe_int (fun _ _ => rfl)) pa_nil)) pe_int) pe_int) pe_int (nomark _)) (pss_one (ps_set (i := 3) sc.nd rfl (by first | exact Or.inl rfl | exact Or.inr rfl) (pe_call G_number (hr.mono (by decide)) rfl m_number k_number b_number .nil pass0 (pa_cons (pe_op op_sub (pe_callTy cr_int1 (by rfl) T.int (by decide +kernel) (pa_cons (pe_ix (ix_listK (K := K) rfl) (pv 0) pe_int (fun _ _ => rfl)) pa_nil)) pe_int) (pa_cons (pe_op op_add pe_int (pe_op op_mod (pe_callTy cr_int1 (by rfl) T.int (by decide +kernel) (pa_cons (pe_ix (ix_listK (K := K) rfl) (pv 0) pe_int (fun _ _ => rfl)) pa_nil)) pe_int)) pa_nil))))) pss_nil) (pss_cons (ps_set (i := 4) sc.nd rfl (by first | exact Or.inl rfl | exact Or.inr rfl) (pe_ix (ix_listK (K := K) rfl) (pe_lst (pa_cons pe_int (pa_cons pe_int (pa_cons pe_int (pa_cons pe_int (pa_cons pe_int (pa_cons pe_int (pa_cons pe_int (pa_cons pe_int (pa_cons pe_int pa_nil)))))))))) (pe_op op_mod (pe_callTy cr_int1 (by rfl) T.int (by decide +kernel) (pa_cons (pe_ix (ix_listK (K := K) rfl) (pv 0) pe_int (fun _ _ => rfl)) pa_nil)) pe_int) (fun _ _ => rfl))) (pss_cons (ps_set (i := 5) sc.nd rfl (by first | exact Or.inl rfl | exact Or.inr rfl) (pe_lc (own := [("k", 7)]) (tt := tYes) rfl sc.nd (pi_range1 (by rfl) T.range (pa_cons (pv 4) pa_nil)) (blkOk_by (N := ["draws", "many", "kind", "gain", "size", "places", "weights", "k"]) (sc := defScope s_place) (by decide +kernel)) (fun _ _ _ _ _ => (pg_name (i := 7) sc.nd rfl (by first | exact Or.inl rfl | exact Or.inr rfl))) (fun _ _ _ _ _ => pts_nil) (fun _ _ _ _ _ => (pe_op op_mod (pe_callTy cr_int1 (by rfl) T.int (by decide +kernel) (pa_cons (pe_ix (ix_listK (K := K) rfl) (pv 0) (pe_op op_add pe_int (pv 7)) (fun _ _ => rfl)) pa_nil)) (pv 1))))) (pss_cons (ps_if (pt_cmpR op_lt (pv 2) pe_int (nomark _)) (pss_cons (ps_set (i := 6) sc.nd rfl (by first | exact Or.inl rfl | exact Or.inr rfl) (pe_lc (own := [("k", 7)]) (tt := tYes) rfl sc.nd (pi_range1 (by rfl) T.range (pa_cons (pv 4) pa_nil)) (blkOk_by (N := ["draws", "many", "kind", "gain", "size", "places", "weights", "k"]) (sc := defScope s_place) (by decide +kernel)) (fun _ _ _ _ _ => (pg_name (i := 7) sc.nd rfl (by first | exact Or.inl rfl | exact Or.inr rfl))) (fun _ _ _ _ _ => pts_nil) (fun _ _ _ _ _ => (pe_op op_add pe_int (pe_op op_mod (pe_callTy cr_int1 (by rfl) T.int (by decide +kernel) (pa_cons (pe_ix (ix_listK (K := K) rfl) (pv 0) (pe_op op_add pe_int (pe_op op_mod (pv 7) pe_int)) (fun _ _ => rfl)) pa_nil)) pe_int))))) (pss_one (ps_ret (pe_tup (pa_cons (pv 3) (pa_cons pe_str (pa_cons (pe_lc (own := [("k", 7)]) (tt := tYes) rfl sc.nd (pi_range1 (by rfl) T.range (pa_cons (pv 4) pa_nil)) (blkOk_by (N := ["draws", "many", "kind", "gain", "size", "places", "weights", "k"]) (sc := defScope s_place) (by decide +kernel)) (fun _ _ _ _ _ => (pg_name (i := 7) sc.nd rfl (by first | exact Or.inl rfl | exact Or.inr rfl))) (fun _ _ _ _ _ => pts_nil) (fun _ _ _ _ _ => (pe_tup (pa_cons (pe_call G_number (hr.mono (by decide)) rfl m_number k_number b_number .nil pass0 (pa_cons (pe_ix (ix_listK (K := K) rfl) (pv 6) (pv 7) (fun _ _ => rfl)) (pa_cons (pe_callB (sum_K (K := K) rfl rfl) (by rfl) T.sum (by decide +kernel) (pa_cons (pv 6) pa_nil)) pa_nil))) (pa_cons (pe_ix (ix_listK (K := K) rfl) (pv 5) (pv 7) (fun _ _ => rfl)) pa_nil))))) pa_nil))))))) pss_nil) (pss_one (ps_ret (pe_tup (pa_cons (pv 3) (pa_cons (pe_ix (ix_listK (K := K) rfl) (pe_lst (pa_cons pe_str (pa_cons pe_str pa_nil))) (pe_op op_mod (pv 2) pe_int) (fun _ _ => rfl)) (pa_cons (pv 5) pa_nil)))))))))))), ?_⟩
  obtain ⟨vD, rfl, hD⟩ : ∃ vD, vs = [vD, .int many] ∧ Dt K b vD (.list (ds.map PyData.int)) := by
    cases hA with
    | cons h1 h2 => exact ⟨_, by rw [h2.i1], h1⟩
  have hix : ∀ {σ : L2.St} {b' : Hp} {tb : TE} {z : Int} (j : Nat), Ex b b' → σ[0]? = some (some vD) → Ev tb σ b' (.int z) → z = (j : Int) → j < 15 → Ev (tCB rInt1 (tCons (tOp (rIxL K) (tVar 0) tb) tNil)) σ b' (.int (ds.getD j 0)) := fun {σ b' tb z} j e s1 y e2 hj =>
    ev_int1 (ev_ixI j (ed_var s1 (hD.up e)) y e2 (by omega))
  have hnum : ∀ {σ : L2.St} {b' : Hp} {ta tb : TE} {n d : Int}, Ev ta σ b' (.int n) → Ev tb σ b' (.int d) → n.natAbs < 1000 → d ≠ 0 → d.natAbs < 1000 → ED K (tCall (spNumber K) [] E0 (tCons ta (tCons tb tNil))) σ b' (nD (num n d)) := fun {σ b' ta tb n d} x y h1 h2 h3 =>
    ed_call (eda_cons (ed_int x) (eda_cons (ed_int y) eda_nil)) rfl ⟨n, d, rfl, h2, Nat.lt_trans h1 (by decide +kernel), Nat.lt_trans h3 (by decide +kernel)⟩ fun e he => he n d rfl
  have d0 := ds_get (j := 0) hd
  have d1 := ds_get (j := 1) hd
  have d2 := ds_get (j := 2) hd
  have d14 := ds_get (j := 14) hd
  refine r_sc (ev_op (hix 0 (Ex.refl _) rfl ev_c rfl (by decide)) ev_c (rv_I (by decide))) eb fun h1 g1 => ?_
  obtain ⟨x1, hx1, hat1⟩ := at_pick [1, 1, 2, 3] (z := ds.getD 14 0 % 4) (by omega) (by show _ < (4 : Int); omega)
  have hx1' : 1 ≤ x1 ∧ x1 ≤ 3 := by
    simp only [List.mem_cons, List.not_mem_nil, or_false] at hx1
    omega
  refine r_set (K := K) (hnum (ev_op (ev_op (hix 1 (Ex.refl _) rfl ev_c rfl (by decide)) ev_c (rv_I (by decide))) ev_c rv_I0) (ev_int (ed_ixL (K := K) (ds := [1, 1, 2, 3].map PyData.int) (en_lst (eda_cons (ed_int ev_c) (eda_cons (ed_int ev_c) (eda_cons (ed_int ev_c) (eda_cons (ed_int ev_c) eda_nil)))) (by decide)).ed (ev_op (hix 14 (Ex.refl _) rfl ev_c rfl (by decide)) ev_c (rv_I (by decide))) hat1)) (by omega) (by omega) (by omega)) g1.gi fun vg b2 h2 g2 hg => ?_
  have hS : SmallN (num (ds.getD 1 0 % 15 - 5) x1) := num_small (by omega) (by omega) (by omega)
  generalize num (ds.getD 1 0 % 15 - 5) x1 = gn at hg hS
  have G2 := g1.trans g2
  refine ⟨fun σ' h' => ∃ (gn : Int × Int) (vg : V) (b' : Hp), σ' = [some vD, some (.int many), some (.int (ds.getD 0 0 % 7)), some vg, none, none, none, none] ∧ Gr b h0 b' h' ∧ SmallN gn ∧ Dt K b' vg (nD gn), ?_, ?_⟩
  · refine r_if1 (b := b2) (c := decide (V.int (ds.getD 14 0 / 4 % 8) = V.int 7)) (et_test (ev_op (ev_op (ev_op (hix 14 G2.gb rfl ev_c rfl (by decide)) ev_c (rv_I ⟨by decide, by decide⟩)) ev_c (rv_I (by decide))) ev_c (rv_eq rfl))) G2.gi (fun _ h3 g3 => ?_) (fun _ h3 g3 => ?_)
    · have hS2 : SmallN (num (ds.getD 1 0 - 500) (1 + ds.getD 14 0 % 7)) := num_small (by omega) (by omega) (by omega)
      refine r_set1 (K := K) (hnum (ev_op (hix 1 G2.gb rfl ev_c rfl (by decide)) ev_c rv_I0) (ev_op ev_c (ev_op (hix 14 G2.gb rfl ev_c rfl (by decide)) ev_c (rv_I (by decide))) rv_I0) (by omega) (by omega) (by omega)) g3.gi fun v b' h' g4 hv => ?_
      exact ⟨_, v, b', rfl, (G2.trans g3).trans g4, hS2, hv⟩
    · exact ⟨_, vg, b2, rfl, G2.trans g3, hS, hg⟩
  clear hg hS G2 g2 gn
  rintro σ' h2 ⟨gn, vg, b2, rfl, G2, hS, hg⟩
  obtain ⟨x2, hx2, hat2⟩ := at_pick [1, 2, 3, 1, 2, 3, 4, 5, 6] (z := ds.getD 2 0 % 9) (by omega) (by show _ < (9 : Int); omega)
  have hx2' : 1 ≤ x2 ∧ x2 ≤ 6 := by
    simp only [List.mem_cons, List.not_mem_nil, or_false] at hx2
    omega
  refine r_sc (ev_int (ed_ixL (K := K) (ds := [1, 2, 3, 1, 2, 3, 4, 5, 6].map PyData.int) (en_lst (eda_cons (ed_int ev_c) (eda_cons (ed_int ev_c) (eda_cons (ed_int ev_c) (eda_cons (ed_int ev_c) (eda_cons (ed_int ev_c) (eda_cons (ed_int ev_c) (eda_cons (ed_int ev_c) (eda_cons (ed_int ev_c) (eda_cons (ed_int ev_c) eda_nil))))))))) (by decide)).ed (ev_op (hix 2 G2.gb rfl ev_c rfl (by decide)) ev_c (rv_I (by decide))) hat2)) G2.gi fun h3 g3 => ?_
  have G3 := G2.trans g3
  refine r_set (K := K) (EN.ed (en_lcR (ea_cons (ev_var rfl) ea_nil) (by omega) (fun _ => true) (fun i => .int (ds.getD (3 + i) 0 % many)) (fun x => rfl) fun i b4 e4 hi => ⟨et_yes, fun _ => ed_int (ev_op (hix (3 + i) (G3.gb.trans e4) rfl (ev_op ev_c (ev_var rfl) rv_I0) (by omega) (by omega)) (ev_var rfl) (rv_I (by omega)))⟩)) G3.gi fun vp b4 h4 g4 hp => ?_
  have G4 := G3.trans g4
  rw [givenD_all, map_range_ints] at hp
  generalize hps : (List.range x2.toNat).map (fun i => ds.getD (3 + i) 0 % many) = ps at hp
  have hpl : ps.length = x2.toNat := by rw [← hps]; simp
  have hpm : ∀ t ∈ ps, 0 ≤ t ∧ t < many := fun t ht => by
    rw [← hps] at ht
    obtain ⟨i, _, rfl⟩ := List.mem_map.mp ht
    exact ⟨Int.emod_nonneg _ (by omega), Int.emod_lt_of_pos _ (by omega)⟩
  refine r_if (b := b4) (c := decide (ds.getD 0 0 % 7 < 3)) (et_test (ev_op (ev_var rfl) ev_c rv_I0)) G4.gi (fun hc h5 g5 => ?_) (fun hc h5 g5 => ?_)
  · have G5 := G4.trans g5
    refine r_set (K := K) (EN.ed (en_lcR (ea_cons (ev_var rfl) ea_nil) (by omega) (fun _ => true) (fun i => .int (1 + ds.getD (9 + i % 5) 0 % 5)) (fun x => rfl) fun i b6 e6 hi => ⟨et_yes, fun _ => ed_int (ev_op ev_c (ev_op (hix (9 + i % 5) (G5.gb.trans e6) rfl (ev_op ev_c (ev_op (ev_var rfl) ev_c (rv_I (by decide))) rv_I0) (by omega) (by omega)) ev_c (rv_I (by decide))) rv_I0)⟩)) G5.gi fun vw b6 h6 g6 hw => ?_
    have G6 := G5.trans g6
    rw [givenD_all, map_range_ints] at hw
    generalize hws : (List.range x2.toNat).map (fun i => 1 + ds.getD (9 + i % 5) 0 % 5) = ws at hw
    have hwl : ws.length = x2.toNat := by rw [← hws]; simp
    have hwm : ∀ t ∈ ws, 1 ≤ t ∧ t ≤ 5 := fun t ht => by
      rw [← hws] at ht
      obtain ⟨i, _, rfl⟩ := List.mem_map.mp ht
      omega
    have hsum := sum_small hwm
    have hsum1 : 1 ≤ ws.sum := by
      have := sum_pos hwm
      omega
    have hgw : ∀ i, i < ws.length → 1 ≤ ws.getD i 0 ∧ ws.getD i 0 ≤ 5 := fun i hi => by
      rw [List.getD_eq_getElem?_getD, List.getElem?_eq_getElem hi]
      exact hwm _ (List.getElem_mem hi)
    let bs : List ((Int × Int) × Int) := (List.range x2.toNat).map fun i => (num (ws.getD i 0) ws.sum, ps.getD i 0)
    have hp6 := hp.up g6.gb
    have hbs : givenD x2.toNat (fun _ => true) (fun i => brD (num (ws.getD i 0) ws.sum, ps.getD i 0)) = bs.map brD := by
      rw [givenD_all, List.map_map]
      rfl
    refine r_ret (K := K) (d := (Pl.draw gn bs).D) (ed_tup (eda_cons (ed_var rfl ((hg.up g4.gb).up g6.gb)) (eda_cons (ed_str ev_c) (eda_cons (d := .list (bs.map brD)) (hbs ▸ EN.ed (en_lcR (n := x2) (ea_cons (ev_var rfl) ea_nil) (by omega) (fun _ => true) (fun i => brD (num (ws.getD i 0) ws.sum, ps.getD i 0)) (fun x => rfl) fun i b7 e7 hi => ⟨et_yes, fun _ => ?_⟩)) eda_nil))) (by show 3 ≤ 100000; decide)) G6.gi fun v b' h7 g7 hv => ?_
    · have hw1 := hgw i (by omega)
      refine ed_tup (eda_cons (hnum (ev_ixI i (ed_var rfl (hw.up e7)) (ev_var rfl) rfl (by omega)) (ev_sum (ed_var rfl (hw.up e7))) (by omega) (by omega) (by omega)) (eda_cons (ed_int (ev_ixI i (ed_var rfl (hp6.up e7)) (ev_var rfl) rfl (by omega))) eda_nil)) (by show 2 ≤ 100000; decide)
    · refine k v b' h7 (Pl.draw gn bs) (G6.trans g7) ⟨hS, ?_, ?_, ?_, ws, ?_, hwm, ?_⟩ hv
      · show 1 ≤ bs.length
        simp only [bs, List.length_map, List.length_range]
        omega
      · show bs.length ≤ 6
        simp only [bs, List.length_map, List.length_range]
        omega
      · intro p hpb
        obtain ⟨i, hi, rfl⟩ := List.mem_map.mp hpb
        have hi' := List.mem_range.mp hi
        show 0 ≤ ps.getD i 0 ∧ ps.getD i 0 < many
        rw [List.getD_eq_getElem?_getD, List.getElem?_eq_getElem (by omega)]
        exact hpm _ (List.getElem_mem _)
      · simp only [bs, List.length_map, List.length_range]
        exact hwl
      · show bs.map (·.1) = _
        simp only [bs, List.map_map]
        rw [← hwl]
        exact map_getD ws (fun w => num w ws.sum)
  · have G5 := G4.trans g5
    have hk : ∃ o : Bool, L2.atI [PyData.str "ours", PyData.str "theirs"] (ds.getD 0 0 % 7 % 2) = some (.str (if o then "ours" else "theirs")) := by
      have h01 : ds.getD 0 0 % 7 % 2 = 0 ∨ ds.getD 0 0 % 7 % 2 = 1 := by omega
      rcases h01 with z | z
      · exact ⟨true, by rw [z]; rfl⟩
      · exact ⟨false, by rw [z]; rfl⟩
    obtain ⟨o, ho⟩ := hk
    refine r_ret (K := K) (d := (Pl.side gn o ps).D) (ed_tup (eda_cons (ed_var rfl (hg.up g4.gb)) (eda_cons (ed_ixL (ds := [PyData.str "ours", PyData.str "theirs"]) (en_lst (eda_cons (ed_str ev_c) (eda_cons (ed_str ev_c) eda_nil)) (by decide)).ed (ev_op (ev_var rfl) ev_c (rv_I (by decide))) ho) (eda_cons (ed_var rfl hp) eda_nil))) (by show 3 ≤ 100000; decide)) G5.gi fun v b' h7 g7 hv => ?_
    exact k v b' h7 (Pl.side gn o ps) (G5.trans g7) ⟨hS, by omega, by omega, hpm⟩ hv

abbrev s_game : Stmt := top 19
theorem sc_game : FnScope ["draws", "most", "many", "k"] ["draws", "most"] (defScope s_game) := ⟨rfl, rfl, rfl, by decide +kernel, rfl, by decide +kernel, by decide +kernel⟩
theorem has_game (T : Bt mg) (D : IsDef K mg "_law_game" s_game ["draws", "most"]) (U : Has P w K mg base 3 "_law_place" ["draws", "many"] (spPlace K)) : Has P w K mg base 4 "_law_game" ["draws", "most"] (spGame K) := by
  obtain ⟨f, fd, F, hm, hb⟩ := D
  obtain ⟨f_place, fd_place, G_place, m_place, k_place, b_place⟩ := U
  have sc := sc_game
  refine ⟨f, fd, F.ok sc (fun vs H Q E x => ?_) (fun cdv A outer s h0 vs Q E hr hs => ?_), hm, F.kp, hb⟩
  · obtain ⟨b, ds, most, _, hA, _⟩ := x
    exact hA.length
  obtain ⟨b, ds, most, eb, hA, hm1, hm12, hl, hd, k⟩ := hs
  refine ⟨_, (pss_cons (ps_set (i := 2) sc.nd rfl (by first | exact Or.inl rfl | exact Or.inr rfl) (pe_op op_add pe_int (pe_op op_mod (pe_callTy cr_int1 (by rfl) T.int (by decide +kernel) (pa_cons (pe_ix (ix_listK (K := K) rfl) (pv 0) pe_int (fun _ _ => rfl)) pa_nil)) (pv 1)))) (pss_one (ps_ret (pe_lc (own := [("k", 3)]) (tt := tYes) rfl sc.nd (pi_range1 (by rfl) T.range (pa_cons (pv 2) pa_nil)) (blkOk_by (N := ["draws", "most", "many", "k"]) (sc := defScope s_game) (by decide +kernel)) (fun _ _ _ _ _ => (pg_name (i := 3) sc.nd rfl (by first | exact Or.inl rfl | exact Or.inr rfl))) (fun _ _ _ _ _ => pts_nil) (fun _ _ _ _ _ => (pe_call G_place (hr.mono (by decide)) rfl m_place k_place b_place .nil pass0 (pa_cons (pe_slice (sl_listK (K := K) rfl) (pv 0) (po_some (pe_op op_add pe_int (pe_op op_mul pe_int (pv 3)))) (po_some (pe_op op_add pe_int (pe_op op_mul pe_int (pv 3))))) (pa_cons (pv 2) pa_nil)))))))), ?_⟩
  obtain ⟨vD, rfl, hD⟩ : ∃ vD, vs = [vD, .int most] ∧ Dt K b vD (.list (ds.map PyData.int)) := by
    cases hA with
    | cons h1 h2 => exact ⟨_, by rw [h2.i1], h1⟩
  have hmany := Int.emod_nonneg (ds.getD 0 0) (b := most) (by omega)
  have hmany2 := Int.emod_lt_of_pos (ds.getD 0 0) (b := most) (by omega)
  refine r_sc (ev_op ev_c (ev_op (ev_int1 (ev_ixI 0 (ed_var rfl hD) ev_c rfl (by omega))) (ev_var rfl) (rv_I (by omega))) rv_I0) eb fun h1 g1 => ?_
  generalize hM : 1 + ds.getD 0 0 % most = many
  refine r_retX (K := K) (en_lcRX (n := many) (ea_cons (ev_var rfl) ea_nil) (by omega) (fun i e => ∃ p, WfP many p ∧ e = p.D) (fun x => rfl) fun i b2 e2 hi => ?_) g1.gi fun v b' h2 d g2 hP hv => ?_
  · intro h e Q q
    refine eda_cons (EN.ed (en_sl (K := K) (ed_var rfl (hD.up e2)) (eo_some (i := 1 + 15 * (i : Int)) (ev_op ev_c (ev_op ev_c (ev_var rfl) (rv_I (.inl ⟨by decide, by decide⟩))) rv_I0)) (eo_some (i := 16 + 15 * (i : Int)) (ev_op ev_c (ev_op ev_c (ev_var rfl) (rv_I (.inl ⟨by decide, by decide⟩))) rv_I0)))) (eda_cons (ed_int (ev_var rfl)) eda_nil) h e _ fun vs b3 h3 g3 hvs => ?_
    obtain ⟨es, hes, hel, hed⟩ := cut_ints (ds := ds) (lo := 1 + 15 * i) (n := 15) (by omega) hd
    refine ⟨b3, es, many, g3.gi, ?_, hel, hed, by omega, fun v b4 h4 p g4 hp hv => q v b4 h4 p.D (g3.trans g4) ⟨p, hp, rfl⟩ hv⟩
    rw [List.append_nil]
    have e1 : (1 + 15 * (i : Int)) = ((1 + 15 * i : Nat) : Int) := by omega
    have e2 : (16 + 15 * (i : Int)) = ((1 + 15 * i + 15 : Nat) : Int) := by omega
    rw [e1, e2, hes] at hvs
    exact hvs
  · obtain ⟨acc, rfl, hal, hR⟩ := hP
    obtain ⟨G, rfl, hG⟩ := all_some (acc := acc) (W := WfP many) (D := Pl.D) fun e he => by
      obtain ⟨j, hj, rfl⟩ := List.mem_iff_getElem.mp he
      exact hR j _ (List.getElem?_eq_getElem hj)
    rw [List.length_map] at hal
    exact k v b' h2 G (g1.trans g2) ⟨by omega, by omega, fun p hp => by rw [show ((G.length : Nat) : Int) = many by omega]; exact hG p hp⟩ (by omega) hv

abbrev s_strategy : Stmt := top 21
theorem sc_strategy : FnScope ["game", "side", "draws", "found", "k"] ["game", "side", "draws"] (defScope s_strategy) := ⟨rfl, rfl, rfl, by decide +kernel, rfl, by decide +kernel, by decide +kernel⟩
theorem has_strategy (T : Bt mg) (D : IsDef K mg "_law_strategy" s_strategy ["game", "side", "draws"]) : Has P w K mg base 1 "_law_strategy" ["game", "side", "draws"] (spStrategy K) := by
  obtain ⟨f, fd, F, hm, hb⟩ := D
  have sc := sc_strategy
  refine ⟨f, fd, F.ok sc (fun vs H Q E x => ?_) (fun cdv A outer s h0 vs Q E hr hs => ?_), hm, F.kp, hb⟩
  · obtain ⟨b, G, x, ds, _, hA, _⟩ := x
    exact hA.length
  obtain ⟨b, G, x, ds, eb, hA, hW, hl, hd, k⟩ := hs
  refine ⟨_, (pss_cons (ps_set (i := 3) sc.nd rfl (by first | exact Or.inl rfl | exact Or.inr rfl) (pe_lst pa_nil)) (pss_cons (ps_for PassesOwn.never rfl (pi_range1 (by rfl) T.range (pa_cons (pe_callB (len_K (K := K) rfl) (by rfl) T.len PySem.boot_len (pa_cons (pv 0) pa_nil)) pa_nil)) (pg_name (i := 4) sc.nd rfl (by first | exact Or.inl rfl | exact Or.inr rfl)) (pss_one (ps_if (pt_cmpR op_eq (pe_ix (ix_tupK (K := K) rfl) (pe_ix (ix_listK (K := K) rfl) (pv 0) (pv 4) (fun _ _ => rfl)) pe_int (fun _ _ => rfl)) (pv 1) (nomark _)) (pss_one (ps_expr (pe_appK (K := K) rfl (pv 3) (pa_cons (pe_op op_mod (pe_callTy cr_int1 (by rfl) T.int (by decide +kernel) (pa_cons (pe_ix (ix_listK (K := K) rfl) (pv 2) (pv 4) (fun _ _ => rfl)) pa_nil)) (pe_callB (len_K (K := K) rfl) (by rfl) T.len PySem.boot_len (pa_cons (pe_ix (ix_tupK (K := K) rfl) (pe_ix (ix_listK (K := K) rfl) (pv 0) (pv 4) (fun _ _ => rfl)) pe_int (fun _ _ => rfl)) pa_nil))) pa_nil)))) (pss_one (ps_expr (pe_appK (K := K) rfl (pv 3) (pa_cons pe_non pa_nil))))))) (pss_one (ps_ret (pv 3))))), ?_⟩
  obtain ⟨vG, vD, rfl, hG, hD⟩ : ∃ vG vD, vs = [vG, .str x, vD] ∧ Dt K b vG (gameD G) ∧ Dt K b vD (.list (ds.map PyData.int)) := by
    cases hA with
    | cons h1 h2 =>
      cases h2 with
      | cons h3 h4 =>
        cases h4 with
        | cons h5 h6 =>
          cases h6
          exact ⟨_, _, by rw [h3.strI], h1, h5⟩
  refine q_asgL (el_lst ea_nil (by decide)) fun q h1 hq e1 h1q => ?_
  have bq : b q = none := none_of eb hq
  have g1 : Gr b h0 b h1 := Gr.stay eb e1
  have hlen : Ev (tCB (rLenS K) (tCons (tVar 0) tNil)) ((start ["game", "side", "draws", "found", "k"] [vG, V.str x, vD]).set 3 (some (.ref q))) b (.int ((G.map Pl.D).length : Int)) := ev_lenL (ed_var rfl hG)
  refine s_forR1 (H := h1) (n := ((G.map Pl.D).length : Int)) ((ea_cons hlen ea_nil).mono g1.gi) (by have := hW.2.1; rw [List.length_map]; omega) (fun i σ' h' => ∃ (S : List (Option Nat)) (u : Option V), σ' = [some vG, some (.str x), some vD, some (.ref q), u] ∧ S.length = i ∧
      (∀ (j : Nat) (p : Pl), j < i → G[j]? = some p → (p.kind = x → ∃ n, S[j]? = some (some n) ∧ n < p.bd.length) ∧ (p.kind ≠ x → S[j]? = some none)) ∧ Gr b h0 b h' ∧ h' q = some (.lst (S.map svV))) ?_ ?_ ?_
  · intro H1 e
    exact ⟨[], none, rfl, rfl, (fun j p hj => absurd hj (Nat.not_lt_zero _)), g1.trans (Gr.stay g1.gi e), e _ _ h1q⟩
  · rintro i σ' h' hi ⟨S, u, rfl, hS, hpre, G1, hq'⟩
    rw [List.length_map] at hi
    have hiG : i < G.length := by omega
    have hG12 := hW.2.1
    obtain ⟨p, hp⟩ : ∃ p, G[i]? = some p := ⟨_, List.getElem?_eq_getElem hiG⟩
    have hpW := hW.2.2 p (List.mem_of_getElem? hp)
    have hb1 : 1 ≤ p.bd.length ∧ p.bd.length ≤ 6 := wf_bd hpW
    have hgk : ∀ {σ : L2.St}, σ[0]? = some (some vG) → σ[4]? = some (some (.int (i : Int))) → ED K (tOp (rIxL K) (tVar 0) (tVar 4)) σ b p.D := fun {σ} s1 s2 => ed_ixL (ed_var s1 hG) (ev_var s2) (game_at hp)
    have hdk := ds_get (j := i) hd
    have fin : ∀ (o : Option Nat), ((p.kind = x → ∃ n, o = some n ∧ n < p.bd.length) ∧ (p.kind ≠ x → o = none)) → ∀ (j : Nat) (p : Pl), j < i + 1 → G[j]? = some p → (p.kind = x → ∃ n, (S ++ [o])[j]? = some (some n) ∧ n < p.bd.length) ∧ (p.kind ≠ x → (S ++ [o])[j]? = some none) := by
      intro o ho j p' hj hp'
      by_cases hji : j < i
      · rw [List.getElem?_append_left (by omega)]
        exact hpre j p' hji hp'
      · obtain rfl : j = i := by omega
        rw [hp] at hp'
        cases hp'
        rw [List.getElem?_append_right (by omega), show j - S.length = 0 by omega]
        refine ⟨fun z => ?_, fun z => ?_⟩
        · obtain ⟨n, h1, h2⟩ := ho.1 z
          exact ⟨n, by rw [h1] <;> rfl, h2⟩
        · rw [ho.2 z] <;> rfl
    refine r_if1 (b := b) (c := decide (V.str p.kind = V.str x)) (et_test (ev_op (ev_str (ed_ixT (hgk rfl rfl) ev_c (by rfl))) (ev_var rfl) (rv_eq rfl))) G1.gi (fun hc h3 g3 => ?_) (fun hc h3 g3 => ?_)
    · have hk : p.kind = x := by
        have := of_decide_eq_true hc
        injection this
      have G3 := G1.trans g3
      have hm0 : 0 ≤ ds.getD i 0 % (p.bd.length : Int) := Int.emod_nonneg _ (by omega)
      have hm1 : ds.getD i 0 % (p.bd.length : Int) < p.bd.length := Int.emod_lt_of_pos _ (by omega)
      refine s_app (H := h3) (g3.gh _ _ hq') (ev_var rfl) ((ev_op (ev_int1 (ev_ixI i (ed_var rfl hD) (ev_var rfl) rfl (by omega))) (ev_lenL (ed_ixT (hgk rfl rfl) ev_c (by rfl))) (rv_I (by omega))).mono G3.gi) (by rw [List.length_map]; omega) fun h4 e4 => ?_
      refine ⟨S ++ [some (ds.getD i 0 % (p.bd.length : Int)).toNat], _, rfl, by rw [List.length_append, hS] <;> rfl, fin _ ⟨fun _ => ⟨_, rfl, by omega⟩, fun z => absurd hk z⟩, (G3.trans (Gr.stay G3.gi e4)).mut hq bq, ?_⟩
      rw [upd_same, List.map_append]
      show some (HO.lst (S.map svV ++ [_])) = some (HO.lst (S.map svV ++ [V.int (((ds.getD i 0 % (p.bd.length : Int)).toNat : Nat) : Int)]))
      rw [Int.toNat_of_nonneg hm0]
    · have hk : ¬ p.kind = x := fun z => of_decide_eq_false hc (by rw [z])
      have G3 := G1.trans g3
      refine s_app (H := h3) (g3.gh _ _ hq') (ev_var rfl) ev_c (by rw [List.length_map]; omega) fun h4 e4 => ?_
      refine ⟨S ++ [none], _, rfl, by rw [List.length_append, hS] <;> rfl, fin _ ⟨fun z => absurd z hk, fun _ => rfl⟩, (G3.trans (Gr.stay G3.gi e4)).mut hq bq, ?_⟩
      rw [upd_same, List.map_append]
      rfl
  · rintro σ' h' ⟨S, u, rfl, hS, hpre, G1, hq'⟩
    have hSl : S.length = G.length := by rw [hS, List.length_map] <;> omega
    refine ⟨_, rfl, k _ (upd b q (.lst (S.map svV))) h' S (G1.tell hq bq hq') ⟨hSl, fun j p hp => hpre j p (by have := (List.getElem?_eq_some_iff.mp hp).1; omega) hp⟩ ?_⟩
    rw [stD_eq]
    exact Dt.list upd_same (DtA.sv S)

abbrev s_is_whole : Stmt := top 4
theorem sc_is_whole : FnScope ["value"] ["value"] (defScope s_is_whole) := ⟨rfl, rfl, rfl, by decide +kernel, rfl, by decide +kernel, by decide +kernel⟩
theorem has_is_whole (T : Bt mg) (D : IsDef K mg "is_whole" s_is_whole ["value"]) : Has P w K mg base 1 "is_whole" ["value"] spWhole := by
  obtain ⟨f, fd, F, hm, hb⟩ := D
  have sc := sc_is_whole
  refine ⟨f, fd, F.ok sc (fun vs H Q E x => ?_) (fun cdv A outer s h0 vs Q E hr hs => ?_), hm, F.kp, hb⟩
  · obtain ⟨n, rfl, _⟩ := x
    rfl
  obtain ⟨n, rfl, k⟩ := hs
  refine ⟨_, (pss_one (ps_ret (pe_and (pe_callB (isi_K (K := K) rfl) (by rfl) T.isinstance (by decide +kernel) (pa_cons (pv 0) (pa_cons (pe_bltn (v := .ty "int") (by rfl) T.int (by decide +kernel) rfl) pa_nil))) (pe_one (pe_not (pe_callB (isi_K (K := K) rfl) (by rfl) T.isinstance (by decide +kernel) (pa_cons (pv 0) (pa_cons (pe_bltn (v := .ty "bool") (by rfl) T.bool (by decide +kernel) rfl) pa_nil)))))))), ?_⟩
  refine ⟨_, rfl, .int n, .ty "int", .type "int", .type "int", true, rfl, .ty _, .base (.int n), kit_ty (by decide +kernel), true, rfl, ?_⟩
  rw [if_pos rfl]
  exact ⟨_, rfl, .int n, .ty "bool", .type "int", .type "bool", false, rfl, .ty _, .base (.int n), kit_ty (by decide +kernel), false, rfl, k⟩
abbrev s_has_branch : Stmt := top 7
theorem sc_has_branch : FnScope ["place", "number"] ["place", "number"] (defScope s_has_branch) := ⟨rfl, rfl, rfl, by decide +kernel, rfl, by decide +kernel, by decide +kernel⟩
theorem has_has_branch (T : Bt mg) (D : IsDef K mg "has_branch" s_has_branch ["place", "number"]) (U : Has P w K mg base 1 "is_whole" ["value"] spWhole) : Has P w K mg base 2 "has_branch" ["place", "number"] (spHas K) := by
  obtain ⟨f, fd, F, hm, hb⟩ := D
  obtain ⟨f_is_whole, fd_is_whole, G_is_whole, m_is_whole, k_is_whole, b_is_whole⟩ := U
  have sc := sc_has_branch
  refine ⟨f, fd, F.ok sc (fun vs H Q E x => ?_) (fun cdv A outer s h0 vs Q E hr hs => ?_), hm, F.kp, hb⟩
  · obtain ⟨b, p, n, _, hA, _⟩ := x
    exact hA.length
  obtain ⟨b, p, n, eb, hA, k⟩ := hs
  refine ⟨_, (pss_one (ps_ret (pe_and (pe_call G_is_whole (hr.mono (by decide)) rfl m_is_whole k_is_whole b_is_whole .nil pass0 (pa_cons (pv 1) pa_nil)) (pe_one (pe_chain op_le op_lt pe_int (pv 1) (pe_callB (len_K (K := K) rfl) (by rfl) T.len PySem.boot_len (pa_cons (pe_ix (ix_tupK (K := K) rfl) (pv 0) pe_int (fun _ _ => rfl)) pa_nil))))))), ?_⟩
  obtain ⟨vP, rfl, hP⟩ : ∃ vP, vs = [vP, .int n] ∧ Dt K b vP p.D := by
    cases hA with
    | cons h1 h2 => exact ⟨_, by rw [h2.i1], h1⟩
  have key : decide (0 ≤ n ∧ n < (p.tg.length : Int)) = (true && (decide (0 ≤ n) && decide (n < (p.bd.length : Int)))) := by
    rw [tg_len, Bool.true_and, Bool.decide_and]
  rw [key] at k
  refine Evl.s_ret (H := h0) ?_ fun h1 e1 => k h1 e1
  refine Ev.mono eb (ev_andV (ev_whole (ev_var rfl)) fun _ => ev_chain (f := fun i j => decide (i ≤ j)) (g := fun i j => decide (i < j)) ev_c (ev_var rfl) (ev_lenL (ed_ixT (ed_var rfl hP) ev_c (by rfl))))

abbrev s_targets_of : Stmt := top 6
theorem sc_targets_of : FnScope ["place", "_", "kind", "branches", "target"] ["place"] (defScope s_targets_of) := ⟨rfl, rfl, rfl, by decide +kernel, rfl, by decide +kernel, by decide +kernel⟩
theorem has_targets_of (T : Bt mg) (D : IsDef K mg "targets_of" s_targets_of ["place"]) : Has P w K mg base 1 "targets_of" ["place"] (spTargets K) := by
  obtain ⟨f, fd, F, hm, hb⟩ := D
  have sc := sc_targets_of
  refine ⟨f, fd, F.ok sc (fun vs H Q E x => ?_) (fun cdv A outer s h0 vs Q E hr hs => ?_), hm, F.kp, hb⟩
  · obtain ⟨b, p, _, hA, _⟩ := x
    exact hA.length
  obtain ⟨b, p, eb, hA, hl, k⟩ := hs
  refine ⟨_, (pss_cons (ps_asg (pv 0) (pg_tupK (K := K) (n := 3) rfl rfl (pgs_cons (pg_name (i := 1) sc.nd rfl (by first | exact Or.inl rfl | exact Or.inr rfl)) (pgs_cons (pg_name (i := 2) sc.nd rfl (by first | exact Or.inl rfl | exact Or.inr rfl)) (pgs_cons (pg_name (i := 3) sc.nd rfl (by first | exact Or.inl rfl | exact Or.inr rfl)) pgs_nil))))) (pss_cons (ps_if (pt_cmpR op_eq (pv 2) pe_str (nomark _)) (pss_one (ps_ret (pe_lc (own := [("_", 1), ("target", 4)]) (tt := tYes) rfl sc.nd (pi_listK (K := K) rfl (pv 3)) (blkOk_by (N := ["place", "_", "kind", "branches", "target"]) (sc := defScope s_targets_of) (by decide +kernel)) (fun _ _ _ _ _ => (pg_tupK (K := K) (n := 2) rfl rfl (pgs_cons (pg_name (i := 1) sc.nd rfl (by first | exact Or.inl rfl | exact Or.inr rfl)) (pgs_cons (pg_name (i := 4) sc.nd rfl (by first | exact Or.inl rfl | exact Or.inr rfl)) pgs_nil)))) (fun _ _ _ _ _ => pts_nil) (fun _ _ _ _ _ => (pv 4))))) pss_nil) (pss_one (ps_ret (pe_callTy (list_K (K := K) rfl) (by rfl) T.list (by decide +kernel) (pa_cons (pv 3) pa_nil)))))), ?_⟩
  obtain ⟨vP, rfl, hP⟩ : ∃ vP, vs = [vP] ∧ Dt K b vP p.D := by
    cases hA with
    | cons h1 h2 =>
      cases h2
      exact ⟨_, rfl, h1⟩
  refine r_asg (K := K) (d := p.D) (ed_var rfl hP) eb fun vp b3 h3 g3 hvp => ?_
  refine g_three hvp g3.gi fun v1 v2 v3 k1 k2 k3 => ?_
  obtain rfl := k2.strI
  refine r_if (b := b3) (c := decide (V.str p.kind = V.str "draw")) (et_test (ev_op (ev_var rfl) ev_c (rv_eq rfl))) g3.gi (fun hc h4 g4 => ?_) (fun hc h4 g4 => ?_)
  · have hk : p.kind = "draw" := by
      have := of_decide_eq_true hc
      injection this
    obtain ⟨g, bs, rfl⟩ := kind_is_draw hk
    refine r_ret (K := K) (d := intsD (Pl.draw g bs).tg) ?_ g4.gi fun v b' h' g5 hv => k v b' h' ((g3.trans g4).trans g5) hv
    exact ed_lcTg (ed_var rfl k3) hl (fun _ _ => rfl)
  · have hk : ¬ p.kind = "draw" := fun z => of_decide_eq_false hc (by rw [z])
    have e : p.bd = p.tg.map PyData.int := not_draw hk
    refine r_ret (K := K) (d := .list p.bd) (EN.ed (en_list (ed_var rfl k3))) g4.gi fun v b' h' g5 hv => ?_
    rw [e] at hv
    exact k v b' h' ((g3.trans g4).trans g5) hv

abbrev s_NB : Stmt := inClass (top 2) 0
theorem sc_NB : FnScope ["self", "at"] ["self", "at"] (defScope s_NB) := ⟨rfl, rfl, rfl, by decide +kernel, rfl, by decide +kernel, by decide +kernel⟩
/-- what stands behind the class NoBranch, at C -/
structure NBTxt (K : PySem.W.Frag) (mg : Str → Option Value) (C : Addr) : Prop where
  oex : OexC K C
  xf : XfC K C
  mC : mg "NoBranch" = some (.ref C)
  noAt : PySem.W.findIn K (.ref C) "at" = some none
  te : PySem.W.exmOne K (.ref C) (.ref C) = some true
  ini : ∃ fI fd, PySem.W.findIn K (.ref C) "__init__" = some (some (.ref fI)) ∧ PySem.W.typeIn K (.ref fI) = some (.type "function") ∧ Fun K "__init__" "NoBranch.__init__" s_NB fI fd ∧ Binds K fd ["self", "at"] []
theorem ok_NB {f C : Addr} {fd : FuncData} (F : Fun K "__init__" "NoBranch.__init__" s_NB f fd) (T : NBTxt K mg C) : FnOk P w K mg base CX0 1 f fd ["self", "at"] (spNB C) := by
  have sc := sc_NB
  refine F.ok sc (fun vs H Q E x => ?_) (fun cdv A outer s h0 vs Q E hr hs => ?_)
  · obtain ⟨a, n, rfl, _⟩ := x
    rfl
  obtain ⟨a, n, rfl, ha, k⟩ := hs
  refine ⟨_, pss_one (ps_ost (pv 0) (pv 1)), ?_⟩
  exact ⟨_, rfl, _, rfl, a, C, rfl, T.oex, T.noAt, .inl ⟨ha, fun dx h1 h2 => k dx h1 h2⟩⟩
abbrev s_places_on : Stmt := top 9
theorem sc_places_on : FnScope ["game", "start", "branches", "places", "at", "number", "place"] ["game", "start", "branches"] (defScope s_places_on) := ⟨rfl, rfl, rfl, by decide +kernel, rfl, by decide +kernel, by decide +kernel⟩
theorem has_places_on {C : Addr} (T : Bt mg) (NB : NBTxt K mg C) (D : IsDef K mg "places_on" s_places_on ["game", "start", "branches"]) (U1 : Has P w K mg base 2 "has_branch" ["place", "number"] (spHas K)) (U2 : Has P w K mg base 1 "targets_of" ["place"] (spTargets K)) :
    HasX P w K mg base 3 "places_on" ["game", "start", "branches"] (spPlaces K C) := by
  obtain ⟨f, fd, F, hm, hb⟩ := D
  obtain ⟨f_has_branch, fd_has_branch, G_has_branch, m_has_branch, k_has_branch, b_has_branch⟩ := U1
  obtain ⟨f_targets_of, fd_targets_of, G_targets_of, m_targets_of, k_targets_of, b_targets_of⟩ := U2
  obtain ⟨f_NoBranch, fd_NoBranch, i_NoBranch, t_NoBranch, F_NoBranch, b_NoBranch⟩ := NB.ini
  have G_NoBranch : FnOk P w K mg base CX0 1 f_NoBranch fd_NoBranch ["self", "at"] (spNB C) := ok_NB F_NoBranch NB
  have O_NoBranch := NB.oex
  have m_NoBranch := NB.mC
  have sc := sc_places_on
  refine ⟨f, fd, F.okX sc (fun vs H Q E x => ?_) (fun cdv A outer s h0 vs Q E hr hs => ?_), hm, F.kp, hb⟩
  · obtain ⟨b, G, x, r, _, hA, _⟩ := x
    exact hA.length
  obtain ⟨b, G, x, r, eb, hA, hW, hsm, hx, hrl, kQ, kE⟩ := hs
  refine ⟨_, (pss_cons (ps_set (i := 3) sc.nd rfl (by first | exact Or.inl rfl | exact Or.inr rfl) (pe_lst (pa_cons (pv 1) pa_nil))) (pss_cons (ps_for (passes_of rfl) rfl (pi_enumK (K := K) rfl (by rfl) T.enumerate (pa_cons (pv 2) pa_nil)) (pg_tupK (K := K) (n := 2) rfl rfl (pgs_cons (pg_name (i := 4) sc.nd rfl (by first | exact Or.inl rfl | exact Or.inr rfl)) (pgs_cons (pg_name (i := 5) sc.nd rfl (by first | exact Or.inl rfl | exact Or.inr rfl)) pgs_nil))) (pss_cons (ps_set (i := 6) sc.nd rfl (by first | exact Or.inl rfl | exact Or.inr rfl) (pe_ix (ix_listK (K := K) rfl) (pv 0) (pe_ix (ix_listK (K := K) rfl) (pv 3) (pe_un un_neg pe_int) (fun _ _ => rfl)) (fun _ _ => rfl))) (Evl.pss_cut (ps_if (pt_not (pt_val (pe_call G_has_branch (hr.mono (by decide)) rfl m_has_branch k_has_branch b_has_branch .nil pass0 (pa_cons (pv 6) (pa_cons (pv 5) pa_nil))))) (pss_one (ps_raise rfl (takes_of rfl rfl rfl rfl) (pmk_oex O_NoBranch i_NoBranch t_NoBranch G_NoBranch (hr.mono (by decide)) b_NoBranch .nil pass0 rfl m_NoBranch (pa_cons (pv 4) pa_nil)))) pss_nil) (pss_one (ps_expr (pe_appK (K := K) rfl (pv 3) (pa_cons (pe_ix (ix_listK (K := K) rfl) (pe_call G_targets_of (hr.mono (by decide)) rfl m_targets_of k_targets_of b_targets_of .nil pass0 (pa_cons (pv 6) pa_nil)) (pv 5) (fun _ _ => rfl)) pa_nil))))))) (pss_one (ps_ret (pv 3))))), ?_⟩
  obtain ⟨vG, vR, rfl, hG, hR⟩ : ∃ vG vR, vs = [vG, .int (x : Int), vR] ∧ Dt K b vG (gameD G) ∧ Dt K b vR (intsD r) := by
    cases hA with
    | cons h1 h2 =>
      cases h2 with
      | cons h3 h4 =>
        cases h4 with
        | cons h5 h6 =>
          cases h6
          exact ⟨_, _, by rw [h3.intI], h1, h5⟩
  refine q_asgL (el_lst (ea_cons (ev_var rfl) ea_nil) (by show 1 ≤ 100000; decide)) fun q h1 hq e1 h1q => ?_
  have bq : b q = none := none_of eb hq
  have g1 : Gr b h0 b h1 := Gr.stay eb e1
  obtain ⟨aG, xsG, rfl, kG1, kG2⟩ := hG.listI
  obtain ⟨aR, xs, rfl, kR1, kR2⟩ := hR.listI
  have hxs := kR2.intsI
  subst hxs
  have sqR : ∀ h, Ex b h → SqL K h aR (r.map V.int) := fun h e => sq_of (e _ _ kR1)
  refine ⟨_, rfl, aR, _, rfl, sqR h1 g1.gi, for_it walk_enum (fun i σ' h' => (∃ u v z : Option V, σ' = [some (.ref aG), some (.int (x : Int)), some (.ref aR), some (.ref q), u, v, z]) ∧ OkTo G x r i ∧ Gr b h0 b h' ∧ h' q = some (.lst ((pathF G x (r.take i)).map fun x : Nat => V.int (x : Int)))) ?_ (fun i σ' h' _ p => sqR h' p.2.2.1.gi) ?_ ?_⟩
  · refine ⟨⟨_, _, _, rfl⟩, fun j n hj => absurd hj (Nat.not_lt_zero _), g1, ?_⟩
    rw [List.take_zero]
    exact h1q
  · rintro i y σ' h2 h3 hi ⟨⟨u, v, z, rfl⟩, hok, G2, hq2⟩ ⟨t, va, vb, rfl, nt, rfl, hva, hvb⟩
    rw [List.length_map] at hi
    cases (Option.some.inj hva)
    obtain ⟨n, hn⟩ : ∃ n, r[i]? = some n := ⟨_, List.getElem?_eq_getElem hi⟩
    have hvb' : vb = .int n := by
      have z : (r.map V.int)[i]? = some vb := hvb
      rw [List.getElem?_map, hn] at z
      exact (Option.some.inj z).symm
    subst hvb'
    have G3 := G2.trans (Gr.hid (o := .tup [V.int (i : Nat), V.int n]) G2.gi nt)
    have nqt : q ≠ t := ne_of_none hq2 nt
    have hq3 : (upd h2 t (.tup [V.int (i : Nat), V.int n])) q = some (.lst ((pathF G x (r.take i)).map fun x : Nat => V.int (x : Int))) := by rw [upd_ne nqt]; exact hq2
    refine ⟨t, _, rfl, st_of upd_same, rfl, _, _, rfl, _, _, rfl, rfl, ?_⟩
    have hcl := at_lt hW hx hok (Nat.le_of_lt hi)
    generalize hcur : lastF G x (r.take i) = cur at hcl
    have hp := plAt_get hcl
    obtain ⟨l, hl⟩ := pathF_last G (r.take i) x
    rw [hcur] at hl
    obtain ⟨vp, hvp, hvD⟩ := kG2.get (show (G.map Pl.D)[cur]? = some (plAt G cur).D by rw [List.getElem?_map, hp] <;> rfl)
    have hpb := hsm.2 _ (List.mem_of_getElem? hp)
    have hq3' : (upd h2 t (.tup [V.int (i : Nat), V.int n])) q = some (.lst (l.map (fun x : Nat => V.int (x : Int)) ++ [V.int (cur : Int)])) := by
      rw [hq3, hl, List.map_append]
      rfl
    refine q_asg (v := vp) (ev_op (ev_var rfl) (ev_op (ev_var rfl) (ev_un ev_c ru_neg) (rv_ixL (sq_of hq3') (at_pre _ _))) (rv_ixL (sq_of (G3.gi _ _ kG1)) (atI_nat hvp))) fun h4 e4 => ?_
    have G4 := G3.trans (Gr.stay G3.gi e4)
    have hq4 := e4 _ _ hq3
    refine ⟨fun σ' h' => (∃ u v z : Option V, σ' = [some (.ref aG), some (.int (x : Int)), some (.ref aR), some (.ref q), some (.int (i : Nat)), some (.int n), some vp]) ∧ okB G cur n ∧ Gr b h0 b h' ∧ h' q = some (.lst ((pathF G x (r.take i)).map fun x : Nat => V.int (x : Int))), ?_, ?_⟩
    · refine s_if (H := h4) (b := !decide (0 ≤ n ∧ n < ((plAt G cur).tg.length : Int))) (EvT.mono G4.gi (et_not (et_B (ev_has (eda_cons (ed_var rfl hvD) (eda_cons (ed_int (ev_var rfl)) eda_nil)))))) (fun hc h5 e5 => ?_) (fun hc h5 e5 => ?_)
      · have hbad : ¬ okB G cur n := fun z => by
          rw [decide_eq_true (show 0 ≤ n ∧ n < ((plAt G cur).tg.length : Int) from z)] at hc
          cases hc
        exact nb_made (n := (i : Int)) (ea_cons (ev_var rfl) ea_nil) ((kE i n hn hok (by rw [hcur]; exact hbad)).up (G4.gh.trans e5))
      · have hgood : okB G cur n := by
          by_cases z : okB G cur n
          · exact z
          · rw [decide_eq_false (show ¬ (0 ≤ n ∧ n < ((plAt G cur).tg.length : Int)) from z)] at hc
            cases hc
        exact ⟨⟨none, none, none, rfl⟩, hgood, G4.trans (Gr.stay G4.gi e5), e5 _ _ hq4⟩
    · rintro σ' h5 ⟨⟨_, _, _, rfl⟩, hgood, G5, hq5⟩
      have hst := stepT_lt hW hcl hgood
      have hlt : n.toNat < (plAt G cur).tg.length := by
        have := hgood.1
        have := hgood.2
        omega
      refine s_app (H := h5) hq5 (ev_var rfl) (Ev.mono G5.gi (ev_int (ed_ixL (ed_targets (eda_cons (ed_var rfl hvD) eda_nil) hpb) (ev_var rfl) (at_ints (j := n.toNat) (by have := hgood.1; omega) hlt)))) (by rw [List.length_map, pathF_len, List.length_take]; omega) fun h6 e6 => ?_
      refine ⟨⟨_, _, _, rfl⟩, fun j m hj hm => ?_, (G5.trans (Gr.stay G5.gi e6)).mut hq bq, ?_⟩
      · rcases Nat.lt_or_ge j i with z | z
        · exact hok j m z hm
        · obtain rfl : j = i := by omega
          rw [hn] at hm
          cases hm
          rw [hcur]
          exact hgood
      · rw [upd_same, take_more1 hn, pathF_app, List.map_append, hcur, ← hst.2]
        rfl
  · rintro σ' h' ⟨⟨u, v, z, rfl⟩, hok, G2, hq2⟩
    rw [List.length_map] at hok hq2
    rw [List.take_length] at hq2
    exact ⟨_, rfl, kQ hok _ (upd b q (.lst ((pathF G x r).map fun x : Nat => V.int (x : Int)))) h' (G2.tell hq bq hq2) (Dt.list upd_same (DtA.nats _))⟩

abbrev s_targets : Stmt := top 20
theorem sc_targets : FnScope ["place", "chance", "target"] ["place"] (defScope s_targets) := ⟨rfl, rfl, rfl, by decide +kernel, rfl, by decide +kernel, by decide +kernel⟩
theorem has_targets (T : Bt mg) (D : IsDef K mg "_law_targets" s_targets ["place"]) : Has P w K mg base 1 "_law_targets" ["place"] (spTargets K) := by
  obtain ⟨f, fd, F, hm, hb⟩ := D
  have sc := sc_targets
  refine ⟨f, fd, F.ok sc (fun vs H Q E x => ?_) (fun cdv A outer s h0 vs Q E hr hs => ?_), hm, F.kp, hb⟩
  · obtain ⟨b, p, _, hA, _⟩ := x
    exact hA.length
  obtain ⟨b, p, eb, hA, hl, k⟩ := hs
  refine ⟨_, (pss_cons (ps_if (pt_cmpR op_eq (pe_ix (ix_tupK (K := K) rfl) (pv 0) pe_int (fun _ _ => rfl)) pe_str (nomark _)) (pss_one (ps_ret (pe_lc (own := [("chance", 1), ("target", 2)]) (tt := tYes) rfl sc.nd (pi_listK (K := K) rfl (pe_ix (ix_tupK (K := K) rfl) (pv 0) pe_int (fun _ _ => rfl))) (blkOk_by (N := ["place", "chance", "target"]) (sc := defScope s_targets) (by decide +kernel)) (fun _ _ _ _ _ => (pg_tupK (K := K) (n := 2) rfl rfl (pgs_cons (pg_name (i := 1) sc.nd rfl (by first | exact Or.inl rfl | exact Or.inr rfl)) (pgs_cons (pg_name (i := 2) sc.nd rfl (by first | exact Or.inl rfl | exact Or.inr rfl)) pgs_nil)))) (fun _ _ _ _ _ => pts_nil) (fun _ _ _ _ _ => (pv 2))))) pss_nil) (pss_one (ps_ret (pe_callTy (list_K (K := K) rfl) (by rfl) T.list (by decide +kernel) (pa_cons (pe_ix (ix_tupK (K := K) rfl) (pv 0) pe_int (fun _ _ => rfl)) pa_nil))))), ?_⟩
  obtain ⟨vP, rfl, hP⟩ : ∃ vP, vs = [vP] ∧ Dt K b vP p.D := by
    cases hA with
    | cons h1 h2 =>
      cases h2
      exact ⟨_, rfl, h1⟩
  refine r_if (b := b) (c := decide (V.str p.kind = V.str "draw")) (et_test (ev_op (ev_str (ed_ixT (ed_var rfl hP) ev_c (by rfl))) ev_c (rv_eq rfl))) eb (fun hc h4 g4 => ?_) (fun hc h4 g4 => ?_)
  · have hk : p.kind = "draw" := by
      have := of_decide_eq_true hc
      injection this
    obtain ⟨g, bs, rfl⟩ := kind_is_draw hk
    refine r_ret (K := K) (d := intsD (Pl.draw g bs).tg) ?_ g4.gi fun v b' h' g5 hv => k v b' h' (g4.trans g5) hv
    exact ed_lcTg (ed_ixT (ed_var rfl hP) ev_c (by rfl)) hl (fun _ _ => rfl)
  · have hk : ¬ p.kind = "draw" := fun z => of_decide_eq_false hc (by rw [z])
    have e : p.bd = p.tg.map PyData.int := not_draw hk
    refine r_ret (K := K) (d := .list p.bd) (EN.ed (en_list (ed_ixT (ed_var rfl hP) ev_c (by rfl)))) g4.gi fun v b' h' g5 hv => ?_
    rw [e] at hv
    exact k v b' h' (g4.trans g5) hv

abbrev s_places : Stmt := top 24
theorem sc_places : FnScope ["game", "start", "branches", "found", "branch"] ["game", "start", "branches"] (defScope s_places) := ⟨rfl, rfl, rfl, by decide +kernel, rfl, by decide +kernel, by decide +kernel⟩
theorem has_places (T : Bt mg) (D : IsDef K mg "_law_places" s_places ["game", "start", "branches"]) (U : Has P w K mg base 1 "_law_targets" ["place"] (spTargets K)) : Has P w K mg base 2 "_law_places" ["game", "start", "branches"] (spPath K) := by
  obtain ⟨f, fd, F, hm, hb⟩ := D
  obtain ⟨f_targets, fd_targets, G_targets, m_targets, k_targets, b_targets⟩ := U
  have sc := sc_places
  refine ⟨f, fd, F.ok sc (fun vs H Q E x => ?_) (fun cdv A outer s h0 vs Q E hr hs => ?_), hm, F.kp, hb⟩
  · obtain ⟨b, G, x, r, _, hA, _⟩ := x
    exact hA.length
  obtain ⟨b, G, x, r, eb, hA, hW, hsm, hx, hrl, hok, kQ⟩ := hs
  refine ⟨_, (pss_cons (ps_set (i := 3) sc.nd rfl (by first | exact Or.inl rfl | exact Or.inr rfl) (pe_lst (pa_cons (pv 1) pa_nil))) (pss_cons (ps_for PassesOwn.never rfl (pi_listK (K := K) rfl (pv 2)) (pg_name (i := 4) sc.nd rfl (by first | exact Or.inl rfl | exact Or.inr rfl)) (pss_one (ps_expr (pe_appK (K := K) rfl (pv 3) (pa_cons (pe_ix (ix_listK (K := K) rfl) (pe_call G_targets (hr.mono (by decide)) rfl m_targets k_targets b_targets .nil pass0 (pa_cons (pe_ix (ix_listK (K := K) rfl) (pv 0) (pe_ix (ix_listK (K := K) rfl) (pv 3) (pe_un un_neg pe_int) (fun _ _ => rfl)) (fun _ _ => rfl)) pa_nil)) (pv 4) (fun _ _ => rfl)) pa_nil))))) (pss_one (ps_ret (pv 3))))), ?_⟩
  obtain ⟨vG, vR, rfl, hG, hR⟩ : ∃ vG vR, vs = [vG, .int (x : Int), vR] ∧ Dt K b vG (gameD G) ∧ Dt K b vR (intsD r) := by
    cases hA with
    | cons h1 h2 =>
      cases h2 with
      | cons h3 h4 =>
        cases h4 with
        | cons h5 h6 =>
          cases h6
          exact ⟨_, _, by rw [h3.intI], h1, h5⟩
  refine q_asgL (el_lst (ea_cons (ev_var rfl) ea_nil) (by show 1 ≤ 100000; decide)) fun q h1 hq e1 h1q => ?_
  have bq : b q = none := none_of eb hq
  have g1 : Gr b h0 b h1 := Gr.stay eb e1
  obtain ⟨aG, xsG, rfl, kG1, kG2⟩ := hG.listI
  obtain ⟨aR, xs, rfl, kR1, kR2⟩ := hR.listI
  have hxs := kR2.intsI
  subst hxs
  have sqR : ∀ h, Ex b h → SqL K h aR (r.map V.int) := fun h e => sq_of (e _ _ kR1)
  refine ⟨_, rfl, aR, rfl, ⟨_, sqR h1 g1.gi⟩, for_list (xs := r.map V.int) (fun i σ' h' => (∃ u : Option V, σ' = [some (.ref aG), some (.int (x : Int)), some (.ref aR), some (.ref q), u]) ∧ Gr b h0 b h' ∧ h' q = some (.lst ((pathF G x (r.take i)).map fun x : Nat => V.int (x : Int)))) ?_ (fun i σ' h' _ p => sqR h' p.2.1.gi) ?_ ?_⟩
  · refine ⟨⟨_, rfl⟩, g1, ?_⟩
    rw [List.take_zero]
    exact h1q
  · rintro i y σ' h2 hi ⟨⟨u, rfl⟩, G2, hq2⟩
    have hil : i < r.length := by
      have := (List.getElem?_eq_some_iff.mp hi).1
      rwa [List.length_map] at this
    obtain ⟨n, hn⟩ : ∃ n, r[i]? = some n := ⟨_, List.getElem?_eq_getElem hil⟩
    have hy : y = .int n := by
      rw [List.getElem?_map, hn] at hi
      exact (Option.some.inj hi).symm
    subst hy
    have hoki : OkTo G x r i := fun j m hj hm => hok j m (by omega) hm
    have hcl := at_lt hW hx hoki (Nat.le_of_lt hil)
    have hgood := hok i n hil hn
    generalize hcur : lastF G x (r.take i) = cur at hcl hgood
    have hp := plAt_get hcl
    obtain ⟨l, hl⟩ := pathF_last G (r.take i) x
    rw [hcur] at hl
    obtain ⟨vp, hvp, hvD⟩ := kG2.get (show (G.map Pl.D)[cur]? = some (plAt G cur).D by rw [List.getElem?_map, hp] <;> rfl)
    have hpb := hsm.2 _ (List.mem_of_getElem? hp)
    have hq3 : h2 q = some (.lst (l.map (fun x : Nat => V.int (x : Int)) ++ [V.int (cur : Int)])) := by
      rw [hq2, hl, List.map_append]
      rfl
    have hst := stepT_lt hW hcl hgood
    have hlt : n.toNat < (plAt G cur).tg.length := by
      have := hgood.1
      have := hgood.2
      omega
    refine s_app (H := h2) hq2 (ev_var rfl) (ev_int (ed_ixL (ed_targets (eda_cons (ed_val (hvD.up G2.gi) (ev_op (ev_var rfl) (ev_op (ev_var rfl) (ev_un ev_c ru_neg) (rv_ixL (sq_of hq3) (at_pre _ _))) (rv_ixL (sq_of (G2.gi _ _ kG1)) (atI_nat hvp)))) eda_nil) hpb) (ev_var rfl) (at_ints (j := n.toNat) (by have := hgood.1; omega) hlt))) (by rw [List.length_map, pathF_len, List.length_take]; omega) fun h6 e6 => ?_
    refine ⟨⟨_, rfl⟩, (G2.trans (Gr.stay G2.gi e6)).mut hq bq, ?_⟩
    rw [upd_same, take_more1 hn, pathF_app, List.map_append, hcur, ← hst.2]
    rfl
  · rintro σ' h' ⟨⟨u, rfl⟩, G2, hq2⟩
    rw [List.length_map, List.take_length] at hq2
    exact ⟨_, rfl, kQ _ (upd b q (.lst ((pathF G x r).map fun x : Nat => V.int (x : Int)))) h' (G2.tell hq bq hq2) (Dt.list upd_same (DtA.nats _))⟩

abbrev s_told_way : Stmt := top 25
theorem sc_told_way : FnScope ["game", "start", "ours", "theirs", "draws", "draw", "found", "here", "targets", "branch"] ["game", "start", "ours", "theirs", "draws"] (defScope s_told_way) := ⟨rfl, rfl, rfl, by decide +kernel, rfl, by decide +kernel, by decide +kernel⟩
theorem has_told_way (T : Bt mg) (D : IsDef K mg "_law_told_way" s_told_way ["game", "start", "ours", "theirs", "draws"]) (U : Has P w K mg base 1 "_law_targets" ["place"] (spTargets K)) : Has P w K mg base 2 "_law_told_way" ["game", "start", "ours", "theirs", "draws"] (spToldWay K) := by
  obtain ⟨f, fd, F, hm, hb⟩ := D
  obtain ⟨f_targets, fd_targets, G_targets, m_targets, k_targets, b_targets⟩ := U
  have sc := sc_told_way
  refine ⟨f, fd, F.ok sc (fun vs H Q E x => ?_) (fun cdv A outer s h0 vs Q E hr hs => ?_), hm, F.kp, hb⟩
  · obtain ⟨b, G, x, So, St, ds, _, hA, _⟩ := x
    exact hA.length
  obtain ⟨b, G, x, So, St, ds, eb, hA, hWG, hx, hSo, hSt, hd, hdl, kQ⟩ := hs
  have hW := wfT_of hWG
  have hsm := smG_of (wf_okG hWG)
  refine ⟨_, (pss_cons (ps_par rfl sc.nd (i := 6) (j := 7) rfl rfl (by decide) rfl rfl (pa_cons (pe_lst pa_nil) (pa_cons (pv 1) pa_nil)) (by rfl)) (pss_cons (ps_for PassesOwn.never rfl (pi_listK (K := K) rfl (pv 4)) (pg_name (i := 5) sc.nd rfl (by first | exact Or.inl rfl | exact Or.inr rfl)) (pss_cons (ps_set (i := 8) sc.nd rfl (by first | exact Or.inl rfl | exact Or.inr rfl) (pe_call G_targets (hr.mono (by decide)) rfl m_targets k_targets b_targets .nil pass0 (pa_cons (pe_ix (ix_listK (K := K) rfl) (pv 0) (pv 7) (fun _ _ => rfl)) pa_nil))) (pss_cons (ps_set (i := 9) sc.nd rfl (by first | exact Or.inl rfl | exact Or.inr rfl) (pe_op op_mod (pe_callTy cr_int1 (by rfl) T.int (by decide +kernel) (pa_cons (pv 5) pa_nil)) (pe_callB (len_K (K := K) rfl) (by rfl) T.len PySem.boot_len (pa_cons (pv 8) pa_nil)))) (Evl.pss_cut (ps_if (PW.pt (pw_and (pt_cmpR op_ne (pe_ix (ix_tupK (K := K) rfl) (pe_ix (ix_listK (K := K) rfl) (pv 0) (pv 7) (fun _ _ => rfl)) pe_int (fun _ _ => rfl)) pe_str (nomark _)) (pw_and1 (pt_cmpR op_gt (pe_op op_mod (pe_callTy cr_int1 (by rfl) T.int (by decide +kernel) (pa_cons (pv 5) pa_nil)) pe_int) pe_int (nomark _))))) (pss_one (ps_set (i := 9) sc.nd rfl (by first | exact Or.inl rfl | exact Or.inr rfl) (pe_ix (ix_listK (K := K) rfl) (pe_ix (ix_listK (K := K) rfl) (pe_lst (pa_cons (pv 2) (pa_cons (pv 3) pa_nil))) (pe_callTy cr_int1 (by rfl) T.int (by decide +kernel) (pa_cons (pe_cmpR op_eq (pe_ix (ix_tupK (K := K) rfl) (pe_ix (ix_listK (K := K) rfl) (pv 0) (pv 7) (fun _ _ => rfl)) pe_int (fun _ _ => rfl)) pe_str (nomark _)) pa_nil)) (fun _ _ => rfl)) (pv 7) (fun _ _ => rfl)))) pss_nil) (pss_cons (ps_expr (pe_appK (K := K) rfl (pv 6) (pa_cons (pv 9) pa_nil))) (pss_one (ps_set (i := 7) sc.nd rfl (by first | exact Or.inl rfl | exact Or.inr rfl) (pe_ix (ix_listK (K := K) rfl) (pv 8) (pv 9) (fun _ _ => rfl))))))))) (pss_one (ps_ret (pv 6))))), ?_⟩
  obtain ⟨vG, vO, vT, vD, rfl, hG, hO, hT, hDd⟩ : ∃ vG vO vT vD, vs = [vG, .int (x : Int), vO, vT, vD] ∧ Dt K b vG (gameD G) ∧ Dt K b vO (stD So) ∧ Dt K b vT (stD St) ∧ Dt K b vD (.list (ds.map PyData.int)) := by
    cases hA with
    | cons h1 hA =>
      cases hA with
      | cons h2 hA =>
        cases hA with
        | cons h3 hA =>
          cases hA with
          | cons h4 hA =>
            cases hA with
            | cons h5 hA =>
              cases hA
              exact ⟨_, _, _, _, by rw [h2.intI], h1, h3, h4, h5⟩
  refine ⟨Nat.zero_le _, fun q hq => ?_⟩
  refine ⟨_, rfl, _, _, rfl, ?_⟩
  have bq : b q = none := none_of eb hq
  have g1 : Gr b h0 b (upd h0 q (.lst [])) := Gr.hid eb hq
  obtain ⟨aD, xs, rfl, kD1, kD2⟩ := hDd.listI
  have hxs := kD2.intsI
  subst hxs
  have sqD : ∀ h, Ex b h → SqL K h aD (ds.map V.int) := fun h e => sq_of (e _ _ kD1)
  refine ⟨_, rfl, aD, rfl, ⟨_, sqD _ g1.gi⟩, for_list (xs := ds.map V.int) (fun i σ' h' => ∃ (r : List Int) (u v w : Option V) (b' : Hp), σ' = [some vG, some (.int (x : Int)), some vO, some vT, some (.ref aD), u, some (.ref q), some (.int ((lastF G x r : Nat) : Int)), v, w] ∧ r.length = i ∧ OkTo G x r r.length ∧ Gr b h0 b' h' ∧ b' q = none ∧ h' q = some (.lst (r.map V.int))) ?_ (fun i σ' h' _ p => ?_) ?_ ?_⟩
  · exact ⟨[], none, none, none, b, rfl, rfl, (fun j n hj => absurd hj (Nat.not_lt_zero _)), g1, bq, upd_same⟩
  · obtain ⟨r, u, v, w, b', _, _, _, g, _⟩ := p
    exact sqD h' (g.gb.trans g.gi)
  · rintro i y σ' h2 hi ⟨r, u, v, w, b2, rfl, hrl, hok, G2, nb2, hq2⟩
    have hil : i < ds.length := by
      have := (List.getElem?_eq_some_iff.mp hi).1
      rwa [List.length_map] at this
    have hy : y = .int (ds.getD i 0) := by
      rw [List.getElem?_map, List.getElem?_eq_getElem hil] at hi
      rw [List.getD_eq_getElem?_getD, List.getElem?_eq_getElem hil]
      exact (Option.some.inj hi).symm
    subst hy
    generalize ds.getD i 0 = dd
    have hcl : lastF G x r < G.length := lastF_lt hW r x hx hok
    generalize hcur : lastF G x r = cur at hcl
    have hp := plAt_get hcl
    have hmem := List.mem_of_getElem? hp
    have hpb := hsm.2 _ hmem
    have hp1 := (wf_bd (hWG.2.2 _ hmem)).1
    have htl : 0 < (plAt G cur).tg.length := by rw [tg_len]; exact hp1
    have hG2 := hG.up G2.gb
    refine r_set (K := K) (ed_targets (eda_cons (ed_ixL (ed_var rfl hG2) (ev_var rfl) (game_at hp)) eda_nil) hpb) G2.gi fun vt b3 h3 g3 hvt => ?_
    have G3 := G2.trans g3
    have hq3 := g3.gh _ _ hq2
    have nb3 : b3 q = none := g3.gf q nb2 (by rw [hq2]; intro z; cases z)
    refine r_sc (ev_op (ev_int1 (ev_var rfl)) (ev_lenL (ed_var rfl hvt)) (rv_I (by rw [List.length_map]; omega))) G3.gi fun h4 g4 => ?_
    have G4 := G3.trans g4
    have hG4 : Dt K b3 vG (gameD G) := hG.up G3.gb
    have hpl : ∀ {σ : L2.St}, σ[0]? = some (some vG) → σ[7]? = some (some (.int (cur : Int))) → Ev (tOp (rIxT K) (tOp (rIxL K) (tVar 0) (tVar 7)) (tC (V.int 1))) σ b3 (.str (plAt G cur).kind) := fun {σ} s1 s2 =>
      ev_str (ed_ixT (ed_ixL (ed_var s1 hG4) (ev_var s2) (game_at hp)) ev_c (by rfl))
    refine ⟨fun σ' h' => ∃ n : Int, σ' = [some vG, some (.int (x : Int)), some vO, some vT, some (.ref aD), some (.int dd), some (.ref q), some (.int (cur : Int)), some vt, some (.int n)] ∧ okB G cur n ∧ ∃ b5, Gr b h0 b5 h' ∧ Ex b3 b5 ∧ b5 q = none ∧ h' q = some (.lst (r.map V.int)), ?_, ?_⟩
    · refine r_if1 (b := b3) (et_and (et_test (ev_op (hpl rfl rfl) ev_c (rv_ne rfl))) fun _ => et_test (ev_op (ev_op (ev_int1 (ev_var rfl)) ev_c (rv_I (by decide))) ev_c rv_I0)) G4.gi (fun hc h5 g5 => ?_) (fun _ h5 g5 => ?_)
      · have hk : (plAt G cur).kind ≠ "draw" := fun z => by
          rw [z] at hc
          simp at hc
        have hside : ∃ S : List (Option Nat), ∃ j : Nat, L2.atI [stD So, stD St] (if decide (V.str (plAt G cur).kind = V.str "theirs") = true then 1 else 0) = some (stD S) ∧ L2.atI (S.map svD) (cur : Int) = some (.int (j : Int)) ∧ j < (plAt G cur).bd.length := by
          by_cases hkt : (plAt G cur).kind = "theirs"
          · obtain ⟨j, hj, hjl⟩ := (hSt.2 cur _ hp).1 hkt
            refine ⟨St, j, ?_, atI_nat (by rw [List.getElem?_map, hj] <;> rfl), hjl⟩
            rw [if_pos (decide_eq_true (by rw [hkt]))]
            rfl
          · have hko : (plAt G cur).kind = "ours" := kind_side hk hkt
            obtain ⟨j, hj, hjl⟩ := (hSo.2 cur _ hp).1 hko
            refine ⟨So, j, ?_, atI_nat (by rw [List.getElem?_map, hj] <;> rfl), hjl⟩
            rw [if_neg (by intro z; have z' := of_decide_eq_true z; injection z' with z'; exact hkt z')]
            rfl
        obtain ⟨S, j, h1, h2', h3'⟩ := hside
        rw [stD_eq S] at h1
        refine r_set1 (K := K) (ed_ixL (ed_ixL (ds := [stD So, stD St]) (en_lst (eda_cons (ed_var rfl (hO.up G3.gb)) (eda_cons (ed_var rfl (hT.up G3.gb)) eda_nil)) (by show 2 ≤ 100000; decide)).ed (ev_int1b (ev_op (hpl rfl rfl) ev_c (rv_eq rfl))) h1) (ev_var rfl) h2') (G4.trans g5).gi fun v b6 h6 g6 hv => ?_
        obtain rfl := hv.intI
        have hq5 := g5.gh _ _ (g4.gh _ _ hq3)
        exact ⟨(j : Int), rfl, ⟨by omega, by rw [tg_len]; omega⟩, b6, ((G4.trans g5).trans g6), g6.gb, g6.gf q nb3 (by rw [hq5]; intro z; cases z), g6.gh _ _ hq5⟩
      · refine ⟨dd % (((plAt G cur).tg.map PyData.int).length : Int), rfl, ?_, b3, G4.trans g5, Ex.refl _, nb3, g5.gh _ _ (g4.gh _ _ hq3)⟩
        rw [List.length_map]
        exact ⟨Int.emod_nonneg _ (by omega), Int.emod_lt_of_pos _ (by omega)⟩
    · rintro σ' h5 ⟨n, rfl, hgood, b5, G5, e35, nb5, hq5⟩
      have hst := stepT_lt hW hcl hgood
      have hlt : n.toNat < (plAt G cur).tg.length := by
        have := hgood.1
        have := hgood.2
        omega
      refine q_app (H := h5) hq5 (ev_var rfl) (ev_var rfl) (by rw [List.length_map]; omega) fun h6 e6 => ?_
      have G6 : Gr b h0 b5 (upd h6 q (.lst (r.map V.int ++ [V.int n]))) := (G5.trans (Gr.stay G5.gi e6)).mut hq nb5
      refine s_asg (H := upd h6 q (.lst (r.map V.int ++ [V.int n]))) ((ev_ixI n.toNat (ed_var rfl (hvt.up e35)) (ev_var rfl) (by have := hgood.1; omega) hlt).mono G6.gi) fun h7 e7 => ?_
      refine ⟨r ++ [n], some (.int dd), some vt, some (.int n), b5, ?_, by rw [List.length_append, hrl] <;> rfl, ?_, G6.trans (Gr.stay G6.gi e7), nb5, ?_⟩
      · rw [lastF_app, hcur, hst.2]
        rfl
      · intro j m hj hm
        rw [List.length_append, List.length_singleton] at hj
        rcases Nat.lt_or_ge j r.length with z | z
        · rw [List.getElem?_append_left z] at hm
          rw [List.take_append_of_le_length (Nat.le_of_lt z)]
          exact hok j m z hm
        · obtain rfl : j = r.length := by omega
          rw [List.getElem?_append_right (Nat.le_refl _), Nat.sub_self] at hm
          cases hm
          rw [List.take_append_of_le_length (Nat.le_refl _), List.take_length, hcur]
          exact hgood
      · rw [e7 _ _ upd_same, List.map_append]
        rfl
  · rintro σ' h' ⟨r, u, v, w, b', rfl, hrl, hok, G2, nb2, hq2⟩
    rw [List.length_map] at hrl
    exact ⟨_, rfl, kQ _ (upd b' q (.lst (r.map V.int))) h' r (G2.tell hq nb2 hq2) hrl hok (Dt.list upd_same (DtA.ints r))⟩

abbrev s_follows : Stmt := top 10
theorem sc_follows : FnScope ["game", "start", "branches", "side", "strategy", "places", "x", "number"] ["game", "start", "branches", "side", "strategy"] (defScope s_follows) := ⟨rfl, rfl, rfl, by decide +kernel, rfl, by decide +kernel, by decide +kernel⟩
theorem has_follows {C : Addr} (T : Bt mg) (D : IsDef0 K mg "follows" s_follows) (U : HasX P w K mg base 3 "places_on" ["game", "start", "branches"] (spPlaces K C)) : HasXK P w K mg base 4 "follows" ["game", "start", "branches", "side", "strategy"] ["side", "strategy"] 3 2 (spFollows K C) := by
  obtain ⟨f, fd, F, hm⟩ := D
  obtain ⟨f_places_on, fd_places_on, G_places_on, m_places_on, k_places_on, b_places_on⟩ := U
  have sc := sc_follows
  refine ⟨f, fd, F.okX sc (fun vs H Q E x => ?_) (fun cdv A outer s h0 vs Q E hr hs => ?_), hm, F.kp, kb_of F (by decide) fun _ _ _ _ _ _ us ws hu hw => match us, ws, hu, hw with | [_, _, _], [_, _], _, _ => rfl⟩
  · obtain ⟨b, G, x, r, y, S, _, hA, _⟩ := x
    exact hA.length
  obtain ⟨b, G, x, r, y, S, eb, hA, hW, hsm, hx, hrl, hS, kQ, kE⟩ := hs
  refine ⟨_, (pss_cons (ps_set (i := 5) sc.nd rfl (by first | exact Or.inl rfl | exact Or.inr rfl) (pe_call G_places_on (hr.mono (by decide)) rfl m_places_on k_places_on b_places_on .nil (by exact passes_call (takes_of (E := E) rfl rfl rfl rfl) (fun _ _ _ _ h => h)) (pa_cons (pv 0) (pa_cons (pv 1) (pa_cons (pv 2) pa_nil))))) (pss_one (ps_ret (pe_callB (all_K (K := K) rfl rfl) (by rfl) T.all (by decide +kernel) (pa_cons (pe_lc (own := [("x", 6), ("number", 7)]) (tt := _) rfl sc.nd (pi_zipK (K := K) rfl (by rfl) T.zip (pa_cons (pv 5) (pa_cons (pv 2) pa_nil))) (blkOk_by (N := ["game", "start", "branches", "side", "strategy", "places", "x", "number"]) (sc := defScope s_follows) (by decide +kernel)) (fun _ _ _ _ _ => (pg_tupK (K := K) (n := 2) rfl rfl (pgs_cons (pg_name (i := 6) sc.nd rfl (by first | exact Or.inl rfl | exact Or.inr rfl)) (pgs_cons (pg_name (i := 7) sc.nd rfl (by first | exact Or.inl rfl | exact Or.inr rfl)) pgs_nil)))) (fun _ _ _ _ _ => (pts_one (pt_cmpR op_eq (pe_ix (ix_tupK (K := K) rfl) (pe_ix (ix_listK (K := K) rfl) (pv 0) (pv 6) (fun _ _ => rfl)) pe_int (fun _ _ => rfl)) (pv 3) (nomark _)))) (fun _ _ _ _ _ => (pe_cmpR op_eq (pv 7) (pe_ix (ix_listK (K := K) rfl) (pv 4) (pv 6) (fun _ _ => rfl)) (nomark _)))) pa_nil))))), ?_⟩
  obtain ⟨vG, vR, vS, rfl, hG, hR, hSd⟩ : ∃ vG vR vS, vs = [vG, .int (x : Int), vR, .str y, vS] ∧ Dt K b vG (gameD G) ∧ Dt K b vR (intsD r) ∧ Dt K b vS (stD S) := by
    cases hA with
    | cons h1 hA =>
      cases hA with
      | cons h2 hA =>
        cases hA with
        | cons h3 hA =>
          cases hA with
          | cons h4 hA =>
            cases hA with
            | cons h5 hA =>
              cases hA
              exact ⟨_, _, _, by rw [h2.intI, h4.strI], h1, h3, h5⟩
  refine r_call (K := K) (eda_cons (ed_var rfl hG) (eda_cons (ed_int (ev_var rfl)) (eda_cons (ed_var rfl hR) eda_nil))) eb fun us b1 h1 g1 hA1 => ?_
  refine ⟨b1, G, x, r, g1.gi, hA1, hW, hsm, hx, hrl, fun hok v b2 h2 g2 hv => ?_, fun j n hj ho hb => (kE j n hj ho hb).up g1.gh⟩
  have G2 := g1.trans g2
  have hG2 := hG.up G2.gb
  have hR2 := hR.up G2.gb
  have hS2 : Dt K b2 vS (.list (S.map svD)) := by
    have := hSd.up G2.gb
    rwa [stD_eq] at this
  have hfin : folF G y S x r = ((((List.range r.length).filter (fK G y x r)).map (eK G S x r)).all id) := (all_filter _ _ _).symm
  have kQ' := kQ hok
  rw [hfin] at kQ'
  refine Evl.s_ret (H := h2) (Ev.mono G2.gi (ev_all (K := K) (bs := ((List.range r.length).filter (fK G y x r)).map (eK G S x r)) ?_)) fun h3 e3 => kQ' h3 (G2.gh.trans e3)
  have e1 : givenD r.length (fK G y x r) (fun k => PyData.bool (eK G S x r k)) = (((List.range r.length).filter (fK G y x r)).map (eK G S x r)).map PyData.bool := by
    unfold givenD
    rw [List.map_map]
    rfl
  rw [← e1]
  refine EN.ed ?_
  refine en_lcZ (ds := (pathF G x r).map fun x : Nat => PyData.int (x : Int)) (es := r.map PyData.int) ?_ ?_ (by rw [List.length_map, List.length_map, pathF_len]; omega) (by omega) _ _ (fun _ _ => rfl) fun k d1 d2 v1 v2 b3 e3 hd1 hd2 q1 q2 => ?_
  · exact ed_var rfl hv
  · exact ed_var rfl hR2
  have hkl : k < r.length := by
    have := (List.getElem?_eq_some_iff.mp hd2).1
    rwa [List.length_map] at this
  have hok' : OkTo G x r k := fun j m hj hm => hok j m (by omega) hm
  have hcl := at_lt hW hx hok' (Nat.le_of_lt hkl)
  have hp := plAt_get hcl
  rw [List.getElem?_map, pathF_get G r x k (Nat.le_of_lt hkl)] at hd1
  rw [List.getElem?_map, List.getElem?_eq_getElem hkl] at hd2
  cases hd1
  cases hd2
  obtain rfl := q1.intI
  obtain rfl := q2.intI
  refine ⟨et_test (ev_op (ev_str (ed_ixT (ed_ixL (ed_var rfl (hG2.up e3)) (ev_var rfl) (game_at hp)) ev_c (by rfl))) (ev_var rfl) (rv_eq rfl)), fun hf => ?_⟩
  have hky : (plAt G (lastF G x (r.take k))).kind = y := by
    have := of_decide_eq_true hf
    injection this
  obtain ⟨j, hj, hjl⟩ := (hS.2 _ _ hp).1 hky
  have e5 : eK G S x r k = decide (V.int r[k] = V.int (j : Int)) := by
    unfold eK
    rw [List.getD_eq_getElem?_getD, List.getElem?_eq_getElem hkl, List.getD_eq_getElem?_getD, hj]
    rfl
  rw [e5]
  exact ed_bool (ev_op (ev_var rfl) (ev_int (ed_ixL (ed_var rfl (hS2.up e3)) (ev_var rfl) (atI_nat (by rw [List.getElem?_map, hj] <;> rfl)))) (rv_eq rfl))
abbrev s_refused : Stmt := top 26
theorem sc_refused : FnScope ["game", "start", "branches", "strategy", "e"] ["game", "start", "branches", "strategy"] (defScope s_refused) := ⟨rfl, rfl, rfl, by decide +kernel, rfl, by decide +kernel, by decide +kernel⟩
theorem has_refused {C : Addr} (NB : NBTxt K mg C) (D : IsDef K mg "_law_refused" s_refused ["game", "start", "branches", "strategy"]) (U : HasXK P w K mg base 4 "follows" ["game", "start", "branches", "side", "strategy"] ["side", "strategy"] 3 2 (spFollows K C)) : Has P w K mg base 5 "_law_refused" ["game", "start", "branches", "strategy"] (spRefused K) := by
  obtain ⟨f, fd, F, hm, hb⟩ := D
  obtain ⟨f_follows, fd_follows, G_follows, m_follows, k_follows, kb_follows⟩ := U
  have m_NoBranch := NB.mC
  have sc := sc_refused
  refine ⟨f, fd, F.ok sc (fun vs H Q E x => ?_) (fun cdv A outer s h0 vs Q E hr hs => ?_), hm, F.kp, hb⟩
  · obtain ⟨b, G, x, r, S, _, hA, _⟩ := x
    exact hA.length
  obtain ⟨b, G, x, r, S, eb, hA, hW, hsm, hx, hrl, hS, kQ, kB⟩ := hs
  refine ⟨_, (pss_cons (ps_try_as (i := 4) (tb := fun W => tDrop (tCallKS (spFollows K C) (gK 3 2) (WE W) (tCons (tVar 0) (tCons (tVar 1) (tCons (tVar 2) tNil))) (tCons (tC (V.str "ours")) (tCons (tVar 3) tNil)))) (ts := fun a cls d => tRet (tXf a cls d C "at" (tVar 4))) (Wout := fun _ _ _ _ => False) rfl rfl sc.nd rfl rfl ⟨rfl, by decide, Or.inl m_NoBranch⟩ takes0 (fun W pn xe tk _ => (pss_one (ps_expr (pe_callKS G_follows (hr.mono (by decide)) rfl m_follows k_follows kb_follows (fun σ => passAt tk σ) (pa_cons (pv 0) (pa_cons (pv 1) (pa_cons (pv 2) pa_nil))) (pk_cons pe_str (pk_cons (pv 3) pk_nil)))))) (fun a oe cls d pn hz hf => (pss_one (ps_ret (pe_xf NB.xf NB.noAt hz hf (pv 4)))))) (pss_one (ps_ret pe_non))), ?_⟩
  obtain ⟨vG, vR, vS, rfl, hG, hR, hSd⟩ : ∃ vG vR vS, vs = [vG, .int (x : Int), vR, vS] ∧ Dt K b vG (gameD G) ∧ Dt K b vR (intsD r) ∧ Dt K b vS (stD S) := by
    cases hA with
    | cons h1 hA =>
      cases hA with
      | cons h2 hA =>
        cases hA with
        | cons h3 hA =>
          cases hA with
          | cons h4 hA =>
            cases hA
            exact ⟨_, _, _, by rw [h2.intI], h1, h3, h4⟩
  refine ⟨_, rfl, _, rfl, _, rfl, _, rfl, b, G, x, r, "ours", S, eb, DtA.cons hG (DtA.cons (Dt.int _) (DtA.cons hR (DtA.cons (Dt.str _) (DtA.one hSd)))), hW, hsm, hx, hrl, hS, fun hok h1 e1 => ?_, fun j n hj ho hb d h1 e1 hd hd1 => ?_⟩
  · exact kQ hok h1 e1
  · refine ⟨true, NB.te, fun _ a ha => ?_, fun z => Bool.noConfusion z⟩
    exact ⟨_, rfl, rfl, rfl, d, _, .int (j : Int), rfl, hd1, rfl, kB j n hj ho hb h1 e1⟩

abbrev s_law : Stmt := top 27
theorem sc_law : FnScope ["script", "draws", "game", "start", "both", "branches", "places", "kept", "k", "at", "side", "due", "step", "told"] ["script"] (defScope s_law) := ⟨rfl, rfl, rfl, by decide +kernel, rfl, by decide +kernel, by decide +kernel⟩
theorem ok_law {f C : Addr} {fd : FuncData} (F : Fun K "law" "law" s_law f fd) (T : Bt mg) (U1 : Has P w K mg base 1 "_law_draws" ["script", "count"] (spDraws K)) (U2 : Has P w K mg base 4 "_law_game" ["draws", "most"] (spGame K))
    (U3 : Has P w K mg base 1 "_law_strategy" ["game", "side", "draws"] (spStrategy K)) (U4 : Has P w K mg base 2 "_law_told_way" ["game", "start", "ours", "theirs", "draws"] (spToldWay K)) (U5 : Has P w K mg base 2 "_law_places" ["game", "start", "branches"] (spPath K))
    (U6 : HasXK P w K mg base 4 "follows" ["game", "start", "branches", "side", "strategy"] ["side", "strategy"] 3 2 (spFollows K C)) (U7 : Has P w K mg base 5 "_law_refused" ["game", "start", "branches", "strategy"] (spRefused K)) :
    LawOk P w K mg base 6 f fd ["script"] (spLaw K) := by
  obtain ⟨f_draws, fd_draws, G_draws, m_draws, k_draws, b_draws⟩ := U1
  obtain ⟨f_game, fd_game, G_game, m_game, k_game, b_game⟩ := U2
  obtain ⟨f_strategy, fd_strategy, G_strategy, m_strategy, k_strategy, b_strategy⟩ := U3
  obtain ⟨f_told_way, fd_told_way, G_told_way, m_told_way, k_told_way, b_told_way⟩ := U4
  obtain ⟨f_places, fd_places, G_places, m_places, k_places, b_places⟩ := U5
  obtain ⟨f_follows, fd_follows, G_follows, m_follows, k_follows, kb_follows⟩ := U6
  obtain ⟨f_refused, fd_refused, G_refused, m_refused, k_refused, b_refused⟩ := U7
  have sc := sc_law
  refine law_ok F sc (fun vs H Q E x => ?_) (fun cd s h0 vs Q hr hs => ?_)
  · obtain ⟨a, ns, rfl, _⟩ := x
    rfl
  obtain ⟨a, ns, rfl, hS, hl, k⟩ := hs
  have hgd : (callerA.deeper (PyProof.Rows.envOfC "law" (defScope s_law) s.heap.objs.size f cd)).guards = some [] := rfl
  refine ⟨_, (pss_cons (ps_set (i := 1) sc.nd rfl (by first | exact Or.inl rfl | exact Or.inr rfl) (pe_call G_draws (hr.mono (by decide)) rfl m_draws k_draws b_draws .nil pass0 (pa_cons (pv 0) (pa_cons pe_int pa_nil)))) (pss_cons (ps_set (i := 2) sc.nd rfl (by first | exact Or.inl rfl | exact Or.inr rfl) (pe_call G_game (hr.mono (by decide)) rfl m_game k_game b_game .nil pass0 (pa_cons (pv 1) (pa_cons pe_int pa_nil)))) (pss_cons (ps_set (i := 3) sc.nd rfl (by first | exact Or.inl rfl | exact Or.inr rfl) (pe_op op_mod (pe_callTy cr_int1 (by rfl) T.int (by decide +kernel) (pa_cons (pe_ix (ix_listK (K := K) rfl) (pv 1) pe_int (fun _ _ => rfl)) pa_nil)) (pe_callB (len_K (K := K) rfl) (by rfl) T.len PySem.boot_len (pa_cons (pv 2) pa_nil)))) (pss_cons (ps_set (i := 4) sc.nd rfl (by first | exact Or.inl rfl | exact Or.inr rfl) (pe_lst (pa_cons (pe_call G_strategy (hr.mono (by decide)) rfl m_strategy k_strategy b_strategy .nil pass0 (pa_cons (pv 2) (pa_cons pe_str (pa_cons (pe_slice (sl_listK (K := K) rfl) (pv 1) (po_some pe_int) (po_some pe_int)) pa_nil)))) (pa_cons (pe_call G_strategy (hr.mono (by decide)) rfl m_strategy k_strategy b_strategy .nil pass0 (pa_cons (pv 2) (pa_cons pe_str (pa_cons (pe_slice (sl_listK (K := K) rfl) (pv 1) (po_some pe_int) (po_some pe_int)) pa_nil)))) pa_nil)))) (pss_cons (ps_set (i := 5) sc.nd rfl (by first | exact Or.inl rfl | exact Or.inr rfl) (pe_call G_told_way (hr.mono (by decide)) rfl m_told_way k_told_way b_told_way .nil pass0 (pa_cons (pv 2) (pa_cons (pv 3) (pa_cons (pe_ix (ix_listK (K := K) rfl) (pv 4) pe_int (fun _ _ => rfl)) (pa_cons (pe_ix (ix_listK (K := K) rfl) (pv 4) pe_int (fun _ _ => rfl)) (pa_cons (pe_slice (sl_listK (K := K) rfl) (pv 1) (po_some pe_int) (po_some (pe_op op_add pe_int (pe_op op_mod (pe_callTy cr_int1 (by rfl) T.int (by decide +kernel) (pa_cons (pe_ix (ix_listK (K := K) rfl) (pv 1) pe_int (fun _ _ => rfl)) pa_nil)) pe_int)))) pa_nil))))))) (pss_cons (ps_set (i := 6) sc.nd rfl (by first | exact Or.inl rfl | exact Or.inr rfl) (pe_call G_places (hr.mono (by decide)) rfl m_places k_places b_places .nil pass0 (pa_cons (pv 2) (pa_cons (pv 3) (pa_cons (pv 5) pa_nil))))) (pss_cons (ps_set (i := 7) sc.nd rfl (by first | exact Or.inl rfl | exact Or.inr rfl) (pe_callB (repr_K (K := K) hgd hr.units rfl) (by rfl) T.repr (by decide +kernel) (pa_cons (pe_tup (pa_cons (pv 2) (pa_cons (pv 5) (pa_cons (pv 4) pa_nil)))) pa_nil))) (pss_cons (ps_for PassesOwn.never rfl (pi_range1 (by rfl) T.range (pa_cons pe_int pa_nil)) (pg_name (i := 8) sc.nd rfl (by first | exact Or.inl rfl | exact Or.inr rfl)) (pss_cons (ps_set (i := 10) sc.nd rfl (by first | exact Or.inl rfl | exact Or.inr rfl) (pe_ix (ix_listK (K := K) rfl) (pe_lst (pa_cons pe_str (pa_cons pe_str pa_nil))) (pv 8) (fun _ _ => rfl))) (pss_cons (ps_set (i := 11) sc.nd rfl (by first | exact Or.inl rfl | exact Or.inr rfl) pe_bl) (pss_cons (ps_for PassesOwn.never rfl (pi_range1 (by rfl) T.range (pa_cons (pe_callB (len_K (K := K) rfl) (by rfl) T.len PySem.boot_len (pa_cons (pv 5) pa_nil)) pa_nil)) (pg_name (i := 12) sc.nd rfl (by first | exact Or.inl rfl | exact Or.inr rfl)) (pss_one (ps_if (PW.pt (pw_and (pt_cmpR op_eq (pe_ix (ix_tupK (K := K) rfl) (pe_ix (ix_listK (K := K) rfl) (pv 2) (pe_ix (ix_listK (K := K) rfl) (pv 6) (pv 12) (fun _ _ => rfl)) (fun _ _ => rfl)) pe_int (fun _ _ => rfl)) (pv 10) (nomark _)) (pw_and1 (pt_cmpR op_ne (pe_ix (ix_listK (K := K) rfl) (pe_ix (ix_listK (K := K) rfl) (pv 4) (pv 8) (fun _ _ => rfl)) (pe_ix (ix_listK (K := K) rfl) (pv 6) (pv 12) (fun _ _ => rfl)) (fun _ _ => rfl)) (pe_ix (ix_listK (K := K) rfl) (pv 5) (pv 12) (fun _ _ => rfl)) (nomark _))))) (pss_one (ps_set (i := 11) sc.nd rfl (by first | exact Or.inl rfl | exact Or.inr rfl) pe_bl)) pss_nil))) (pss_cons (ps_set (i := 13) sc.nd rfl (by first | exact Or.inl rfl | exact Or.inr rfl) (pe_callK G_follows (hr.mono (by decide)) rfl m_follows k_follows kb_follows passX0 (pa_cons (pv 2) (pa_cons (pv 3) (pa_cons (pv 5) pa_nil))) (pk_cons (pv 10) (pk_cons (pe_ix (ix_listK (K := K) rfl) (pv 4) (pv 8) (fun _ _ => rfl)) pk_nil)))) (pss_one (ps_if (PW.pt (pw_or (pt_not (pt_val (pe_callB (isi_K (K := K) rfl) (by rfl) T.isinstance (by decide +kernel) (pa_cons (pv 13) (pa_cons (pe_bltn (v := .ty "bool") (by rfl) T.bool (by decide +kernel) rfl) pa_nil))))) (pw_or1 (pt_cmpR op_ne (pv 13) (pv 11) (nomark _))))) (pss_one (ps_ret pe_bl)) pss_nil))))))) (pss_cons (ps_set (i := 9) sc.nd rfl (by first | exact Or.inl rfl | exact Or.inr rfl) (pe_op op_mod (pe_callTy cr_int1 (by rfl) T.int (by decide +kernel) (pa_cons (pe_ix (ix_listK (K := K) rfl) (pv 1) pe_int (fun _ _ => rfl)) pa_nil)) (pe_op op_add (pe_callB (len_K (K := K) rfl) (by rfl) T.len PySem.boot_len (pa_cons (pv 5) pa_nil)) pe_int))) (pss_cons (ps_if (pt_cmpR op_ne (pe_call G_refused (hr.mono (by decide)) rfl m_refused k_refused b_refused .nil pass0 (pa_cons (pv 2) (pa_cons (pv 3) (pa_cons (pe_op op_cat (pe_op op_cat (pe_slice (sl_listK (K := K) rfl) (pv 5) po_none (po_some (pv 9))) (pe_lst (pa_cons (pe_un un_neg pe_int) pa_nil))) (pe_slice (sl_listK (K := K) rfl) (pv 5) (po_some (pv 9)) po_none)) (pa_cons (pe_ix (ix_listK (K := K) rfl) (pv 4) pe_int (fun _ _ => rfl)) pa_nil))))) (pv 9) (nomark _)) (pss_one (ps_ret pe_bl)) pss_nil) (pss_one (ps_ret (pe_and (pe_cmpR op_eq (pe_call G_refused (hr.mono (by decide)) rfl m_refused k_refused b_refused .nil pass0 (pa_cons (pv 2) (pa_cons (pv 3) (pa_cons (pe_op op_cat (pv 5) (pe_lst (pa_cons pe_int (pa_cons pe_int pa_nil)))) (pa_cons (pe_ix (ix_listK (K := K) rfl) (pv 4) pe_int (fun _ _ => rfl)) pa_nil))))) (pe_callB (len_K (K := K) rfl) (by rfl) T.len PySem.boot_len (pa_cons (pv 5) pa_nil)) (nomark _)) (pe_one (pe_cmpR op_eq (pe_callB (repr_K (K := K) hgd hr.units rfl) (by rfl) T.repr (by decide +kernel) (pa_cons (pe_tup (pa_cons (pv 2) (pa_cons (pv 5) (pa_cons (pv 4) pa_nil)))) pa_nil)) (pv 7) (nomark _)))))))))))))))), ?_⟩
  refine ⟨_, rfl, h0, a, ns, 130, rfl, Ex.refl _, hS, hl, by decide, fun v1 b1 h1 ds g1 hdl hd hv1 => ?_⟩
  refine ⟨_, rfl, b1, ds, 6, g1.gi, DtA.cons hv1 (DtA.one (Dt.int 6)), by decide, by decide, by omega, hd, fun v2 b2 h2 G g2 hWG hGl hv2 => ?_⟩
  have okG := wf_okG hWG
  have hW := wfT_of hWG
  have hsm := smG_of okG
  have hG1 := hWG.1
  have hvd := hv1.up g2.gb
  have d91 := ds_get (j := 91) hd
  have hxm0 : 0 ≤ ds.getD 91 0 % (G.length : Int) := Int.emod_nonneg _ (by omega)
  have hxm1 : ds.getD 91 0 % (G.length : Int) < G.length := Int.emod_lt_of_pos _ (by omega)
  obtain ⟨x, hx⟩ : ∃ x : Nat, (x : Int) = ds.getD 91 0 % (G.length : Int) := ⟨(ds.getD 91 0 % (G.length : Int)).toNat, by omega⟩
  have hxl : x < G.length := by omega
  refine r_sc (b := b2) (v := .int (x : Int)) (ev_op (ev_int1 (ev_ixI 91 (ed_var rfl hvd) ev_c rfl (by omega))) (ev_lenL (ed_var rfl hv2)) (by
    rw [hx]
    have e1 : ((G.map Pl.D).length : Int) = (G.length : Int) := by rw [List.length_map]
    rw [e1]
    exact rv_I (by omega))) g2.gi fun h3 g3 => ?_
  obtain ⟨es1, he1, hel1, hed1⟩ := cut_ints (ds := ds) (lo := 92) (n := 6) (by omega) hd
  obtain ⟨es2, he2, hel2, hed2⟩ := cut_ints (ds := ds) (lo := 98) (n := 6) (by omega) hd
  have he1' : cutD (ds.map PyData.int) (some 92) (some 98) = es1.map PyData.int := he1
  have he2' : cutD (ds.map PyData.int) (some 98) (some 104) = es2.map PyData.int := he2
  refine r_setX (K := K) (P := fun d => ∃ d1 d2, d = .list [d1, d2] ∧ (∃ S, WfS "ours" G S ∧ d1 = stD S) ∧ (∃ S, WfS "theirs" G S ∧ d2 = stD S)) (ex_lst2 (ex_strategy (eda_cons (ed_var rfl hv2) (eda_cons (ed_str ev_c) (eda_cons (d := .list (es1.map PyData.int)) (he1' ▸ EN.ed (en_sl (ed_var rfl hvd) (eo_some ev_c) (eo_some ev_c))) eda_nil))) hWG (by omega) hed1)
    (ex_strategy (eda_cons (ed_var rfl hv2) (eda_cons (ed_str ev_c) (eda_cons (d := .list (es2.map PyData.int)) (he2' ▸ EN.ed (en_sl (ed_var rfl hvd) (eo_some ev_c) (eo_some ev_c))) eda_nil))) hWG (by omega) hed2)) g3.gi fun v4 b4 h4 d4 g4 hd4 hv4 => ?_
  obtain ⟨_, _, rfl, ⟨So, hSo, rfl⟩, St, hSt, rfl⟩ := hd4
  have hG4 := hv2.up g4.gb
  have hvd4 := hvd.up g4.gb
  have d117 := ds_get (j := 117) hd
  obtain ⟨es3, he3, hel3, hed3⟩ := cut_ints (ds := ds) (lo := 104) (n := (ds.getD 117 0 % 13).toNat) (by omega) hd
  have he3' : cutD (ds.map PyData.int) (some 104) (some (104 + ds.getD 117 0 % 13)) = es3.map PyData.int := by
    have e : (104 : Int) + ds.getD 117 0 % 13 = ((104 + (ds.getD 117 0 % 13).toNat : Nat) : Int) := by omega
    rw [e]
    exact he3
  refine r_call (K := K) (eda_cons (ed_var rfl hG4) (eda_cons (ed_int (ev_var rfl)) (eda_cons (ed_ixL (ed_var rfl hv4) ev_c (by rfl)) (eda_cons (ed_ixL (ed_var rfl hv4) ev_c (by rfl)) (eda_cons (EN.ed (en_sl (ed_var rfl hvd4) (eo_some ev_c) (eo_some (ev_op ev_c (ev_op (ev_int1 (ev_ixI 117 (ed_var rfl hvd4) ev_c rfl (by omega))) ev_c (rv_I (by decide))) rv_I0)))) eda_nil))))) g4.gi fun us5 b5 h5 g5 hA5 => ?_
  rw [he3'] at hA5
  refine ⟨b5, G, x, So, St, es3, g5.gi, hA5, hWG, hxl, hSo, hSt, hed3, by omega, fun v5 b6 h6 r g6 hrl hok hv5 => ?_⟩
  have G6 := g5.trans g6
  have hr13 : r.length ≤ 12 := by omega
  have hG6 := hG4.up G6.gb
  have hB6 := hv4.up G6.gb
  have hvd6 := hvd4.up G6.gb
  refine r_set (K := K) (ed_path (eda_cons (ed_var rfl hG6) (eda_cons (ed_int (ev_var rfl)) (eda_cons (ed_var rfl hv5) eda_nil))) hW hsm hxl (by omega) hok) g6.gi fun v6 b7 h7 g7 hv6 => ?_
  have hG7 := hG6.up g7.gb
  have hB7 := hB6.up g7.gb
  have hR7 := hv5.up g7.gb
  have hvd7 := hvd6.up g7.gb
  have nG := nice_game okG
  have nO := nice_st (S := So) (by rw [hSo.1]; exact hWG.2.1) (wfS_small okG hSo)
  have nT := nice_st (S := St) (by rw [hSt.1]; exact hWG.2.1) (wfS_small okG hSt)
  have nR := nice_ints (ok_ints hsm hW hxl hok) (by omega)
  have nB : Nice 2 1000 (.list [stD So, stD St]) := (nice_list (k := 1) (L := 300) (n := 2) (fun d hd => by
    simp only [List.mem_cons, List.not_mem_nil, or_false] at hd
    rcases hd with rfl | rfl
    · exact nO
    · exact nT) (by show 2 ≤ 2; decide)).mono (by decide) (by decide)
  have nK : Nice 6 80000 (.tuple [gameD G, intsD r, .list [stD So, stD St]]) := (nice_tup (k := 5) (L := 25000) (n := 3) (fun d hd => by
    simp only [List.mem_cons, List.not_mem_nil, or_false] at hd
    rcases hd with rfl | rfl | rfl
    · exact nG
    · exact nR.mono (by decide) (by decide)
    · exact nB.mono (by decide) (by decide)) (by show 3 ≤ 3; decide)).mono (by decide) (by decide)
  have hrep : ∀ {σ : L2.St}, σ[2]? = some (some v2) → σ[5]? = some (some v5) → σ[4]? = some (some v4) → Ev (tCB (rRepr K) (tCons (tTup (tCons (tVar 2) (tCons (tVar 5) (tCons (tVar 4) tNil)))) tNil)) σ b7 (.str (PyData.tuple [gameD G, intsD r, .list [stD So, stD St]]).shown) := fun {σ} s1 s2 s3 =>
    ev_reprN (ed_tup (eda_cons (ed_var s1 hG7) (eda_cons (ed_var s2 hR7) (eda_cons (ed_var s3 hB7) eda_nil))) (by show 3 ≤ 100000; decide)) nK (fun v H x => ref_tup x) (by decide) (by decide)
  refine r_sc (hrep rfl rfl rfl) g7.gi fun h8 g8 => ?_
  generalize (PyData.tuple [gameD G, intsD r, .list [stD So, stD St]]).shown = kept at hrep
  have hWT := hW
  refine s_forR1 (H := h8) (n := 2) (ea_cons ev_c ea_nil) (by omega) (fun _ σ' h' => (∃ u8 u10 u11 u12 u13 : Option V, σ' = [some (.ref a), some v1, some v2, some (.int (x : Int)), some v4, some v5, some v6, some (.str kept), u8, none, u10, u11, u12, u13]) ∧ Gr b7 h8 b7 h') (fun h e => ⟨⟨_, _, _, _, _, rfl⟩, Gr.stay g8.gi e⟩) ?_ ?_
  · rintro i σ' h' hi ⟨⟨u8, u10, u11, u12, u13, rfl⟩, gi⟩
    obtain ⟨y, S, hy, hSy, hat1, hat2⟩ : ∃ y S, Side y ∧ WfS y G S ∧ L2.atI [PyData.str "ours", PyData.str "theirs"] (i : Int) = some (.str y) ∧ L2.atI [stD So, stD St] (i : Int) = some (stD S) := by
      have : i = 0 ∨ i = 1 := by omega
      rcases this with rfl | rfl
      · exact ⟨"ours", So, .inl rfl, hSo, rfl, rfl⟩
      · exact ⟨"theirs", St, .inr rfl, hSt, rfl, rfl⟩
    refine r_sc (ev_str (ed_ixL (K := K) (ds := [PyData.str "ours", PyData.str "theirs"]) (en_lst (eda_cons (ed_str ev_c) (eda_cons (ed_str ev_c) eda_nil)) (by show 2 ≤ 100000; decide)).ed (ev_var rfl) hat1)) gi.gi fun h9 g9 => ?_
    refine r_sc ev_c g9.gi fun h10 g10 => ?_
    have G10 := (gi.trans g9).trans g10
    have hat3 := hat2
    rw [stD_eq S] at hat3
    refine s_forR1 (H := h10) (n := ((r.map PyData.int).length : Int)) (ea_cons (Ev.mono g10.gi (ev_lenL (ed_var rfl hR7))) ea_nil) (by rw [List.length_map]; omega) (fun j σ' h' => (∃ u12 : Option V, σ' = [some (.ref a), some v1, some v2, some (.int (x : Int)), some v4, some v5, some v6, some (.str kept), some (.int (i : Int)), none, some (.str y), some (.bl ((List.range j).all fun k => !(fK G y x r k && !eK G S x r k))), u12, u13]) ∧ Gr b7 h8 b7 h') (fun h e => ⟨⟨_, rfl⟩, G10.trans (Gr.stay G10.gi e)⟩) ?_ ?_
    · rintro j σ' h' hj ⟨⟨u12, rfl⟩, gj⟩
      rw [List.length_map] at hj
      have hjl : j < r.length := by omega
      have hcl := at_lt hW hxl (fun i m hi hm => hok i m (by omega) hm) (Nat.le_of_lt hjl)
      have hp := plAt_get hcl
      have hpath : L2.atI ((pathF G x r).map fun x : Nat => PyData.int (x : Int)) (j : Int) = some (.int ((lastF G x (r.take j) : Nat) : Int)) := nats_at rfl (pathF_get G r x j (Nat.le_of_lt hjl))
      have hrange : (List.range (j + 1)).all (fun k => !(fK G y x r k && !eK G S x r k)) = ((List.range j).all (fun k => !(fK G y x r k && !eK G S x r k)) && !(fK G y x r j && !eK G S x r j)) := by
        rw [List.range_succ, List.all_append, List.all_cons, List.all_nil, Bool.and_true]
      refine r_if1 (b := b7) (c := fK G y x r j && !eK G S x r j) (et_and (et_test (ev_op (ev_str (ed_ixT (ed_ixL (ed_var rfl hG7) (ev_int (ed_ixL (ed_var rfl hv6) (ev_var rfl) hpath)) (game_at hp)) ev_c (by rfl))) (ev_var rfl) (rv_eq rfl))) fun hf => et_test ?_) gj.gi (fun hc h11 g11 => ?_) (fun hc h11 g11 => ?_)
      · have hky : (plAt G (lastF G x (r.take j))).kind = y := by
          have := of_decide_eq_true hf
          injection this
        obtain ⟨m, hm, hml⟩ := (hSy.2 _ _ hp).1 hky
        have e5 : eK G S x r j = decide (V.int (m : Int) = V.int (r.getD j 0)) := by
          unfold eK
          rw [List.getD_eq_getElem?_getD (l := S), hm]
          show decide (V.int (r.getD j 0) = V.int (m : Int)) = _
          rw [Bool.eq_iff_iff, decide_eq_true_iff, decide_eq_true_iff]
          exact ⟨Eq.symm, Eq.symm⟩
        rw [e5]
        exact ev_op (ev_int (ed_ixL (ed_ixL (ed_var rfl hB7) (ev_var rfl) hat3) (ev_int (ed_ixL (ed_var rfl hv6) (ev_var rfl) hpath)) (atI_nat (by rw [List.getElem?_map, hm] <;> rfl)))) (ev_ixI j (ed_var rfl hR7) (ev_var rfl) rfl hjl) (rv_ne rfl)
      · refine Evl.s_asg (H := h11) ev_c fun h12 e12 => ?_
        refine ⟨⟨some (.int (j : Int)), ?_⟩, (gj.trans g11).trans (Gr.stay (gj.trans g11).gi e12)⟩
        rw [hrange, hc, Bool.not_true, Bool.and_false]
        rfl
      · refine ⟨⟨some (.int (j : Int)), ?_⟩, gj.trans g11⟩
        rw [hrange, hc, Bool.not_false, Bool.and_true]
        rfl
    · rintro σ' h' ⟨⟨u12, rfl⟩, gj⟩
      have e6 : ((r.map PyData.int).length : Int).toNat = r.length := by rw [List.length_map] <;> omega
      rw [e6]
      refine r_sc (b := b7) (ev_follows (C := C) (eda_cons (ed_var rfl hG7) (eda_cons (ed_int (ev_var rfl)) (eda_cons (ed_var rfl hR7) eda_nil))) (eda_cons (ed_str (ev_var rfl)) (eda_cons (ed_ixL (ed_var rfl hB7) (ev_var rfl) hat2) eda_nil)) hW hsm hxl (by omega) hSy hok) gj.gi fun h11 g11 => ?_
      have G11 := gj.trans g11
      refine r_if1 (b := b7) (c := false) (et_is (et_or (et_not (et_B (ev_isiB (r := true) (ev_var rfl) (by decide +kernel)))) fun _ => et_test (ev_neS (v := .bl (folF G y S x r)) (ev_var rfl) (ev_var rfl) rfl)) rfl) G11.gi (fun hc => by cases hc) (fun _ h12 g12 => ?_)
      exact ⟨⟨_, _, _, _, _, rfl⟩, G11.trans g12⟩
  · rintro σ' h' ⟨⟨u8, u10, u11, u12, u13, rfl⟩, gi⟩
    have d118 := ds_get (j := 118) hd
    have ham0 : 0 ≤ ds.getD 118 0 % ((r.length : Int) + 1) := Int.emod_nonneg _ (by omega)
    have ham1 : ds.getD 118 0 % ((r.length : Int) + 1) < (r.length : Int) + 1 := Int.emod_lt_of_pos _ (by omega)
    obtain ⟨t, ht⟩ : ∃ t : Nat, (t : Int) = ds.getD 118 0 % ((r.length : Int) + 1) := ⟨(ds.getD 118 0 % ((r.length : Int) + 1)).toNat, by omega⟩
    have htl : t ≤ r.length := by omega
    refine r_sc (b := b7) (v := .int (t : Int)) (ev_op (ev_int1 (ev_ixI 118 (ed_var rfl hvd7) ev_c rfl (by omega))) (ev_op (ev_lenL (ed_var rfl hR7)) ev_c rv_I0) (by
      rw [ht]
      have e1 : ((r.map PyData.int).length : Int) = (r.length : Int) := by rw [List.length_map]
      rw [e1]
      exact rv_I (by omega))) gi.gi fun h9 g9 => ?_
    have hcat : ∀ l m : List Int, l.map PyData.int ++ m.map PyData.int = (l ++ m).map PyData.int := fun l m => (List.map_append ..).symm
    have htake : ((r.take t ++ [-1]) ++ r.drop t).take t = r.take t := by
      rw [List.append_assoc, List.take_append_of_le_length (by rw [List.length_take]; omega), List.take_take, Nat.min_self]
    have hbadt : ((r.take t ++ [-1]) ++ r.drop t)[t]? = some (-1) := by
      rw [List.append_assoc, List.getElem?_append_right (by rw [List.length_take]; omega), List.length_take, show t - min t r.length = 0 by omega]
      rfl
    have hl1 : ((r.take t).map PyData.int).length ≤ 100 := by rw [List.length_map, List.length_take]; omega
    have hl2 : ((r.drop t).map PyData.int).length ≤ 100 := by rw [List.length_map, List.length_drop]; omega
    have hL1 : ∀ {σ : L2.St}, σ[5]? = some (some v5) → σ[9]? = some (some (.int (t : Int))) → ED K (tOp rCat (tOp rCat (tSl (rSlL K) (tVar 5) tNoPart (tPart (tVar 9))) (tLst (tCons (tUn (rU fun i => V.int (-i)) (tC (V.int 1))) tNil))) (tSl (rSlL K) (tVar 5) (tPart (tVar 9)) tNoPart)) σ b7 (intsD ((r.take t ++ [-1]) ++ r.drop t)) := fun {σ} s1 s2 => by
      unfold intsD
      rw [← hcat, ← hcat, ← cut_take htl, ← cut_drop htl]
      refine EN.ed (en_cat (EN.ed (en_cat (EN.ed (en_sl (ed_var s1 hR7) eo_none (eo_some (ev_var s2)))) (EN.ed (en_lst (eda_cons (ed_int (ev_un ev_c ru_neg)) eda_nil) (by show 1 ≤ 100000; decide))) ?_)) (EN.ed (en_sl (ed_var s1 hR7) (eo_some (ev_var s2)) eo_none)) ?_)
      · rw [cut_take htl]
        show _ + 1 ≤ 100000
        omega
      · rw [cut_take htl, cut_drop htl, List.length_append]
        show _ + 1 + _ ≤ 100000
        omega
    refine r_if (b := b7) (c := false) (et_test (ev_neS (ev_refused (j := t) (n := -1) (eda_cons (ed_var rfl hG7) (eda_cons (ed_int (ev_var rfl)) (eda_cons (hL1 rfl rfl) (eda_cons (ed_ixL (ed_var rfl hB7) ev_c (by rfl)) eda_nil)))) hW hsm hxl (by rw [List.length_append, List.length_append, List.length_take, List.length_drop]; show _ + 1 + _ ≤ 1000; omega) hSo hbadt (okTo_pre hok htl htake) (fun z => by have := z.1; omega)) (ev_var rfl) rfl)) g9.gi (fun hc => by cases hc) (fun _ h10 g10 => ?_)
    have hmore : (r ++ [99, 99])[r.length]? = some 99 := by
      rw [List.getElem?_append_right (Nat.le_refl _), Nat.sub_self]
      rfl
    have hlast := lastF_lt hW r x hxl hok
    have htk2 : (r ++ [99, 99]).take r.length = r.take r.length := List.take_append_of_le_length (Nat.le_refl _)
    refine L2.st_next ?_
    dsimp only
    refine Evl.s_ret (H := h10) (v := .bl (true && true)) ?_ ?_
    · refine Ev.mono g10.gi ?_
      refine ev_andV ?_ fun _ => ?_
      · refine ev_eqS (v := .int (r.length : Int)) (ev_refused (r := r ++ [99, 99]) (j := r.length) (n := 99) (eda_cons (ed_var rfl hG7) (eda_cons (ed_int (ev_var rfl)) (eda_cons ?_ (eda_cons (ed_ixL (ed_var rfl hB7) ev_c (by rfl)) eda_nil)))) hW hsm hxl (by rw [List.length_append]; show _ + 2 ≤ 1000; omega) hSo hmore (okTo_pre hok (Nat.le_refl _) htk2) (fun z => ?_)) ?_ rfl
        · unfold intsD
          rw [← hcat]
          exact EN.ed (en_cat (ed_var rfl hR7) (EN.ed (en_lst (eda_cons (ed_int ev_c) (eda_cons (ed_int ev_c) eda_nil)) (by show 2 ≤ 100000; decide))) (by rw [List.length_map]; show _ + 2 ≤ 100000; omega))
        · rw [htk2, List.take_length] at z
          have := hsm.2 _ (List.mem_of_getElem? (plAt_get hlast))
          have t2 := tg_len (plAt G (lastF G x r))
          have := z.2
          omega
        · have := ev_lenL (K := K) (ed_var (σ := [some (.ref a), some v1, some v2, some (.int (x : Int)), some v4, some v5, some v6, some (.str kept), u8, some (.int (t : Int)), u10, u11, u12, u13]) (k := 5) rfl hR7)
          rwa [List.length_map] at this
      · exact ev_eqS (hrep rfl rfl rfl) (ev_var rfl) rfl
    · exact fun h11 _ => k h11

end
theorem all_mk {l : PySem.W.OpenLaw} {w : World} {K : PySem.W.Frag} {h : Heap} {mg : Str → Option Value} {fa f1 f2 f3 f4 f5 f6 f7 f8 f9 f10 f11 f12 f13 f14 f15 f16 CN : Addr} (X : K.In h) (G : h.Ns mainGlobals mg) (hfa : mg "law" = some (.ref fa))
    {oc1 kV1 dc1 pm1 cd1 ct1 : Value} {od1 an1 : Option Addr} {sl1 : Array (Option Value)}
    {oc2 kV2 dc2 pm2 cd2 ct2 : Value} {od2 an2 : Option Addr} {sl2 : Array (Option Value)}
    {oc3 kV3 dc3 pm3 cd3 ct3 : Value} {od3 an3 : Option Addr} {sl3 : Array (Option Value)}
    {oc4 kV4 dc4 pm4 cd4 ct4 : Value} {od4 an4 : Option Addr} {sl4 : Array (Option Value)}
    {oc5 kV5 dc5 pm5 cd5 ct5 : Value} {od5 an5 : Option Addr} {sl5 : Array (Option Value)}
    {oc6 kV6 dc6 pm6 cd6 ct6 : Value} {od6 an6 : Option Addr} {sl6 : Array (Option Value)}
    {oc7 kV7 dc7 pm7 cd7 ct7 : Value} {od7 an7 : Option Addr} {sl7 : Array (Option Value)}
    {oc8 kV8 dc8 pm8 cd8 ct8 : Value} {od8 an8 : Option Addr} {sl8 : Array (Option Value)}
    {oc9 kV9 dc9 pm9 cd9 ct9 : Value} {od9 an9 : Option Addr} {sl9 : Array (Option Value)}
    {oc10 kV10 dc10 pm10 cd10 ct10 : Value} {od10 an10 : Option Addr} {sl10 : Array (Option Value)}
    {oc11 kV11 dc11 pm11 cd11 ct11 : Value} {od11 an11 : Option Addr} {sl11 : Array (Option Value)}
    {oc12 kV12 dc12 pm12 cd12 ct12 : Value} {od12 an12 : Option Addr} {sl12 : Array (Option Value)}
    {oc13 kV13 dc13 pm13 cd13 ct13 : Value} {od13 an13 : Option Addr} {sl13 : Array (Option Value)}
    {oc14 kV14 dc14 pm14 cd14 ct14 : Value} {od14 an14 : Option Addr} {sl14 : Array (Option Value)}
    {oc15 kV15 dc15 pm15 cd15 ct15 : Value} {od15 an15 : Option Addr} {sl15 : Array (Option Value)}
    {oc16 kV16 dc16 pm16 cd16 ct16 : Value} {od16 an16 : Option Addr} {sl16 : Array (Option Value)}
    {nmN qN : Str} {NN GE fN : Addr} {bsN : List Value} {snN : List Str} {subN : List Value} {abN : Bool} {colN : Option Bool} {ddN : Option Addr} {mN0 mN1 mN2 mN3 mN5 : Option Value} {ocN kVN dcN pmN cdN ctN : Value} {odN anN : Option Addr} {slN : Array (Option Value)}
    (a1 : PySem.W.nsIn K mainGlobals "_law_gcd" = some (some (.ref f1)))
    (l1 : K.lookup f1 = some ⟨oc1, od1, .func (PySem.W.fnOf "_law_gcd" "_law_gcd" (defArgs s_gcd) (defBody s_gcd) (defScope s_gcd) .none kV1 dc1 pm1 an1 cd1 ct1), sl1⟩)
    (c1 : PySem.W.codeIn K cd1 "_law_gcd" = true) (k1 : PySem.W.keepIn K (.ref f1) = true)
    (a2 : PySem.W.nsIn K mainGlobals "_law_number" = some (some (.ref f2)))
    (l2 : K.lookup f2 = some ⟨oc2, od2, .func (PySem.W.fnOf "_law_number" "_law_number" (defArgs s_number) (defBody s_number) (defScope s_number) .none kV2 dc2 pm2 an2 cd2 ct2), sl2⟩)
    (c2 : PySem.W.codeIn K cd2 "_law_number" = true) (k2 : PySem.W.keepIn K (.ref f2) = true)
    (a3 : PySem.W.nsIn K mainGlobals "_law_draws" = some (some (.ref f3)))
    (l3 : K.lookup f3 = some ⟨oc3, od3, .func (PySem.W.fnOf "_law_draws" "_law_draws" (defArgs s_draws) (defBody s_draws) (defScope s_draws) .none kV3 dc3 pm3 an3 cd3 ct3), sl3⟩)
    (c3 : PySem.W.codeIn K cd3 "_law_draws" = true) (k3 : PySem.W.keepIn K (.ref f3) = true)
    (a4 : PySem.W.nsIn K mainGlobals "_law_place" = some (some (.ref f4)))
    (l4 : K.lookup f4 = some ⟨oc4, od4, .func (PySem.W.fnOf "_law_place" "_law_place" (defArgs s_place) (defBody s_place) (defScope s_place) .none kV4 dc4 pm4 an4 cd4 ct4), sl4⟩)
    (c4 : PySem.W.codeIn K cd4 "_law_place" = true) (k4 : PySem.W.keepIn K (.ref f4) = true)
    (a5 : PySem.W.nsIn K mainGlobals "_law_game" = some (some (.ref f5)))
    (l5 : K.lookup f5 = some ⟨oc5, od5, .func (PySem.W.fnOf "_law_game" "_law_game" (defArgs s_game) (defBody s_game) (defScope s_game) .none kV5 dc5 pm5 an5 cd5 ct5), sl5⟩)
    (c5 : PySem.W.codeIn K cd5 "_law_game" = true) (k5 : PySem.W.keepIn K (.ref f5) = true)
    (a6 : PySem.W.nsIn K mainGlobals "_law_strategy" = some (some (.ref f6)))
    (l6 : K.lookup f6 = some ⟨oc6, od6, .func (PySem.W.fnOf "_law_strategy" "_law_strategy" (defArgs s_strategy) (defBody s_strategy) (defScope s_strategy) .none kV6 dc6 pm6 an6 cd6 ct6), sl6⟩)
    (c6 : PySem.W.codeIn K cd6 "_law_strategy" = true) (k6 : PySem.W.keepIn K (.ref f6) = true)
    (a7 : PySem.W.nsIn K mainGlobals "is_whole" = some (some (.ref f7)))
    (l7 : K.lookup f7 = some ⟨oc7, od7, .func (PySem.W.fnOf "is_whole" "is_whole" (defArgs s_is_whole) (defBody s_is_whole) (defScope s_is_whole) .none kV7 dc7 pm7 an7 cd7 ct7), sl7⟩)
    (c7 : PySem.W.codeIn K cd7 "is_whole" = true) (k7 : PySem.W.keepIn K (.ref f7) = true)
    (a8 : PySem.W.nsIn K mainGlobals "has_branch" = some (some (.ref f8)))
    (l8 : K.lookup f8 = some ⟨oc8, od8, .func (PySem.W.fnOf "has_branch" "has_branch" (defArgs s_has_branch) (defBody s_has_branch) (defScope s_has_branch) .none kV8 dc8 pm8 an8 cd8 ct8), sl8⟩)
    (c8 : PySem.W.codeIn K cd8 "has_branch" = true) (k8 : PySem.W.keepIn K (.ref f8) = true)
    (a9 : PySem.W.nsIn K mainGlobals "targets_of" = some (some (.ref f9)))
    (l9 : K.lookup f9 = some ⟨oc9, od9, .func (PySem.W.fnOf "targets_of" "targets_of" (defArgs s_targets_of) (defBody s_targets_of) (defScope s_targets_of) .none kV9 dc9 pm9 an9 cd9 ct9), sl9⟩)
    (c9 : PySem.W.codeIn K cd9 "targets_of" = true) (k9 : PySem.W.keepIn K (.ref f9) = true)
    (a10 : PySem.W.nsIn K mainGlobals "places_on" = some (some (.ref f10)))
    (l10 : K.lookup f10 = some ⟨oc10, od10, .func (PySem.W.fnOf "places_on" "places_on" (defArgs s_places_on) (defBody s_places_on) (defScope s_places_on) .none kV10 dc10 pm10 an10 cd10 ct10), sl10⟩)
    (c10 : PySem.W.codeIn K cd10 "places_on" = true) (k10 : PySem.W.keepIn K (.ref f10) = true)
    (a11 : PySem.W.nsIn K mainGlobals "_law_targets" = some (some (.ref f11)))
    (l11 : K.lookup f11 = some ⟨oc11, od11, .func (PySem.W.fnOf "_law_targets" "_law_targets" (defArgs s_targets) (defBody s_targets) (defScope s_targets) .none kV11 dc11 pm11 an11 cd11 ct11), sl11⟩)
    (c11 : PySem.W.codeIn K cd11 "_law_targets" = true) (k11 : PySem.W.keepIn K (.ref f11) = true)
    (a12 : PySem.W.nsIn K mainGlobals "_law_places" = some (some (.ref f12)))
    (l12 : K.lookup f12 = some ⟨oc12, od12, .func (PySem.W.fnOf "_law_places" "_law_places" (defArgs s_places) (defBody s_places) (defScope s_places) .none kV12 dc12 pm12 an12 cd12 ct12), sl12⟩)
    (c12 : PySem.W.codeIn K cd12 "_law_places" = true) (k12 : PySem.W.keepIn K (.ref f12) = true)
    (a13 : PySem.W.nsIn K mainGlobals "_law_told_way" = some (some (.ref f13)))
    (l13 : K.lookup f13 = some ⟨oc13, od13, .func (PySem.W.fnOf "_law_told_way" "_law_told_way" (defArgs s_told_way) (defBody s_told_way) (defScope s_told_way) .none kV13 dc13 pm13 an13 cd13 ct13), sl13⟩)
    (c13 : PySem.W.codeIn K cd13 "_law_told_way" = true) (k13 : PySem.W.keepIn K (.ref f13) = true)
    (a14 : PySem.W.nsIn K mainGlobals "follows" = some (some (.ref f14)))
    (l14 : K.lookup f14 = some ⟨oc14, od14, .func (PySem.W.fnOf "follows" "follows" (defArgs s_follows) (defBody s_follows) (defScope s_follows) .none kV14 dc14 pm14 an14 cd14 ct14), sl14⟩)
    (c14 : PySem.W.codeIn K cd14 "follows" = true) (k14 : PySem.W.keepIn K (.ref f14) = true)
    (a15 : PySem.W.nsIn K mainGlobals "_law_refused" = some (some (.ref f15)))
    (l15 : K.lookup f15 = some ⟨oc15, od15, .func (PySem.W.fnOf "_law_refused" "_law_refused" (defArgs s_refused) (defBody s_refused) (defScope s_refused) .none kV15 dc15 pm15 an15 cd15 ct15), sl15⟩)
    (c15 : PySem.W.codeIn K cd15 "_law_refused" = true) (k15 : PySem.W.keepIn K (.ref f15) = true)
    (a16 : PySem.W.nsIn K mainGlobals "law" = some (some (.ref f16)))
    (l16 : K.lookup f16 = some ⟨oc16, od16, .func (PySem.W.fnOf "law" "law" (defArgs s_law) (defBody s_law) (defScope s_law) .none kV16 dc16 pm16 an16 cd16 ct16), sl16⟩)
    (c16 : PySem.W.codeIn K cd16 "law" = true) (k16 : PySem.W.keepIn K (.ref f16) = true)
    (z_len : PySem.W.nsIn K mainGlobals "len" = some none)
    (z_int : PySem.W.nsIn K mainGlobals "int" = some none)
    (z_range : PySem.W.nsIn K mainGlobals "range" = some none)
    (z_abs : PySem.W.nsIn K mainGlobals "abs" = some none)
    (z_repr : PySem.W.nsIn K mainGlobals "repr" = some none)
    (z_list : PySem.W.nsIn K mainGlobals "list" = some none)
    (z_isinstance : PySem.W.nsIn K mainGlobals "isinstance" = some none)
    (z_sum : PySem.W.nsIn K mainGlobals "sum" = some none)
    (z_zip : PySem.W.nsIn K mainGlobals "zip" = some none)
    (z_bool : PySem.W.nsIn K mainGlobals "bool" = some none)
    (z_enumerate : PySem.W.nsIn K mainGlobals "enumerate" = some none)
    (z_tuple : PySem.W.nsIn K mainGlobals "tuple" = some none)
    (z_str : PySem.W.nsIn K mainGlobals "str" = some none)
    (z_all : PySem.W.nsIn K mainGlobals "all" = some none)
    (z_any : PySem.W.nsIn K mainGlobals "any" = some none)
    (z_min : PySem.W.nsIn K mainGlobals "min" = some none)
    (z_max : PySem.W.nsIn K mainGlobals "max" = some none)
    (nC : PySem.W.nsIn K mainGlobals "NoBranch" = some (some (.ref CN)))
    (nX : K.lookup CN = some (excClassObj nmN qN CN NN bsN [.ref GE, .type "ValueError", .type "Exception", .type "BaseException", .type "object"] true snN subN abN colN ddN mN0 mN1 mN2 mN3 mN5 "ValueError.__new__"))
    (nsa : PySem.W.findIn K (.ref CN) "__setattr__" = some (some (.builtin "object.__setattr__"))) (nga : PySem.W.findIn K (.ref CN) "__getattribute__" = some (some (.builtin "BaseException.__getattribute__")))
    (ngg : PySem.W.findIn K (.ref CN) "__getattr__" = some none) (nat_ : PySem.W.findIn K (.ref CN) "at" = some none) (nin : PySem.W.findIn K (.ref CN) "__init__" = some (some (.ref fN))) (nti : PySem.W.typeIn K (.ref fN) = some (.type "function"))
    (nl : K.lookup fN = some ⟨ocN, odN, .func (PySem.W.fnOf "__init__" "NoBranch.__init__" (defArgs s_NB) (defBody s_NB) (defScope s_NB) .none kVN dcN pmN anN cdN ctN), slN⟩) (ncd : PySem.W.codeIn K cdN "NoBranch.__init__" = true) (nkf : PySem.W.keepIn K (.ref fN) = true)
    (nkC : PySem.W.keepIn K (.ref CN) = true) (neC : PySem.W.subIn K (.ref CN) (.type "BaseException") = some true) (ntC : PySem.W.typeIn K (.ref CN) = some (.type "type")) (nhC : PySem.W.hasDictIn K CN = true) (nsC : PySem.W.subIn K (.ref CN) (.ref CN) = some true) :
    ∃ fd : FuncData, (∀ (s : Shared) (v : Value), BindsTo s fd ⟨[v], []⟩ [("script", v)]) ∧ ∀ B : Heap, K.In B → B.Ns mainGlobals mg → LawOk l.prog w K mg B 6 fa fd ["script"] (spLaw K) := by
  have e := hfa.symm.trans (PySem.W.mg_of X G a16)
  cases e
  have T : Bt mg := ⟨PySem.W.mg_none_of X G z_len, PySem.W.mg_none_of X G z_int, PySem.W.mg_none_of X G z_range, PySem.W.mg_none_of X G z_abs, PySem.W.mg_none_of X G z_repr, PySem.W.mg_none_of X G z_list, PySem.W.mg_none_of X G z_isinstance, PySem.W.mg_none_of X G z_sum, PySem.W.mg_none_of X G z_zip, PySem.W.mg_none_of X G z_bool, PySem.W.mg_none_of X G z_enumerate, PySem.W.mg_none_of X G z_tuple, PySem.W.mg_none_of X G z_str, PySem.W.mg_none_of X G z_all, PySem.W.mg_none_of X G z_any, PySem.W.mg_none_of X G z_min, PySem.W.mg_none_of X G z_max⟩
  have F1 := fun_mk (st := s_gcd) l1 c1 k1
  have D1 : IsDef K mg "_law_gcd" s_gcd ["a", "b"] := ⟨_, _, F1, PySem.W.mg_of X G a1, F1.binds (ps := ["a", "b"]) fun _ _ _ _ _ _ us hl => match us, hl with | [_, _], _ => rfl⟩
  have F2 := fun_mk (st := s_number) l2 c2 k2
  have D2 : IsDef K mg "_law_number" s_number ["n", "d"] := ⟨_, _, F2, PySem.W.mg_of X G a2, F2.binds (ps := ["n", "d"]) fun _ _ _ _ _ _ us hl => match us, hl with | [_, _], _ => rfl⟩
  have F3 := fun_mk (st := s_draws) l3 c3 k3
  have D3 : IsDef K mg "_law_draws" s_draws ["script", "count"] := ⟨_, _, F3, PySem.W.mg_of X G a3, F3.binds (ps := ["script", "count"]) fun _ _ _ _ _ _ us hl => match us, hl with | [_, _], _ => rfl⟩
  have F4 := fun_mk (st := s_place) l4 c4 k4
  have D4 : IsDef K mg "_law_place" s_place ["draws", "many"] := ⟨_, _, F4, PySem.W.mg_of X G a4, F4.binds (ps := ["draws", "many"]) fun _ _ _ _ _ _ us hl => match us, hl with | [_, _], _ => rfl⟩
  have F5 := fun_mk (st := s_game) l5 c5 k5
  have D5 : IsDef K mg "_law_game" s_game ["draws", "most"] := ⟨_, _, F5, PySem.W.mg_of X G a5, F5.binds (ps := ["draws", "most"]) fun _ _ _ _ _ _ us hl => match us, hl with | [_, _], _ => rfl⟩
  have F6 := fun_mk (st := s_strategy) l6 c6 k6
  have D6 : IsDef K mg "_law_strategy" s_strategy ["game", "side", "draws"] := ⟨_, _, F6, PySem.W.mg_of X G a6, F6.binds (ps := ["game", "side", "draws"]) fun _ _ _ _ _ _ us hl => match us, hl with | [_, _, _], _ => rfl⟩
  have F7 := fun_mk (st := s_is_whole) l7 c7 k7
  have D7 : IsDef K mg "is_whole" s_is_whole ["value"] := ⟨_, _, F7, PySem.W.mg_of X G a7, F7.binds (ps := ["value"]) fun _ _ _ _ _ _ us hl => match us, hl with | [_], _ => rfl⟩
  have F8 := fun_mk (st := s_has_branch) l8 c8 k8
  have D8 : IsDef K mg "has_branch" s_has_branch ["place", "number"] := ⟨_, _, F8, PySem.W.mg_of X G a8, F8.binds (ps := ["place", "number"]) fun _ _ _ _ _ _ us hl => match us, hl with | [_, _], _ => rfl⟩
  have F9 := fun_mk (st := s_targets_of) l9 c9 k9
  have D9 : IsDef K mg "targets_of" s_targets_of ["place"] := ⟨_, _, F9, PySem.W.mg_of X G a9, F9.binds (ps := ["place"]) fun _ _ _ _ _ _ us hl => match us, hl with | [_], _ => rfl⟩
  have F10 := fun_mk (st := s_places_on) l10 c10 k10
  have D10 : IsDef K mg "places_on" s_places_on ["game", "start", "branches"] := ⟨_, _, F10, PySem.W.mg_of X G a10, F10.binds (ps := ["game", "start", "branches"]) fun _ _ _ _ _ _ us hl => match us, hl with | [_, _, _], _ => rfl⟩
  have F11 := fun_mk (st := s_targets) l11 c11 k11
  have D11 : IsDef K mg "_law_targets" s_targets ["place"] := ⟨_, _, F11, PySem.W.mg_of X G a11, F11.binds (ps := ["place"]) fun _ _ _ _ _ _ us hl => match us, hl with | [_], _ => rfl⟩
  have F12 := fun_mk (st := s_places) l12 c12 k12
  have D12 : IsDef K mg "_law_places" s_places ["game", "start", "branches"] := ⟨_, _, F12, PySem.W.mg_of X G a12, F12.binds (ps := ["game", "start", "branches"]) fun _ _ _ _ _ _ us hl => match us, hl with | [_, _, _], _ => rfl⟩
  have F13 := fun_mk (st := s_told_way) l13 c13 k13
  have D13 : IsDef K mg "_law_told_way" s_told_way ["game", "start", "ours", "theirs", "draws"] := ⟨_, _, F13, PySem.W.mg_of X G a13, F13.binds (ps := ["game", "start", "ours", "theirs", "draws"]) fun _ _ _ _ _ _ us hl => match us, hl with | [_, _, _, _, _], _ => rfl⟩
  have F14 := fun_mk (st := s_follows) l14 c14 k14
  have D14 : IsDef0 K mg "follows" s_follows := ⟨_, _, F14, PySem.W.mg_of X G a14⟩
  have F15 := fun_mk (st := s_refused) l15 c15 k15
  have D15 : IsDef K mg "_law_refused" s_refused ["game", "start", "branches", "strategy"] := ⟨_, _, F15, PySem.W.mg_of X G a15, F15.binds (ps := ["game", "start", "branches", "strategy"]) fun _ _ _ _ _ _ us hl => match us, hl with | [_, _, _, _], _ => rfl⟩
  have FN := fun_mk (st := s_NB) nl ncd nkf
  have NB : NBTxt K mg CN := ⟨⟨⟨nmN, qN, NN, bsN, _, snN, subN, abN, colN, ddN, mN0, mN1, mN2, mN3, mN5, nX, by rfl⟩, nsa, neC, ntC, nkC⟩, ⟨nga, ngg, neC, nhC⟩, PySem.W.mg_of X G nC, nat_, PySem.W.exm_ref neC nhC ntC nsC,
    ⟨fN, _, nin, nti, FN, FN.binds (ps := ["self", "at"]) fun _ _ _ _ _ _ us hl => match us, hl with | [_, _], _ => rfl⟩⟩
  refine ⟨PySem.W.fnOf "law" "law" (defArgs s_law) (defBody s_law) (defScope s_law) .none kV16 dc16 pm16 an16 cd16 ct16, fun s v => .of_eq rfl, fun B _ _ => ?_⟩
  have U1 := has_gcd (P := l.prog) (w := w) (base := B) T D1
  have U2 := has_number D2 U1
  have U3 := has_draws (P := l.prog) (w := w) (base := B) T D3
  have U4 := has_place T D4 U2
  have U5 := has_game T D5 U4
  have U6 := has_strategy (P := l.prog) (w := w) (base := B) T D6
  have U7 := has_is_whole (P := l.prog) (w := w) (base := B) T D7
  have U8 := has_has_branch T D8 U7
  have U9 := has_targets_of (P := l.prog) (w := w) (base := B) T D9
  have U10 := has_places_on T NB D10 U8 U9
  have U11 := has_targets (P := l.prog) (w := w) (base := B) T D11
  have U12 := has_places T D12 U11
  have U13 := has_told_way T D13 U11
  have U14 := has_follows T D14 U10
  have U15 := has_refused NB D15 U14
  exact ok_law (fun_mk (st := s_law) l16 c16 k16) T U3 U5 U6 U13 U12 U14 U15
end Md

open PySem PySem.W PyProof.Rows in
set_option maxRecDepth 100000 in
set_option maxHeartbeats 0 in
theorem PySem.Challenge.cw_meanhold_k06_ways_that_follow_holds : PySem.Challenge.rw_meanhold_k06_ways_that_follow.Holds := by
  w_on; o_law; k_head; (case hw => w_witness2)
  k_fill
  refine Md.law_walk (l := PySem.Challenge.rw_meanhold_k06_ways_that_follow) (k := 6) (sp := Md.spLaw) (x := "script") rfl rfl ⟨rfl, by decide, by decide⟩ (fun w h Y => PySem.W.kIn_of Y) ?F (fun K H a ns hl _ hS => ⟨a, ns, rfl, hS, hl, fun _ => rfl⟩)
  case F =>
    intro w mg fa h KX G hmg
    refine' Md.all_mk KX G hmg ?a1 ?l1 ?c1 ?k1 ?a2 ?l2 ?c2 ?k2 ?a3 ?l3 ?c3 ?k3 ?a4 ?l4 ?c4 ?k4 ?a5 ?l5 ?c5 ?k5 ?a6 ?l6 ?c6 ?k6 ?a7 ?l7 ?c7 ?k7 ?a8 ?l8 ?c8 ?k8 ?a9 ?l9 ?c9 ?k9 ?a10 ?l10 ?c10 ?k10 ?a11 ?l11 ?c11 ?k11 ?a12 ?l12 ?c12 ?k12 ?a13 ?l13 ?c13 ?k13 ?a14 ?l14 ?c14 ?k14 ?a15 ?l15 ?c15 ?k15 ?a16 ?l16 ?c16 ?k16 ?z_len ?z_int ?z_range ?z_abs ?z_repr ?z_list ?z_isinstance ?z_sum ?z_zip ?z_bool ?z_enumerate ?z_tuple ?z_str ?z_all ?z_any ?z_min ?z_max ?nC ?nX ?nsa ?nga ?ngg ?nat_ ?nin ?nti ?nl ?ncd ?nkf ?nkC ?neC ?ntC ?nhC ?nsC
    (case a1 => k_is)
    (case l1 => k_is)
    (case c1 => k_is)
    (case k1 => k_is)
    (case a2 => k_is)
    (case l2 => k_is)
    (case c2 => k_is)
    (case k2 => k_is)
    (case a3 => k_is)
    (case l3 => k_is)
    (case c3 => k_is)
    (case k3 => k_is)
    (case a4 => k_is)
    (case l4 => k_is)
    (case c4 => k_is)
    (case k4 => k_is)
    (case a5 => k_is)
    (case l5 => k_is)
    (case c5 => k_is)
    (case k5 => k_is)
    (case a6 => k_is)
    (case l6 => k_is)
    (case c6 => k_is)
    (case k6 => k_is)
    (case a7 => k_is)
    (case l7 => k_is)
    (case c7 => k_is)
    (case k7 => k_is)
    (case a8 => k_is)
    (case l8 => k_is)
    (case c8 => k_is)
    (case k8 => k_is)
    (case a9 => k_is)
    (case l9 => k_is)
    (case c9 => k_is)
    (case k9 => k_is)
    (case a10 => k_is)
    (case l10 => k_is)
    (case c10 => k_is)
    (case k10 => k_is)
    (case a11 => k_is)
    (case l11 => k_is)
    (case c11 => k_is)
    (case k11 => k_is)
    (case a12 => k_is)
    (case l12 => k_is)
    (case c12 => k_is)
    (case k12 => k_is)
    (case a13 => k_is)
    (case l13 => k_is)
    (case c13 => k_is)
    (case k13 => k_is)
    (case a14 => k_is)
    (case l14 => k_is)
    (case c14 => k_is)
    (case k14 => k_is)
    (case a15 => k_is)
    (case l15 => k_is)
    (case c15 => k_is)
    (case k15 => k_is)
    (case a16 => k_is)
    (case l16 => k_is)
    (case c16 => k_is)
    (case k16 => k_is)
    (case z_len => k_is)
    (case z_int => k_is)
    (case z_range => k_is)
    (case z_abs => k_is)
    (case z_repr => k_is)
    (case z_list => k_is)
    (case z_isinstance => k_is)
    (case z_sum => k_is)
    (case z_zip => k_is)
    (case z_bool => k_is)
    (case z_enumerate => k_is)
    (case z_tuple => k_is)
    (case z_str => k_is)
    (case z_all => k_is)
    (case z_any => k_is)
    (case z_min => k_is)
    (case z_max => k_is)
    (case nC => k_is)
    (case nX => k_is)
    (case nsa => k_is)
    (case nga => k_is)
    (case ngg => k_is)
    (case nat_ => k_is)
    (case nin => k_is)
    (case nti => k_is)
    (case nl => k_is)
    (case ncd => k_is)
    (case nkf => k_is)
    (case nkC => k_is)
    (case neC => k_is)
    (case ntC => k_is)
    (case nhC => k_is)
    (case nsC => k_is)

