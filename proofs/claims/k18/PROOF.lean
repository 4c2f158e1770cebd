import PyProof.Rows.All
import Wide.All
import OpenK.AllK
import Wide.FinOn
import HandS.ForMost
import HandS.ForExc
import HandS.Evl
import HandS.Steps
import HandS.Wide
import HandS.Walk
import HandS.Gcd
import HandS.IsInst
import HandS.ExcInit
import HandS.ExcField
import HandS.ExcIs
import KE.KExcIs
import HandS.TryMany
import HandS.Small
import HandS.Style
import KE.KMathG
import HandS.SortInts
import HandS.Defaults
import HandS.Flow
import HandS.Deep
import HandS.HeadHook3
import HandS.Conv
import KE.GoesEnum
import KE.GoesMore
import HandS.TryOnly
import PySem.Challenge.RW_meanhold_k18_whole_chains_in_turns
set_option Elab.async false
set_option maxRecDepth 100000
set_option maxHeartbeats 2000000
namespace Md
open PySem L2 Evl
mutual
/-- the value v is the datum d: lists are tracked, tuples stand -/
inductive Dt (K : PySem.W.Frag) (H : Hp) : V → PyData → Prop
  | none : Dt K H V.non PyData.none
  | bool (b : Bool) : Dt K H (V.bl b) (PyData.bool b)
  | int (i : Int) : Dt K H (V.int i) (PyData.int i)
  | str (x : Str) : Dt K H (V.str x) (PyData.str x)
  | list {a : Addr} {xs : List V} {ds : List PyData} : H a = some (HO.lst xs) → DtA K H xs ds → Dt K H (V.ref a) (PyData.list ds)
  | tuple {a : Addr} {xs : List V} {ds : List PyData} : SqT K H a xs → DtA K H xs ds → Dt K H (V.ref a) (PyData.tuple ds)
inductive DtA (K : PySem.W.Frag) (H : Hp) : List V → List PyData → Prop
  | nil : DtA K H [] []
  | cons {v : V} {vs : List V} {d : PyData} {ds : List PyData} : Dt K H v d → DtA K H vs ds → DtA K H (v :: vs) (d :: ds)
end
section
variable {K : PySem.W.Frag} {H H' : Hp}
mutual
theorem Dt.mono (e : Ex H H') : ∀ (d : PyData) (v : V), Dt K H v d → Dt K H' v d
  | .none, _, h => by cases h; exact Dt.none
  | .bool b, _, h => by cases h; exact Dt.bool b
  | .int i, _, h => by cases h; exact Dt.int i
  | .str x, _, h => by cases h; exact Dt.str x
  | .list ds, _, h => by
    cases h with
    | list h1 h2 => exact Dt.list (e _ _ h1) (DtA.mono e ds _ h2)
  | .tuple ds, _, h => by
    cases h with
    | tuple h1 h2 => exact Dt.tuple (ex_t e h1) (DtA.mono e ds _ h2)
  | .dict _, _, h => by cases h
theorem DtA.mono (e : Ex H H') : ∀ (ds : List PyData) (vs : List V), DtA K H vs ds → DtA K H' vs ds
  | [], _, h => by cases h; exact DtA.nil
  | d :: ds, _, h => by
    cases h with
    | cons h1 h2 => exact DtA.cons (Dt.mono e d _ h1) (DtA.mono e ds _ h2)
end
theorem Dt.up {v : V} {d : PyData} (h : Dt K H v d) (e : Ex H H') : Dt K H' v d := Dt.mono e d v h
theorem DtA.up {vs : List V} {ds : List PyData} (h : DtA K H vs ds) (e : Ex H H') : DtA K H' vs ds := DtA.mono e ds vs h
mutual
theorem Dt.dp : ∀ (d : PyData) (v : V), Dt K H v d → Dp K H v d
  | .none, _, h => by cases h; exact Dp.non
  | .bool b, _, h => by cases h; exact Dp.bl b
  | .int i, _, h => by cases h; exact Dp.int i
  | .str x, _, h => by cases h; exact Dp.str x
  | .list ds, _, h => by
    cases h with
    | list h1 h2 => exact Dp.lst (SqL.of h1) (DtA.dp ds _ h2)
  | .tuple ds, _, h => by
    cases h with
    | tuple h1 h2 => exact Dp.tup h1 (DtA.dp ds _ h2)
  | .dict _, _, h => by cases h
theorem DtA.dp : ∀ (ds : List PyData) (vs : List V), DtA K H vs ds → DpAll K H vs ds
  | [], _, h => by cases h; exact DpAll.nil
  | d :: ds, _, h => by
    cases h with
    | cons h1 h2 => exact DpAll.cons (Dt.dp d _ h1) (DtA.dp ds _ h2)
end
theorem DtA.length : ∀ {ds : List PyData} {vs : List V}, DtA K H vs ds → vs.length = ds.length
  | [], _, h => by cases h; rfl
  | _ :: ds, _, h => by
    cases h with
    | cons _ h2 => exact congrArg Nat.succ (DtA.length h2)
theorem DtA.get : ∀ {ds : List PyData} {vs : List V} {i : Nat} {d : PyData}, DtA K H vs ds → ds[i]? = some d → ∃ v, vs[i]? = some v ∧ Dt K H v d
  | [], _, _, _, _, e => by simp at e
  | d :: ds, _, 0, _, h, e => by
    cases h with
    | cons h1 _ =>
      simp only [List.getElem?_cons_zero, Option.some.injEq] at e
      subst e
      exact ⟨_, rfl, h1⟩
  | _ :: ds, _, i + 1, _, h, e => by
    cases h with
    | cons _ h2 =>
      simp only [List.getElem?_cons_succ] at e
      obtain ⟨v, e1, h3⟩ := DtA.get h2 e
      exact ⟨v, by simpa using e1, h3⟩
theorem DtA.getV : ∀ {ds : List PyData} {vs : List V} {i : Nat} {v : V}, DtA K H vs ds → vs[i]? = some v → ∃ d, ds[i]? = some d ∧ Dt K H v d
  | [], _, _, _, h, e => by cases h; simp at e
  | d :: ds, _, 0, _, h, e => by
    cases h with
    | cons h1 _ =>
      simp only [List.getElem?_cons_zero, Option.some.injEq] at e
      subst e
      exact ⟨_, rfl, h1⟩
  | _ :: ds, _, i + 1, _, h, e => by
    cases h with
    | cons _ h2 =>
      simp only [List.getElem?_cons_succ] at e
      obtain ⟨d, e1, h3⟩ := DtA.getV h2 e
      exact ⟨d, by simpa using e1, h3⟩
theorem DtA.atI {ds : List PyData} {vs : List V} {i : Int} {d : PyData} (h : DtA K H vs ds) (e : L2.atI ds i = some d) : ∃ v, L2.atI vs i = some v ∧ Dt K H v d := by
  unfold L2.atI at e ⊢
  rw [h.length]
  cases q : ixN ds.length i with
  | none => rw [q] at e; cases e
  | some j =>
    rw [q] at e
    exact h.get e
theorem DtA.append : ∀ {ds es : List PyData} {vs us : List V}, DtA K H vs ds → DtA K H us es → DtA K H (vs ++ us) (ds ++ es)
  | [], _, _, _, h, g => by cases h; exact g
  | _ :: ds, _, _, _, h, g => by
    cases h with
    | cons h1 h2 => exact DtA.cons h1 (DtA.append h2 g)
theorem DtA.take : ∀ {ds : List PyData} {vs : List V} (n : Nat), DtA K H vs ds → DtA K H (vs.take n) (ds.take n)
  | _, _, 0, _ => DtA.nil
  | [], _, n + 1, h => by cases h; exact DtA.nil
  | _ :: ds, _, n + 1, h => by
    cases h with
    | cons h1 h2 => exact DtA.cons h1 (DtA.take n h2)
theorem DtA.drop : ∀ {ds : List PyData} {vs : List V} (n : Nat), DtA K H vs ds → DtA K H (vs.drop n) (ds.drop n)
  | _, _, 0, h => h
  | [], _, n + 1, h => by cases h; exact DtA.nil
  | _ :: ds, _, n + 1, h => by
    cases h with
    | cons _ h2 => exact DtA.drop n h2
theorem DtA.one {v : V} {d : PyData} (h : Dt K H v d) : DtA K H [v] [d] := DtA.cons h DtA.nil
theorem DtA.ints : ∀ ns : List Int, DtA K H (ns.map V.int) (ns.map PyData.int)
  | [] => DtA.nil
  | n :: ns => DtA.cons (Dt.int n) (DtA.ints ns)
def cutD (ds : List PyData) (lo hi : Option Int) : List PyData := (ds.drop (HT.sIx ds.length 0 lo)).take (HT.sIx ds.length ds.length hi - HT.sIx ds.length 0 lo)
theorem DtA.cut {ds : List PyData} {vs : List V} (h : DtA K H vs ds) (lo hi : Option Int) : DtA K H (cutV vs lo hi) (cutD ds lo hi) := by
  unfold cutV cutD
  rw [h.length]
  exact (h.drop _).take _
theorem Dt.listI {v : V} {ds : List PyData} (h : Dt K H v (.list ds)) : ∃ a xs, v = V.ref a ∧ H a = some (HO.lst xs) ∧ DtA K H xs ds := by
  cases h with
  | list h1 h2 => exact ⟨_, _, rfl, h1, h2⟩
theorem Dt.tupleI {v : V} {ds : List PyData} (h : Dt K H v (.tuple ds)) : ∃ a xs, v = V.ref a ∧ SqT K H a xs ∧ DtA K H xs ds := by
  cases h with
  | tuple h1 h2 => exact ⟨_, _, rfl, h1, h2⟩
theorem Dt.intI {v : V} {i : Int} (h : Dt K H v (.int i)) : v = V.int i := by cases h; rfl
theorem Dt.strI {v : V} {x : Str} (h : Dt K H v (.str x)) : v = V.str x := by cases h; rfl
theorem Dt.boolI {v : V} {b : Bool} (h : Dt K H v (.bool b)) : v = V.bl b := by cases h; rfl
end
structure Gr (b h b' h' : Hp) : Prop where
  gb : Ex b b'
  gh : Ex h h'
  gi : Ex b' h'
  gf : ∀ a, b a = none → h a ≠ none → b' a = none
theorem Gr.refl {b h : Hp} (e : Ex b h) : Gr b h b h := ⟨Ex.refl b, Ex.refl h, e, fun _ q _ => q⟩
theorem Gr.trans {b h b1 h1 b2 h2 : Hp} (x : Gr b h b1 h1) (y : Gr b1 h1 b2 h2) : Gr b h b2 h2 := ⟨x.gb.trans y.gb, x.gh.trans y.gh, y.gi, fun a q n => y.gf a (x.gf a q n) fun z => by
  cases e : h a with
  | none => exact n e
  | some o =>
    rw [x.gh a o e] at z
    cases z⟩
theorem Gr.stay {b h h' : Hp} (e : Ex b h) (e' : Ex h h') : Gr b h b h' := ⟨Ex.refl b, e', e.trans e', fun _ q _ => q⟩
theorem Gr.new {b h : Hp} {p : Addr} {o : HO} (e : Ex b h) (n : h p = none) : Gr b h (upd b p o) (upd h p o) := by
  have nb : b p = none := by
    cases q : b p with
    | none => rfl
    | some u =>
      rw [e p u q] at n
      cases n
  refine ⟨Ex.new nb, Ex.new n, fun a u q => ?_, fun a q z => ?_⟩
  · by_cases ha : a = p
    · subst ha
      rw [upd_same] at q ⊢
      exact q
    · rw [upd_ne ha] at q ⊢
      exact e a u q
  · rw [upd_ne (fun ha => z (by rw [ha]; exact n))]
    exact q
theorem Gr.hid {b h : Hp} {p : Addr} {o : HO} (e : Ex b h) (n : h p = none) : Gr b h b (upd h p o) := Gr.stay e (Ex.new n)
theorem Gr.mut {b0 h0 b h : Hp} {p : Addr} {o : HO} (g : Gr b0 h0 b h) (n : h0 p = none) (nb : b p = none) : Gr b0 h0 b (upd h p o) := ⟨g.gb, Ex.mut g.gh n, Ex.mut g.gi nb, g.gf⟩
theorem Gr.tell {b0 h0 b h : Hp} {p : Addr} {o : HO} (g : Gr b0 h0 b h) (n : h0 p = none) (nb : b p = none) (hp : h p = some o) : Gr b0 h0 (upd b p o) h := by
  refine ⟨g.gb.trans (Ex.new nb), g.gh, fun a u q => ?_, fun a q z => ?_⟩
  · by_cases ha : a = p
    · subst ha
      rw [upd_same] at q
      rw [hp]
      exact q
    · rw [upd_ne ha] at q
      exact g.gi a u q
  · rw [upd_ne (fun ha => z (by rw [ha]; exact n))]
    exact g.gf a q z
theorem none_of {b h : Hp} (e : Ex b h) {p : Addr} (n : h p = none) : b p = none := fresh_back e n
def ED (K : PySem.W.Frag) (te : TE) (σ : L2.St) (b : Hp) (d : PyData) : Prop := ∀ h, Ex b h → ∀ Q : VK, (∀ v b' h', Gr b h b' h' → Dt K b' v d → Q v h') → te σ h Q
def EDA (K : PySem.W.Frag) (ta : TA) (σ : L2.St) (b : Hp) (ds : List PyData) : Prop := ∀ h, Ex b h → ∀ Q : List V → Hp → Prop, (∀ vs b' h', Gr b h b' h' → DtA K b' vs ds → Q vs h') → ta σ h Q
section
variable {K : PySem.W.Frag} {σ : L2.St} {b b' h h' : Hp} {te ta tb : TE} {ts tr : TA} {d d' : PyData} {ds : List PyData} {v : V} {i : Int}
theorem Gr.back {b1 b2 h1 : Hp} (e : Ex b b1) (g : Gr b h b2 h1) (e1 : Ex b1 h) : ∃ b3, Gr b1 h b3 h1 ∧ Ex b2 b3 ∧ ∀ a, b2 a = none → b1 a = none → b3 a = none := by
  refine ⟨fun a => match b2 a with | some o => some o | none => b1 a, ⟨fun a o q => ?_, g.gh, fun a o q => ?_, fun a q n => ?_⟩, fun a o q => ?_, fun a z1 z2 => by simp only [z1, z2]⟩
  · cases z : b2 a with
    | none => simpa [z] using q
    | some u =>
      have h1 := g.gi a u z
      have h2 := g.gh a o (e1 a o q)
      rw [h1] at h2
      simp [z, h2]
  · cases z : b2 a with
    | none =>
      simp only [z] at q
      exact g.gh a o (e1 a o q)
    | some u =>
      simp only [z] at q
      rw [← q]
      exact g.gi a u z
  · have z : b2 a = none := g.gf a (fresh_back e q) n
    simp only [z]
    exact q
  · simp only [q]
theorem ED.up (x : ED K te σ b d) (e : Ex b b') : ED K te σ b' d := fun h e1 _ q => x h (e.trans e1) _ fun v b2 h2 g hv => by
  obtain ⟨b3, g3, e3, _⟩ := g.back e e1
  exact q v b3 h2 g3 (hv.up e3)
theorem EDA.up (x : EDA K ts σ b ds) (e : Ex b b') : EDA K ts σ b' ds := fun h e1 _ q => x h (e.trans e1) _ fun v b2 h2 g hv => by
  obtain ⟨b3, g3, e3, _⟩ := g.back e e1
  exact q v b3 h2 g3 (hv.up e3)
theorem ed_var {k : Nat} (hs : σ[k]? = some (some v)) (hd : Dt K b v d) : ED K (tVar k) σ b d := fun h e _ q => ⟨v, hs, q v b h (Gr.refl e) hd⟩
theorem ed_val (hd : Dt K b v d) (he : Ev te σ b v) : ED K te σ b d := fun h e _ q => he h e _ fun h2 e2 => q v b h2 (Gr.stay e e2) hd
theorem ed_of (x : Ev te σ b v) (hd : ∀ H2, Dt K H2 v d) : ED K te σ b d := fun h e _ q => x h e _ fun h2 e2 => q v b h2 (Gr.stay e e2) (hd b)
theorem ed_int (x : Ev te σ b (.int i)) : ED K te σ b (.int i) := ed_of x fun _ => Dt.int i
theorem ed_str {z : Str} (x : Ev te σ b (.str z)) : ED K te σ b (.str z) := ed_of x fun _ => Dt.str z
theorem ed_bool {k : Bool} (x : Ev te σ b (.bl k)) : ED K te σ b (.bool k) := ed_of x fun _ => Dt.bool k
theorem ev_int (x : ED K te σ b (.int i)) : Ev te σ b (.int i) := fun h e _ q => x h e _ fun v b2 h2 g hd => by
  rw [hd.intI]
  exact q h2 g.gh
theorem ed_ixL (ha : ED K ta σ b (.list ds)) (hb : Ev tb σ b (.int i)) (hi : L2.atI ds i = some d) : ED K (tOp (rIxL K) ta tb) σ b d := fun h e _ q => ha h e _ fun x b2 h2 g2 hx => hb h2 (e.trans g2.gh) _ fun h3 e3 => by
  obtain ⟨a, xs, rfl, k1, k2⟩ := hx.listI
  obtain ⟨v, hv, hd⟩ := k2.atI hi
  exact ⟨a, xs, i, v, rfl, rfl, sq_of (e3 _ _ (g2.gi _ _ k1)), hv, q v b2 h3 (g2.trans (Gr.stay g2.gi e3)) hd⟩
theorem ed_ixT (ha : ED K ta σ b (.tuple ds)) (hb : Ev tb σ b (.int i)) (hi : L2.atI ds i = some d) : ED K (tOp (rIxT K) ta tb) σ b d := fun h e _ q => ha h e _ fun x b2 h2 g2 hx => hb h2 (e.trans g2.gh) _ fun h3 e3 => by
  obtain ⟨a, xs, rfl, k1, k2⟩ := hx.tupleI
  obtain ⟨v, hv, hd⟩ := k2.atI hi
  exact ⟨a, xs, i, v, rfl, rfl, ex_t e3 (ex_t g2.gi k1), hv, q v b2 h3 (g2.trans (Gr.stay g2.gi e3)) hd⟩
theorem eda_nil : EDA K tNil σ b [] := fun h e _ q => q [] b h (Gr.refl e) DtA.nil
theorem eda_cons (x : ED K te σ b d) (hr : EDA K tr σ b ds) : EDA K (tCons te tr) σ b (d :: ds) := fun h e _ q => x h e _ fun v b2 h2 g2 hv => hr.up g2.gb h2 g2.gi _ fun vs b3 h3 g3 hvs =>
  q (v :: vs) b3 h3 (g2.trans g3) (DtA.cons (hv.up g3.gb) hvs)
theorem ed_tup (x : EDA K ts σ b ds) (hl : ds.length ≤ 100000) : ED K (tTup ts) σ b (.tuple ds) := fun h e _ q => x h e _ fun vs b2 h2 g2 hvs =>
  ⟨sz_of (by rw [hvs.length]; exact hl), fun p hp => q (.ref p) _ _ (g2.trans (Gr.new g2.gi hp)) (Dt.tuple (st_of upd_same) (hvs.up (Ex.new (none_of g2.gi hp))))⟩
theorem ev_lenL (ha : ED K te σ b (.list ds)) : Ev (tCB (rLenS K) (tCons te tNil)) σ b (.int (ds.length : Int)) := fun h e _ q => ha h e _ fun v b2 h2 g2 hv => by
  obtain ⟨a, xs, rfl, h1, k2⟩ := hv.listI
  refine ⟨a, xs, rfl, .inl (sq_of (g2.gi _ _ h1)), ?_⟩
  rw [k2.length]
  exact q h2 g2.gh
theorem ev_eqD (ha : ED K ta σ b d) (hb : ED K tb σ b d') (s1 : SeqAt.shaped d = true) (s2 : SeqAt.shaped d' = true) : Ev (tOp (rEqD K) ta tb) σ b (.bl (PyData.eqv d d')) := fun h e _ q =>
  ha h e _ fun x b2 h2 g2 hx => hb.up g2.gb h2 g2.gi _ fun y b3 h3 g3 hy => ⟨d, d', Dt.dp _ _ ((hx.up g3.gb).up g3.gi), Dt.dp _ _ (hy.up g3.gi), s1, s2, q h3 (g2.gh.trans g3.gh)⟩
def rInt1 : List V → Hp → VK → Prop := fun xs H Q => (∃ i, xs = [V.int i] ∧ Q (V.int i) H) ∨ ∃ k, xs = [V.bl k] ∧ Q (V.int (if k then 1 else 0)) H
theorem cr_int1 {X : Cx} : CallR X (.type "int") rInt1 := call_int1
theorem ev_int1 (x : Ev te σ b (.int i)) : Ev (tCB rInt1 (tCons te tNil)) σ b (.int i) := fun h e _ q => x h e _ fun h2 e2 => .inl ⟨i, rfl, q h2 e2⟩
def SpF (K : PySem.W.Frag) (n : Nat) (pre : List PyData → Prop) (f : List PyData → PyData → Prop) : Sp := fun vs h Q _ => ∃ b ds, Ex b h ∧ DtA K b vs ds ∧ ds.length = n ∧ pre ds ∧ ∀ v b' h' d, Gr b h b' h' → f ds d → Dt K b' v d → Q v h'
theorem SpF.len {n : Nat} {pre : List PyData → Prop} {f : List PyData → PyData → Prop} : ∀ vs H Q E, SpF K n pre f vs H Q E → vs.length = n := fun vs H Q E x => by
  obtain ⟨b, ds, _, h1, h2, _⟩ := x
  rw [h1.length, h2]
theorem ed_call {n : Nat} {pre : List PyData → Prop} {f : List PyData → PyData → Prop} {E : XK} (x : EDA K ts σ b ds) (hn : ds.length = n) (hp : pre ds) (he : ∀ e, f ds e → e = d) : ED K (tCall (SpF K n pre f) [] E ts) σ b d := fun h e _ q =>
  x h e _ fun vs b2 h2 g2 hvs => ⟨b2, ds, g2.gi, by rw [List.append_nil]; exact hvs, hn, hp, fun v b3 h3 d3 g3 hf hv => q v b3 h3 (g2.trans g3) (he d3 hf ▸ hv)⟩
def EX (K : PySem.W.Frag) (te : TE) (σ : L2.St) (b : Hp) (P : PyData → Prop) : Prop := ∀ h, Ex b h → ∀ Q : VK, (∀ v b' h' d, Gr b h b' h' → P d → Dt K b' v d → Q v h') → te σ h Q
theorem ED.ex (x : ED K te σ b d) : EX K te σ b (· = d) := fun h e _ q => x h e _ fun v b2 h2 g hv => q v b2 h2 d g rfl hv
end
def EN (K : PySem.W.Frag) (te : TE) (σ : L2.St) (b : Hp) (ds : List PyData) : Prop := ∀ h, Ex b h → ∀ Q : VK, (∀ p vs b' h', h p = none → b' p = none → Gr b h b' h' → h' p = some (.lst vs) → DtA K b' vs ds → Q (.ref p) h') → te σ h Q
section
variable {K : PySem.W.Frag} {σ : L2.St} {b b' : Hp} {te ta tb : TE} {ts tr : TA} {ds es : List PyData}
theorem EN.ed (x : EN K te σ b ds) : ED K te σ b (.list ds) := fun h e _ q => x h e _ fun p vs b2 h2 np nb g2 hp hv => q (.ref p) _ h2 (g2.tell np nb hp) (Dt.list upd_same (hv.up (Ex.new nb)))
theorem EN.up (x : EN K te σ b ds) (e : Ex b b') : EN K te σ b' ds := fun h e1 _ q => x h (e.trans e1) _ fun p us b2 h2 np nb g hp hv => by
  obtain ⟨b3, g3, e3, e4⟩ := g.back e e1
  exact q p us b3 h2 np (e4 p nb (none_of e1 np)) g3 hp (hv.up e3)
theorem gone {b h b1 h1 : Hp} (g : Gr b h b1 h1) {p : Addr} (n : h1 p = none) : h p = none := fresh_back g.gh n
theorem en_lst (x : EDA K ts σ b ds) (hl : ds.length ≤ 100000) : EN K (tLst ts) σ b ds := fun h e _ q => x h e _ fun vs b2 h2 g2 hvs =>
  ⟨sz_of (by rw [hvs.length]; exact hl), fun p hp => q p vs b2 _ (gone g2 hp) (none_of g2.gi hp) (g2.trans (Gr.hid g2.gi hp)) upd_same hvs⟩
theorem en_list (ha : ED K te σ b (.list ds)) : EN K (tCB (rListS K) (tCons te tNil)) σ b ds := fun h e _ q => ha h e _ fun v b2 h2 g2 hv => by
  obtain ⟨a, xs, rfl, k1, k2⟩ := hv.listI
  exact ⟨a, xs, rfl, .inl (sq_of (g2.gi _ _ k1)), fun l hl => q l xs b2 _ (gone g2 hl) (none_of g2.gi hl) (g2.trans (Gr.hid g2.gi hl)) upd_same k2⟩
theorem en_sl {tl th : TO} {lo hi : Option Int} (x : ED K te σ b (.list ds)) (h1 : EvO tl σ b lo) (h2 : EvO th σ b hi) : EN K (tSl (rSlL K) te tl th) σ b (cutD ds lo hi) := fun h e _ q =>
  x h e _ fun v b2 h2' g2 hv => h1 h2' (g2.gb.trans g2.gi) _ fun h3 e3 => h2 h3 ((g2.gb.trans g2.gi).trans e3) _ fun h4 e4 => by
    obtain ⟨a, xs, rfl, k1, k2⟩ := hv.listI
    have e24 := e3.trans e4
    have g4 := g2.trans (Gr.stay g2.gi e24)
    exact ⟨a, xs, rfl, sq_of (g4.gi _ _ k1), fun p hp => q p _ b2 _ (gone g4 hp) (none_of g4.gi hp) (g4.trans (Gr.hid g4.gi hp)) upd_same (k2.cut lo hi)⟩
theorem en_cat (ha : ED K ta σ b (.list ds)) (hb : ED K tb σ b (.list es)) (hl : ds.length + es.length ≤ 100000) : EN K (tOp rCat ta tb) σ b (ds ++ es) := fun h e _ q =>
  ha h e _ fun x b2 h2 g2 hx => hb.up g2.gb h2 g2.gi _ fun y b3 h3 g3 hy => by
    obtain ⟨a, xs, rfl, k1, k2⟩ := hx.listI
    obtain ⟨c, ys, rfl, l1, l2⟩ := hy.listI
    have g4 := g2.trans g3
    exact ⟨a, c, xs, ys, rfl, rfl, g3.gi _ _ (g3.gb _ _ k1), g3.gi _ _ l1, sz_of (by rw [k2.length, l2.length]; exact hl), fun p hp => q p _ b3 _ (gone g4 hp) (none_of g4.gi hp) (g4.trans (Gr.hid g4.gi hp)) upd_same ((k2.up g3.gb).append l2)⟩
end
def givenD (n : Nat) (f : Nat → Bool) (r : Nat → PyData) : List PyData := ((List.range n).filter f).map r
theorem givenD_yes {n : Nat} {f : Nat → Bool} {r : Nat → PyData} (h : f n = true) : givenD (n + 1) f r = givenD n f r ++ [r n] := by
  simp [givenD, List.range_succ, h]
theorem givenD_no {n : Nat} {f : Nat → Bool} {r : Nat → PyData} (h : f n = false) : givenD (n + 1) f r = givenD n f r := by
  simp [givenD, List.range_succ, h]
theorem givenD_len (n : Nat) (f : Nat → Bool) (r : Nat → PyData) : (givenD n f r).length ≤ n := by
  have h := List.length_filter_le f (List.range n)
  simpa [givenD] using h
theorem givenD_all (n : Nat) (r : Nat → PyData) : givenD n (fun _ => true) r = (List.range n).map r := by
  unfold givenD
  rw [List.filter_eq_self.mpr fun _ _ => rfl]
section
variable {K : PySem.W.Frag} {σ : L2.St} {b h1 : Hp} {te : TE} {t : TT} {g : TG} {vs : List Nat}
theorem et_yes : EvT tYes σ b true := fun h _ _ q => q h (Ex.refl h)
theorem lc_data {J : It} {n : Nat} {G : Hp → Prop} {Y : Nat → Hp → V → Hp → Prop} (w : Walk J n G Y) {Dl : Addr} {Qd : Hp → Prop} (f : Nat → Bool) (r : Nat → PyData) (eb : Ex b h1) (hD : h1 Dl = none) (hn : n ≤ 40000) (hG : ∀ h, Ex h1 h → G h)
    (hs : ∀ i x b2 h h', i < n → Ex h1 h → Gr b h1 b2 h → Y i h x h' → ∃ b3, Gr b2 h b3 h' ∧ ∀ Q : L2.St → Hp → Prop, (∀ σ2, wipe σ2 vs = wipe σ vs → EvT t σ2 b3 (f i) → (f i = true → ED K te σ2 b3 (r i)) → Q σ2 h') → g x (wipe σ vs) h' Q)
    (hd : ∀ b2 h us, Gr b h1 b2 h → b2 Dl = none → h Dl = some (.lst us) → DtA K b2 us (givenD n f r) → Qd h) :
    ∃ W : Nat → Nat → Hp → Prop, (∃ m, W 0 m (upd h1 Dl (.lst []))) ∧ ∀ i m H, W i m H →
      (J.stop i H ∧ Qd H) ∨ (J.go i H ∧ ∃ Nx : Hp → Prop, (∀ H', Nx H' → ∃ m', m' < m ∧ W (i + 1) m' H') ∧ ∀ x H', J.yld i H x H' → g x (wipe σ vs) H' fun σ2 H2 => wipe σ2 vs = wipe σ vs ∧ t σ2 H2 fun k H3 =>
        if k = true then te σ2 H3 fun y H4 => ∃ acc, H4 Dl = some (.lst acc) ∧ acc.length < sizeLine ∧ Nx (upd H4 Dl (.lst (acc ++ [y]))) else Nx H3) := by
  refine lc_it w (fun i h => ∃ b2 us, Gr b h1 b2 h ∧ b2 Dl = none ∧ h Dl = some (.lst us) ∧ DtA K b2 us (givenD i f r)) ?_ (fun i h _ p => ?_) ?_ ?_
  · exact ⟨b, [], Gr.hid eb hD, none_of eb hD, upd_same, DtA.nil⟩
  · obtain ⟨b2, us, g2, _⟩ := p
    exact hG h g2.gh
  · rintro i x h2 h3 hi ⟨b2, us, g2, nb, hu, hA⟩ hy
    obtain ⟨b3, g3, hq⟩ := hs i x b2 h2 h3 hi g2.gh g2 hy
    have nb3 : b3 Dl = none := g3.gf Dl nb (by rw [hu]; intro z; cases z)
    refine hq _ fun σ2 hw ht he => ⟨hw, ht h3 g3.gi _ fun h4 e4 => ?_⟩
    have g4 : Gr b3 h3 b3 h4 := Gr.stay g3.gi e4
    have hu4 : h4 Dl = some (.lst us) := e4 _ _ (g3.gh _ _ hu)
    cases hf : f i with
    | true =>
      show te σ2 h4 _
      refine he hf h4 g4.gi _ fun y b5 h5 g5 hy5 => ⟨us, g5.gh _ _ hu4, sz_lt (by have := givenD_len i f r; rw [hA.length]; omega), ?_⟩
      have nb5 : b5 Dl = none := g5.gf Dl nb3 (by rw [hu4]; intro z; cases z)
      refine ⟨b5, us ++ [y], ((g2.trans g3).trans (g4.trans g5)).mut hD nb5, nb5, upd_same, ?_⟩
      rw [givenD_yes hf]
      exact ((hA.up g3.gb).up g5.gb).append (DtA.one hy5)
    | false =>
      show ∃ b2 us, _
      refine ⟨b3, us, (g2.trans g3).trans g4, nb3, hu4, ?_⟩
      rw [givenD_no hf]
      exact hA.up g3.gb
  · rintro h ⟨b2, us, g2, nb, hu, hA⟩
    exact hd b2 h us g2 nb hu hA
end
end Md
set_option Elab.async false
set_option linter.all false
set_option maxRecDepth 100000
set_option maxHeartbeats 2000000
namespace Md
open PySem L2 Evl
section
variable {K : PySem.W.Frag} {σ : L2.St} {b h h0 : Hp} {te tl ta tb : TE} {t : TT} {g : TG} {vs : List Nat} {ds es : List PyData} {d d1 d2 d3 : PyData} {v : V} {Q : L2.St → Hp → Prop}
theorem g_two {i j : Nat} (x : Dt K b v (.tuple [d1, d2])) (e : Ex b h) (k : ∀ v1 v2, Dt K b v1 d1 → Dt K b v2 d2 → Q ((σ.set i (some v1)).set j (some v2)) h) : gTup K 2 (gCons (gName i) (gCons (gName j) gNil)) v σ h Q := by
  obtain ⟨a, xs, rfl, h1, h2⟩ := x.tupleI
  cases h2 with
  | cons q1 h2 =>
    cases h2 with
    | cons q2 h2 =>
      cases h2
      exact ⟨a, _, rfl, ex_t e h1, rfl, _, _, rfl, _, _, rfl, rfl, k _ _ q1 q2⟩
theorem g_three {i j l : Nat} (x : Dt K b v (.tuple [d1, d2, d3])) (e : Ex b h) (k : ∀ v1 v2 v3, Dt K b v1 d1 → Dt K b v2 d2 → Dt K b v3 d3 → Q (((σ.set i (some v1)).set j (some v2)).set l (some v3)) h) :
    gTup K 3 (gCons (gName i) (gCons (gName j) (gCons (gName l) gNil))) v σ h Q := by
  obtain ⟨a, xs, rfl, h1, h2⟩ := x.tupleI
  cases h2 with
  | cons q1 h2 =>
    cases h2 with
    | cons q2 h2 =>
      cases h2 with
      | cons q3 h2 =>
        cases h2
        exact ⟨a, _, rfl, ex_t e h1, rfl, _, _, rfl, _, _, rfl, _, _, rfl, rfl, k _ _ _ q1 q2 q3⟩
theorem en_lcG (x : ED K tl σ b (.list ds)) (hz : ds.length ≤ 40000) (f : Nat → Bool) (r : Nat → PyData)
    (hs : ∀ i d x b2 h2, Ex b b2 → Ex b2 h2 → ds[i]? = some d → Dt K b2 x d → ∀ Q : L2.St → Hp → Prop, (∀ σ2, wipe σ2 vs = wipe σ vs → EvT t σ2 b2 (f i) → (f i = true → ED K te σ2 b2 (r i)) → Q σ2 h2) → g x (wipe σ vs) h2 Q) :
    EN K (tLc (iList K tl) g t te vs) σ b (givenD ds.length f r) := fun h e _ q => x h e _ fun v b1 h1 g1 hv => by
  obtain ⟨a, xs, rfl, k1, k2⟩ := hv.listI
  refine ⟨a, rfl, ⟨xs, sq_of (g1.gi _ _ k1)⟩, fun Dl hD => ?_⟩
  rw [← k2.length] at hz q
  refine lc_data (walk_list (xs := xs)) f r g1.gi hD hz (fun h' e' => sq_of (e' _ _ (g1.gi _ _ k1))) (fun i y b2 h2 h3 hi e2 g2 hy => ?_) (fun b2 h2 us g2 nb hu hA => q Dl us b2 h2 (gone g1 hD) nb (g1.trans g2) hu hA)
  obtain ⟨rfl, hy⟩ := hy
  obtain ⟨dd, hdd, hx⟩ := k2.getV hy
  exact ⟨b2, Gr.refl g2.gi, fun Q k => hs i dd y b2 _ (g1.gb.trans g2.gb) g2.gi hdd (hx.up g2.gb) Q k⟩
theorem en_lcL {j : Nat} (x : ED K tl σ b (.list ds)) (hz : ds.length ≤ 40000) (f : Nat → Bool) (r : Nat → PyData) (hw : ∀ x, wipe ((wipe σ vs).set j (some x)) vs = wipe σ vs)
    (hs : ∀ i d x b2, Ex b b2 → ds[i]? = some d → Dt K b2 x d → EvT t ((wipe σ vs).set j (some x)) b2 (f i) ∧ (f i = true → ED K te ((wipe σ vs).set j (some x)) b2 (r i))) :
    EN K (tLc (iList K tl) (gName j) t te vs) σ b (givenD ds.length f r) :=
  en_lcG x hz f r fun i d x b2 h2 e _ hd hx Q k => k _ (hw x) (hs i d x b2 e hd hx).1 (hs i d x b2 e hd hx).2
theorem en_lcR {ts : TA} {j : Nat} {n : Int} (x : EvA ts σ b [.int n]) (hn : 0 ≤ n ∧ n ≤ 40000) (f : Nat → Bool) (r : Nat → PyData) (hw : ∀ x, wipe ((wipe σ vs).set j (some x)) vs = wipe σ vs)
    (hs : ∀ (i : Nat) b2, Ex b b2 → (i : Int) < n → EvT t ((wipe σ vs).set j (some (.int (i : Int)))) b2 (f i) ∧ (f i = true → ED K te ((wipe σ vs).set j (some (.int (i : Int)))) b2 (r i))) :
    EN K (tLc (iRng1 ts) (gName j) t te vs) σ b (givenD n.toNat f r) := fun h e _ q => x h e _ fun h1 e1 => by
  have g1 : Gr b h b h1 := Gr.stay e e1
  refine ⟨n, rfl, by omega, by omega, fun Dl hD => ?_⟩
  refine lc_data (walk_range (lo := 0) (n := n.toNat)) f r g1.gi hD (by omega) (fun _ _ => trivial) (fun i y b2 h2 h3 hi e2 g2 hy => ?_) (fun b2 h2 us g2 nb hu hA => q Dl us b2 h2 (gone g1 hD) nb (g1.trans g2) hu hA)
  obtain ⟨rfl, hy⟩ := hy
  have e0 : (0 : Int) + (i : Int) = (i : Int) := Int.zero_add _
  have hy' : y = V.int (i : Int) := by
    rw [hy]
    show V.int ((0 : Int) + (i : Int)) = V.int (i : Int)
    rw [e0]
  subst hy'
  refine ⟨b2, Gr.refl g2.gi, fun Q k => ?_⟩
  have z := hs i b2 g2.gb (by omega)
  exact k _ (hw _) z.1 z.2
theorem r_forL {D : Ends} {tu : TS} (x : ED K tl σ b (.list ds)) (e : Ex b h0)
    (k : ∀ a xs b1 h1, Gr b h0 b1 h1 → b1 a = some (.lst xs) → DtA K b1 xs ds → ∃ Pv : Nat → L2.St → Hp → Prop, Pv 0 σ h1 ∧ (∀ i σ' h', Pv i σ' h' → Ex b1 h') ∧
      (∀ i d x σ' h', ds[i]? = some d → Dt K b1 x d → Pv i σ' h' → g x σ' h' fun σ2 h2 => tu { D with nx := Pv (i + 1), ct := Pv (i + 1), bk := D.nx } σ2 h2) ∧ ∀ σ' h', Pv ds.length σ' h' → D.nx σ' h') :
    tFor (iList K tl) g tu D σ h0 := x h0 e _ fun v b1 h1 g1 hv => by
  obtain ⟨a, xs, rfl, k1, k2⟩ := hv.listI
  obtain ⟨Pv, p0, pe, ps, pd⟩ := k a xs b1 h1 g1 k1 k2
  refine ⟨a, rfl, ⟨xs, sq_of (g1.gi _ _ k1)⟩, for_list Pv p0 (fun i σ' h' _ p => sq_of (pe i σ' h' p _ _ k1)) (fun i y σ' h' hy p => ?_) (fun σ' h' p => pd σ' h' (by rw [← k2.length]; exact p))⟩
  obtain ⟨dd, hdd, hx⟩ := k2.getV hy
  exact ps i dd y σ' h' hdd hx p
variable {D : Ends} {tz tu tw : TS}
theorem r_set {i : Nat} (x : ED K te σ b d) (e : Ex b h) (k : ∀ v b' h', Gr b h b' h' → Dt K b' v d → tz D (σ.set i (some v)) h') : tSeq (tAsg te (gName i)) tz D σ h := x h e _ fun v b' h' g hv => k v b' h' g hv
theorem r_set1 {i : Nat} (x : ED K te σ b d) (e : Ex b h) (k : ∀ v b' h', Gr b h b' h' → Dt K b' v d → D.nx (σ.set i (some v)) h') : tAsg te (gName i) D σ h := x h e _ fun v b' h' g hv => k v b' h' g hv
theorem r_asg (x : ED K te σ b d) (e : Ex b h) (k : ∀ v b' h', Gr b h b' h' → Dt K b' v d → g v σ h' (tz D)) : tSeq (tAsg te g) tz D σ h := x h e _ fun v b' h' g hv => k v b' h' g hv
theorem r_setN {i : Nat} (x : EN K te σ b ds) (e : Ex b h) (k : ∀ p us b' h', h p = none → b' p = none → Gr b h b' h' → h' p = some (.lst us) → DtA K b' us ds → tz D (σ.set i (some (.ref p))) h') : tSeq (tAsg te (gName i)) tz D σ h := x h e _ fun p us b' h' np nb g hp hu => k p us b' h' np nb g hp hu
theorem r_sc {i : Nat} (x : Ev te σ b v) (e : Ex b h) (k : ∀ h', Gr b h b h' → tz D (σ.set i (some v)) h') : tSeq (tAsg te (gName i)) tz D σ h := x h e _ fun h' e' => k h' (Gr.stay e e')
theorem r_ret (x : ED K te σ b d) (e : Ex b h) (k : ∀ v b' h', Gr b h b' h' → Dt K b' v d → D.rt v h') : tRet te D σ h := x h e _ fun v b' h' g hv => k v b' h' g hv
theorem r_if {c : Bool} (x : EvT t σ b c) (e : Ex b h) (h1 : c = true → ∀ h', Gr b h b h' → tu { D with nx := tz D } σ h') (h2 : c = false → ∀ h', Gr b h b h' → tw { D with nx := tz D } σ h') : tSeq (tIfS t tu tw) tz D σ h :=
  q_if (x.mono e) (fun hc h' e' => h1 hc h' (Gr.stay e e')) (fun hc h' e' => h2 hc h' (Gr.stay e e'))
theorem r_if1 {c : Bool} (x : EvT t σ b c) (e : Ex b h) (h1 : c = true → ∀ h', Gr b h b h' → tu D σ h') (h2 : c = false → ∀ h', Gr b h b h' → tw D σ h') : tIfS t tu tw D σ h :=
  s_if (x.mono e) (fun hc h' e' => h1 hc h' (Gr.stay e e')) (fun hc h' e' => h2 hc h' (Gr.stay e e'))
end
section
variable {X : Cx}
def rRepr (K : PySem.W.Frag) : List V → Hp → VK → Prop := fun xs H Q => ∃ p d, xs = [.ref p] ∧ Dp K H (.ref p) d ∧ d.showable = true ∧ d.hasDict = false ∧ d.depth ≤ 60 ∧ d.shown.length ≤ sizeLine ∧ Q (.str d.shown) H
end
section
variable {X : Cx} {K : PySem.W.Frag} {tg e e2 : Expr} {te tl ta : TE} {ts : TA} {pos p tpos : Pos}
theorem ix_listK (h : X.K = K) : IxR X (rIxL K) := h ▸ ix_list
theorem ix_tupK (h : X.K = K) : IxR X (rIxT K) := h ▸ ix_tup
theorem sl_listK (h : X.K = K) : SlR X (rSlL K) := h ▸ sl_list
theorem len_K (h : X.K = K) : CallR X (.builtin "len") (rLenS K) := h ▸ call_len_seq
theorem list_K (h : X.K = K) : CallR X (.type "list") (rListS K) := h ▸ call_list_of
theorem sum_K (hc : X.calm = true) (h : X.K = K) : CallR X (.builtin "sum") (rSum K) := h ▸ cr_sum hc
theorem all_K (hc : X.calm = true) (h : X.K = K) : CallR X (.builtin "all") (rAll K) := h ▸ cr_all hc
theorem isi_K (h : X.K = K) : CallR X (.builtin "isinstance") (rIsi K) := h ▸ call_isi
theorem isiT_K (h : X.K = K) : CallR X (.builtin "isinstance") (rIsiT K) := h ▸ call_isiT
theorem eqD_K (hu : X.A.units + 64 < cLine) (h : X.K = K) : OpR X (compareOp .Eq) (rEqD K) := h ▸ op_eqD hu
theorem neD_K (hu : X.A.units + 64 < cLine) (h : X.K = K) : OpR X (compareOp .NotEq) (rNeD K) := h ▸ op_neD hu
theorem inS_K (h : X.K = K) : OpR X (compareOp .In) (rIn K false) := h ▸ op_in_seq
theorem niS_K (h : X.K = K) : OpR X (compareOp .NotIn) (rIn K true) := h ▸ op_notIn_seq
theorem pi_listK (h : X.K = K) (hl : PE X e tl) : PI X tg e (iList K tl) := h ▸ pi_list hl
theorem pg_tupK {es : List Expr} {k : Nat} {t : TGs} {n : Nat} (h : X.K = K) (hc : X.calm = true) (ht : PGs X es t) (hn : (assignEach es X.env).length = n := by rfl) (hst : (assignEach es X.env).findIdx? (·.1) = none := by rfl) :
    PG X (.Tuple es k pos) (gTup K n t) := h ▸ pg_tup hc ht hn hst
theorem pi_zipK {elts : List Expr} {kk : Nat} (h : X.K = K) (hg : Gl X "zip") (hm : X.mg "zip" = none) (ha : PA X [e, e2] ts) (hs : starEach [e, e2] X.env = (false, eval e X.env) :: starEach [e2] X.env := by rfl) (hpl : (backTo pos (starEach [e2] X.env)).any (·.1) = false := by rfl) :
    PI X (.Tuple elts kk tpos) (.Call (.Name "zip" p) [e, e2] [] pos) (iZip K ts) := h ▸ pi_zip hg hm ha hs hpl
theorem pi_enumK {elts : List Expr} {kk : Nat} (h : X.K = K) (hg : Gl X "enumerate") (hm : X.mg "enumerate" = none) (ha : PA X [e] ts) (hs : starEach [e] X.env = [(false, eval e X.env)] := by rfl) :
    PI X (.Tuple elts kk tpos) (.Call (.Name "enumerate" p) [e] [] pos) (iEnum K ts) := h ▸ pi_enum hg hm ha hs
theorem pe_appK {o : Expr} {to : TE} {apos cpos : Pos} (h : X.K = K) (ho : PE X o to) (ha : PA X [e] ts) (hbase : attributeBase o "append" X.env (eval o X.env) = eval o X.env := by rfl)
    (hfew : ((backTo cpos (starEach [e] X.env)).all (fun x => !x.1) && (backToKw cpos (keywordEach [] X.env)).all (fun x => x.1.isSome) && decide ([e].length + ([] : List Keyword).length + (if ([] : List Keyword).isEmpty then 0 else 1) < 30)) = true := by rfl)
    (hline : (apos.endLine == cpos.line) = true := by rfl) (hs : starEach [e] X.env = (false, eval e X.env) :: starEach [] X.env := by rfl) (hp : (backTo cpos (starEach [] X.env)).any (·.1) = false := by rfl) :
    PE X (.Call (.Attribute o "append" apos) [e] [] cpos) (tBM K "list" rAppend to ts) :=
  h ▸ pe_bm PySem.F.plainAttrs_list PySem.F.slot_list_append PySem.F.type_list_append mt_append ho ha hbase hfew hline hs hp
end
end Md
set_option Elab.async false
set_option linter.all false
set_option maxRecDepth 100000
set_option maxHeartbeats 2000000
namespace Md
open PySem L2 Evl
theorem mod_twice {x y : Nat} (h : y ≤ x) (h0 : 0 < y) : x % y * 2 ≤ x := by
  have h1 := Nat.mod_lt x h0
  have h2 := Nat.div_add_mod x y
  have h3 : 1 ≤ x / y := (Nat.le_div_iff_mul_le h0).mpr (by omega)
  have h4 : y * 1 ≤ y * (x / y) := Nat.mul_le_mul_left y h3
  omega
def num (n d : Int) : Int × Int := ((if d < 0 then -n else n) / ((Nat.gcd n.natAbs d.natAbs : Nat) : Int), (if d < 0 then -d else d) / ((Nat.gcd n.natAbs d.natAbs : Nat) : Int))
def nD (p : Int × Int) : PyData := .tuple [.int p.1, .int p.2]
section
variable {K : PySem.W.Frag} {σ : L2.St} {b h : Hp} {te : TE} {i : Int}
def rAbs : List V → Hp → VK → Prop := fun xs H Q => ∃ i, xs = [V.int i] ∧ Q (V.int (if i < 0 then -i else i)) H
theorem cr_abs {X : Cx} : CallR X (.builtin "abs") rAbs := call_abs
theorem ev_abs (x : Ev te σ b (.int i)) : Ev (tCB rAbs (tCons te tNil)) σ b (.int (i.natAbs : Int)) := fun h e _ q => x h e _ fun h2 e2 => ⟨i, rfl, by
  have e3 : (if i < 0 then -i else i) = (i.natAbs : Int) := by split <;> omega
  rw [e3]
  exact q h2 e2⟩
end
structure Bt (mg : Str → Option Value) : Prop where
  len : mg "len" = none
  int : mg "int" = none
  range : mg "range" = none
  abs : mg "abs" = none
  repr : mg "repr" = none
  list : mg "list" = none
  isinstance : mg "isinstance" = none
  sum : mg "sum" = none
  zip : mg "zip" = none
  bool : mg "bool" = none
  enumerate : mg "enumerate" = none
  tuple : mg "tuple" = none
  str : mg "str" = none
  all : mg "all" = none
  any : mg "any" = none
  min : mg "min" = none
  max : mg "max" = none
def IsDef (K : PySem.W.Frag) (mg : Str → Option Value) (x : Str) (st : Stmt) (ps : List Str) : Prop := ∃ f fd, Fun K x x st f fd ∧ mg x = some (.ref f) ∧ Binds K fd ps []
def Has (P : Program) (w : World) (K : PySem.W.Frag) (mg : Str → Option Value) (base : Heap) (k : Nat) (x : Str) (ps : List Str) (sp : Sp) : Prop :=
  ∃ f fd, FnOk P w K mg base CX0 k f fd ps sp ∧ mg x = some (.ref f) ∧ PySem.W.keepIn K (.ref f) = true ∧ Binds K fd ps []
def spDraws (K : PySem.W.Frag) : Sp := fun vs h Q _ => ∃ (b : Hp) (a : Addr) (ns : List Int) (n : Nat), vs = [.ref a, .int (n : Int)] ∧ Ex b h ∧ SqL K b a (ns.map V.int) ∧ ns.length ≤ 63 ∧ n ≤ 1000 ∧
  ∀ v b' h' (ds : List Int), Gr b h b' h' → ds.length = n → (∀ d ∈ ds, 0 ≤ d ∧ d < 1000) → Dt K b' v (.list (ds.map PyData.int)) → Q v h'
def spNumber (K : PySem.W.Frag) : Sp := SpF K 2 (fun ds => ∃ n d : Int, ds = [.int n, .int d] ∧ d ≠ 0 ∧ n.natAbs < 2 ^ 1900 ∧ d.natAbs < 2 ^ 1900) (fun ds r => ∀ n d : Int, ds = [.int n, .int d] → r = nD (num n d))
section
variable {K : PySem.W.Frag} {b : Hp} {vs : List V}
theorem DtA.i1 {x : Int} (h : DtA K b vs [.int x]) : vs = [.int x] := by
  cases h with
  | cons h1 h2 =>
    cases h2
    rw [h1.intI]
theorem DtA.i2 {x y : Int} (h : DtA K b vs [.int x, .int y]) : vs = [.int x, .int y] := by
  cases h with
  | cons h1 h2 =>
    rw [h1.intI, h2.i1]
end
section
variable {K : PySem.W.Frag} {σ : L2.St} {b h : Hp} {te ta tb : TE}
theorem DtA.intsI : ∀ {ns : List Int} {vs : List V}, DtA K b vs (ns.map PyData.int) → vs = ns.map V.int
  | [], _, h => by cases h; rfl
  | n :: ns, _, h => by
    cases h with
    | cons h1 h2 => rw [h1.intI, h2.intsI]; rfl
theorem at_ints {ns : List Int} {j : Nat} {z : Int} (e : z = (j : Int)) (h : j < ns.length) : L2.atI (ns.map PyData.int) z = some (.int (ns.getD j 0)) := by
  subst e
  refine atI_nat ?_
  rw [List.getElem?_map, List.getD_eq_getElem?_getD, List.getElem?_eq_getElem h]
  rfl
theorem at_pick (ns : List Int) {z : Int} (h0 : 0 ≤ z) (h : z < (ns.length : Int)) : ∃ x ∈ ns, L2.atI (ns.map PyData.int) z = some (.int x) := by
  have hj : z.toNat < ns.length := by omega
  refine ⟨ns.getD z.toNat 0, ?_, at_ints (by omega) hj⟩
  rw [List.getD_eq_getElem?_getD, List.getElem?_eq_getElem hj]
  exact List.getElem_mem hj
theorem ev_ixI {ns : List Int} {z : Int} (j : Nat) (x : ED K ta σ b (.list (ns.map PyData.int))) (y : Ev tb σ b (.int z)) (e : z = (j : Int)) (hj : j < ns.length) : Ev (tOp (rIxL K) ta tb) σ b (.int (ns.getD j 0)) := ev_int (ed_ixL x y (at_ints e hj))
theorem ev_sum {ns : List Int} (x : ED K te σ b (.list (ns.map PyData.int))) : Ev (tCB (rSum K) (tCons te tNil)) σ b (.int ns.sum) := fun h e _ q => x h e _ fun v b2 h2 g2 hv => by
  obtain ⟨a, xs, rfl, k1, k2⟩ := hv.listI
  rw [k2.intsI] at k1
  exact ⟨a, ns, rfl, sq_of (g2.gi _ _ k1), q h2 g2.gh⟩
theorem ds_get {ns : List Int} {j : Nat} (h : ∀ d ∈ ns, 0 ≤ d ∧ d < 1000) : 0 ≤ ns.getD j 0 ∧ ns.getD j 0 < 1000 := by
  rw [List.getD_eq_getElem?_getD]
  cases e : ns[j]? with
  | none => decide
  | some x => exact h x (List.mem_of_getElem? e)
end
theorem map_range_ints (n : Nat) (r : Nat → Int) : (List.range n).map (fun i => PyData.int (r i)) = ((List.range n).map r).map PyData.int := by
  rw [List.map_map]
  rfl
theorem sIx_of {n : Nat} (d : Nat) {j : Nat} (h : j ≤ n) : HT.sIx n d (some (j : Int)) = j := by
  rw [HT.sIx_nat, Nat.min_eq_left h]
theorem cut_ints {ds : List Int} {lo n : Nat} (hl : lo + n ≤ ds.length) (hd : ∀ d ∈ ds, 0 ≤ d ∧ d < 1000) : ∃ es : List Int, cutD (ds.map PyData.int) (some (lo : Int)) (some ((lo + n : Nat) : Int)) = es.map PyData.int ∧ es.length = n ∧ ∀ d ∈ es, 0 ≤ d ∧ d < 1000 := by
  refine ⟨(ds.drop lo).take n, ?_, by rw [List.length_take, List.length_drop]; omega, fun d h => hd d (List.mem_of_mem_drop (List.mem_of_mem_take h))⟩
  unfold cutD
  rw [List.length_map, sIx_of 0 (show lo ≤ ds.length by omega), sIx_of _ hl, ← List.map_drop, ← List.map_take, show lo + n - lo = n by omega]
inductive Pl where
  | draw (g : Int × Int) (bs : List ((Int × Int) × Int))
  | side (g : Int × Int) (o : Bool) (ts : List Int)
def brD (p : (Int × Int) × Int) : PyData := .tuple [nD p.1, .int p.2]
def Pl.gain : Pl → Int × Int
  | .draw g _ => g
  | .side g _ _ => g
def Pl.kind : Pl → Str
  | .draw _ _ => "draw"
  | .side _ o _ => if o then "ours" else "theirs"
def Pl.bd : Pl → List PyData
  | .draw _ bs => bs.map brD
  | .side _ _ ts => ts.map PyData.int
def Pl.D (p : Pl) : PyData := .tuple [nD p.gain, .str p.kind, .list p.bd]
def SmallN (p : Int × Int) : Prop := 1 ≤ p.2 ∧ p.2 < 1000 ∧ p.1.natAbs < 1000 ∧ Nat.gcd p.1.natAbs p.2.natAbs = 1
def WfP (many : Int) : Pl → Prop
  | .draw g bs => SmallN g ∧ 1 ≤ bs.length ∧ bs.length ≤ 6 ∧ (∀ p ∈ bs, 0 ≤ p.2 ∧ p.2 < many) ∧ ∃ ws : List Int, ws.length = bs.length ∧ (∀ w ∈ ws, 1 ≤ w ∧ w ≤ 5) ∧ bs.map (·.1) = ws.map (fun w => num w ws.sum)
  | .side g _ ts => SmallN g ∧ 1 ≤ ts.length ∧ ts.length ≤ 6 ∧ ∀ t ∈ ts, 0 ≤ t ∧ t < many
def WfG (G : List Pl) : Prop := 1 ≤ G.length ∧ G.length ≤ 12 ∧ ∀ p ∈ G, WfP (G.length : Int) p
theorem num_small {n d : Int} (hn : n.natAbs < 1000) (h0 : d ≠ 0) (hd : d.natAbs < 1000) : SmallN (num n d) := by
  unfold num SmallN
  simp only
  generalize hg : Nat.gcd n.natAbs d.natAbs = g
  have g0 : 0 < g := by rw [← hg]; exact Nat.gcd_pos_of_pos_right _ (by omega)
  generalize hN : (if d < 0 then -n else n) = N
  generalize hDd : (if d < 0 then -d else d) = Dd
  have eN : N.natAbs = n.natAbs := by rw [← hN]; split <;> omega
  have eD : Dd = (d.natAbs : Int) := by rw [← hDd]; split <;> omega
  obtain ⟨a, ha⟩ : g ∣ n.natAbs := by rw [← hg]; exact Nat.gcd_dvd_left _ _
  obtain ⟨c, hc⟩ : g ∣ d.natAbs := by rw [← hg]; exact Nat.gcd_dvd_right _ _
  have hab : Nat.gcd a c = 1 := by
    have := Nat.gcd_mul_left g a c
    rw [← ha, ← hc, hg] at this
    exact Nat.eq_of_mul_eq_mul_left g0 (by omega)
  have hc0 : 0 < c := by
    rcases Nat.eq_zero_or_pos c with z | z
    · subst z; omega
    · exact z
  have gi : (0 : Int) < (g : Int) := by omega
  have e1 : Dd / (g : Int) = (c : Int) := by
    rw [eD, hc]
    rw [Int.natCast_mul]
    exact Int.mul_ediv_cancel_left _ (by omega)
  have e2 : (N / (g : Int)).natAbs = a := by
    rcases Int.natAbs_eq N with z | z
    · rw [z, eN, ha, Int.natCast_mul, Int.mul_ediv_cancel_left _ (by omega)]
      rfl
    · rw [z, eN, ha, Int.natCast_mul, ← Int.mul_neg, Int.mul_ediv_cancel_left _ (by omega), Int.natAbs_neg]
      rfl
  have hcl : c ≤ g * c := Nat.le_mul_of_pos_left c g0
  have hal : a ≤ g * a := Nat.le_mul_of_pos_left a g0
  rw [e1, e2]
  refine ⟨by omega, by omega, by omega, ?_⟩
  rw [Int.natAbs_natCast]
  exact hab
theorem map_getD {α : Type} (ws : List Int) (f : Int → α) : (List.range ws.length).map (fun i => f (ws.getD i 0)) = ws.map f := by
  refine List.ext_getElem? fun i => ?_
  rw [List.getElem?_map, List.getElem?_map]
  by_cases h : i < ws.length
  · rw [List.getElem?_range h, List.getElem?_eq_getElem h]
    show some (f (ws.getD i 0)) = some (f ws[i])
    rw [List.getD_eq_getElem?_getD, List.getElem?_eq_getElem h]
    rfl
  · rw [List.getElem?_eq_none (by rw [List.length_range]; omega), List.getElem?_eq_none (by omega)]
    rfl
def WfS (x : Str) (G : List Pl) (S : List (Option Nat)) : Prop := S.length = G.length ∧ ∀ (i : Nat) (p : Pl), G[i]? = some p → (p.kind = x → ∃ j, S[i]? = some (some j) ∧ j < p.bd.length) ∧ (p.kind ≠ x → S[i]? = some none)
def Pl.at (p : Pl) (j : Nat) : Int := match p with
  | .draw _ bs => (bs.getD j ((0, 1), 0)).2
  | .side _ _ ts => ts.getD j 0
section
variable {K : PySem.W.Frag} {σ : L2.St} {b h : Hp} {te ta : TE} {d : PyData} {q : Addr} {us : List V} {D : Ends} {tz : TS}
theorem r_app1 (hq : h q = some (.lst us)) (ha : Ev ta σ h (.ref q)) (x : ED K te σ b d) (e : Ex b h) (nb : b q = none) (hz : us.length < 100000)
    (k : ∀ v b' h', Gr b h b' h' → b' q = none → h' q = some (.lst us) → Dt K b' v d → D.nx σ (upd h' q (.lst (us ++ [v])))) : tDrop (tBM K "list" rAppend ta (tCons te tNil)) D σ h :=
  ha h (Ex.refl h) _ fun h1 e1 => ⟨Or.inl ⟨rfl, us, sq_of (e1 _ _ hq)⟩, x h1 (e.trans e1) _ fun v b2 h2 g2 hv =>
    ⟨q, us, v, rfl, rfl, g2.gh _ _ (e1 _ _ hq), sz_lt hz, k v b2 h2 ((Gr.stay e e1).trans g2) (g2.gf q nb (by rw [e1 _ _ hq]; intro z; cases z)) (g2.gh _ _ (e1 _ _ hq)) hv⟩⟩
end
def svV : Option Nat → V
  | some j => .int (j : Int)
  | none => .non
end Md
set_option Elab.async false
set_option linter.all false
set_option maxRecDepth 100000
set_option maxHeartbeats 2000000
namespace Md
open PySem L2 Evl
structure Nice (k L : Nat) (d : PyData) : Prop where
  show_ : d.showable = true
  nd : d.hasDict = false
  dep : d.depth ≤ k
  lay : d.canLay0 = true
  len : d.shown.length ≤ L
theorem Nice.mono {k L k' L' : Nat} {d : PyData} (h : Nice k L d) (hk : k ≤ k') (hl : L ≤ L') : Nice k' L' d := ⟨h.show_, h.nd, Nat.le_trans h.dep hk, h.lay, Nat.le_trans h.len hl⟩
theorem Nice.shaped {k L : Nat} {d : PyData} (h : Nice k L d) (hk : k ≤ 64) : SeqAt.shaped d = true := by
  unfold SeqAt.shaped
  rw [h.lay, decide_eq_true (Nat.le_trans h.dep hk)] <;> rfl
theorem Nice.eqv {k L : Nat} {d : PyData} (h : Nice k L d) : PyData.eqv d d = true := PySem.SeqAt.eqv_refl d h.lay
theorem num_le {n d : Int} (h : d ≠ 0) : (num n d).1.natAbs ≤ n.natAbs ∧ (num n d).2.natAbs ≤ d.natAbs := by
  unfold num
  simp only
  have hg : 0 < Nat.gcd n.natAbs d.natAbs := Nat.gcd_pos_of_pos_right _ (by omega)
  generalize Nat.gcd n.natAbs d.natAbs = g at hg
  have key : ∀ z : Int, (z / (g : Int)).natAbs ≤ z.natAbs := fun z => by
    have := Int.natAbs_ediv_le_natAbs z (g : Int)
    exact this
  have e1 : (if d < 0 then -n else n).natAbs = n.natAbs := by split <;> omega
  have e2 : (if d < 0 then -d else d).natAbs = d.natAbs := by split <;> omega
  exact ⟨e1 ▸ key _, e2 ▸ key _⟩
def ConstT (K : PySem.W.Frag) (mg : Str → Option Value) (x : Str) (d : PyData) : Prop := ∃ a, mg x = some (.ref a) ∧ ∀ H, Dt K H (.ref a) d
def OwnL (K : PySem.W.Frag) (h b' : Hp) (u : V) : Prop := ∃ t g kd l bs, u = .ref t ∧ SqT K b' t [g, kd, .ref l] ∧ h l = none ∧ b' l = some (.lst bs) ∧ bs.length ≤ 6
theorem OwnL.up {K : PySem.W.Frag} {h b b' : Hp} {u : V} (x : OwnL K h b u) (e : Ex b b') : OwnL K h b' u := by
  obtain ⟨t, g, kd, l, bs, h1, h2, h3, h4, h5⟩ := x
  exact ⟨t, g, kd, l, bs, h1, ex_t e h2, h3, e _ _ h4, h5⟩
theorem OwnL.of {K : PySem.W.Frag} {h h' b : Hp} {u : V} (x : OwnL K h' b u) (e : Ex h h') : OwnL K h b u := by
  obtain ⟨t, g, kd, l, bs, h1, h2, h3, h4, h5⟩ := x
  exact ⟨t, g, kd, l, bs, h1, h2, fresh_back e h3, h4, h5⟩
def OwnQ (K : PySem.W.Frag) (h : Hp) (p : Addr) (b' : Hp) (u : V) : Prop := ∃ t g kd l bs, u = .ref t ∧ SqT K b' t [g, kd, .ref l] ∧ h l = none ∧ l ≠ p ∧ b' l = some (.lst bs) ∧ bs.length ≤ 6
theorem OwnL.q {K : PySem.W.Frag} {h b : Hp} {u : V} {p : Addr} (x : OwnL K h b u) (n : b p = none) : OwnQ K h p b u := by
  obtain ⟨t, g, kd, l, bs, h1, h2, h3, h4, h5⟩ := x
  exact ⟨t, g, kd, l, bs, h1, h2, h3, ne_of_none h4 n, h4, h5⟩
theorem OwnQ.up {K : PySem.W.Frag} {h b b' : Hp} {u : V} {p : Addr} (x : OwnQ K h p b u) (e : Ex b b') : OwnQ K h p b' u := by
  obtain ⟨t, g, kd, l, bs, h1, h2, h3, h4, h5, h6⟩ := x
  exact ⟨t, g, kd, l, bs, h1, ex_t e h2, h3, h4, e _ _ h5, h6⟩
theorem tyes_of {A B : Hp → Prop} {σ : L2.St} {H : Hp} (h : A H) : tYes σ H (fun k H' => if k = true then A H' else B H') := by
  show (if true = true then A H else B H)
  rw [if_pos rfl]
  exact h
section
variable {K : PySem.W.Frag} {σ : L2.St} {b h : Hp} {te : TE} {ts : TA} {ds : List PyData} {D : Ends} {tz : TS} {sp : Sp} {E : XK}
theorem r_call {i : Nat} (x : EDA K ts σ b ds) (e : Ex b h) (k : ∀ vs b' h', Gr b h b' h' → DtA K b' vs ds → sp vs h' (fun v h2 => tz D (σ.set i (some v)) h2) E) : tSeq (tAsg (tCall sp [] E ts) (gName i)) tz D σ h :=
  x h e _ fun vs b' h' g hv => by
    rw [List.append_nil]
    exact k vs b' h' g hv
end
end Md
set_option Elab.async false
set_option linter.all false
set_option maxRecDepth 100000
set_option maxHeartbeats 2000000
namespace Md
open PySem PySem.Spec PyProof.Rows L2 Evl
def LawOk (P : Program) (w : World) (K : PySem.W.Frag) (mg : Str → Option Value) (base : Heap) (k : Nat) (f : Addr) (fd : FuncData) (ps : List Str) (sp : Sp) : Prop :=
  ∀ (s : Shared) (H : Hp) (ar : Args) (us : List Value) (vs : List V) (Q : VK), Room k callerA → Env0 P w K mg base callerA [] s H →
    BindsTo s fd ar (ps.zip us) → Vals vs us → sp vs H Q E0 → codeAny (model P w) callerA (.call (.ref f) ar) (CR CX0 [] P w H s Q E0) s
theorem law_ok {P : Program} {w : World} {K : PySem.W.Frag} {mg : Str → Option Value} {base : Heap} {x qual : Str} {st : Stmt} {f : Addr} {fd : FuncData} {N ps : List Str} {k : Nat} {sp : Sp} (F : Fun K x qual st f fd)
    (S : FnScope N ps (defScope st)) (len : ∀ vs H Q E, sp vs H Q E → vs.length = ps.length)
    (body : ∀ (cd : Value) (s : Shared) (H : Hp) (vs : List V) (Q : VK), Room k (callerA.deeper (envOfC qual (defScope st) s.heap.objs.size f cd)) → sp vs H Q E0 →
      ∃ t, PSs (cxOf CX0 P w K mg base N qual (defScope st) f cd callerA [] s H E0).nox (defBody st) t ∧ t { nx := fun _ H' => Q .non H', rt := Q } (start N vs) H) : LawOk P w K mg base (k + 1) f fd ps sp := by
  obtain ⟨oc, od, kV, dc, pm, an, cd, ct, sl, rfl, lk, hcd⟩ := F.ex
  intro s H ar us vs Q room e0 hb rv hs
  have hlen := len _ _ _ _ hs
  have old : ∀ c o, base.get? c = some o → s.heap.get? c = some o := fun c o e => (e0.bs c o e).1
  have kin : K.In s.heap := e0.mod.kin.keeps old
  have nolim : s.heap.NoLimit := e0.mod.nolimit.keeps old
  have kinds : ∀ y ∈ ps.zip us, (defScope st).names.lookup y.1 = some .local ∨ ((defScope st).names.lookup y.1 = some .cell ∧ ((cellsFrom (s.heap.objs.size + 1) (defScope st).names []).lookup y.1).isSome = true) := by
    rintro ⟨n, v⟩ hy
    rcases S.par n (List.of_mem_zip hy).1 with z | z
    · exact .inl z
    · exact .inr ⟨z, PySem.W.cellsFrom_some _ _ _ (.inl z)⟩
  refine codeAny_call_function room.depth (kin _ _ lk) rfl S.co S.gen rfl (PySem.W.codeRec_of kin hcd) (hb _ _ _ _ (wpAny_newFunctionEnv_cells S.kind kinds ?_))
  rintro env rfl s1 call
  refine ⟨nolim.keeps call.toInCall.keep, codeAny_func ?_⟩
  obtain ⟨t, ht, hq⟩ := body cd s H vs Q (room.deeper _) hs
  have start_ : Inv (cxOf CX0 P w K mg base N qual (defScope st) f cd callerA [] s H E0) [] (start N vs) H s1 := inv_start S room.hd e0 hlen rv call
  refine wpAny_mono (ht.nox.run [] s1 (start N vs) H _ start_ hq) ?_ (fun _ _ z => z)
  intro fl s2 z
  cases fl with
  | next =>
    obtain ⟨σ2, H2, J, q⟩ := z
    exact ⟨V.non, H2, J.os, J.bare, J.base, J.hok, rfl, q⟩
  | ret u =>
    obtain ⟨v, σ2, H2, J, r, q⟩ := z
    exact ⟨v, H2, J.os, J.bare, J.base, J.hok, r, q⟩
  | brk =>
    obtain ⟨_, _, _, q⟩ := z
    cases q
  | cont =>
    obtain ⟨_, _, _, q⟩ := z
    cases q
theorem law_run {P : Program} {w : World} {K : PySem.W.Frag} {mg mb : Str → Option Value} {k : Nat} {f a : Addr} {fd : FuncData} {x : Str} {sp : Sp} {s1 : Shared} {us : List Value} {ns : List Int}
    (kx : K.In s1.heap) (gl : s1.heap.Ns mainGlobals mg) (bl : s1.heap.Ns builtinsNs mb) (bb : ∀ y : Str, y ≠ "__name__" → mb y = bootBuiltins y) (nl : s1.heap.NoLimit) (gn : s1.gens = #[])
    (ha : s1.heap.get? a = some { cls := .type "list", data := .seq us.toArray }) (hi : IntsAre us ns) (hz : ns.length ≤ sizeLine) (room : Room k callerA)
    (F : ∀ B : Heap, K.In B → B.Ns mainGlobals mg → LawOk P w K mg B k f fd [x] sp) (hb : ∀ (s : Shared) (u : Value), BindsTo s fd ⟨[u], []⟩ [(x, u)])
    (hsp : ∀ H : Hp, Only H → SqL K H a (ns.map V.int) → sp [.ref a] H (fun v _ => v = .bl true) E0) :
    codeAny (model P w) callerA (.call (.ref f) ⟨[.ref a], []⟩) (fun r s2 => r = .ok (.ret (.bool true)) ∧ OldK s1.heap s2.heap ∧ s2.os = s1.os ∧ AllBare s2.gens) s1 := by
  have rv := vals_ints hi
  have hlen := hi.length
  have key : ∀ H : Hp, Only H → SqL K H a (ns.map V.int) → HOk P w H s1.heap → (∀ c, H c ≠ none → c = a) → (H a ≠ none → K.lookup a = none) →
      codeAny (model P w) callerA (.call (.ref f) ⟨[.ref a], []⟩) (fun r s2 => r = .ok (.ret (.bool true)) ∧ OldK s1.heap s2.heap ∧ s2.os = s1.os ∧ AllBare s2.gens) s1 := by
    intro H only sq ok one out
    have nodict : ∀ {c : Addr} {o : Obj} {es : Array DictEntry} {n : Nat}, s1.heap.get? c = some o → o.data = .dict es n → H c = none := by
      intro c o es n e d
      cases q : H c with
      | none => rfl
      | some u =>
        obtain rfl : c = a := one c (by rw [q]; simp)
        rw [ha] at e
        cases e
        cases d
    have ns_ : ∀ {c : Addr} {m : Str → Option Value}, s1.heap.Ns c m → (hidT s1.heap H).Ns c m := by
      rintro c m ⟨o, es, n, e, d, r⟩
      exact ⟨o, es, n, hidT_get e (nodict e d), d, r⟩
    have kB : K.In (hidT s1.heap H) := fun c o e => hidT_get (kx c o e) (by
      cases q : H c with
      | none => rfl
      | some u =>
        obtain rfl : c = a := one c (by rw [q]; simp)
        rw [out (by rw [q]; simp)] at e
        cases e)
    have lim : (hidT s1.heap H).NoLimit := by
      obtain ⟨mc, h1, h2⟩ := nl
      exact ⟨mc, ns_ h1, h2⟩
    have e0 : Env0 P w K mg (hidT s1.heap H) callerA [] s1 H := ⟨rfl, ⟨kB, ns_ gl, ⟨mb, ns_ bl, bb⟩, lim⟩, fun c o e => of_hidT e, Nat.le_of_eq (hidT_size _ _), trivial, (fun c hc => absurd (show c ∈ ([] : List Addr) from hc) (by simp)), ok, .of_eq gn⟩
    refine codeAny_mono (F _ kB (ns_ gl) s1 H ⟨[.ref a], []⟩ [.ref a] [.ref a] _ room e0 (hb s1 (.ref a)) (.cons rfl .nil) (hsp H only sq)) ?_
    intro r s2 z
    cases r with
    | error e => cases z
    | ok fl =>
      cases fl with
      | next => cases z
      | brk => cases z
      | cont => cases z
      | ret u =>
        obtain ⟨v, H2, os, bare, un, ok2, ru, q⟩ := z
        obtain rfl : v = .bl true := q
        obtain rfl : u = Value.bool true := ru
        refine ⟨rfl, OldK.of_keep (fun c o e => ?_), os, bare⟩
        cases q : H c with
        | none => exact un.keep c o e q (fun z => absurd (show c ∈ ([] : List Addr) from z) (by simp)) (by simp)
        | some u =>
          rcases only c with z | ⟨ob, xs, z⟩
          · rw [q] at z
            cases z
          · obtain ⟨e1, _⟩ := ok c _ z
            obtain ⟨e2, _⟩ := ok2 c _ (un.frzs c ob _ z)
            rw [e] at e1
            cases e1
            exact e2
  cases hk : K.lookup a with
  | some o =>
    have e := kx a o hk
    rw [ha] at e
    cases e
    refine key (fun _ => none) (fun _ => .inl rfl) (.inr ⟨_, us.toArray, _, hk, rfl, rfl, rfl, by rw [List.size_toArray, hlen]; exact hz, by simpa using rv⟩) (fun c u z => ?_) (fun c z => absurd rfl z) (fun z => absurd rfl z)
    cases (show (none : Option HO) = some u from z)
  | none =>
    let O : Obj := { cls := .type "list", data := .seq us.toArray }
    let H0 : Hp := fun c => if c = a then some (.frz O (.lst (ns.map V.int))) else none
    have at_a : H0 a = some (.frz O (.lst (ns.map V.int))) := if_pos rfl
    have off : ∀ c, c ≠ a → H0 c = none := fun c hc => if_neg hc
    refine key H0 (fun c => ?_) (.inl (.inr ⟨O, at_a⟩)) (fun c u z => ?_) (fun c z => ?_) (fun _ => hk)
    · by_cases hc : c = a
      · exact .inr ⟨O, ns.map V.int, by rw [hc]; exact at_a⟩
      · exact .inl (off c hc)
    · by_cases hc : c = a
      · subst hc
        rw [at_a] at z
        cases z
        exact ⟨ha, by rw [List.length_map]; exact hz, us, _, rv, ha⟩
      · rw [off c hc] at z
        cases z
    · by_cases hc : c = a
      · exact hc
      · exact absurd (off c hc) z
theorem law_walk {l : PySem.W.OpenLaw} {k : Nat} {q : Program} {loose : List Str} {XP : (Str → Option Value) → Heap → Prop} {YP : World → Heap → Prop} {d : DefRec} {K : Params → PySem.W.Frag} {sp : PySem.W.Frag → Sp} {x : Str}
    (hn : l.most = some 63) (hdf : d.params.defaults = []) (room : Room k callerA) (hY : ∀ (w : World) (h : Heap), YP w h → (K w.params).In h)
    (F : ∀ (w : World) (mg : Str → Option Value) (fa : Addr) (h : Heap), (K w.params).In h → h.Ns mainGlobals mg → mg d.name = some (.ref fa) →
      ∃ fd : FuncData, (∀ (s : Shared) (u : Value), BindsTo s fd ⟨[u], []⟩ [(x, u)]) ∧ ∀ B : Heap, (K w.params).In B → B.Ns mainGlobals mg → LawOk l.prog w (K w.params) mg B k fa fd [x] (sp (K w.params)))
    (hsp : ∀ (K : PySem.W.Frag) (H : Hp) (a : Addr) (ns : List Int), ns.length ≤ 63 → Only H → SqL K H a (ns.map V.int) → sp K [.ref a] H (fun v _ => v = .bl true) E0) :
    PySem.W.WalkO q loose XP YP l.row.toRowW d [] (fun f vs => PySem.call f vs) := by
  refine Att.attach_call hn hdf fun w s₀ s₁ mg mb fa o pm cd doc a vs ns G Y ho hd hcd hmg hobj hints hlen hg => ?_
  have kx := hY w _ Y
  obtain ⟨fd, hb, hF⟩ := F w mg fa _ kx G.T.g hmg
  exact law_run kx G.T.g G.T.b G.T.builtins G.T.nolimit hg hobj hints (Nat.le_trans hlen (by decide)) room hF hb fun H only sq => hsp _ H a ns hlen only sq
def spLaw (K : PySem.W.Frag) : Sp := fun vs H Q _ => ∃ (a : Addr) (ns : List Int), vs = [.ref a] ∧ SqL K H a (ns.map V.int) ∧ ns.length ≤ 63 ∧ ∀ H', Q (.bl true) H'
end Md
set_option Elab.async false
set_option linter.all false
set_option maxRecDepth 100000
set_option maxHeartbeats 2000000
namespace Md
open PySem L2 Evl
section
variable {X : Cx} {CX : CXT} {k : Nat} {f : Addr} {fd : FuncData} {ps ks : List Str} {sp : Sp} {E : L2.St → XK} {x : Str} {p pos : Pos} {e : Expr} {es : List Expr} {kws : List Keyword} {t tk : TA} {g : List Value → List Value → List Value} {gV : List V → List V → List V}
end
def NBAt (H : Hp) (C : Addr) (n : Int) (E : XK) : Prop := ∀ d h', Ex H h' → H d = none → h' d = some (.xd [(("at" : Str), .int n)]) → E (.ref C) (some d) h'
theorem NBAt.up {H H' : Hp} {C : Addr} {n : Int} {E : XK} (x : NBAt H C n E) (e : Ex H H') : NBAt H' C n E := fun d h' e' nd hd => x d h' (e.trans e') (fresh_back e nd) hd
def Pl.tg : Pl → List Int
  | .draw _ bs => bs.map (·.2)
  | .side _ _ ts => ts
def plAt (G : List Pl) (x : Nat) : Pl := G.getD x (.side (0, 1) true [])
def stepT (G : List Pl) (x : Nat) (n : Int) : Nat := ((plAt G x).tg.getD n.toNat 0).toNat
def okB (G : List Pl) (x : Nat) (n : Int) : Prop := 0 ≤ n ∧ n < ((plAt G x).tg.length : Int)
instance (G : List Pl) (x : Nat) (n : Int) : Decidable (okB G x n) := by unfold okB; exact inferInstance
def lastF (G : List Pl) : Nat → List Int → Nat
  | x, [] => x
  | x, n :: r => lastF G (stepT G x n) r
def pathF (G : List Pl) : Nat → List Int → List Nat
  | x, [] => [x]
  | x, n :: r => x :: pathF G (stepT G x n) r
def OkTo (G : List Pl) (x : Nat) (r : List Int) (i : Nat) : Prop := ∀ j n, j < i → r[j]? = some n → okB G (lastF G x (r.take j)) n
theorem OkTo.take {G : List Pl} {x : Nat} {r : List Int} {i : Nat} (h : OkTo G x r i) (hi : i ≤ r.length) : OkTo G x (r.take i) (r.take i).length := fun j n hj hn => by
  rw [List.length_take, Nat.min_eq_left hi] at hj
  rw [List.getElem?_take_of_lt hj] at hn
  rw [List.take_take, Nat.min_eq_left (Nat.le_of_lt hj)]
  exact h j n hj hn
def intsD (l : List Int) : PyData := .list (l.map PyData.int)
def natsD (l : List Nat) : PyData := .list (l.map fun x : Nat => PyData.int (x : Int))
def spTargets (K : PySem.W.Frag) : Sp := fun vs h Q _ => ∃ (b : Hp) (p : Pl), Ex b h ∧ DtA K b vs [p.D] ∧ p.bd.length ≤ 6 ∧ ∀ v b' h', Gr b h b' h' → Dt K b' v (intsD p.tg) → Q v h'
section
variable {K : PySem.W.Frag} {σ : L2.St} {b h : Hp} {te ta tb tc : TE} {ts : TA} {ds : List PyData} {E : XK}
theorem ed_targets {p : Pl} (y : EDA K ts σ b [p.D]) (hl : p.bd.length ≤ 6) : ED K (tCall (spTargets K) [] E ts) σ b (intsD p.tg) := fun h e _ q =>
  y h e _ fun vs b2 h2 g2 hv => ⟨b2, p, g2.gi, by rw [List.append_nil]; exact hv, hl, fun v b3 h3 g3 hv3 => q v b3 h3 (g2.trans g3) hv3⟩
end
theorem kind_is_draw {p : Pl} (h : p.kind = "draw") : ∃ g bs, p = .draw g bs := by
  cases p with
  | draw g bs => exact ⟨g, bs, rfl⟩
  | side g o ts =>
    exfalso
    cases o with
    | true => exact absurd h (by show ¬ (("ours" : Str) = "draw"); decide +kernel)
    | false => exact absurd h (by show ¬ (("theirs" : Str) = "draw"); decide +kernel)
theorem not_draw {p : Pl} (h : ¬ p.kind = "draw") : p.bd = p.tg.map PyData.int := by
  cases p with
  | draw g bs => exact absurd rfl h
  | side g o ts => rfl
theorem take_more1 {α : Type} {l : List α} {i : Nat} {x : α} (h : l[i]? = some x) : l.take (i + 1) = l.take i ++ [x] := by
  rw [List.take_succ, h]
  rfl
theorem DtA.nats {K : PySem.W.Frag} {b : Hp} : ∀ l : List Nat, DtA K b (l.map fun x : Nat => V.int (x : Int)) (l.map fun x : Nat => PyData.int (x : Int))
  | [] => DtA.nil
  | x :: l => DtA.cons (Dt.int _) (DtA.nats l)
theorem ed_lcTg {K : PySem.W.Frag} {σ : L2.St} {b : Hp} {tl : TE} {g : Int × Int} {bs : List ((Int × Int) × Int)} {vs : List Nat} {i j : Nat} (x : ED K tl σ b (.list (Pl.draw g bs).bd)) (hl : (Pl.draw g bs).bd.length ≤ 6)
    (hw : ∀ x y, wipe (((wipe σ vs).set i (some x)).set j (some y)) vs = wipe σ vs) (hj : ∀ x y, (((wipe σ vs).set i (some x)).set j (some y))[j]? = some (some y) := by intros; rfl) :
    ED K (tLc (iList K tl) (gTup K 2 (gCons (gName i) (gCons (gName j) gNil))) tYes (tVar j) vs) σ b (intsD (Pl.draw g bs).tg) := by
  have hbl : (bs.map brD).length ≤ 6 := hl
  have e : givenD (bs.map brD).length (fun _ => true) (fun i => PyData.int ((bs.getD i ((0, 1), 0)).2)) = (bs.map (·.2)).map PyData.int := by
    rw [givenD_all, List.length_map]
    refine List.ext_getElem? fun i => ?_
    rw [List.getElem?_map, List.getElem?_map, List.getElem?_map]
    by_cases h : i < bs.length
    · rw [List.getElem?_range h, List.getElem?_eq_getElem h]
      show some (PyData.int ((bs.getD i ((0, 1), 0)).2)) = some (PyData.int (bs[i].2))
      rw [List.getD_eq_getElem?_getD, List.getElem?_eq_getElem h]
      rfl
    · rw [List.getElem?_eq_none (by rw [List.length_range]; omega), List.getElem?_eq_none (by omega)]
      rfl
  unfold intsD
  rw [show (Pl.draw g bs).tg = bs.map (·.2) from rfl, ← e]
  refine EN.ed (en_lcG x (Nat.le_trans hbl (by decide)) (fun _ => true) _ fun n d y b2 h2 e2 e3 hd hx Q q => ?_)
  have hd' : (bs.map brD)[n]? = some d := hd
  rw [List.getElem?_map] at hd'
  cases z : bs[n]? with
  | none =>
    rw [z] at hd'
    cases hd'
  | some bb =>
    rw [z] at hd'
    cases hd'
    refine g_two (d1 := nD bb.1) (d2 := .int bb.2) hx e3 fun w1 w2 q1 q2 => ?_
    refine q _ (hw w1 w2) et_yes fun _ => ?_
    have e5 : PyData.int ((bs.getD n ((0, 1), 0)).2) = .int bb.2 := by
      rw [List.getD_eq_getElem?_getD, z] <;> rfl
    rw [e5]
    exact ed_var (hj w1 w2) q2
theorem en_lcZ {K : PySem.W.Frag} {σ : L2.St} {b : Hp} {ta tb te : TE} {t : TT} {vs : List Nat} {i j n : Nat} {ds es : List PyData} (x : ED K ta σ b (.list ds)) (y : ED K tb σ b (.list es)) (hn : n = min ds.length es.length) (hz : n ≤ 40000) (f : Nat → Bool) (r : Nat → PyData)
    (hw : ∀ x y, wipe (((wipe σ vs).set i (some x)).set j (some y)) vs = wipe σ vs)
    (hs : ∀ k d1 d2 v1 v2 b2, Ex b b2 → ds[k]? = some d1 → es[k]? = some d2 → Dt K b2 v1 d1 → Dt K b2 v2 d2 →
      EvT t (((wipe σ vs).set i (some v1)).set j (some v2)) b2 (f k) ∧ (f k = true → ED K te (((wipe σ vs).set i (some v1)).set j (some v2)) b2 (r k))) :
    EN K (tLc (iZip K (tCons ta (tCons tb tNil))) (gTup K 2 (gCons (gName i) (gCons (gName j) gNil))) t te vs) σ b (givenD n f r) := fun h e _ q =>
  x h e _ fun v1 b1 h1 g1 hv1 => y.up g1.gb h1 g1.gi _ fun v2 b2 h2 g2 hv2 => by
    obtain ⟨a1, xs, rfl, k1, k2⟩ := hv1.listI
    obtain ⟨a2, ys, rfl, l1, l2⟩ := hv2.listI
    have G2 := g1.trans g2
    have s1 : ∀ h, Ex h2 h → SqL K h a1 xs := fun h e => sq_of (e _ _ (g2.gi _ _ (g2.gb _ _ k1)))
    have s2 : ∀ h, Ex h2 h → SqL K h a2 ys := fun h e => sq_of (e _ _ (g2.gi _ _ l1))
    refine ⟨a1, a2, xs, ys, rfl, s1 h2 (Ex.refl _), s2 h2 (Ex.refl _), fun Dl hD => ?_⟩
    refine lc_data (walk_zip (xs := xs) (ys := ys) (n := n) (by rw [k2.length, l2.length]; exact hn)) f r g2.gi hD hz (fun h' e' => ⟨s1 h' e', s2 h' e'⟩) (fun k z b3 h3 h4 hk e3 g3 hy => ?_) (fun b3 h3 us g3 nb hu hA => q Dl us b3 h3 (gone G2 hD) nb (G2.trans g3) hu hA)
    obtain ⟨T, w1, w2, rfl, nT, rfl, hw1, hw2⟩ := hy
    obtain ⟨d1, hd1, q1⟩ := k2.getV hw1
    obtain ⟨d2, hd2, q2⟩ := l2.getV hw2
    have g4 := Gr.new (o := .tup [w1, w2]) g3.gi nT
    have q1' := ((q1.up g2.gb).up g3.gb).up g4.gb
    have q2' := (q2.up g3.gb).up g4.gb
    refine ⟨_, g4, fun Q kk => ?_⟩
    refine g_two (Dt.tuple (st_of upd_same) (DtA.cons q1' (DtA.one q2'))) g4.gi fun u1 u2 p1 p2 => ?_
    have z := hs k d1 d2 u1 u2 _ (((g1.gb.trans g2.gb).trans g3.gb).trans g4.gb) hd1 hd2 p1 p2
    exact kk _ (hw u1 u2) z.1 z.2
theorem DtA.boolsI {K : PySem.W.Frag} {b : Hp} : ∀ {bs : List Bool} {vs : List V}, DtA K b vs (bs.map PyData.bool) → vs = bs.map V.bl
  | [], _, h => by cases h; rfl
  | n :: ns, _, h => by
    cases h with
    | cons h1 h2 => rw [h1.boolI, h2.boolsI]; rfl
theorem ev_all {K : PySem.W.Frag} {σ : L2.St} {b : Hp} {te : TE} {bs : List Bool} (x : ED K te σ b (.list (bs.map PyData.bool))) : Ev (tCB (rAll K) (tCons te tNil)) σ b (.bl (bs.all id)) := fun h e _ q => x h e _ fun v b2 h2 g2 hv => by
  obtain ⟨a, xs, rfl, k1, k2⟩ := hv.listI
  rw [k2.boolsI] at k1
  exact ⟨a, bs, rfl, sq_of (g2.gi _ _ k1), q h2 g2.gh⟩
def eK (G : List Pl) (S : List (Option Nat)) (x : Nat) (r : List Int) (k : Nat) : Bool := decide (V.int (r.getD k 0) = svV (S.getD (lastF G x (r.take k)) none))
def gK (n m : Nat) {α : Type} (us ws : List α) : List α := if us.length = n ∧ ws.length = m then us ++ ws else []
section
variable {K : PySem.W.Frag} {σ : L2.St} {b b' h : Hp} {te t1 t2 : TE} {ts tk : TA} {E : XK} {P P1 P2 : PyData → Prop}
theorem EX.up (x : EX K te σ b P) (e : Ex b b') : EX K te σ b' P := fun h e1 _ q => x h (e.trans e1) _ fun v b2 h2 d g hp hv => by
  obtain ⟨b3, g3, e3, _⟩ := g.back e e1
  exact q v b3 h2 d g3 hp (hv.up e3)
end
end Md
set_option Elab.async false
set_option linter.all false
set_option maxRecDepth 100000
set_option maxHeartbeats 2000000
namespace Md
open PySem L2 Evl
theorem cast_dvd {g : Nat} {n : Int} (h : g ∣ n.natAbs) : (g : Int) ∣ n := Int.natAbs_dvd_natAbs.mp (by rw [Int.natAbs_natCast]; exact h)
def Red (p : Int × Int) : Prop := 1 ≤ p.2 ∧ Nat.gcd p.1.natAbs p.2.natAbs = 1
theorem red_small {p : Int × Int} (h : SmallN p) : Red p := ⟨h.1, h.2.2.2⟩
theorem num_pos {n d : Int} (h : 0 < d) : num n d = (n / ((Nat.gcd n.natAbs d.natAbs : Nat) : Int), d / ((Nat.gcd n.natAbs d.natAbs : Nat) : Int)) := by
  unfold num
  rw [if_neg (by omega), if_neg (by omega)]
theorem num_cross {n d : Int} (h : 0 < d) : (num n d).1 * d = n * (num n d).2 := by
  rw [num_pos h]
  show n / ((Nat.gcd n.natAbs d.natAbs : Nat) : Int) * d = n * (d / ((Nat.gcd n.natAbs d.natAbs : Nat) : Int))
  have h1 : ((Nat.gcd n.natAbs d.natAbs : Nat) : Int) ∣ n := cast_dvd (Nat.gcd_dvd_left _ _)
  have h2 : ((Nat.gcd n.natAbs d.natAbs : Nat) : Int) ∣ d := cast_dvd (Nat.gcd_dvd_right _ _)
  have g0 : ((Nat.gcd n.natAbs d.natAbs : Nat) : Int) ≠ 0 := by
    have := Nat.gcd_pos_of_pos_right n.natAbs (show 0 < d.natAbs by omega)
    omega
  generalize ((Nat.gcd n.natAbs d.natAbs : Nat) : Int) = g at h1 h2 g0
  obtain ⟨a, rfl⟩ := h1
  obtain ⟨c, rfl⟩ := h2
  rw [Int.mul_ediv_cancel_left _ g0, Int.mul_ediv_cancel_left _ g0]
  rw [Int.mul_left_comm, Int.mul_assoc]
theorem num_red {n d : Int} (h : 0 < d) : Red (num n d) := by
  rw [num_pos h]
  have hg := Nat.gcd_pos_of_pos_right n.natAbs (show 0 < d.natAbs by omega)
  obtain ⟨a, ha⟩ := Nat.gcd_dvd_left n.natAbs d.natAbs
  obtain ⟨c, hc⟩ := Nat.gcd_dvd_right n.natAbs d.natAbs
  generalize hgg : Nat.gcd n.natAbs d.natAbs = g at *
  have hac : Nat.gcd a c = 1 := by
    have := Nat.gcd_mul_left g a c
    rw [← ha, ← hc, hgg] at this
    exact Nat.eq_of_mul_eq_mul_left hg (by omega)
  have e1 : (n / (g : Int)).natAbs = a := by
    rcases Int.natAbs_eq n with z | z
    · rw [z, ha, Int.natCast_mul, Int.mul_ediv_cancel_left _ (by omega), Int.natAbs_natCast]
    · rw [z, ha, Int.natCast_mul, ← Int.mul_neg, Int.mul_ediv_cancel_left _ (by omega), Int.natAbs_neg, Int.natAbs_natCast]
  have e2 : d / (g : Int) = (c : Int) := by
    have z : d = ((d.natAbs : Nat) : Int) := by omega
    rw [z, hc, Int.natCast_mul, Int.mul_ediv_cancel_left _ (by omega)]
  have hc0 : 0 < c := by
    rcases Nat.eq_zero_or_pos c with z | z
    · subst z; omega
    · exact z
  refine ⟨?_, ?_⟩
  · show 1 ≤ d / (g : Int)
    rw [e2]
    omega
  · show Nat.gcd (n / (g : Int)).natAbs (d / (g : Int)).natAbs = 1
    rw [e1, e2, Int.natAbs_natCast]
    exact hac
theorem red_ext {p q : Int × Int} (hp : Red p) (hq : Red q) (h : p.1 * q.2 = q.1 * p.2) : p = q := by
  obtain ⟨p1, p2⟩ := hp
  obtain ⟨q1, q2⟩ := hq
  have hn : p.1.natAbs * q.2.natAbs = q.1.natAbs * p.2.natAbs := by rw [← Int.natAbs_mul, ← Int.natAbs_mul, h]
  have d1 : p.2.natAbs ∣ q.2.natAbs := by
    have c : Nat.Coprime p.2.natAbs p.1.natAbs := by rw [Nat.coprime_comm]; exact p2
    exact c.dvd_of_dvd_mul_left ⟨q.1.natAbs, by rw [hn, Nat.mul_comm]⟩
  have d2 : q.2.natAbs ∣ p.2.natAbs := by
    have c : Nat.Coprime q.2.natAbs q.1.natAbs := by rw [Nat.coprime_comm]; exact q2
    exact c.dvd_of_dvd_mul_left ⟨p.1.natAbs, by rw [← hn, Nat.mul_comm]⟩
  have e : p.2.natAbs = q.2.natAbs := Nat.dvd_antisymm d1 d2
  have e2 : p.2 = q.2 := by omega
  rw [e2] at h
  have e1 : p.1 = q.1 := Int.eq_of_mul_eq_mul_right (by omega) h
  exact Prod.ext e1 e2
theorem num_of_red {p : Int × Int} {n d : Int} (hp : Red p) (hd : 0 < d) (h : p.1 * d = n * p.2) : num n d = p := by
  refine red_ext (num_red hd) hp ?_
  have hc := num_cross (n := n) hd
  have hd' : d ≠ 0 := by omega
  refine Int.eq_of_mul_eq_mul_right hd' ?_
  calc (num n d).1 * p.2 * d = (num n d).1 * d * p.2 := by rw [Int.mul_right_comm]
    _ = n * (num n d).2 * p.2 := by rw [hc]
    _ = n * p.2 * (num n d).2 := by rw [Int.mul_right_comm]
    _ = p.1 * d * (num n d).2 := by rw [h]
    _ = p.1 * (num n d).2 * d := by rw [Int.mul_right_comm]
def plusN (a b : Int × Int) : Int × Int := num (a.1 * b.2 + b.1 * a.2) (a.2 * b.2)
def timesN (a b : Int × Int) : Int × Int := num (a.1 * b.1) (a.2 * b.2)
def sumN (l : List (Int × Int)) : Int × Int := l.foldl plusN (0, 1)
theorem mul_pos' {a b : Int} (ha : 1 ≤ a) (hb : 1 ≤ b) : 0 < a * b := Int.mul_pos (by omega) (by omega)
theorem plusN_red {a b : Int × Int} (ha : Red a) (hb : Red b) : Red (plusN a b) := num_red (mul_pos' ha.1 hb.1)
theorem timesN_red {a b : Int × Int} (ha : Red a) (hb : Red b) : Red (timesN a b) := num_red (mul_pos' ha.1 hb.1)
def crossN (a b : Int × Int) : Int × Int :=
  (a.1 / ((Nat.gcd a.1.natAbs b.2.natAbs : Nat) : Int) * (b.1 / ((Nat.gcd b.1.natAbs a.2.natAbs : Nat) : Int)), a.2 / ((Nat.gcd b.1.natAbs a.2.natAbs : Nat) : Int) * (b.2 / ((Nat.gcd a.1.natAbs b.2.natAbs : Nat) : Int)))
theorem cop_mul {a b c d : Nat} (h1 : Nat.gcd a c = 1) (h2 : Nat.gcd a d = 1) (h3 : Nat.gcd b c = 1) (h4 : Nat.gcd b d = 1) : Nat.gcd (a * b) (c * d) = 1 := by
  have k1 : Nat.Coprime a (c * d) := Nat.Coprime.mul_right h1 h2
  have k2 : Nat.Coprime b (c * d) := Nat.Coprime.mul_right h3 h4
  exact Nat.Coprime.mul_left k1 k2
theorem cross_eq {a b : Int × Int} (ha : Red a) (hb : Red b) : crossN a b = timesN a b := by
  obtain ⟨a1, a2⟩ := a
  obtain ⟨b1, b2⟩ := b
  obtain ⟨pa, ca⟩ := ha
  obtain ⟨pb, cb⟩ := hb
  simp only at pa ca pb cb
  have l0 : 0 < Nat.gcd a1.natAbs b2.natAbs := Nat.gcd_pos_of_pos_right _ (by omega)
  have r0 : 0 < Nat.gcd b1.natAbs a2.natAbs := Nat.gcd_pos_of_pos_right _ (by omega)
  obtain ⟨x, hx⟩ : ((Nat.gcd a1.natAbs b2.natAbs : Nat) : Int) ∣ a1 := cast_dvd (Nat.gcd_dvd_left _ _)
  obtain ⟨y, hy⟩ : ((Nat.gcd a1.natAbs b2.natAbs : Nat) : Int) ∣ b2 := cast_dvd (Nat.gcd_dvd_right _ _)
  obtain ⟨u, hu⟩ : ((Nat.gcd b1.natAbs a2.natAbs : Nat) : Int) ∣ b1 := cast_dvd (Nat.gcd_dvd_left _ _)
  obtain ⟨v, hv⟩ : ((Nat.gcd b1.natAbs a2.natAbs : Nat) : Int) ∣ a2 := cast_dvd (Nat.gcd_dvd_right _ _)
  generalize hl : Nat.gcd a1.natAbs b2.natAbs = l at *
  generalize hr : Nat.gcd b1.natAbs a2.natAbs = r at *
  have li : (l : Int) ≠ 0 := by omega
  have ri : (r : Int) ≠ 0 := by omega
  have nx : a1.natAbs = l * x.natAbs := by rw [hx, Int.natAbs_mul, Int.natAbs_natCast]
  have ny : b2.natAbs = l * y.natAbs := by rw [hy, Int.natAbs_mul, Int.natAbs_natCast]
  have nu : b1.natAbs = r * u.natAbs := by rw [hu, Int.natAbs_mul, Int.natAbs_natCast]
  have nv : a2.natAbs = r * v.natAbs := by rw [hv, Int.natAbs_mul, Int.natAbs_natCast]
  have cxy : Nat.gcd x.natAbs y.natAbs = 1 := by
    have := Nat.gcd_mul_left l x.natAbs y.natAbs
    rw [← nx, ← ny, hl] at this
    exact Nat.eq_of_mul_eq_mul_left l0 (by omega)
  have cuv : Nat.gcd u.natAbs v.natAbs = 1 := by
    have := Nat.gcd_mul_left r u.natAbs v.natAbs
    rw [← nu, ← nv, hr] at this
    exact Nat.eq_of_mul_eq_mul_left r0 (by omega)
  have cxv : Nat.gcd x.natAbs v.natAbs = 1 := by
    have h1 : x.natAbs ∣ a1.natAbs := ⟨l, by rw [nx, Nat.mul_comm]⟩
    have h2 : v.natAbs ∣ a2.natAbs := ⟨r, by rw [nv, Nat.mul_comm]⟩
    exact Nat.Coprime.coprime_dvd_left h1 (Nat.Coprime.coprime_dvd_right h2 ca)
  have cuy : Nat.gcd u.natAbs y.natAbs = 1 := by
    have h1 : u.natAbs ∣ b1.natAbs := ⟨r, by rw [nu, Nat.mul_comm]⟩
    have h2 : y.natAbs ∣ b2.natAbs := ⟨l, by rw [ny, Nat.mul_comm]⟩
    exact Nat.Coprime.coprime_dvd_left h1 (Nat.Coprime.coprime_dvd_right h2 cb)
  have hv1 : 1 ≤ v := by
    rcases (show 0 < v ∨ v ≤ 0 by omega) with z | z
    · omega
    · exfalso
      have : (r : Int) * v ≤ 0 := Int.mul_nonpos_of_nonneg_of_nonpos (by omega) z
      omega
  have hy1 : 1 ≤ y := by
    rcases (show 0 < y ∨ y ≤ 0 by omega) with z | z
    · omega
    · exfalso
      have : (l : Int) * y ≤ 0 := Int.mul_nonpos_of_nonneg_of_nonpos (by omega) z
      omega
  have e : crossN (a1, a2) (b1, b2) = (x * u, v * y) := by
    unfold crossN
    simp only [hl, hr]
    rw [hx, hy, hu, hv, Int.mul_ediv_cancel_left _ li, Int.mul_ediv_cancel_left _ li, Int.mul_ediv_cancel_left _ ri, Int.mul_ediv_cancel_left _ ri]
  rw [e]
  symm
  refine num_of_red ⟨?_, ?_⟩ (mul_pos' pa pb) ?_
  · have := mul_pos' hv1 hy1
    show 1 ≤ v * y
    omega
  · show Nat.gcd (x * u).natAbs (v * y).natAbs = 1
    rw [Int.natAbs_mul, Int.natAbs_mul]
    exact cop_mul cxv cxy cuv cuy
  · show x * u * (a2 * b2) = a1 * b1 * (v * y)
    rw [hx, hy, hu, hv]
    simp only [Int.mul_assoc, Int.mul_left_comm, Int.mul_comm]
def Big (k : Nat) (p : Int × Int) : Prop := p.1.natAbs < 2 ^ k ∧ p.2.natAbs < 2 ^ k
theorem Big.mono {j k : Nat} {p : Int × Int} (h : Big j p) (hk : j ≤ k) : Big k p := ⟨Nat.lt_of_lt_of_le h.1 (Nat.pow_le_pow_right (by decide) hk), Nat.lt_of_lt_of_le h.2 (Nat.pow_le_pow_right (by decide) hk)⟩
theorem big_small {p : Int × Int} (h : SmallN p) : Big 10 p := ⟨Nat.lt_trans h.2.2.1 (by decide), Nat.lt_trans (show p.2.natAbs < 1000 by have := h.1; have := h.2.1; omega) (by decide)⟩
theorem pow_mul_lt {a b j k : Nat} (ha : a < 2 ^ j) (hb : b < 2 ^ k) : a * b < 2 ^ (j + k) := by
  rw [Nat.pow_add]
  exact Nat.mul_lt_mul'' ha hb
theorem big_plus_raw {j k : Nat} {a b : Int × Int} (ha : Big j a) (hb : Big k b) : (a.1 * b.2 + b.1 * a.2).natAbs < 2 ^ (j + k + 1) ∧ (a.2 * b.2).natAbs < 2 ^ (j + k) := by
  have h1 : (a.1 * b.2).natAbs < 2 ^ (j + k) := by rw [Int.natAbs_mul]; exact pow_mul_lt ha.1 hb.2
  have h2 : (b.1 * a.2).natAbs < 2 ^ (j + k) := by rw [Int.natAbs_mul, Nat.mul_comm]; exact pow_mul_lt ha.2 hb.1
  have h3 : (a.2 * b.2).natAbs < 2 ^ (j + k) := by rw [Int.natAbs_mul]; exact pow_mul_lt ha.2 hb.2
  refine ⟨?_, h3⟩
  rw [Nat.pow_succ]
  have := Int.natAbs_add_le (a.1 * b.2) (b.1 * a.2)
  omega
def spLowest (K : PySem.W.Frag) : Sp := fun vs h Q _ => ∃ (b : Hp) (n d : Int), Ex b h ∧ DtA K b vs [.int n, .int d] ∧ 0 < d ∧ d.natAbs < 2 ^ 8000 ∧ ∀ v b' h', Gr b h b' h' → Dt K b' v (nD (num n d)) → Q v h'
def numsD (l : List (Int × Int)) : PyData := .list (l.map nD)
section
variable {K : PySem.W.Frag} {σ : L2.St} {b h : Hp} {te ta tb : TE} {ts : TA} {E : XK} {p q : Int × Int} {l : List (Int × Int)}
theorem ed_lowest {n d : Int} (x : Ev ta σ b (.int n)) (y : Ev tb σ b (.int d)) (h0 : 0 < d) (h1 : d.natAbs < 2 ^ 8000) : ED K (tCall (spLowest K) [] E (tCons ta (tCons tb tNil))) σ b (nD (num n d)) := fun h e _ qq =>
  eda_cons (ed_int x) (eda_cons (ed_int y) eda_nil) h e _ fun vs b2 h2 g2 hv => ⟨b2, n, d, g2.gi, by rw [List.append_nil]; exact hv, h0, h1, fun v b3 h3 g3 hv3 => qq v b3 h3 (g2.trans g3) hv3⟩
theorem ev_num0 (x : ED K te σ b (nD p)) : Ev (tOp (rIxT K) te (tC (V.int 0))) σ b (.int p.1) := ev_int (ed_ixT x ev_c (by rfl))
theorem ev_num1 (x : ED K te σ b (nD p)) : Ev (tOp (rIxT K) te (tC (V.int 1))) σ b (.int p.2) := ev_int (ed_ixT x ev_c (by rfl))
theorem rGcd_ev {i j : Int} (x : Ev ta σ b (.int i)) (y : Ev tb σ b (.int j)) : Ev (tCB rGcd (tCons ta (tCons tb tNil))) σ b (.int ((Nat.gcd i.natAbs j.natAbs : Nat) : Int)) := fun h e _ q => x h e _ fun h2 e2 => y h2 (e.trans e2) _ fun h3 e3 => ⟨i, j, rfl, q h3 (e2.trans e3)⟩
end
theorem one_red : Red (0, 1) := ⟨by decide, by decide⟩
end Md
set_option Elab.async false
set_option linter.all false
set_option maxRecDepth 100000
set_option maxHeartbeats 2000000
namespace Md
open PySem L2 Evl
def kindD : PyData → String
  | .none => "NoneType" | .bool _ => "bool" | .int _ => "int" | .str _ => "str" | .list _ => "list" | .tuple _ => "tuple" | .dict _ => "dict"
def isNo : PyData → Bool
  | .none => true
  | _ => false
theorem Dt.ty {K : PySem.W.Frag} {H : Hp} : ∀ {d : PyData} {v : V}, Dt K H v d → TyX K H v (.type (kindD d))
  | .none, _, h => by cases h; exact .base .non
  | .bool b, _, h => by cases h; exact .base (.bl b)
  | .int i, _, h => by cases h; exact .base (.int i)
  | .str x, _, h => by cases h; exact .base (.str x)
  | .list ds, _, h => by
    cases h with
    | list h1 h2 => exact .base (.lst h1)
  | .tuple ds, _, h => by
    cases h with
    | tuple h1 h2 =>
      rcases h1 with (h1 | ⟨o, h1⟩) | ⟨o, its, n, h1, h3, _⟩
      · exact .base (.tup h1)
      · exact .fTuple h1
      · exact .kTuple h1 h3
  | .dict _, _, h => by cases h
section
variable {K : PySem.W.Frag} {σ : L2.St} {b h : Hp} {te ta tb : TE} {d : PyData} {ds : List PyData} {E : XK} {ts : TA}
end
def rIsX (K : PySem.W.Frag) (D a : Addr) (cls : Value) (d : Option Addr) : List V → Hp → VK → Prop := fun xs H Q => ∃ (c : V) (cv : Value) (b : Bool) (dd : Addr) (fs : List (Str × V)), xs = [.ref a, c] ∧ (∀ u, RelV c u → u = cv) ∧ cls = .ref D ∧ d = some dd ∧ H dd = some (.xd fs) ∧
  PySem.W.kitOne K (.ref D) cv = some b ∧ Q (.bl b) H
theorem call_isX {X : Cx} {a D : Addr} {oe : Obj} {cls : Value} {d : Option Addr} {pn : List (Addr × Obj)} (C : ExcC X.K D) (hz : Zc cls d oe) (hf : ∃ vs, oe.data = .fields vs) : CallR (X.suite a ((a, oe) :: pn)) (.builtin "isinstance") (rIsX X.K D a cls d) := by
  intro pins s σ H xs us Q I r h
  obtain ⟨c, cv, b, dd, fs, rfl, hcv, rfl, rfl, hx, e, q⟩ := h
  obtain ⟨u1, u2, rfl, r1, r2⟩ := vals2 r
  obtain rfl : u1 = Value.ref a := r1
  obtain rfl := hcv _ r2
  obtain ⟨ha, _⟩ := I.pin (a, oe) (List.mem_append_left _ List.mem_cons_self)
  obtain ⟨vs, hd⟩ := hf
  obtain ⟨mA, hns, _⟩ := I.hok dd _ hx
  obtain ⟨od, ho, _⟩ := lookIn_ns hns
  have J : PySem.W.InstAt s.heap a oe D (some od) := ⟨ha, hz.1, by unfold PySem.W.notCls; rw [hd], by rw [hz.2]; exact ho⟩
  have hcl : (PySem.W.clsIn X.K D).isSome = true := by
    obtain ⟨cd, hc, _⟩ := PySem.W.any_some C.hd
    rw [hc]
    rfl
  exact PySem.W.kia_one (PySem.W.kitx_exc hcl C.hg C.hk C.hs C.ha C.hn C.ht C.hm) I.kIn J e (fun z => nomatch z) fun tk => ⟨.bl b, H, I.kept (t' := tk) fun _ _ z => z, rfl, q⟩
theorem isX_K {X : Cx} {K : PySem.W.Frag} {a D : Addr} {oe : Obj} {cls : Value} {d : Option Addr} {pn : List (Addr × Obj)} (h : X.K = K) (C : ExcC K D) (hz : Zc cls d oe) (hf : ∃ vs, oe.data = .fields vs) : CallR (X.suite a ((a, oe) :: pn)) (.builtin "isinstance") (rIsX K D a cls d) := by
  subst h
  exact call_isX C hz hf
def gainsF (G : List Pl) (x : Nat) (r : List Int) : List (Int × Int) := ((pathF G x r).take r.length).map fun y => (plAt G y).gain
theorem one_one : Red (1, 1) := ⟨by decide, by decide⟩
end Md
namespace Md
open PySem L2 Evl
theorem map_getDn {α β : Type} (l : List α) (d : α) (f : α → β) : (List.range l.length).map (fun i => f (l.getD i d)) = l.map f := by
  refine List.ext_getElem? fun i => ?_
  rw [List.getElem?_map, List.getElem?_map]
  by_cases h : i < l.length
  · rw [List.getElem?_range h, List.getElem?_eq_getElem h]
    show some (f (l.getD i d)) = some (f l[i])
    rw [List.getD_eq_getElem?_getD, List.getElem?_eq_getElem h]
    rfl
  · rw [List.getElem?_eq_none (by rw [List.length_range]; omega), List.getElem?_eq_none (by omega)]
    rfl
theorem en_mapD {K : PySem.W.Frag} {σ : L2.St} {b : Hp} {tl te : TE} {j : Nat} {vs : List Nat} {α : Type} {D f : α → PyData} {l : List α} (x : ED K tl σ b (.list (l.map D))) (hz : l.length ≤ 40000) (hw : ∀ x, wipe ((wipe σ vs).set j (some x)) vs = wipe σ vs)
    (hs : ∀ y ∈ l, ∀ v b2, Ex b b2 → Dt K b2 v (D y) → ED K te ((wipe σ vs).set j (some v)) b2 (f y)) : EN K (tLc (iList K tl) (gName j) tYes te vs) σ b (l.map f) := by
  by_cases hl : l = []
  · subst hl
    exact en_lcL x hz (fun _ => true) (fun _ => .none) hw fun i d v b2 e hd _ => by
      rw [List.map_nil] at hd
      simp at hd
  · obtain ⟨a0, ha0⟩ : ∃ a0, a0 ∈ l := List.exists_mem_of_ne_nil l hl
    have e : givenD (l.map D).length (fun _ => true) (fun i => f (l.getD i a0)) = l.map f := by
      rw [givenD_all, List.length_map, map_getDn]
    rw [← e]
    refine en_lcL x (by rw [List.length_map]; exact hz) (fun _ => true) _ hw fun i d v b2 e hd hv => ⟨et_yes, fun _ => ?_⟩
    rw [List.getElem?_map] at hd
    cases z : l[i]? with
    | none => rw [z] at hd; cases hd
    | some y =>
      rw [z] at hd
      cases hd
      have e2 : l.getD i a0 = y := by rw [List.getD_eq_getElem?_getD, z] <;> rfl
      rw [e2]
      exact hs y (List.mem_of_getElem? z) v b2 e hv
end Md
namespace Md
open PySem L2 Evl
structure NBIs (K : PySem.W.Frag) (mg : Str → Option Value) (C cg : Addr) : Prop where
  mG : mg "GainError" = some (.ref cg)
  mV : mg "ValueError" = none
  ec : ExcC K C
  kG : PySem.W.kitOne K (.ref C) (.ref cg) = some true
  kV : PySem.W.kitOne K (.ref C) (.type "ValueError") = some true
section
variable {K : PySem.W.Frag} {σ : L2.St} {b h : Hp} {te ta : TE} {C cg a : Addr} {cls : Value} {d : Option Addr} {dd : Addr} {fs : List (Str × V)}
end
end Md
namespace Md
open PySem L2 Evl
section
variable {K : PySem.W.Frag} {σ : L2.St} {b : Hp} {ts : TA} {E : XK} {G : List Pl} {x m : Nat} {r : List Int}
end
end Md
namespace Md
open PySem L2 Evl
end Md
set_option Elab.async false
set_option linter.all false
set_option maxRecDepth 100000
set_option maxHeartbeats 2000000
namespace Md
open PySem L2 Evl
def qN (p : Int × Int) : Rat := (p.1 : Rat) / (p.2 : Rat)
theorem cast_ne {z : Int} (h : z ≠ 0) : (z : Rat) ≠ 0 := fun e => h (Rat.intCast_inj.mp (by rw [e]; rfl))
theorem red_ne {p : Int × Int} (h : Red p) : (p.2 : Rat) ≠ 0 := cast_ne (by have := h.1; omega)
theorem div_eq_of {a b c d : Rat} (hb : b ≠ 0) (hd : d ≠ 0) (h : a * d = c * b) : a / b = c / d := by grind
theorem cross_of_div {a b c d : Rat} (hb : b ≠ 0) (hd : d ≠ 0) (h : a / b = c / d) : a * d = c * b := by grind
theorem q_inj {p r : Int × Int} (hp : Red p) (hr : Red r) (h : qN p = qN r) : p = r := by
  refine red_ext hp hr ?_
  have h1 := cross_of_div (red_ne hp) (red_ne hr) h
  rw [← Rat.intCast_mul, ← Rat.intCast_mul] at h1
  exact Rat.intCast_inj.mp h1
theorem q_num {n d : Int} (h : 0 < d) : qN (num n d) = (n : Rat) / (d : Rat) := by
  refine div_eq_of (red_ne (num_red h)) (cast_ne (by omega)) ?_
  rw [← Rat.intCast_mul, ← Rat.intCast_mul, num_cross h]
theorem q_plus {a b : Int × Int} (ha : Red a) (hb : Red b) : qN (plusN a b) = qN a + qN b := by
  unfold plusN
  rw [q_num (mul_pos' ha.1 hb.1), Rat.intCast_add, Rat.intCast_mul, Rat.intCast_mul, Rat.intCast_mul]
  have h1 := red_ne ha
  have h2 := red_ne hb
  unfold qN
  grind
theorem q_times {a b : Int × Int} (ha : Red a) (hb : Red b) : qN (timesN a b) = qN a * qN b := by
  unfold timesN
  rw [q_num (mul_pos' ha.1 hb.1), Rat.intCast_mul, Rat.intCast_mul]
  have h1 := red_ne ha
  have h2 := red_ne hb
  unfold qN
  grind
theorem q_zero : qN (0, 1) = 0 := by
  unfold qN
  rw [Rat.div_def]
  exact Rat.zero_mul _
def divN (a b : Int × Int) : Int × Int := num (a.1 * b.2) (a.2 * b.1)
end Md
set_option Elab.async false
set_option linter.all false
set_option maxRecDepth 100000
set_option maxHeartbeats 4000000
namespace Md
open PySem PySem.Spec PyProof.Rows L2 Evl
end Md
set_option Elab.async false
set_option linter.all false
set_option maxRecDepth 100000
set_option maxHeartbeats 2000000
namespace Md
open PySem L2 Evl
def okA (G : List Pl) : Nat → List Int → Prop
  | _, [] => True
  | x, n :: r => okB G x n ∧ okA G (stepT G x n) r
def gainsR (G : List Pl) : Nat → List Int → List (Int × Int)
  | _, [] => []
  | x, n :: r => (plAt G x).gain :: gainsR G (stepT G x n) r
theorem okTo_of {G : List Pl} : ∀ {r : List Int} {x : Nat}, okA G x r → OkTo G x r r.length
  | [], _, _ => fun j n hj => absurd hj (Nat.not_lt_zero _)
  | n :: r, x, h => fun j m hj hm => by
    cases j with
    | zero =>
      simp only [List.getElem?_cons_zero, Option.some.injEq] at hm
      subst hm
      exact h.1
    | succ j =>
      simp only [List.getElem?_cons_succ] at hm
      exact okTo_of h.2 j m (Nat.lt_of_succ_lt_succ hj) hm
def gainAns (G : List Pl) (y : Nat) (s : List Int) : Int × Int := divN (sumN (gainsF G y s)) ((s.length : Int), 1)
def qSum (G : List Pl) (y : Nat) (s : List Int) : Rat := ((gainsR G y s).map qN).sum
end Md
namespace Md
open PySem L2 Evl
structure NCs (K : PySem.W.Frag) (mg : Str → Option Value) (N C : Addr) : Prop where
  mN : mg "NoCircle" = some (.ref N)
  ex : PySem.W.excIn K N [.type "ValueError", .type "Exception", .type "BaseException", .type "object"] "ValueError.__new__" = true
  kp : PySem.W.keepIn K (.ref N) = true
  sb : PySem.W.subIn K (.ref N) (.type "BaseException") = some true
  ty : PySem.W.typeIn K (.ref N) = some (.type "type")
def NCAt (h : Hp) (N : Addr) (E : XK) : Prop := ∀ h', Ex h h' → E (.ref N) none h'
theorem NCAt.up {H H' : Hp} {N : Addr} {E : XK} (x : NCAt H N E) (e : Ex H H') : NCAt H' N E := fun h' e' => x h' (e.trans e')
def NoC (G : List Pl) (x : Nat) (r s : List Int) : Prop := okA G x (r ++ s) ∧ (s = [] ∨ lastF G x (r ++ s) ≠ lastF G x r)
def BadAt (G : List Pl) (x : Nat) (r : List Int) (j : Nat) : Prop := ∃ n, r[j]? = some n ∧ OkTo G x r j ∧ ¬ okB G (lastF G x (r.take j)) n
theorem bad_ok {G : List Pl} {x : Nat} {r : List Int} {j : Nat} (h : BadAt G x r j) (ho : okA G x r) : False := by
  obtain ⟨n, hj, _, hb⟩ := h
  exact hb (okTo_of ho j n (List.getElem?_eq_some_iff.mp hj).1 hj)
theorem bad_det {G : List Pl} {x : Nat} {r : List Int} {i j : Nat} (h : BadAt G x r i) (h2 : BadAt G x r j) : i = j := by
  obtain ⟨n, hj, ho, hb⟩ := h
  obtain ⟨m, hj2, ho2, hb2⟩ := h2
  rcases Nat.lt_trichotomy i j with z | z | z
  · exact absurd (ho2 i n z hj) hb
  · exact z
  · exact absurd (ho j m z hj2) hb2
inductive Res5 (G : List Pl) (x : Nat) (r s : List Int) : PyData → Prop
  | good : okA G x (r ++ s) → s ≠ [] → lastF G x (r ++ s) = lastF G x r → Res5 G x r s (nD (gainAns G (lastF G x r) s))
  | circle : NoC G x r s → Res5 G x r s (.tuple [.str "raised", .str "circle"])
  | branch (j : Nat) : BadAt G x (r ++ s) j → Res5 G x r s (.tuple [.str "raised", .str "branch", .int (j : Int)])
theorem Res5.det {G : List Pl} {x : Nat} {r s : List Int} {d e : PyData} (h : Res5 G x r s d) (h2 : Res5 G x r s e) : d = e := by
  cases h with
  | good a1 a2 a3 =>
    cases h2 with
    | good _ _ _ => rfl
    | circle c => rcases c.2 with z | z
                  · exact absurd z a2
                  · exact absurd a3 z
    | branch j c => exact (bad_ok c a1).elim
  | circle a =>
    cases h2 with
    | good b1 b2 b3 => rcases a.2 with z | z
                       · exact absurd z b2
                       · exact absurd b3 z
    | circle _ => rfl
    | branch j c => exact (bad_ok c a.1).elim
  | branch i a =>
    cases h2 with
    | good b1 _ _ => exact (bad_ok a b1).elim
    | circle c => exact (bad_ok a c.1).elim
    | branch j c => rw [bad_det a c]
section
variable {K : PySem.W.Frag} {σ : L2.St} {b : Hp} {ts : TA} {E : XK} {G : List Pl} {x : Nat} {r s : List Int} {d : PyData} {p q : Int × Int}
end
end Md
namespace Md
open PySem L2 Evl
end Md
set_option Elab.async false
set_option linter.all false
set_option maxRecDepth 100000
set_option maxHeartbeats 2000000
namespace Md
open PySem L2 Evl
theorem pigeon : ∀ (n N : Nat) (p : Nat → Nat), (∀ i, i < N → p i < n) → (∀ i j, i < j → j < N → p i ≠ p j) → N ≤ n
  | 0, N, p, h, _ => by
    rcases Nat.eq_zero_or_pos N with z | z
    · omega
    · exact absurd (h 0 z) (Nat.not_lt_zero _)
  | n + 1, N, p, h, d => by
    by_cases hx : ∃ i, i < N ∧ p i = n
    · obtain ⟨i0, h0, e0⟩ := hx
      have ih := pigeon n (N - 1) (fun j => if j < i0 then p j else p (j + 1)) (fun j hj => ?_) (fun i j hij hj => ?_)
      · omega
      · show (if j < i0 then p j else p (j + 1)) < n
        split
        · rename_i z
          have h1 := h j (by omega)
          have h2 := d j i0 z h0
          omega
        · rename_i z
          have h1 := h (j + 1) (by omega)
          have h2 := d i0 (j + 1) (by omega) (by omega)
          omega
      · show (if i < i0 then p i else p (i + 1)) ≠ (if j < i0 then p j else p (j + 1))
        split
        · split
          · exact d i j hij (by omega)
          · exact d i (j + 1) (by omega) (by omega)
        · rw [if_neg (by omega)]
          exact d (i + 1) (j + 1) (by omega) (by omega)
    · have ih := pigeon n N p (fun i hi => ?_) d
      · omega
      · have h1 := h i hi
        have h2 : p i ≠ n := fun z => hx ⟨i, hi, z⟩
        omega
def atK (G : List Pl) (x : Nat) (r : List Int) (k : Nat) : Nat := lastF G x (r.take k)
section
variable {K : PySem.W.Frag} {σ : L2.St} {b : Hp} {te ta tb : TE} {l : List Nat} {x : Nat}
theorem eqV_nat (i j : Nat) : eqV (V.int (i : Int)) (V.int (j : Int)) = decide (i = j) := by
  show ((i : Int) == (j : Int)) = decide (i = j)
  rw [Bool.eq_iff_iff, beq_iff_eq, decide_eq_true_iff]
  omega
theorem DtA.natsI {vs : List V} (h : DtA K b vs (l.map fun x : Nat => PyData.int (x : Int))) : vs = l.map fun x : Nat => V.int (x : Int) := by
  have e : (l.map fun x : Nat => PyData.int (x : Int)) = (l.map fun x : Nat => (x : Int)).map PyData.int := by
    rw [List.map_map]
    rfl
  rw [e] at h
  rw [h.intsI, List.map_map]
  rfl
theorem inV_nat : inV (V.int (x : Int)) (l.map fun x : Nat => V.int (x : Int)) = decide (x ∈ l) := by
  unfold inV
  rw [List.any_map, Bool.eq_iff_iff, List.any_eq_true, decide_eq_true_iff]
  constructor
  · rintro ⟨y, hy, e⟩
    have e' : eqV (V.int (y : Int)) (V.int (x : Int)) = true := e
    rw [eqV_nat, decide_eq_true_iff] at e'
    rw [← e']
    exact hy
  · intro hx
    refine ⟨x, hx, ?_⟩
    show eqV (V.int (x : Int)) (V.int (x : Int)) = true
    rw [eqV_nat, decide_eq_true_iff]
theorem flat_nats : (l.map fun x : Nat => V.int (x : Int)).all flatV = true := by
  rw [List.all_map, List.all_eq_true]
  intro y _
  rfl
theorem ev_inN {neg : Bool} (h : Ev ta σ b (.int (x : Int))) (hl : ED K tb σ b (natsD l)) : Ev (tOp (rIn K neg) ta tb) σ b (.bl (if neg then !decide (x ∈ l) else decide (x ∈ l))) := fun hh e _ q => h hh e _ fun h1 e1 => hl h1 (e.trans e1) _ fun v b2 h2 g2 hv => by
  obtain ⟨a, xs, rfl, k1, k2⟩ := hv.listI
  have hxs := k2.natsI
  subst hxs
  refine ⟨a, _, rfl, .inl (sq_of (g2.gi _ _ k1)), rfl, flat_nats, ?_⟩
  rw [inV_nat]
  exact q h2 (e1.trans g2.gh)
theorem pe_indexK {X : Cx} {o e : Expr} {to : TE} {ts : TA} {apos cpos : Pos} (h : X.K = K) (ho : PE X o to) (ha : PA X [e] ts) (hbase : attributeBase o "index" X.env (eval o X.env) = eval o X.env := by rfl)
    (hfew : ((backTo cpos (starEach [e] X.env)).all (fun x => !x.1) && (backToKw cpos (keywordEach [] X.env)).all (fun x => x.1.isSome) && decide ([e].length + ([] : List Keyword).length + (if ([] : List Keyword).isEmpty then 0 else 1) < 30)) = true := by rfl)
    (hline : (apos.endLine == cpos.line) = true := by rfl) (hs : starEach [e] X.env = (false, eval e X.env) :: starEach [] X.env := by rfl) (hp : (backTo cpos (starEach [] X.env)).any (·.1) = false := by rfl) :
    PE X (.Call (.Attribute o "index" apos) [e] [] cpos) (tBM K "list" (rIndex K) to ts) :=
  h ▸ pe_bm PySem.F.plainAttrs_list PySem.F.slot_list_index PySem.F.type_list_index mt_index ho ha hbase hfew hline hs hp
theorem ev_indexN {j : Nat} (hl : ED K te σ b (natsD l)) (h : Ev ta σ b (.int (x : Int))) (hj : l[j]? = some x) (hno : ∀ m, m < j → l[m]? ≠ some x) : Ev (tBM K "list" (rIndex K) te (tCons ta tNil)) σ b (.int (j : Int)) := fun hh e _ q => hl hh e _ fun v b2 h2 g2 hv => by
  obtain ⟨a, xs, rfl, k1, k2⟩ := hv.listI
  have hxs := k2.natsI
  subst hxs
  refine ⟨Or.inl ⟨rfl, _, sq_of (g2.gi _ _ k1)⟩, h h2 (e.trans g2.gh) _ fun h3 e3 => ?_⟩
  refine ⟨a, _, .int (x : Int), j, .int (x : Int), rfl, rfl, sq_of (e3 _ _ (g2.gi _ _ k1)), rfl, flat_nats, by rw [List.getElem?_map, hj] <;> rfl, by rw [eqV_nat, decide_eq_true_iff], fun m z hm hz => ?_, q h3 (g2.gh.trans e3)⟩
  rw [List.getElem?_map] at hz
  cases hq : l[m]? with
  | none => rw [hq] at hz; cases hz
  | some y =>
    rw [hq] at hz
    cases hz
    rw [eqV_nat, decide_eq_false_iff_not]
    intro z
    rw [z] at hq
    exact hno m hm hq
end
end Md
namespace Md
open PySem L2 Evl
section
variable {K : PySem.W.Frag} {σ : L2.St} {b h : Hp} {te ta tb : TE} {ts : TA} {E : XK} {D : Ends} {tz : TS} {d1 d2 : PyData}
theorem ed_number {n d : Int} (x : Ev ta σ b (.int n)) (y : Ev tb σ b (.int d)) (h0 : d ≠ 0) (h1 : n.natAbs < 2 ^ 1900) (h2 : d.natAbs < 2 ^ 1900) : ED K (tCall (spNumber K) [] E (tCons ta (tCons tb tNil))) σ b (nD (num n d)) :=
  ed_call (eda_cons (ed_int x) (eda_cons (ed_int y) eda_nil)) rfl ⟨n, d, rfl, h0, h1, h2⟩ fun e he => he n d rfl
end
end Md
set_option Elab.async false
set_option linter.all false
set_option maxRecDepth 100000
set_option maxHeartbeats 2000000
namespace Md
open PySem L2 Evl
def NoDraw (G : List Pl) : Prop := ∀ p ∈ G, p.kind ≠ "draw"
def tbr (So St : List (Option Nat)) (p : Pl) (y : Nat) : Nat := if p.kind = "ours" then (So.getD y none).getD 0 else (St.getD y none).getD 0
def playR (G : List Pl) (So St : List (Option Nat)) (x : Nat) : Nat → List Int
  | 0 => []
  | n + 1 => playR G So St x n ++ [((tbr So St (plAt G (lastF G x (playR G So St x n))) (lastF G x (playR G So St x n)) : Nat) : Int)]
def hereR (G : List Pl) (So St : List (Option Nat)) (x n : Nat) : Nat := lastF G x (playR G So St x n)
structure Two (G : List Pl) (So St : List (Option Nat)) : Prop where
  wf : WfG G
  nd : NoDraw G
  so : WfS "ours" G So
  st : WfS "theirs" G St
section
variable {G : List Pl} {So St : List (Option Nat)} {x : Nat}
structure Lp (G : List Pl) (So St : List (Option Nat)) (x m f : Nat) : Prop where
  lt : f < m
  le : m ≤ G.length
  eq : hereR G So St x f = hereR G So St x m
  di : ∀ i k, i < k → k < m → hereR G So St x i ≠ hereR G So St x k
end
end Md
namespace Md
open PySem L2 Evl
theorem ev_if {σ : L2.St} {b : Hp} {t : TT} {ta tb : TE} {v : V} {c : Bool} (x : EvT t σ b c) (h1 : c = true → Ev ta σ b v) (h2 : c = false → Ev tb σ b v) : Ev (tIf t ta tb) σ b v := fun h e Q q => x h e _ fun h' e' => by
  cases hc : c with
  | true =>
    show (if true = true then _ else _)
    rw [if_pos rfl]
    exact h1 hc h' (e.trans e') _ fun h2' e2 => q h2' (e'.trans e2)
  | false =>
    show (if false = true then _ else _)
    rw [if_neg Bool.false_ne_true]
    exact h2 hc h' (e.trans e') _ fun h2' e2 => q h2' (e'.trans e2)
def HasK (P : Program) (w : World) (K : PySem.W.Frag) (mg : Str → Option Value) (base : Heap) (k : Nat) (x : Str) (ps ks : List Str) (n m : Nat) (sp : Sp) : Prop :=
  ∃ f fd, FnOk P w K mg base CX0 k f fd ps sp ∧ mg x = some (.ref f) ∧ PySem.W.keepIn K (.ref f) = true ∧ KBinds K fd ps ks (gK n m) (gK n m)
end Md
namespace Md
open PySem L2 Evl
section
variable {K : PySem.W.Frag} {σ : L2.St} {b h : Hp} {te ta tb t1 t2 : TE} {ts tk : TA} {D : Ends} {tz : TS} {ds1 ds2 : List PyData} {E : XK}
end
section
variable {G : List Pl} {So St : List (Option Nat)} {x m f : Nat}
end
end Md
namespace Md
open PySem L2 Evl
section
variable {K : PySem.W.Frag} {σ : L2.St} {b h : Hp} {te t1 t2 : TE} {D : Ends} {tz : TS} {E : XK} {P1 P2 : PyData → Prop}
end
end Md
namespace Md
open PySem L2 Evl
end Md
set_option Elab.async false
set_option linter.all false
set_option maxRecDepth 100000
set_option maxHeartbeats 2000000
namespace Md
open PySem L2 Evl
abbrev US := List Int × List (Nat × List Int)
structure Circ (G : List Pl) (n : Nat) (p : Nat × List Int) : Prop where
  lt : p.1 < G.length
  ok : okA G p.1 p.2
  cy : lastF G p.1 p.2 = p.1
  di : ∀ i k, i < k → k < p.2.length → atK G p.1 p.2 i ≠ atK G p.1 p.2 k
  le : p.2.length ≤ n
def cSum (G : List Pl) (C : List (Nat × List Int)) : Rat := (C.map fun p => qSum G p.1 p.2).sum
def cLen (C : List (Nat × List Int)) : Nat := (C.map fun p => p.2.length).sum
structure UInv (G : List Pl) (x : Nat) (r : List Int) (s : US) : Prop where
  ok : okA G x s.1
  di : ∀ i k, i < k → k ≤ s.1.length → atK G x s.1 i ≠ atK G x s.1 k
  last : lastF G x s.1 = lastF G x r
  len : s.1.length + cLen s.2 = r.length
  sum : qSum G x s.1 + cSum G s.2 = qSum G x r
  circ : ∀ p ∈ s.2, Circ G r.length p
  many : s.2.length ≤ r.length
theorem sum_snoc (l : List Rat) (a : Rat) : (l ++ [a]).sum = l.sum + a := by
  rw [List.sum_append, List.sum_cons, List.sum_nil, Rat.add_zero]
end Md
namespace Md
open PySem L2 Evl
def OwnC (K : PySem.W.Frag) (h b' : Hp) (v : V) : Prop := ∃ t c us y, v = V.ref t ∧ SqT K b' t [.int y, .ref c] ∧ h c = none ∧ b' c = some (.lst us) ∧ us.length ≤ 60
theorem OwnC.up {K : PySem.W.Frag} {h b b' : Hp} {v : V} (x : OwnC K h b v) (e : Ex b b') : OwnC K h b' v := by
  obtain ⟨t, c, us, y, h1, h2, h3, h4, h5⟩ := x
  exact ⟨t, c, us, y, h1, ex_t e h2, h3, e _ _ h4, h5⟩
theorem OwnC.back {K : PySem.W.Frag} {h h1 b : Hp} {v : V} (x : OwnC K h1 b v) (e : Ex h h1) : OwnC K h b v := by
  obtain ⟨t, c, us, y, q1, q2, q3, q4, q5⟩ := x
  exact ⟨t, c, us, y, q1, q2, fresh_back e q3, q4, q5⟩
section
variable {K : PySem.W.Frag} {σ : L2.St} {b h : Hp} {te ta t1 t2 : TE} {ts : TA} {E : XK} {D : Ends} {tz : TS} {ds : List PyData} {y : Int} {q : Addr} {us : List V}
theorem ev_lenM (hq : h q = some (.lst us)) (ha : Ev ta σ h (.ref q)) : Ev (tCB (rLenS K) (tCons ta tNil)) σ h (.int (us.length : Int)) := fun h1 e _ k => ha h1 e _ fun h2 e2 => ⟨q, us, rfl, .inl (sq_of ((e.trans e2) _ _ hq)), k h2 e2⟩
end
end Md
namespace Md
open PySem L2 Evl
end Md
namespace Md
open PySem L2 Evl
end Md
namespace Md
open PySem L2 Evl
section
variable {K : PySem.W.Frag} {σ : L2.St} {b : Hp} {te : TE} {ts : TA} {E : XK} {G : List Pl} {x : Nat} {r : List Int}
end
end Md
set_option Elab.async false
set_option linter.all false
set_option maxRecDepth 100000
set_option maxHeartbeats 2000000
namespace L2
open PySem PySem.Spec PyProof.Rows
section
variable {X : Cx}
def rLcm : List V → Hp → VK → Prop := fun vs H Q => ∃ a b : Int, vs = [.int a, .int b] ∧ a.natAbs < 2 ^ 13000 ∧ b.natAbs < 2 ^ 13000 ∧ Q (.int ((Nat.lcm a.natAbs b.natAbs : Nat) : Int)) H
theorem lcm_lt {a b j : Nat} (h1 : a < 2 ^ j) (h2 : b < 2 ^ j) : Nat.lcm a b < 2 ^ (j + j) := by
  have h : Nat.lcm a b ≤ a * b := Nat.div_le_self _ _
  rcases Nat.eq_zero_or_pos (a * b) with z | z
  · have := Nat.two_pow_pos (j + j)
    omega
  · have : a * b < 2 ^ j * 2 ^ j := Nat.mul_lt_mul'' h1 h2
    rw [Nat.pow_add]
    omega
theorem cr_lcm : CallR X (.builtin "math.lcm") rLcm := by
  intro pins s σ H vs us Q I r h
  obtain ⟨a, b, rfl, ha, hb, q⟩ := h
  obtain ⟨t, u, rfl⟩ := Vals.int2 r
  have h1 : (max 1 a.natAbs).log2 ≤ 12999 := PySem.W.mg_log (by
    have : (1 : Nat) < 2 ^ (12999 + 1) := Nat.lt_of_lt_of_le (by decide : 1 < 2 ^ 1) (Nat.pow_le_pow_right (by decide) (by decide))
    have ha' : a.natAbs < 2 ^ (12999 + 1) := ha
    generalize 2 ^ (12999 + 1) = N at this ha'
    omega)
  have h2 : (max a.natAbs b.natAbs).log2 ≤ 12999 := PySem.W.mg_log (by
    have ha' : a.natAbs < 2 ^ (12999 + 1) := ha
    have hb' : b.natAbs < 2 ^ (12999 + 1) := hb
    generalize 2 ^ (12999 + 1) = N at ha' hb'
    omega)
  have e1 : (Nat.lcm 1 a.natAbs).lcm b.natAbs = Nat.lcm a.natAbs b.natAbs := by rw [Nat.lcm_one_left]
  have hsz : ((((Nat.lcm 1 a.natAbs).lcm b.natAbs : Nat) : Int)).natAbs.log2 < bitsLine := by
    rw [e1, Int.natAbs_natCast]
    have h3 : (Nat.lcm a.natAbs b.natAbs).log2 ≤ 25999 := PySem.W.mg_log (lcm_lt ha hb)
    exact Nat.lt_of_le_of_lt h3 (by decide)
  refine call_function_meets PySem.W.MGF.kind_lcm PySem.W.MGF.plain_lcm PySem.W.MGF.entry_lcm (PySem.W.MGF.args_lcm _ _) (PySem.W.mg_run_lcm a t b u (by omega) (by omega) hsz).meets ?_
  rw [e1]
  exact ⟨.int _, H, I.tok _, ⟨_, rfl⟩, q⟩
end
end L2
namespace Md
open PySem L2 Evl
section
variable {K : PySem.W.Frag} {σ : L2.St} {b h : Hp} {te tl tl1 ta tb : TE} {ts : TA} {E : XK} {D : Ends} {tz : TS} {d : PyData} {ds : List PyData}
theorem rLcm_ev {i j : Int} (x : Ev ta σ b (.int i)) (y : Ev tb σ b (.int j)) (hi : i.natAbs < 2 ^ 13000) (hj : j.natAbs < 2 ^ 13000) : Ev (tCB rLcm (tCons ta (tCons tb tNil))) σ b (.int ((Nat.lcm i.natAbs j.natAbs : Nat) : Int)) := fun h e _ q => x h e _ fun h2 e2 => y h2 (e.trans e2) _ fun h3 e3 => ⟨i, j, rfl, hi, hj, q h3 (e2.trans e3)⟩
theorem sortedI_K {X : Cx} (h : X.K = K) : CallR X (.builtin "sorted") (rSortedI K) := h ▸ cr_sortedI
theorem DtA.rep {v : V} {n : Nat} (x : Dt K b v d) : DtA K b (List.replicate n v) (List.replicate n d) := by
  induction n with
  | zero => exact DtA.nil
  | succ n ih => exact DtA.cons x ih
theorem flat_rep {α : Type} (n : Nat) (a : α) : (List.replicate n [a]).flatten = List.replicate n a := by
  induction n with
  | zero => rfl
  | succ n ih =>
    rw [List.replicate_succ, List.flatten_cons, ih]
    rfl
theorem en_rep {n : Int} (ha : EN K ta σ b [d]) (hb : Ev tb σ b (.int n)) (hn : 0 ≤ n ∧ n ≤ 100000) : EN K (tOp rRep ta tb) σ b (List.replicate n.toNat d) := fun h e _ q =>
  ha h e _ fun p vs b2 h2 np nb g2 hp hvs => hb h2 (e.trans g2.gh) _ fun h3 e3 => by
    cases hvs with
    | cons h1 h2' =>
      cases h2'
      have g3 := g2.trans (Gr.stay g2.gi e3)
      refine ⟨p, n, _, rfl, rfl, e3 _ _ hp, by omega, by omega, ?_, fun l hl => ?_⟩
      · show 1 * n.toNat ≤ sizeLine
        exact sz_of (by omega)
      · rw [flat_rep]
        exact q l _ b2 _ (gone g3 hl) (none_of g3.gi hl) (g3.trans (Gr.hid g3.gi hl)) upd_same (DtA.rep h1)
theorem en_lc2 {g g1 : TG} {vs vs1 : List Nat} (x : ED K tl σ b (.list ds)) (hz : ds.length ≤ 100) (es : Nat → List PyData) (r : PyData → PyData) (hel : ∀ i, (es i).length ≤ 100)
    (hs : ∀ (i : Nat) (d : PyData) (x : V) (b2 h2 : Hp), Ex b b2 → Ex b2 h2 → ds[i]? = some d → Dt K b2 x d → ∀ Q : L2.St → Hp → Prop, (∀ σ2, wipe σ2 vs = wipe σ vs → ED K tl1 σ2 b2 (.list (es i)) →
      (∀ (j : Nat) (e : PyData) (y : V) (b3 h3 : Hp), Ex b2 b3 → Ex b3 h3 → (es i)[j]? = some e → Dt K b3 y e → ∀ Q1 : L2.St → Hp → Prop, (∀ σ3, wipe σ3 vs1 = wipe σ2 vs1 → ED K te σ3 b3 (r e) → Q1 σ3 h3) → g1 y (wipe σ2 vs1) h3 Q1) → Q σ2 h2) → g x (wipe σ vs) h2 Q) :
    EN K (tLc2 (iList K tl) g tYes (iList K tl1) g1 tYes te vs vs1) σ b (((List.range ds.length).map fun i => (es i).map r).flatten) := fun h e _ q => x h e _ fun v b1 h1 g1' hv => by
  obtain ⟨a, xs, rfl, k1, k2⟩ := hv.listI
  refine ⟨a, rfl, ⟨xs, sq_of (g1'.gi _ _ k1)⟩, fun Dl hD => ?_⟩
  let acc : Nat → List PyData := fun n => ((List.range n).map fun i => (es i).map r).flatten
  have acc1 : ∀ n, acc (n + 1) = acc n ++ (es n).map r := fun n => by
    show ((List.range (n + 1)).map _).flatten = _
    rw [List.range_succ, List.map_append, List.flatten_append]
    simp [acc]
  have accl : ∀ n, (acc n).length ≤ 100 * n := by
    intro n
    induction n with
    | zero => exact Nat.le_refl _
    | succ n ih =>
      rw [acc1, List.length_append, List.length_map]
      have := hel n
      omega
  have hxl : xs.length = ds.length := k2.length
  let Inv : Nat → Hp → Prop := fun i H => ∃ b2 us, Gr b1 h1 b2 H ∧ b2 Dl = none ∧ H Dl = some (.lst us) ∧ DtA K b2 us (acc i)
  refine ⟨fun i m H => m = ds.length - i ∧ i ≤ ds.length ∧ Inv i H, ⟨ds.length, by simp, Nat.zero_le _, b1, [], Gr.hid g1'.gi hD, none_of g1'.gi hD, upd_same, DtA.nil⟩, ?_⟩
  rintro i m H ⟨rfl, hi, b2, us, g2, nb, hu, hA⟩
  have sqx : SqL K H a xs := sq_of (g2.gh _ _ (g1'.gi _ _ k1))
  by_cases hlt : i < ds.length
  · refine .inr ⟨walk_list.goes i H (by omega) sqx, Inv (i + 1), fun H' p' => ⟨ds.length - (i + 1), by omega, rfl, hlt, p'⟩, fun y H' hy => ?_⟩
    have hy2 := (walk_list (K := K) (a := a) (xs := xs)).yields i H y H' (by omega) sqx hy
    obtain rfl : H' = H := hy2.1
    replace hy : xs[i]? = some y := hy2.2
    obtain ⟨dd, hdd, hx⟩ := k2.getV hy
    refine hs i dd y b2 _ (g1'.gb.trans g2.gb) g2.gi hdd (hx.up g2.gb) _ fun σ2 hw htl hin => ⟨hw, ?_⟩
    refine tyes_of ?_
    refine htl _ g2.gi _ fun v1 b3 h3 g3 hv1 => ?_
    obtain ⟨a1, xs1, rfl, q1, q2⟩ := hv1.listI
    have hl1 : xs1.length = (es i).length := q2.length
    refine ⟨a1, rfl, ⟨xs1, sq_of (g3.gi _ _ q1)⟩, ?_⟩
    have G3 := g2.trans g3
    have nb3 : b3 Dl = none := g3.gf Dl nb (by rw [hu]; intro z; cases z)
    have hu3 := g3.gh _ _ hu
    let Inv1 : Nat → Hp → Prop := fun j H => ∃ b4 us, Gr b3 h3 b4 H ∧ b4 Dl = none ∧ H Dl = some (.lst us) ∧ DtA K b4 us (acc i ++ ((es i).take j).map r)
    have hDl3 : h3 Dl ≠ none := by
      rw [hu3]
      intro z
      cases z
    refine ⟨fun j k H => k = (es i).length - j ∧ j ≤ (es i).length ∧ (∃ b4 us, Gr b1 h1 b4 H ∧ Ex b3 b4 ∧ b4 Dl = none ∧ H Dl = some (.lst us) ∧ DtA K b4 us (acc i ++ ((es i).take j).map r)), ⟨(es i).length, by simp, Nat.zero_le _, b3, us, G3, Ex.refl _, nb3, hu3, by rw [List.take_zero, List.map_nil, List.append_nil]; exact hA.up g3.gb⟩, ?_⟩
    rintro j k H ⟨rfl, hj, b4, us4, g4, e4, nb4, hu4, hA4⟩
    have sq1 : SqL K H a1 xs1 := sq_of (g4.gi _ _ (e4 _ _ q1))
    by_cases hjlt : j < (es i).length
    · refine .inr ⟨walk_list.goes j H (by omega) sq1, fun H' => (∃ b4 us, Gr b1 h1 b4 H' ∧ Ex b3 b4 ∧ b4 Dl = none ∧ H' Dl = some (.lst us) ∧ DtA K b4 us (acc i ++ ((es i).take (j + 1)).map r)), fun H' p' => ⟨(es i).length - (j + 1), by omega, rfl, hjlt, p'⟩, fun y H' hy => ?_⟩
      have hy2 := (walk_list (K := K) (a := a1) (xs := xs1)).yields j H y H' (by omega) sq1 hy
      obtain rfl : H' = H := hy2.1
      replace hy : xs1[j]? = some y := hy2.2
      obtain ⟨ee, hee, hx1⟩ := q2.getV hy
      refine hin j ee y b4 _ (g3.gb.trans e4) g4.gi hee (hx1.up e4) _ fun σ3 hw3 hte => ⟨hw3, ?_⟩
      refine tyes_of ?_
      refine hte _ g4.gi _ fun y5 b5 h5 g5 hy5 => ⟨us4, g5.gh _ _ hu4, sz_lt ?_, ?_⟩
      · rw [hA4.length, List.length_append, List.length_map, List.length_take]
        have := accl i
        have := hel i
        omega
      · have nb5 : b5 Dl = none := g5.gf Dl nb4 (by rw [hu4]; intro z; cases z)
        refine ⟨b5, us4 ++ [y5], (g4.trans g5).mut hD nb5, e4.trans g5.gb, nb5, upd_same, ?_⟩
        rw [take_more1 hee, List.map_append, ← List.append_assoc]
        exact (hA4.up g5.gb).append (DtA.one hy5)
    · have e : j = (es i).length := by omega
      subst e
      refine .inl ⟨?_, ?_⟩
      · have := (walk_list (K := K) (a := a1) (xs := xs1)).stops H sq1
        rw [hl1] at this
        exact this
      · refine ⟨b4, us4, g4, nb4, hu4, ?_⟩
        rw [acc1]
        rw [List.take_length] at hA4
        exact hA4
  · have e : i = ds.length := by omega
    subst e
    refine .inl ⟨?_, ?_⟩
    · have := (walk_list (K := K) (a := a) (xs := xs)).stops H sqx
      rw [hxl] at this
      exact this
    · exact q Dl us b2 H (gone g1' hD) nb (g1'.trans g2) hu hA
end
end Md
set_option Elab.async false
set_option linter.all false
set_option maxRecDepth 100000
set_option maxHeartbeats 2000000
namespace Md
open PySem L2 Evl
abbrev BrC := (Int × Int) × Nat
structure PlC where
  g : Int × Int
  bs : List BrC
def brC (q : BrC) : PyData := .tuple [nD q.1, .int (q.2 : Int)]
def PlC.D (p : PlC) : PyData := .tuple [nD p.g, .str "draw", .list (p.bs.map brC)]
def chD (C : List PlC) : PyData := .list (C.map PlC.D)
structure WfB (n : Nat) (p : PlC) : Prop where
  g : SmallN p.g
  l1 : 1 ≤ p.bs.length
  l6 : p.bs.length ≤ 6
  q : ∀ q ∈ p.bs, SmallN q.1 ∧ 0 < q.1.1 ∧ q.2 < n
  w : ∃ W : Nat, 0 < W ∧ W ≤ 360 ∧ ∀ q ∈ p.bs, q.1.2.natAbs ∣ W
  s : (p.bs.map fun q => qN q.1).sum = 1
structure WfC (C : List PlC) : Prop where
  l1 : 1 ≤ C.length
  l12 : C.length ≤ 12
  p : ∀ p ∈ C, WfB C.length p
def plC (C : List PlC) (k : Nat) : PlC := C.getD k ⟨(0, 1), []⟩
theorem plC_get {C : List PlC} {k : Nat} (h : k < C.length) : C[k]? = some (plC C k) := by
  unfold plC
  rw [List.getD_eq_getElem?_getD, List.getElem?_eq_getElem h]
  rfl
theorem plC_wf {C : List PlC} (h : WfC C) {k : Nat} (hk : k < C.length) : WfB C.length (plC C k) := h.p _ (List.mem_of_getElem? (plC_get hk))
theorem ch_at {C : List PlC} {k : Nat} (h : k < C.length) : L2.atI (C.map PlC.D) (k : Int) = some (plC C k).D := atI_nat (by rw [List.getElem?_map, plC_get h] <;> rfl)
def sumR (n : Nat) (f : Nat → Rat) : Rat := ((List.range n).map f).sum
theorem sumR_zero (f : Nat → Rat) : sumR 0 f = 0 := rfl
theorem sumR_succ (n : Nat) (f : Nat → Rat) : sumR (n + 1) f = sumR n f + f n := by
  unfold sumR
  rw [List.range_succ, List.map_append, List.map_cons, List.map_nil, sum_snoc]
theorem sumR_congr {n : Nat} {f g : Nat → Rat} (h : ∀ i, i < n → f i = g i) : sumR n f = sumR n g := by
  induction n with
  | zero => rfl
  | succ n ih => rw [sumR_succ, sumR_succ, ih fun i hi => h i (Nat.lt_succ_of_lt hi), h n (Nat.lt_succ_self n)]
theorem sumR_add (n : Nat) (f g : Nat → Rat) : sumR n (fun i => f i + g i) = sumR n f + sumR n g := by
  induction n with
  | zero => rw [sumR_zero, sumR_zero, sumR_zero, Rat.add_zero]
  | succ n ih => rw [sumR_succ, sumR_succ, sumR_succ, ih]; grind
theorem sumR_mul (n : Nat) (c : Rat) (f : Nat → Rat) : sumR n (fun i => c * f i) = c * sumR n f := by
  induction n with
  | zero => rw [sumR_zero, sumR_zero, Rat.mul_zero]
  | succ n ih => rw [sumR_succ, sumR_succ, ih]; grind
theorem sumR_const0 (n : Nat) : sumR n (fun _ => 0) = 0 := by
  induction n with
  | zero => rfl
  | succ n ih => rw [sumR_succ, ih, Rat.add_zero]
theorem sumR_one {n k : Nat} (a : Rat) (h : k < n) : sumR n (fun j => if j = k then a else 0) = a := by
  induction n with
  | zero => omega
  | succ n ih =>
    rw [sumR_succ]
    by_cases e : k = n
    · subst e
      rw [if_pos rfl, sumR_congr (g := fun _ => 0) fun i hi => if_neg (by omega), sumR_const0, Rat.zero_add]
    · rw [ih (by omega), if_neg (fun z => e z.symm), Rat.add_zero]
def wsum (bs : List BrC) (f : Nat → Rat) : Rat := (bs.map fun q => qN q.1 * f q.2).sum
theorem wsum_nil (f : Nat → Rat) : wsum [] f = 0 := rfl
theorem wsum_cons (q : BrC) (bs : List BrC) (f : Nat → Rat) : wsum (q :: bs) f = qN q.1 * f q.2 + wsum bs f := by
  unfold wsum
  rw [List.map_cons, List.sum_cons]
theorem wsum_congr {bs : List BrC} {f g : Nat → Rat} (h : ∀ q ∈ bs, f q.2 = g q.2) : wsum bs f = wsum bs g := by
  induction bs with
  | nil => rfl
  | cons q bs ih => rw [wsum_cons, wsum_cons, ih fun q hq => h q (List.mem_cons_of_mem _ hq), h q (List.mem_cons_self ..)]
theorem wsum_add (bs : List BrC) (f g : Nat → Rat) : wsum bs (fun j => f j + g j) = wsum bs f + wsum bs g := by
  induction bs with
  | nil => rw [wsum_nil, wsum_nil, wsum_nil, Rat.add_zero]
  | cons q bs ih => rw [wsum_cons, wsum_cons, wsum_cons, ih]; grind
theorem wsum_mul (bs : List BrC) (c : Rat) (f : Nat → Rat) : wsum bs (fun j => c * f j) = c * wsum bs f := by
  induction bs with
  | nil => rw [wsum_nil, wsum_nil, Rat.mul_zero]
  | cons q bs ih => rw [wsum_cons, wsum_cons, ih]; grind
theorem wsum_one (bs : List BrC) : wsum bs (fun _ => 1) = (bs.map fun q => qN q.1).sum := by
  unfold wsum
  congr 1
  exact List.map_congr_left fun q _ => Rat.mul_one _
def meanC (C : List PlC) (f : Nat → Rat) (k : Nat) : Rat := wsum (plC C k).bs f
theorem mean_one {C : List PlC} (h : WfC C) {k : Nat} (hk : k < C.length) : meanC C (fun _ => 1) k = 1 := by
  unfold meanC
  rw [wsum_one]
  exact (plC_wf h hk).s
def gainC (C : List PlC) (k : Nat) : Rat := qN (plC C k).g
def Zt (M : Nat) (r : Rat) : Prop := ∃ z : Int, r * ((M : Int) : Rat) = (z : Rat)
theorem Zt.add {M : Nat} {a b : Rat} (h : Zt M a) (g : Zt M b) : Zt M (a + b) := by
  obtain ⟨x, hx⟩ := h
  obtain ⟨y, hy⟩ := g
  exact ⟨x + y, by rw [Rat.intCast_add]; grind⟩
theorem Zt.mul {M N : Nat} {a b : Rat} (h : Zt M a) (g : Zt N b) : Zt (M * N) (a * b) := by
  obtain ⟨x, hx⟩ := h
  obtain ⟨y, hy⟩ := g
  refine ⟨x * y, ?_⟩
  rw [Int.natCast_mul, Rat.intCast_mul, Rat.intCast_mul, ← hx, ← hy]
  grind
theorem Zt.dvd {M N : Nat} {a : Rat} (h : Zt M a) (d : M ∣ N) : Zt N a := by
  obtain ⟨x, hx⟩ := h
  obtain ⟨c, rfl⟩ := d
  refine ⟨x * c, ?_⟩
  rw [Int.natCast_mul, Rat.intCast_mul, Rat.intCast_mul, ← hx]
  grind
theorem zt_zero (M : Nat) : Zt M 0 := ⟨0, by rw [Rat.zero_mul]; rfl⟩
theorem zt_int (M : Nat) (z : Int) : Zt M (z : Rat) := ⟨z * M, by rw [Rat.intCast_mul]⟩
theorem zt_den {p : Int × Int} (h : Red p) {M : Nat} (d : p.2.natAbs ∣ M) : Zt M (qN p) := by
  obtain ⟨c, rfl⟩ := d
  refine ⟨p.1 * c, ?_⟩
  have e : ((p.2.natAbs * c : Nat) : Int) = p.2 * (c : Int) := by
    rw [Int.natCast_mul, Int.natAbs_of_nonneg (by have := h.1; omega)]
  rw [e, Rat.intCast_mul, Rat.intCast_mul]
  have := red_ne h
  unfold qN
  grind
theorem nat_ne {M : Nat} (h : 0 < M) : ((M : Int) : Rat) ≠ 0 := cast_ne (by omega)
theorem zt_dvd {p : Int × Int} (h : Red p) {M : Nat} (z : Zt M (qN p)) : p.2.natAbs ∣ M := by
  obtain ⟨x, hx⟩ := z
  have hp := red_ne h
  have e : (p.1 : Rat) * ((M : Int) : Rat) = (x : Rat) * (p.2 : Rat) := by
    unfold qN at hx
    grind
  rw [← Rat.intCast_mul, ← Rat.intCast_mul] at e
  have e2 : p.1 * (M : Int) = x * p.2 := Rat.intCast_inj.mp e
  have e3 : p.1.natAbs * M = x.natAbs * p.2.natAbs := by
    have := congrArg Int.natAbs e2
    rwa [Int.natAbs_mul, Int.natAbs_mul, Int.natAbs_natCast] at this
  have d : p.2.natAbs ∣ p.1.natAbs * M := ⟨x.natAbs, by rw [e3, Nat.mul_comm]⟩
  exact Nat.Coprime.dvd_of_dvd_mul_left (show Nat.Coprime p.2.natAbs p.1.natAbs by unfold Nat.Coprime; rw [Nat.gcd_comm]; exact h.2) d
theorem cast_le {a b : Int} (h : (a : Rat) ≤ (b : Rat)) : a ≤ b := Rat.intCast_le_intCast.mp h
theorem le_cast {a b : Int} (h : a ≤ b) : (a : Rat) ≤ (b : Rat) := Rat.intCast_le_intCast.mpr h
theorem cast_pos {a : Int} (h : 0 < a) : (0 : Rat) < (a : Rat) := Rat.intCast_lt_intCast.mpr h
theorem q_mul {p : Int × Int} (h : Red p) : qN p * (p.2 : Rat) = (p.1 : Rat) := by
  have := red_ne h
  unfold qN
  grind
theorem zt_big {p : Int × Int} (h : Red p) {M B : Nat} (hM : 0 < M) (z : Zt M (qN p)) (h1 : -((B : Int) : Rat) ≤ qN p) (h2 : qN p ≤ ((B : Int) : Rat)) : p.2.natAbs ≤ M ∧ p.1.natAbs ≤ B * M := by
  have d := Nat.le_of_dvd hM (zt_dvd h z)
  have hp : (0 : Rat) ≤ (p.2 : Rat) := Rat.le_of_lt (cast_pos (by have := h.1; omega))
  have e := q_mul h
  have u1 := Rat.mul_le_mul_of_nonneg_right h1 hp
  have u2 := Rat.mul_le_mul_of_nonneg_right h2 hp
  rw [e] at u1 u2
  have v2 : p.1 ≤ (B : Int) * p.2 := cast_le (by rw [Rat.intCast_mul]; exact u2)
  have v1 : -((B : Int) * p.2) ≤ p.1 := cast_le (by rw [Rat.intCast_neg, Rat.intCast_mul]; grind)
  have e2 : (p.2.natAbs : Int) = p.2 := Int.natAbs_of_nonneg (by have := h.1; omega)
  have h3 : p.1.natAbs ≤ B * p.2.natAbs := by
    have e3 : ((B * p.2.natAbs : Nat) : Int) = (B : Int) * p.2 := by rw [Int.natCast_mul, e2]
    omega
  exact ⟨d, Nat.le_trans h3 (Nat.mul_le_mul_left B d)⟩
theorem zt_Big {p : Int × Int} (h : Red p) {M B j : Nat} (hM : 0 < M) (z : Zt M (qN p)) (h1 : -((B : Int) : Rat) ≤ qN p) (h2 : qN p ≤ ((B : Int) : Rat)) (hB : 1 ≤ B) (hj : B * M < 2 ^ j) : Big j p := by
  have := zt_big h hM z h1 h2
  have hm : M ≤ B * M := Nat.le_mul_of_pos_left M hB
  exact ⟨by omega, by omega⟩
def denL (l : List (Int × Int)) : Nat := l.foldl (fun d p => Nat.lcm d p.2.natAbs) 1
theorem denL_snoc (l : List (Int × Int)) (p : Int × Int) : denL (l ++ [p]) = Nat.lcm (denL l) p.2.natAbs := by
  unfold denL
  rw [List.foldl_append]
  rfl
theorem denL_from : ∀ (l : List (Int × Int)) (d : Nat), d ∣ l.foldl (fun d p => Nat.lcm d p.2.natAbs) d ∧ ∀ p ∈ l, p.2.natAbs ∣ l.foldl (fun d p => Nat.lcm d p.2.natAbs) d
  | [], d => ⟨Nat.dvd_refl d, fun p hp => (by cases hp)⟩
  | q :: l, d => by
    obtain ⟨h1, h2⟩ := denL_from l (Nat.lcm d q.2.natAbs)
    refine ⟨Nat.dvd_trans (Nat.dvd_lcm_left _ _) h1, fun p hp => ?_⟩
    rcases List.mem_cons.mp hp with rfl | hp
    · exact Nat.dvd_trans (Nat.dvd_lcm_right _ _) h1
    · exact h2 p hp
theorem denL_dvd {l : List (Int × Int)} {p : Int × Int} (h : p ∈ l) : p.2.natAbs ∣ denL l := (denL_from l 1).2 p h
theorem denL_least : ∀ (l : List (Int × Int)) (d M : Nat), d ∣ M → (∀ p ∈ l, p.2.natAbs ∣ M) → l.foldl (fun d p => Nat.lcm d p.2.natAbs) d ∣ M
  | [], d, M, h, _ => h
  | q :: l, d, M, h, g => denL_least l _ M (Nat.lcm_dvd h (g q (List.mem_cons_self ..))) fun p hp => g p (List.mem_cons_of_mem _ hp)
theorem denL_to {l : List (Int × Int)} {M : Nat} (g : ∀ p ∈ l, p.2.natAbs ∣ M) : denL l ∣ M := denL_least l 1 M (Nat.one_dvd M) g
theorem denL_pos : ∀ {l : List (Int × Int)}, (∀ p ∈ l, 1 ≤ p.2) → 0 < denL l := by
  intro l
  unfold denL
  suffices ∀ d, 0 < d → (∀ p ∈ l, 1 ≤ p.2) → 0 < l.foldl (fun d p => Nat.lcm d p.2.natAbs) d from fun h => this 1 (by decide) h
  induction l with
  | nil => exact fun d h _ => h
  | cons q l ih => exact fun d h g => ih _ (Nat.lcm_pos h (by have := g q (List.mem_cons_self ..); omega)) fun p hp => g p (List.mem_cons_of_mem _ hp)
def gainsC (C : List PlC) : List (Int × Int) := C.map (·.g)
theorem unit_le : ∀ {C : List PlC} {n : Nat}, (∀ p ∈ C, WfB n p) → ∃ M : Nat, 0 < M ∧ M ≤ 999 ^ C.length ∧ ∀ c ∈ gainsC C, c.2.natAbs ∣ M
  | [], n, _ => ⟨1, by decide, by decide, fun c h => by cases h⟩
  | p :: C, n, h => by
    obtain ⟨M, h0, h1, h2⟩ := unit_le (C := C) (n := n) fun p hp => h p (List.mem_cons_of_mem _ hp)
    have hg := (h p (List.mem_cons_self ..)).g
    refine ⟨M * p.g.2.natAbs, Nat.mul_pos h0 (by have := hg.1; omega), ?_, fun c hc => ?_⟩
    · rw [List.length_cons, Nat.pow_succ]
      exact Nat.mul_le_mul h1 (by have := hg.1; have := hg.2.1; omega)
    · rcases List.mem_cons.mp hc with rfl | hc
      · exact Nat.dvd_mul_left _ _
      · exact Nat.dvd_trans (h2 c hc) (Nat.dvd_mul_right _ _)
theorem unit_ok {C : List PlC} (h : WfC C) : 0 < denL (gainsC C) ∧ denL (gainsC C) ≤ 999 ^ C.length := by
  obtain ⟨M, h0, h1, h2⟩ := unit_le h.p
  refine ⟨denL_pos fun c hc => ?_, Nat.le_trans (Nat.le_of_dvd h0 (denL_to h2)) h1⟩
  obtain ⟨p, hp, rfl⟩ := List.mem_map.mp hc
  exact (h.p p hp).g.1
end Md
set_option Elab.async false
set_option linter.all false
set_option maxRecDepth 100000
set_option maxHeartbeats 2000000
namespace Md
open PySem L2 Evl
def canon (r : Rat) : Int × Int := (r.num, (r.den : Int))
theorem canon_red (r : Rat) : Red (canon r) := ⟨by have := r.den_pos; show (1 : Int) ≤ (r.den : Int); omega, r.reduced⟩
theorem q_canon (r : Rat) : qN (canon r) = r := by
  show (r.num : Rat) / ((r.den : Int) : Rat) = r
  rw [← Rat.divInt_eq_div]
  exact Rat.num_divInt_den r
theorem canon_of {p : Int × Int} {r : Rat} (h : Red p) (e : qN p = r) : p = canon r := q_inj h (canon_red r) (by rw [e, q_canon])
def nQ (r : Rat) : PyData := nD (canon r)
theorem plus_canon (a b : Rat) : plusN (canon a) (canon b) = canon (a + b) := canon_of (plusN_red (canon_red a) (canon_red b)) (by rw [q_plus (canon_red a) (canon_red b), q_canon, q_canon])
theorem times_canon (a b : Rat) : timesN (canon a) (canon b) = canon (a * b) := canon_of (timesN_red (canon_red a) (canon_red b)) (by rw [q_times (canon_red a) (canon_red b), q_canon, q_canon])
theorem canon_red_self {p : Int × Int} (h : Red p) : p = canon (qN p) := canon_of h rfl
theorem num_canon {n d : Int} (h : 0 < d) : num n d = canon ((n : Rat) / (d : Rat)) := canon_of (num_red h) (q_num h)
theorem canon_zero : canon 0 = (0, 1) := (canon_of one_red q_zero).symm
theorem q_one : qN (1, 1) = 1 := by show ((1 : Int) : Rat) / ((1 : Int) : Rat) = 1; decide +kernel
theorem canon_one : canon 1 = (1, 1) := (canon_of one_one q_one).symm
theorem canon_int (z : Int) : canon (z : Rat) = (z, 1) := rfl
def listQ (n : Nat) (f : Nat → Rat) : PyData := .list ((List.range n).map fun k => nQ (f k))
theorem listQ_nums (n : Nat) (f : Nat → Rat) : listQ n f = numsD ((List.range n).map fun k => canon (f k)) := by
  unfold listQ numsD
  rw [List.map_map]
  rfl
theorem listQ_congr {n : Nat} {f g : Nat → Rat} (h : ∀ k, k < n → f k = g k) : listQ n f = listQ n g := by
  unfold listQ
  congr 1
  exact List.map_congr_left fun k hk => by rw [h k (List.mem_range.mp hk)]
theorem listQ_at {n k : Nat} {f : Nat → Rat} (h : k < n) : L2.atI ((List.range n).map fun k => nQ (f k)) (k : Int) = some (nQ (f k)) := atI_nat (by rw [List.getElem?_map, List.getElem?_range h] <;> rfl)
theorem whole_q {p : Int × Int} (h : Red p) {M : Nat} (d : p.2.natAbs ∣ M) : ((p.1 * ((M : Int) / p.2) : Int) : Rat) = qN p * ((M : Int) : Rat) := by
  have d2 : p.2 ∣ (M : Int) := Int.natAbs_dvd_natAbs.mp (by rw [Int.natAbs_natCast]; exact d)
  obtain ⟨c, hc⟩ := d2
  have hp : p.2 ≠ 0 := by have := h.1; omega
  rw [hc, Int.mul_ediv_cancel_left _ hp, Rat.intCast_mul, Rat.intCast_mul, ← Rat.mul_assoc, q_mul h]
theorem wsum_le {bs : List BrC} {f g : Nat → Rat} (h : ∀ q ∈ bs, 0 ≤ qN q.1 ∧ f q.2 ≤ g q.2) : wsum bs f ≤ wsum bs g := by
  induction bs with
  | nil => exact Rat.le_refl
  | cons q bs ih =>
    rw [wsum_cons, wsum_cons]
    have h1 := ih fun q hq => h q (List.mem_cons_of_mem _ hq)
    obtain ⟨h2, h3⟩ := h q (List.mem_cons_self ..)
    have := Rat.mul_le_mul_of_nonneg_left h3 h2
    grind
theorem q_pos {p : Int × Int} (h : Red p) (h0 : 0 < p.1) : 0 < qN p := by
  have h1 : (0 : Rat) < (p.2 : Rat) := cast_pos (by have := h.1; omega)
  have h2 : (0 : Rat) < (p.1 : Rat) := cast_pos h0
  unfold qN
  rw [Rat.div_def]
  exact Rat.mul_pos h2 (Rat.inv_pos.mpr h1)
theorem br_pos {C : List PlC} (h : WfC C) {k : Nat} (hk : k < C.length) {q : BrC} (hq : q ∈ (plC C k).bs) : 0 < qN q.1 := q_pos (red_small ((plC_wf h hk).q q hq).1) ((plC_wf h hk).q q hq).2.1
theorem mean_le {C : List PlC} (h : WfC C) {k : Nat} (hk : k < C.length) {f : Nat → Rat} {c : Rat} (hf : ∀ j, j < C.length → f j ≤ c) : meanC C f k ≤ c := by
  have h1 : meanC C f k ≤ meanC C (fun _ => c * 1) k := wsum_le fun q hq => ⟨Rat.le_of_lt (br_pos h hk hq), by rw [Rat.mul_one]; exact hf _ ((plC_wf h hk).q q hq).2.2⟩
  have h2 : meanC C (fun _ => c * 1) k = c * meanC C (fun _ => 1) k := wsum_mul _ _ _
  rw [mean_one h hk] at h2
  grind
theorem mean_ge {C : List PlC} (h : WfC C) {k : Nat} (hk : k < C.length) {f : Nat → Rat} {c : Rat} (hf : ∀ j, j < C.length → c ≤ f j) : c ≤ meanC C f k := by
  have h1 : meanC C (fun _ => c * 1) k ≤ meanC C f k := wsum_le fun q hq => ⟨Rat.le_of_lt (br_pos h hk hq), by rw [Rat.mul_one]; exact hf _ ((plC_wf h hk).q q hq).2.2⟩
  have h2 : meanC C (fun _ => c * 1) k = c * meanC C (fun _ => 1) k := wsum_mul _ _ _
  rw [mean_one h hk] at h2
  grind
theorem div_le' {a b c : Rat} (h : 0 < b) (g : a ≤ c * b) : a / b ≤ c := by
  have : ¬ c < a / b := fun z => by
    rw [Rat.lt_div_iff h] at z
    grind
  grind
theorem le_div' {a b c : Rat} (h : 0 < b) (g : c * b ≤ a) : c ≤ a / b := by
  have : ¬ a / b < c := fun z => by
    rw [Rat.div_lt_iff h] at z
    grind
  grind
theorem q_le {p : Int × Int} (h : Red p) {c : Int} (hc : p.1 ≤ c * p.2) : qN p ≤ (c : Rat) := by
  have h1 : (0 : Rat) < (p.2 : Rat) := cast_pos (by have := h.1; omega)
  unfold qN
  refine div_le' h1 ?_
  rw [← Rat.intCast_mul]
  exact le_cast hc
theorem q_ge {p : Int × Int} (h : Red p) {c : Int} (hc : c * p.2 ≤ p.1) : (c : Rat) ≤ qN p := by
  have h1 : (0 : Rat) < (p.2 : Rat) := cast_pos (by have := h.1; omega)
  unfold qN
  refine le_div' h1 ?_
  rw [← Rat.intCast_mul]
  exact le_cast hc
theorem q_small {p : Int × Int} (h : SmallN p) : -(1000 : Rat) ≤ qN p ∧ qN p ≤ 1000 := by
  obtain ⟨h1, h2, h3, h4⟩ := h
  have hr : Red p := ⟨h1, h4⟩
  constructor
  · have := q_ge hr (c := -1000) (by omega)
    exact this
  · have := q_le hr (c := 1000) (by omega)
    exact this
def spDen (K : PySem.W.Frag) : Sp := fun vs h Q _ => ∃ (b : Hp) (l : List (Int × Int)), Ex b h ∧ DtA K b vs [numsD l] ∧ (∀ p ∈ l, 1 ≤ p.2) ∧ denL l < 2 ^ 13000 ∧ ∀ h', Ex h h' → Q (.int (denL l : Int)) h'
def spWhA (K : PySem.W.Frag) : Sp := fun vs h Q _ => ∃ (b : Hp) (p : Int × Int) (M : Int), Ex b h ∧ DtA K b vs [nD p, .int M] ∧ 1 ≤ p.2 ∧ p.1.natAbs < 2 ^ 13000 ∧ p.2.natAbs < 2 ^ 9000 ∧ M.natAbs < 2 ^ 13000 ∧ ∀ h', Ex h h' → Q (.int (p.1 * (M / p.2))) h'
def spGains (K : PySem.W.Frag) : Sp := fun vs h Q _ => ∃ (b : Hp) (C : List PlC), Ex b h ∧ DtA K b vs [chD C] ∧ C.length ≤ 100 ∧ ∀ v b' h', Gr b h b' h' → Dt K b' v (numsD (gainsC C)) → Q v h'
def OwnF (h b' : Hp) (v : V) : Prop := ∃ p us, v = V.ref p ∧ h p = none ∧ b' p = some (.lst us) ∧ us.length ≤ 60
theorem OwnF.back {h h1 b : Hp} {v : V} (x : OwnF h1 b v) (e : Ex h h1) : OwnF h b v := by
  obtain ⟨p, us, h1, h2, h3, h4⟩ := x
  exact ⟨p, us, h1, fresh_back e h2, h3, h4⟩
section
variable {K : PySem.W.Frag} {σ : L2.St} {b h : Hp} {te tl ta tb : TE} {ts tk : TA} {E : XK} {D : Ends} {tz : TS} {d : PyData} {ds : List PyData} {C : List PlC} {p q : Int × Int} {r s : Rat}
theorem en_mapG {g : TG} {vs : List Nat} {α : Type} {D f : α → PyData} {l : List α} (x : ED K tl σ b (.list (l.map D))) (hz : l.length ≤ 40000)
    (hs : ∀ y ∈ l, ∀ x b2 h2, Ex b b2 → Ex b2 h2 → Dt K b2 x (D y) → ∀ Q : L2.St → Hp → Prop, (∀ σ2, wipe σ2 vs = wipe σ vs → ED K te σ2 b2 (f y) → Q σ2 h2) → g x (wipe σ vs) h2 Q) : EN K (tLc (iList K tl) g tYes te vs) σ b (l.map f) := by
  by_cases hl : l = []
  · subst hl
    exact en_lcG x hz (fun _ => true) (fun _ => .none) fun i d v b2 h2 e e2 hd _ => by
      rw [List.map_nil] at hd
      simp at hd
  · obtain ⟨a, l', rfl⟩ := List.exists_cons_of_ne_nil hl
    have e : (a :: l').map f = givenD ((a :: l').map D).length (fun _ => true) (fun i => f ((a :: l').getD i a)) := by
      rw [givenD_all, List.length_map, map_getDn]
    rw [e]
    refine en_lcG x (by rw [List.length_map]; exact hz) _ _ fun i d v b2 h2 e1 e2 hd hv Q k => ?_
    rw [List.getElem?_map] at hd
    cases hz2 : (a :: l')[i]? with
    | none => rw [hz2] at hd; cases hd
    | some y =>
      rw [hz2] at hd
      cases hd
      refine hs y (List.mem_of_getElem? hz2) v b2 h2 e1 e2 hv Q fun σ2 hw ht => k σ2 hw et_yes fun _ => ?_
      have : (a :: l').getD i a = y := by rw [List.getD_eq_getElem?_getD, hz2]; rfl
      rw [this]
      exact ht
theorem ev_den {l : List (Int × Int)} (y : EDA K ts σ b [numsD l]) (h1 : ∀ p ∈ l, 1 ≤ p.2) (h2 : denL l < 2 ^ 13000) : Ev (tCall (spDen K) [] E ts) σ b (.int (denL l : Int)) := fun h e _ qq =>
  y h e _ fun vs b2 h2' g2 hv => ⟨b2, l, g2.gi, by rw [List.append_nil]; exact hv, h1, h2, fun h3 e3 => qq h3 (g2.gh.trans e3)⟩
theorem ev_whA {M : Int} (y : EDA K ts σ b [nD p, .int M]) (h1 : 1 ≤ p.2) (h2 : p.1.natAbs < 2 ^ 13000) (h3 : p.2.natAbs < 2 ^ 9000) (h4 : M.natAbs < 2 ^ 13000) : Ev (tCall (spWhA K) [] E ts) σ b (.int (p.1 * (M / p.2))) := fun h e _ qq =>
  y h e _ fun vs b2 h2' g2 hv => ⟨b2, p, M, g2.gi, by rw [List.append_nil]; exact hv, h1, h2, h3, h4, fun h3 e3 => qq h3 (g2.gh.trans e3)⟩
theorem ed_gainsC (y : EDA K ts σ b [chD C]) (h1 : C.length ≤ 100) : ED K (tCall (spGains K) [] E ts) σ b (numsD (gainsC C)) := fun h e _ qq =>
  y h e _ fun vs b2 h2' g2 hv => ⟨b2, C, g2.gi, by rw [List.append_nil]; exact hv, h1, fun v b3 h3 g3 hv3 => qq v b3 h3 (g2.trans g3) hv3⟩
end
theorem small_Q {p : Int × Int} (h : SmallN p) : canon (qN p) = p := (canon_red_self (red_small h)).symm
theorem big_canon_small {p : Int × Int} (h : SmallN p) : Big 10 (canon (qN p)) := by rw [small_Q h]; exact big_small h
theorem lay_all : ∀ {ds : List PyData}, (∀ d ∈ ds, d.canLay0 = true) → PyData.canLayAll0 ds = true
  | [], _ => rfl
  | d :: ds, h => by
    show (d.canLay0 && PyData.canLayAll0 ds) = true
    rw [h d (List.mem_cons_self ..), lay_all fun e he => h e (List.mem_cons_of_mem _ he)]
    rfl
theorem dep_all : ∀ {ds : List PyData} {k : Nat}, (∀ d ∈ ds, d.depth ≤ k) → PyData.depthAll ds ≤ k
  | [], _, _ => Nat.zero_le _
  | d :: ds, k, h => Nat.max_le.mpr ⟨h d (List.mem_cons_self ..), dep_all fun e he => h e (List.mem_cons_of_mem _ he)⟩
def plG (p : PlC) : Pl := .draw p.g (p.bs.map fun q => (q.1, (q.2 : Int)))
end Md
namespace Md
open PySem L2 Evl
theorem map_plC {β : Type} (C : List PlC) (f : PlC → β) : (List.range C.length).map (fun i => f (plC C i)) = C.map f := map_getDn C _ f
theorem lt_pow_mul {a b c i j : Nat} (h : a ≤ b * c) (hb : b ≤ 2 ^ i) (hc : c < 2 ^ j) : a < 2 ^ (i + j) := by
  rw [Nat.pow_add]
  have h1 : b * c ≤ 2 ^ i * c := Nat.mul_le_mul_right c hb
  have h2 : 2 ^ i * c < 2 ^ i * 2 ^ j := Nat.mul_lt_mul_of_pos_left hc (Nat.two_pow_pos i)
  omega
end Md
namespace Md
open PySem L2 Evl
theorem num_dvd {n d : Int} (h : 0 < d) : (num n d).2.natAbs ∣ d.natAbs := by
  rw [num_pos h]
  show (d / _).natAbs ∣ d.natAbs
  obtain ⟨c, hc⟩ := cast_dvd (g := Nat.gcd n.natAbs d.natAbs) (n := d) (Nat.gcd_dvd_right _ _)
  have hg : 0 < Nat.gcd n.natAbs d.natAbs := Nat.gcd_pos_of_pos_right _ (by omega)
  generalize ((Nat.gcd n.natAbs d.natAbs : Nat) : Int) = g at hc
  rcases Int.lt_or_le 0 g with z | z
  · have e : d / g = c := by rw [hc]; exact Int.mul_ediv_cancel_left _ (by omega)
    rw [e]
    exact ⟨g.natAbs, by rw [hc, Int.natAbs_mul, Nat.mul_comm]⟩
  · rcases Int.lt_or_eq_of_le z with z | z
    · have e : d / g = c := by rw [hc]; exact Int.mul_ediv_cancel_left _ (by omega)
      rw [e]
      exact ⟨g.natAbs, by rw [hc, Int.natAbs_mul, Nat.mul_comm]⟩
    · rw [z, Int.zero_mul] at hc
      omega
theorem num_pos1 {n d : Int} (hn : 0 < n) (h : 0 < d) : 0 < (num n d).1 := by
  have e := num_cross (n := n) h
  have r := (num_red (n := n) h).1
  rcases Int.lt_or_le 0 (num n d).1 with z | z
  · exact z
  · have h1 : (num n d).1 * d ≤ 0 := Int.mul_nonpos_of_nonpos_of_nonneg z (by omega)
    have h2 : 0 < n * (num n d).2 := Int.mul_pos hn (by omega)
    omega
theorem div_sum (ws : List Int) (c : Rat) : (ws.map fun w : Int => (w : Rat) / c).sum = ((ws.sum : Int) : Rat) / c := by
  induction ws with
  | nil =>
    rw [List.map_nil, List.sum_nil, List.sum_nil]
    show (0 : Rat) = ((0 : Int) : Rat) / c
    rw [Rat.div_def]
    exact (Rat.zero_mul _).symm
  | cons w ws ih => rw [List.map_cons, List.sum_cons, ih, List.sum_cons, Rat.intCast_add]; grind
theorem chance_sum {ws : List Int} (h : 0 < ws.sum) : ((List.range ws.length).map fun j => qN (num (ws.getD j 0) ws.sum)).sum = 1 := by
  rw [map_getD ws fun w => qN (num w ws.sum)]
  have e : (ws.map fun w => qN (num w ws.sum)) = ws.map fun w : Int => (w : Rat) / ((ws.sum : Int) : Rat) := List.map_congr_left fun w _ => q_num h
  rw [e, div_sum]
  rw [Rat.div_def]
  exact Rat.mul_inv_cancel _ (cast_ne (by omega))
theorem sum4 : ∀ {ws : List Int}, (∀ w ∈ ws, 1 ≤ w ∧ w ≤ 4) → (ws.length : Int) ≤ ws.sum ∧ ws.sum ≤ 4 * ws.length
  | [], _ => ⟨by decide, by decide⟩
  | w :: ws, h => by
    have h1 := h w (List.mem_cons_self ..)
    have h2 := sum4 fun w hw => h w (List.mem_cons_of_mem _ hw)
    rw [List.sum_cons, List.length_cons]
    omega
def walkBr (ws : List Int) (tg : Nat → Nat) (j : Nat) : BrC := (num (ws.getD j 0) ws.sum, tg j)
theorem walk_wf {n : Nat} {g : Int × Int} {ws : List Int} {tg : Nat → Nat} (hg : SmallN g) (h1 : 1 ≤ ws.length) (h6 : ws.length ≤ 6) (hw : ∀ w ∈ ws, 1 ≤ w ∧ w ≤ 4) (ht : ∀ j, j < ws.length → tg j < n) :
    WfB n ⟨g, (List.range ws.length).map (walkBr ws tg)⟩ := by
  obtain ⟨s1, s2⟩ := sum4 hw
  have h0 : 0 < ws.sum := by omega
  have hq : ∀ q ∈ (List.range ws.length).map (walkBr ws tg), ∃ w ∈ ws, ∃ j, j < ws.length ∧ q = (num w ws.sum, tg j) := fun q hq => by
    obtain ⟨j, hj, rfl⟩ := List.mem_map.mp hq
    have hj := List.mem_range.mp hj
    refine ⟨ws.getD j 0, ?_, j, hj, rfl⟩
    rw [List.getD_eq_getElem?_getD, List.getElem?_eq_getElem hj]
    exact List.getElem_mem hj
  refine ⟨hg, by rw [List.length_map, List.length_range]; exact h1, by rw [List.length_map, List.length_range]; exact h6, fun q hqm => ?_, ⟨ws.sum.natAbs, by omega, by omega, fun q hqm => ?_⟩, ?_⟩
  · obtain ⟨w, hwm, j, hj, rfl⟩ := hq q hqm
    have := hw w hwm
    exact ⟨num_small (by omega) (by omega) (by omega), num_pos1 (by omega) h0, ht j hj⟩
  · obtain ⟨w, hwm, j, hj, rfl⟩ := hq q hqm
    exact num_dvd h0
  · show (((List.range ws.length).map (walkBr ws tg)).map fun q => qN q.1).sum = 1
    rw [List.map_map]
    exact chance_sum h0
end Md
set_option Elab.async false
set_option linter.all false
set_option maxRecDepth 100000
set_option maxHeartbeats 2000000
namespace Md
open PySem L2 Evl
def EDh (K : PySem.W.Frag) (te : TE) (σ : L2.St) (b h : Hp) (d : PyData) : Prop := ∀ h1, Ex h h1 → ∀ Q : VK, (∀ v b' h', Gr b h1 b' h' → Dt K b' v d → Q v h') → te σ h1 Q
def EDAh (K : PySem.W.Frag) (ta : TA) (σ : L2.St) (b h : Hp) (ds : List PyData) : Prop := ∀ h1, Ex h h1 → ∀ Q : List V → Hp → Prop, (∀ vs b' h', Gr b h1 b' h' → DtA K b' vs ds → Q vs h') → ta σ h1 Q
section
variable {K : PySem.W.Frag} {σ : L2.St} {b b' h h' : Hp} {te tr' ta tb : TE} {ts tr : TA} {E : XK} {D : Ends} {tz : TS} {d d' : PyData} {ds : List PyData} {v : V} {i : Int} {p q : Int × Int} {r s : Rat} {us : List V} {a : Addr}
theorem ED.at (x : ED K te σ b d) (e : Ex b h) : EDh K te σ b h d := fun h1 e1 Q q => x h1 (e.trans e1) Q q
theorem EDA.at (x : EDA K ts σ b ds) (e : Ex b h) : EDAh K ts σ b h ds := fun h1 e1 Q q => x h1 (e.trans e1) Q q
theorem r_setL {j i k : Nat} (x : EDh K te σ b h d) (hq : h a = some (.lst us)) (nb : b a = none) (s1 : σ[i]? = some (some (.ref a))) (s2 : σ[k]? = some (some (.int (j : Int)))) (hj : j < us.length)
    (kk : ∀ v b' h', Gr b h b' h' → b' a = none → h' a = some (.lst us) → Dt K b' v d → D.nx σ (upd h' a (.lst (us.set j v)))) : tAsg te (gSub (tVar i) (tVar k) rSetL) D σ h :=
  x h (Ex.refl h) _ fun v b2 h2 g2 hv => ⟨_, s1, _, s2, a, us, (j : Int), j, rfl, rfl, g2.gh _ _ hq, ixN_nat hj, kk v b2 h2 g2 (g2.gf a nb (by rw [hq]; intro z; cases z)) (g2.gh _ _ hq) hv⟩
theorem DtA.set : ∀ {ds : List PyData} {us : List V} (j : Nat), DtA K b us ds → Dt K b v d → DtA K b (us.set j v) (ds.set j d)
  | [], _, j, h, _ => by
    cases h
    exact DtA.nil
  | _ :: _, _, 0, h, g => by
    cases h with
    | cons h1 h2 => exact DtA.cons g h2
  | _ :: _, _, j + 1, h, g => by
    cases h with
    | cons h1 h2 => exact DtA.cons h1 (DtA.set j h2 g)
end
theorem range_set {β : Type} (n j : Nat) (f : Nat → β) (a : β) : ((List.range n).map f).set j a = (List.range n).map fun i => if i = j then a else f i := by
  refine List.ext_getElem? fun i => ?_
  rw [List.getElem?_set, List.getElem?_map]
  by_cases e : j = i
  · subst e
    rw [if_pos rfl, List.length_map, List.length_range, List.getElem?_map]
    split
    · rename_i z
      rw [List.getElem?_range z]
      show some a = some (if j = j then a else f j)
      rw [if_pos rfl]
    · rename_i z
      rw [List.getElem?_eq_none (by rw [List.length_range]; omega)]
      rfl
  · rw [if_neg e, List.getElem?_map]
    rcases Nat.lt_or_ge i n with z | z
    · rw [List.getElem?_range z]
      show some (f i) = some (if i = j then a else f i)
      rw [if_neg (fun z => e z.symm)]
    · rw [List.getElem?_eq_none (by rw [List.length_range]; exact z)]
      rfl
theorem wsum_take {bs : List BrC} (h : ∀ q ∈ bs, 0 ≤ qN q.1) (i : Nat) : 0 ≤ wsum (bs.take i) (fun _ => 1) ∧ wsum (bs.take i) (fun _ => 1) ≤ wsum bs (fun _ => 1) := by
  induction bs generalizing i with
  | nil => rw [List.take_nil]; exact ⟨Rat.le_refl, Rat.le_refl⟩
  | cons q bs ih =>
    have h1 := h q (List.mem_cons_self ..)
    have h0 := (ih (fun q hq => h q (List.mem_cons_of_mem _ hq)) bs.length).1
    rw [List.take_length] at h0
    cases i with
    | zero =>
      rw [List.take_zero, wsum_nil, wsum_cons]
      grind
    | succ i =>
      have h2 := ih (fun q hq => h q (List.mem_cons_of_mem _ hq)) i
      rw [List.take_succ_cons, wsum_cons, wsum_cons]
      grind
structure Later (C : List PlC) (S : Nat) (m : Nat → Rat) (t k i : Nat) (l : Nat → Rat) : Prop where
  nn : ∀ j, j < C.length → 0 ≤ l j
  zt : ∀ j, j < C.length → Zt (S ^ (t + 1)) (l j)
  dot : ∀ f : Nat → Rat, sumR C.length (fun j => l j * f j) = sumR k (fun j => m j * meanC C f j) + m k * wsum ((plC C k).bs.take i) f
structure Mass (C : List PlC) (S : Nat) (t : Nat) (m : Nat → Rat) : Prop where
  nn : ∀ j, j < C.length → 0 ≤ m j
  zt : ∀ j, j < C.length → Zt (S ^ t) (m j)
  one : sumR C.length m = 1
structure Booked (C : List PlC) (U S : Nat) (T x t k : Nat) (bk : Rat) : Prop where
  zt : Zt (U * S ^ t) bk
  lo : -(((1000 * (t * C.length + k) : Nat) : Int) : Rat) ≤ bk
  hi : bk ≤ (((1000 * (t * C.length + k) : Nat) : Int) : Rat)
end Md
set_option Elab.async false
set_option linter.all false
set_option maxRecDepth 100000
set_option maxHeartbeats 2000000
namespace Md
theorem sumR_neg (n : Nat) (f : Nat → Rat) : sumR n (fun i => -f i) = -sumR n f := by
  induction n with
  | zero => rw [sumR_zero, sumR_zero]; grind
  | succ n ih => rw [sumR_succ, sumR_succ, ih]; grind
theorem sumR_comm (n m : Nat) (f : Nat → Nat → Rat) : sumR n (fun i => sumR m (fun j => f i j)) = sumR m (fun j => sumR n (fun i => f i j)) := by
  induction n with
  | zero =>
    rw [sumR_zero, sumR_congr (f := fun j => sumR 0 fun i => f i j) (g := fun _ => 0) fun j _ => sumR_zero _, sumR_const0]
  | succ n ih =>
    rw [sumR_succ, ih, ← sumR_add]
    exact sumR_congr fun j _ => (sumR_succ _ _).symm
theorem sumR_anti {n : Nat} {w : Nat → Nat → Rat} (h : ∀ i j, i < n → j < n → w i j = -w j i) : sumR n (fun i => sumR n (fun j => w i j)) = 0 := by
  have e : sumR n (fun i => sumR n (fun j => w i j)) = -sumR n (fun i => sumR n (fun j => w i j)) := by
    conv => lhs; rw [sumR_comm]
    rw [← sumR_neg]
    refine sumR_congr fun j hj => ?_
    rw [← sumR_neg]
    exact sumR_congr fun i hi => h i j hi hj
  grind
theorem sumR_only {n k : Nat} {f : Nat → Rat} (hk : k < n) (h : ∀ i, i < n → i ≠ k → f i = 0) : sumR n f = f k := by
  rw [sumR_congr (g := fun i => if i = k then f k else 0) fun i hi => ?_, sumR_one _ hk]
  by_cases e : i = k
  · rw [if_pos e, e]
  · rw [if_neg e, h i hi e]
theorem sumR_zeros {n : Nat} {f : Nat → Rat} (h : ∀ i, i < n → f i = 0) : sumR n f = 0 := by
  rw [sumR_congr (g := fun _ => 0) h, sumR_const0]
def sk (i r : Nat) : Nat := if r < i then r else r + 1
def pd (i j : Nat) : Nat := if j < i then j else j - 1
theorem sk_lt {i r k : Nat} (h : r < k) : sk i r < k + 1 := by
  unfold sk
  split <;> omega
theorem sk_lo {i r : Nat} (h : r < i) : sk i r = r := if_pos h
theorem sk_hi {i r : Nat} (h : i ≤ r) : sk i r = r + 1 := if_neg (by omega)
theorem sk_sk {i j : Nat} (h : j < i) (r : Nat) : sk i (sk j r) = sk j (sk (i - 1) r) := by
  rcases Nat.lt_or_ge r j with z | z
  · rw [sk_lo z, sk_lo (by omega), sk_lo (show r < i - 1 by omega), sk_lo z]
  · rw [sk_hi z]
    rcases Nat.lt_or_ge r (i - 1) with y | y
    · rw [sk_lo (show r + 1 < i by omega), sk_lo y, sk_hi z]
    · rw [sk_hi (show i ≤ r + 1 by omega), sk_hi y, sk_hi (by omega)]
theorem skip_sum {n i : Nat} (g : Nat → Rat) (h : i ≤ n) : sumR n (fun m => g (sk i m)) = sumR (n + 1) (fun j => if j = i then 0 else g j) := by
  induction n with
  | zero =>
    obtain rfl : i = 0 := by omega
    rw [sumR_zero, sumR_succ, sumR_zero, if_pos rfl, Rat.add_zero]
  | succ n ih =>
    by_cases e : i = n + 1
    · subst e
      rw [sumR_succ (n + 1), if_pos rfl, Rat.add_zero]
      refine sumR_congr fun j hj => ?_
      rw [if_neg (by omega)]
      unfold sk
      rw [if_pos hj]
    · rw [sumR_succ, ih (by omega), sumR_succ (n + 1), if_neg (fun z => e z.symm)]
      congr 2
      unfold sk
      rw [if_neg (by omega)]
def sgn (n : Nat) : Rat := if n % 2 = 0 then 1 else -1
theorem sgn_succ (n : Nat) : sgn (n + 1) = -sgn n := by
  unfold sgn
  by_cases h : n % 2 = 0
  · rw [if_pos h, if_neg (by omega)]
  · rw [if_neg h, if_pos (by omega)]
    decide +kernel
theorem sgn_two (n : Nat) : sgn (n + n) = 1 := by
  unfold sgn
  rw [if_pos (by omega)]
def Fd : Nat → (Nat → Nat → Rat) → Rat
  | 0, _ => 1
  | k + 1, c => sumR (k + 1) fun i => sgn (i + k) * (c k i * Fd k (fun col r => c col (sk i r)))
theorem Fd_succ (k : Nat) (c : Nat → Nat → Rat) : Fd (k + 1) c = sumR (k + 1) fun i => sgn (i + k) * (c k i * Fd k (fun col r => c col (sk i r))) := rfl
theorem Fd_congr : ∀ (k : Nat) {c c' : Nat → Nat → Rat}, (∀ col r, col < k → r < k → c col r = c' col r) → Fd k c = Fd k c'
  | 0, _, _, _ => rfl
  | k + 1, c, c', h => by
    rw [Fd_succ, Fd_succ]
    refine sumR_congr fun i hi => ?_
    rw [h k i (Nat.lt_succ_self k) hi, Fd_congr k fun col r h1 h2 => h col (sk i r) (Nat.lt_succ_of_lt h1) (sk_lt h2)]
def upc (c : Nat → Nat → Rat) (j : Nat) (v : Nat → Rat) : Nat → Nat → Rat := fun col => if col = j then v else c col
theorem upc_same (c : Nat → Nat → Rat) (j : Nat) (v : Nat → Rat) : upc c j v j = v := if_pos rfl
theorem upc_ne {c : Nat → Nat → Rat} {j i : Nat} {v : Nat → Rat} (h : i ≠ j) : upc c j v i = c i := if_neg h
theorem upc_rows (c : Nat → Nat → Rat) (j i : Nat) (v : Nat → Rat) : (fun col r => upc c j v col (sk i r)) = upc (fun col r => c col (sk i r)) j (fun r => v (sk i r)) := by
  funext col r
  unfold upc
  split <;> rfl
theorem Fd_lin : ∀ (k : Nat) (c : Nat → Nat → Rat) (j : Nat) (v w : Nat → Rat) (a b : Rat), j < k → Fd k (upc c j (fun r => a * v r + b * w r)) = a * Fd k (upc c j v) + b * Fd k (upc c j w)
  | 0, _, _, _, _, _, _, h => by omega
  | k + 1, c, j, v, w, a, b, h => by
    rw [Fd_succ, Fd_succ, Fd_succ, ← sumR_mul, ← sumR_mul, ← sumR_add]
    refine sumR_congr fun i hi => ?_
    rw [upc_rows, upc_rows, upc_rows]
    by_cases e : j = k
    · subst e
      rw [upc_same, upc_same, upc_same]
      have hc : ∀ u : Nat → Rat, Fd j (upc (fun col r => c col (sk i r)) j u) = Fd j (fun col r => c col (sk i r)) := fun u => Fd_congr j fun col r h1 _ => by rw [upc_ne (by omega)]
      rw [hc, hc, hc]
      grind
    · rw [upc_ne (fun z => e z.symm), upc_ne (fun z => e z.symm), upc_ne (fun z => e z.symm), Fd_lin k _ j _ _ a b (by omega)]
      grind
theorem Fd_add (k : Nat) (c : Nat → Nat → Rat) (j : Nat) (v w : Nat → Rat) (h : j < k) : Fd k (upc c j (fun r => v r + w r)) = Fd k (upc c j v) + Fd k (upc c j w) := by
  have e := Fd_lin k c j v w 1 1 h
  rw [Rat.one_mul, Rat.one_mul] at e
  rw [← e]
  congr 1
  congr 1
  funext r
  rw [Rat.one_mul, Rat.one_mul]
theorem Fd_mul (k : Nat) (c : Nat → Nat → Rat) (j : Nat) (v : Nat → Rat) (a : Rat) (h : j < k) : Fd k (upc c j (fun r => a * v r)) = a * Fd k (upc c j v) := by
  have e := Fd_lin k c j v v a 0 h
  rw [Rat.zero_mul, Rat.add_zero] at e
  rw [← e]
  congr 1
  congr 1
  funext r
  rw [Rat.zero_mul, Rat.add_zero]
def Alt (k : Nat) : Prop := ∀ (c : Nat → Nat → Rat) (i j : Nat), i < j → j < k → (∀ r, r < k → c i r = c j r) → Fd k c = 0
theorem alt_swap {k : Nat} (h : Alt k) (c : Nat → Nat → Rat) {i j : Nat} (hij : i < j) (hj : j < k) : Fd k (upc (upc c i (c j)) j (c i)) = -Fd k c := by
  have z : ∀ v : Nat → Rat, Fd k (upc (upc c i v) j v) = 0 := fun v => h _ i j hij hj fun r _ => by rw [upc_same, upc_ne (by omega), upc_same]
  have comm : ∀ v w : Nat → Rat, upc (upc c i v) j w = upc (upc c j w) i v := fun v w => by
    funext col
    unfold upc
    by_cases e1 : col = j
    · rw [if_pos e1, if_neg (by omega), if_pos e1]
    · rw [if_neg e1]
      by_cases e2 : col = i
      · rw [if_pos e2, if_pos e2]
      · rw [if_neg e2, if_neg e2, if_neg e1]
  have self : upc (upc c i (c i)) j (c j) = c := by
    funext col
    unfold upc
    by_cases e1 : col = j
    · rw [if_pos e1, e1]
    · rw [if_neg e1]
      by_cases e2 : col = i
      · rw [if_pos e2, e2]
      · rw [if_neg e2]
  have e := z (fun r => c i r + c j r)
  rw [Fd_add k _ j _ _ hj, comm, comm, Fd_add k _ i _ _ (by omega), Fd_add k _ i _ _ (by omega), ← comm, ← comm, ← comm, ← comm, z, z, self] at e
  grind
theorem alt_last {k : Nat} {c : Nat → Nat → Rat} (h : ∀ r, r < k + 2 → c k r = c (k + 1) r) : Fd (k + 2) c = 0 := by
  let w : Nat → Nat → Rat := fun i j => if j = i then 0 else sgn (i + (k + 1)) * (c k i * (sgn (pd i j + k) * (c k j * Fd k (fun col r => c col (sk i (sk (pd i j) r))))))
  have e : Fd (k + 2) c = sumR (k + 2) fun i => sumR (k + 2) fun j => w i j := by
    rw [Fd_succ]
    refine sumR_congr fun i hi => ?_
    rw [Fd_succ]
    have hp : ∀ m, pd i (sk i m) = m := fun m => by
      unfold pd sk
      by_cases y : m < i
      · rw [if_pos y, if_pos y]
      · rw [if_neg y, if_neg (show ¬ m + 1 < i by omega)]
        omega
    have e2 : sumR (k + 1) (fun m => sgn (m + k) * (c k (sk i m) * Fd k (fun col r => c col (sk i (sk m r))))) = sumR (k + 1) (fun m => (fun j => sgn (pd i j + k) * (c k j * Fd k (fun col r => c col (sk i (sk (pd i j) r))))) (sk i m)) := by
      refine sumR_congr fun m _ => ?_
      dsimp only
      rw [hp m]
    rw [e2, skip_sum (fun j => sgn (pd i j + k) * (c k j * Fd k (fun col r => c col (sk i (sk (pd i j) r))))) (show i ≤ k + 1 by omega), ← h i hi, ← sumR_mul, ← sumR_mul]
    refine sumR_congr fun j _ => ?_
    show _ = w i j
    show _ = if j = i then (0 : Rat) else _
    by_cases z : j = i
    · rw [if_pos z, if_pos z, Rat.mul_zero, Rat.mul_zero]
    · rw [if_neg z, if_neg z]
  rw [e]
  refine sumR_anti fun i j hi hj => ?_
  show (if j = i then (0 : Rat) else _) = -(if i = j then (0 : Rat) else _)
  by_cases z : j = i
  · rw [if_pos z, if_pos z.symm]
    grind
  · rw [if_neg z, if_neg (fun y => z y.symm)]
    have hr : ∀ r, sk i (sk (pd i j) r) = sk j (sk (pd j i) r) := fun r => by
      unfold pd
      rcases Nat.lt_or_gt_of_ne z with y | y
      · rw [if_pos y, if_neg (show ¬ i < j by omega)]
        exact sk_sk y r
      · rw [if_neg (show ¬ j < i by omega), if_pos y]
        exact (sk_sk y r).symm
    have hF : (fun col r => c col (sk i (sk (pd i j) r))) = fun col r => c col (sk j (sk (pd j i) r)) := by
      funext col r
      rw [hr]
    rw [hF]
    generalize Fd k (fun col r => c col (sk j (sk (pd j i) r))) = G
    have hs : sgn (i + (k + 1)) * sgn (pd i j + k) = -(sgn (j + (k + 1)) * sgn (pd j i + k)) := by
      unfold pd
      rcases Nat.lt_or_gt_of_ne z with y | y
      · rw [if_pos y, if_neg (by omega)]
        obtain ⟨i', rfl⟩ : ∃ i', i = i' + 1 := ⟨i - 1, by omega⟩
        have e1 : i' + 1 + (k + 1) = (i' + 1 - 1 + k) + 1 + 1 := by omega
        have e2 : j + (k + 1) = (j + k) + 1 := by omega
        rw [e1, e2, sgn_succ, sgn_succ, sgn_succ]
        grind
      · rw [if_neg (by omega), if_pos y]
        obtain ⟨j', rfl⟩ : ∃ j', j = j' + 1 := ⟨j - 1, by omega⟩
        have e1 : j' + 1 + (k + 1) = (j' + 1 - 1 + k) + 1 + 1 := by omega
        have e2 : i + (k + 1) = (i + k) + 1 := by omega
        rw [e1, e2, sgn_succ, sgn_succ, sgn_succ]
        grind
    generalize sgn (i + (k + 1)) = s1 at hs
    generalize sgn (pd i j + k) = s2 at hs
    generalize sgn (j + (k + 1)) = s3 at hs
    generalize sgn (pd j i + k) = s4 at hs
    have : s1 * (c k i * (s2 * (c k j * G))) = s1 * s2 * (c k i * c k j * G) := by grind
    rw [this, hs]
    grind
theorem alt_all : ∀ k, Alt k
  | 0 => fun _ _ _ _ h _ => by omega
  | k + 1 => fun c i j hij hj hr => by
    have ih := alt_all k
    rcases Nat.lt_or_ge j k with z | z
    · rw [Fd_succ]
      refine sumR_zeros fun m _ => ?_
      rw [ih (fun col r => c col (sk m r)) i j hij z fun r h => hr _ (sk_lt h), Rat.mul_zero, Rat.mul_zero]
    · obtain rfl : j = k := by omega
      obtain ⟨k', rfl⟩ : ∃ k', j = k' + 1 := ⟨j - 1, by omega⟩
      rcases Nat.lt_or_ge i k' with y | y
      · -- first bring the column i to the place k'
        have e : Fd (k' + 2) (upc (upc c i (c k')) k' (c i)) = -Fd (k' + 2) c := by
          rw [Fd_succ, Fd_succ, ← sumR_neg]
          refine sumR_congr fun m _ => ?_
          rw [upc_ne (by omega), upc_ne (by omega), upc_rows, upc_rows]
          have := alt_swap ih (fun col r => c col (sk m r)) y (Nat.lt_succ_self k')
          rw [this]
          grind
        have z2 : Fd (k' + 2) (upc (upc c i (c k')) k' (c i)) = 0 := alt_last fun r h => by
          rw [upc_same, upc_ne (by omega), upc_ne (by omega)]
          exact hr r h
        rw [z2] at e
        grind
      · obtain rfl : i = k' := by omega
        exact alt_last hr
theorem Fd_alt {k : Nat} {c : Nat → Nat → Rat} {i j : Nat} (hi : i < k) (hj : j < k) (hij : i ≠ j) (h : ∀ r, r < k → c i r = c j r) : Fd k c = 0 := by
  rcases Nat.lt_or_gt_of_ne hij with z | z
  · exact alt_all k c i j z hj h
  · exact alt_all k c j i z hi fun r hr => (h r hr).symm
theorem Fd_col0 (k : Nat) (c : Nat → Nat → Rat) (j : Nat) (h : j < k) : Fd k (upc c j (fun _ => 0)) = 0 := by
  have e := Fd_mul k c j (fun _ => 0) 0 h
  have e2 : (fun _ : Nat => (0 : Rat) * 0) = fun _ => 0 := by
    funext r
    exact Rat.mul_zero 0
  rw [e2] at e
  exact e.trans (Rat.zero_mul _)
theorem Fd_sum (k n : Nat) (c : Nat → Nat → Rat) (j : Nat) (t : Nat → Rat) (w : Nat → Nat → Rat) (h : j < k) : Fd k (upc c j (fun r => sumR n fun i => t i * w i r)) = sumR n fun i => t i * Fd k (upc c j (w i)) := by
  induction n with
  | zero =>
    rw [sumR_zero]
    exact Fd_col0 k c j h
  | succ n ih =>
    rw [sumR_succ, ← ih, ← Fd_mul k c j (w n) (t n) h, ← Fd_add k c j _ _ h]
    congr 1
    congr 1
    funext r
    rw [sumR_succ]
theorem cramer {k : Nat} {c : Nat → Nat → Rat} {t v : Nat → Rat} {d : Rat} (h : ∀ r, r < k → (sumR k fun i => t i * c i r) = d * v r) {j : Nat} (hj : j < k) : d * Fd k (upc c j v) = t j * Fd k c := by
  rw [← Fd_mul k c j v d hj]
  have e : Fd k (upc c j (fun r => d * v r)) = Fd k (upc c j (fun r => sumR k fun i => t i * c i r)) := Fd_congr k fun col r hc hr => by
    by_cases z : col = j
    · subst z
      rw [upc_same, upc_same]
      exact (h r hr).symm
    · rw [upc_ne z, upc_ne z]
  rw [e, Fd_sum k k c j t c hj, sumR_only hj]
  · congr 1
    congr 1
    funext col
    by_cases z : col = j
    · rw [z, upc_same]
    · rw [upc_ne z]
  · intro i hi hij
    rw [Fd_alt hi hj hij fun r _ => by rw [upc_ne hij, upc_same], Rat.mul_zero]
theorem Fd_unit {k : Nat} {c : Nat → Nat → Rat} {u : Rat} (h0 : ∀ r, r < k → c k r = 0) (h1 : c k k = u) : Fd (k + 1) c = u * Fd k c := by
  rw [Fd_succ, sumR_succ, sumR_zeros fun i hi => by rw [h0 i hi, Rat.zero_mul, Rat.mul_zero], Rat.zero_add, sgn_two, Rat.one_mul, h1]
  congr 1
  exact Fd_congr k fun col r _ hr => by
    unfold sk
    rw [if_pos hr]
theorem Zt1 {r : Rat} (h : Zt 1 r) : ∃ z : Int, r = (z : Rat) := by
  obtain ⟨z, hz⟩ := h
  refine ⟨z, ?_⟩
  rw [← hz]
  show r = r * ((1 : Int) : Rat)
  exact (Rat.mul_one r).symm
theorem zt_sum {M n : Nat} {f : Nat → Rat} (h : ∀ i, i < n → Zt M (f i)) : Zt M (sumR n f) := by
  induction n with
  | zero => exact zt_zero M
  | succ n ih =>
    rw [sumR_succ]
    exact (ih fun i hi => h i (Nat.lt_succ_of_lt hi)).add (h n (Nat.lt_succ_self n))
theorem zt_sgn (n : Nat) : Zt 1 (sgn n) := by
  unfold sgn
  split
  · exact (show Zt 1 ((1 : Int) : Rat) from zt_int 1 1)
  · exact (show Zt 1 ((-1 : Int) : Rat) from zt_int 1 (-1))
theorem Fd_int : ∀ (k : Nat) {c : Nat → Nat → Rat}, (∀ col r, col < k → r < k → Zt 1 (c col r)) → Zt 1 (Fd k c)
  | 0, _, _ => (show Zt 1 ((1 : Int) : Rat) from zt_int 1 1)
  | k + 1, c, h => by
    rw [Fd_succ]
    refine zt_sum fun i hi => ?_
    have := (zt_sgn (i + k)).mul ((h k i (Nat.lt_succ_self k) hi).mul (Fd_int k fun col r h1 h2 => h col (sk i r) (Nat.lt_succ_of_lt h1) (sk_lt h2)))
    exact this
theorem mul_bd {x y a b : Rat} (h1 : -a ≤ x) (h2 : x ≤ a) (h3 : -b ≤ y) (h4 : y ≤ b) : -(a * b) ≤ x * y ∧ x * y ≤ a * b := by
  have p1 := Rat.mul_nonneg (show 0 ≤ a - x by grind) (show 0 ≤ b + y by grind)
  have p2 := Rat.mul_nonneg (show 0 ≤ a + x by grind) (show 0 ≤ b - y by grind)
  have p3 := Rat.mul_nonneg (show 0 ≤ a - x by grind) (show 0 ≤ b - y by grind)
  have p4 := Rat.mul_nonneg (show 0 ≤ a + x by grind) (show 0 ≤ b + y by grind)
  constructor <;> grind
theorem sum_bd {n : Nat} {f : Nat → Rat} {a : Rat} (h : ∀ i, i < n → -a ≤ f i ∧ f i ≤ a) : -(((n : Int) : Rat) * a) ≤ sumR n f ∧ sumR n f ≤ ((n : Int) : Rat) * a := by
  induction n with
  | zero =>
    rw [sumR_zero]
    have : (((0 : Nat) : Int) : Rat) = 0 := rfl
    rw [this, Rat.zero_mul]
    constructor <;> grind
  | succ n ih =>
    rw [sumR_succ]
    have e : (((n + 1 : Nat) : Int) : Rat) = ((n : Int) : Rat) + 1 := by rw [Int.natCast_add, Rat.intCast_add]; rfl
    have h1 := ih fun i hi => h i (Nat.lt_succ_of_lt hi)
    have h2 := h n (Nat.lt_succ_self n)
    rw [e]
    constructor <;> grind
def fbd (B : Rat) : Nat → Rat
  | 0 => 1
  | k + 1 => (((k + 1 : Nat) : Int) : Rat) * (B * fbd B k)
theorem Fd_bd {B : Rat} : ∀ (k : Nat) {c : Nat → Nat → Rat}, (∀ col r, col < k → r < k → -B ≤ c col r ∧ c col r ≤ B) → -fbd B k ≤ Fd k c ∧ Fd k c ≤ fbd B k
  | 0, _, _ => ⟨by show -(1 : Rat) ≤ 1; decide +kernel, Rat.le_refl⟩
  | k + 1, c, h => by
    rw [Fd_succ]
    refine sum_bd fun i hi => ?_
    have h1 := h k i (Nat.lt_succ_self k) hi
    have h2 := Fd_bd k (c := fun col r => c col (sk i r)) fun col r h1 h2 => h col (sk i r) (Nat.lt_succ_of_lt h1) (sk_lt h2)
    have h3 := mul_bd h1.1 h1.2 h2.1 h2.2
    unfold sgn
    split
    · rw [Rat.one_mul]
      exact h3
    · constructor <;> grind
end Md
set_option Elab.async false
set_option linter.all false
set_option maxRecDepth 100000
set_option maxHeartbeats 2000000
namespace Md
def qa (a : Nat → Nat → Int) (r l : Nat) : Rat := ((a r l : Int) : Rat)
structure Elim (n : Nat) (a : Nat → Nat → Int) (k : Nat) (T : Nat → Nat → Int) (d : Int) : Prop where
  pos : 0 < d
  det : (d : Rat) = Fd k (fun col r => qa a r col)
  top : ∀ r l, r < k → l ≤ n → sumR k (fun j => qa T j l * qa a r j) = (d : Rat) * qa a r l
  bot : ∀ r l, k ≤ r → r < n → l ≤ n → qa T r l = (d : Rat) * qa a r l - sumR k (fun j => qa T j l * qa a r j)
def elimT (k : Nat) (T : Nat → Nat → Int) (d : Int) : Nat → Nat → Int := fun j l => if j = k then T k l else (T k k * T j l - T j k * T k l) / d
theorem elim_start (n : Nat) (a : Nat → Nat → Int) : Elim n a 0 a 1 := ⟨by decide, rfl, fun r l h => by omega, fun r l _ _ _ => by
  rw [sumR_zero]
  have : ((1 : Int) : Rat) = 1 := rfl
  rw [this]
  grind⟩
theorem elim_step {n : Nat} {a : Nat → Nat → Int} {k : Nat} {T : Nat → Nat → Int} {d : Int} (h : Elim n a k T d) (hk : k < n) (hp : 0 < T k k) :
    Elim n a (k + 1) (elimT k T d) (T k k) ∧ ∀ j l, j < n → l ≤ n → j ≠ k → d ∣ T k k * T j l - T j k * T k l := by
  have d0 : (d : Rat) ≠ 0 := cast_ne (by have := h.pos; omega)
  have p0 : ((T k k : Int) : Rat) ≠ 0 := cast_ne (by omega)
  let R : Nat → Nat → Rat := fun j l => if j = k then qa T k l else (qa T k k * qa T j l - qa T j k * qa T k l) / (d : Rat)
  have Rk : ∀ l, R k l = qa T k l := fun l => if_pos rfl
  have Rne : ∀ j l, j ≠ k → R j l = (qa T k k * qa T j l - qa T j k * qa T k l) / (d : Rat) := fun j l e => if_neg e
  have hsum : ∀ r l, sumR k (fun j => R j l * qa a r j) = (qa T k k * sumR k (fun j => qa T j l * qa a r j) - qa T k l * sumR k (fun j => qa T j k * qa a r j)) / (d : Rat) := fun r l => by
    have e : ∀ j, j < k → R j l * qa a r j = (qa T k k / (d : Rat)) * (qa T j l * qa a r j) + (-(qa T k l / (d : Rat))) * (qa T j k * qa a r j) := fun j hj => by
      rw [Rne j l (by omega)]
      grind
    rw [sumR_congr e, sumR_add, sumR_mul, sumR_mul]
    grind
  have top' : ∀ r l, r < k + 1 → l ≤ n → sumR (k + 1) (fun j => R j l * qa a r j) = qa T k k * qa a r l := fun r l hr hl => by
    rw [sumR_succ, hsum, Rk]
    rcases Nat.lt_or_ge r k with z | z
    · rw [h.top r l z hl, h.top r k z (by omega)]
      grind
    · obtain rfl : r = k := by omega
      have e1 := h.bot r l (Nat.le_refl _) hk hl
      have e2 := h.bot r r (Nat.le_refl _) hk (by omega)
      generalize sumR r (fun j => qa T j l * qa a r j) = S1 at *
      generalize sumR r (fun j => qa T j r * qa a r j) = S2 at *
      grind
  have bot' : ∀ r l, k + 1 ≤ r → r < n → l ≤ n → R r l = qa T k k * qa a r l - sumR (k + 1) (fun j => R j l * qa a r j) := fun r l hr hrn hl => by
    rw [sumR_succ, hsum, Rk, Rne r l (by omega)]
    have e1 := h.bot r l (by omega) hrn hl
    have e2 := h.bot r k (by omega) hrn (by omega)
    generalize sumR k (fun j => qa T j l * qa a r j) = S1 at *
    generalize sumR k (fun j => qa T j k * qa a r j) = S2 at *
    grind
  have det' : ((T k k : Int) : Rat) = Fd (k + 1) (fun col r => qa a r col) := by
    let c : Nat → Nat → Rat := fun col r => qa a r col
    show _ = Fd (k + 1) c
    let e : Nat → Rat := fun r => if r = k then qa T k k else 0
    have f1 : (d : Rat) * Fd (k + 1) c = Fd (k + 1) (upc c k (fun r => (d : Rat) * c k r)) := by
      rw [Fd_mul (k + 1) c k (c k) _ (Nat.lt_succ_self k)]
      congr 2
      funext col
      by_cases z : col = k
      · rw [z, upc_same]
      · rw [upc_ne z]
    have f2 : Fd (k + 1) (upc c k (fun r => (d : Rat) * c k r)) = Fd (k + 1) (upc c k (fun r => (sumR k fun j => qa T j k * c j r) + e r)) := Fd_congr _ fun col r hc hr => by
      by_cases z : col = k
      · subst z
        rw [upc_same, upc_same]
        show (d : Rat) * qa a r col = (sumR col fun j => qa T j col * qa a r j) + e r
        rcases Nat.lt_or_ge r col with y | y
        · rw [h.top r col y (by omega)]
          show _ = _ + (if r = col then _ else (0 : Rat))
          rw [if_neg (by omega), Rat.add_zero]
        · obtain rfl : r = col := by omega
          have := h.bot r r (Nat.le_refl _) hk (by omega)
          show _ = _ + (if r = r then _ else (0 : Rat))
          rw [if_pos rfl]
          grind
      · rw [upc_ne z, upc_ne z]
    rw [Fd_add _ _ _ _ _ (Nat.lt_succ_self k), Fd_sum _ _ _ _ _ _ (Nat.lt_succ_self k)] at f2
    have f3 : (sumR k fun i => qa T i k * Fd (k + 1) (upc c k (c i))) = 0 := sumR_zeros fun i hi => by
      rw [Fd_alt (i := i) (j := k) (by omega) (Nat.lt_succ_self k) (by omega) fun r _ => by rw [upc_ne (by omega), upc_same], Rat.mul_zero]
    have f4 : Fd (k + 1) (upc c k e) = qa T k k * (d : Rat) := by
      rw [Fd_unit (u := qa T k k) (fun r hr => by rw [upc_same]; exact if_neg (by omega)) (by rw [upc_same]; exact if_pos rfl), h.det]
      congr 1
      exact Fd_congr _ fun col r hc _ => by rw [upc_ne (by omega)]
    rw [f3, f4, Rat.zero_add] at f2
    rw [f2] at f1
    have e3 : (d : Rat) * Fd (k + 1) c = (d : Rat) * qa T k k := by rw [f1, Rat.mul_comm]
    have e4 := congrArg (fun z => (d : Rat)⁻¹ * z) e3
    rw [← Rat.mul_assoc, ← Rat.mul_assoc, Rat.inv_mul_cancel _ d0, Rat.one_mul, Rat.one_mul] at e4
    exact e4.symm
  have int1 : ∀ j l, j < k + 1 → l ≤ n → Zt 1 (R j l) := fun j l hj hl => by
    have e := cramer (k := k + 1) (c := fun col r => qa a r col) (t := fun i => R i l) (v := fun r => qa a r l) (d := qa T k k) (fun r hr => top' r l hr hl) hj
    rw [← det'] at e
    have e2 : R j l = Fd (k + 1) (upc (fun col r => qa a r col) j fun r => qa a r l) := by
      show R j l = _
      have e3 := congrArg (fun z => ((T k k : Int) : Rat)⁻¹ * z) e
      have e4 : qa T k k = ((T k k : Int) : Rat) := rfl
      rw [e4, ← Rat.mul_assoc, Rat.inv_mul_cancel _ p0, Rat.one_mul] at e3
      rw [e3]
      grind
    rw [e2]
    refine Fd_int _ fun col r _ _ => ?_
    by_cases z : col = j
    · rw [z, upc_same]
      exact zt_int 1 _
    · rw [upc_ne z]
      exact zt_int 1 _
  have int2 : ∀ j l, j < n → l ≤ n → Zt 1 (R j l) := fun j l hj hl => by
    rcases Nat.lt_or_ge j (k + 1) with z | z
    · exact int1 j l z hl
    · rw [bot' j l z hj hl]
      have s1 : Zt 1 (sumR (k + 1) fun i => R i l * qa a j i) := zt_sum fun i hi => (int1 i l hi hl).mul (show Zt 1 (qa a j i) from zt_int 1 _)
      have s2 : Zt 1 (qa T k k * qa a j l) := (show Zt 1 (qa T k k) from zt_int 1 _).mul (show Zt 1 (qa a j l) from zt_int 1 _)
      have s3 : Zt 1 ((-1 : Rat) * sumR (k + 1) fun i => R i l * qa a j i) := (show Zt 1 (((-1 : Int) : Rat)) from zt_int 1 (-1)).mul s1
      have : qa T k k * qa a j l - sumR (k + 1) (fun i => R i l * qa a j i) = qa T k k * qa a j l + (-1 : Rat) * sumR (k + 1) (fun i => R i l * qa a j i) := by grind
      rw [this]
      exact s2.add s3
  have dv : ∀ j l, j < n → l ≤ n → j ≠ k → ∃ z : Int, R j l = (z : Rat) ∧ T k k * T j l - T j k * T k l = d * z := fun j l hj hl hjk => by
    obtain ⟨z, hz⟩ := Zt1 (int2 j l hj hl)
    refine ⟨z, hz, ?_⟩
    rw [Rne j l hjk] at hz
    have e : (qa T k k * qa T j l - qa T j k * qa T k l) = (d : Rat) * (z : Rat) := by grind
    have e2 : ((T k k * T j l - T j k * T k l : Int) : Rat) = ((d * z : Int) : Rat) := by
      rw [Rat.intCast_sub, Rat.intCast_mul, Rat.intCast_mul, Rat.intCast_mul]
      exact e
    exact Rat.intCast_inj.mp e2
  have RT : ∀ j l, j < n → l ≤ n → qa (elimT k T d) j l = R j l := fun j l hj hl => by
    by_cases z : j = k
    · subst z
      rw [Rk]
      show (((if j = j then T j l else _) : Int) : Rat) = _
      rw [if_pos rfl]
      rfl
    · obtain ⟨y, h1, h2⟩ := dv j l hj hl z
      rw [h1]
      show (((if j = k then T k l else (T k k * T j l - T j k * T k l) / d) : Int) : Rat) = _
      rw [if_neg z, h2, Int.mul_ediv_cancel_left _ (by have := h.pos; omega)]
  refine ⟨⟨hp, det', fun r l hr hl => ?_, fun r l hr hrn hl => ?_⟩, fun j l hj hl hjk => ?_⟩
  · rw [sumR_congr fun j hj => by rw [RT j l (by omega) hl]]
    exact top' r l hr hl
  · rw [RT r l hrn hl, sumR_congr fun j hj => by rw [RT j l (by omega) hl]]
    exact bot' r l hr hrn hl
  · obtain ⟨y, _, h2⟩ := dv j l hj hl hjk
    exact ⟨y, h2⟩
theorem elim_pivot {n : Nat} {a : Nat → Nat → Int} {k : Nat} {T : Nat → Nat → Int} {d : Int} (h : Elim n a k T d) (hk : k < n) :
    let w : Nat → Rat := fun j => if j = k then (d : Rat) else -qa T j k
    (∀ r, r < k → sumR (k + 1) (fun j => qa a r j * w j) = 0) ∧ sumR (k + 1) (fun j => qa a k j * w j) = qa T k k := by
  intro w
  have hw : ∀ r, sumR (k + 1) (fun j => qa a r j * w j) = (d : Rat) * qa a r k - sumR k (fun j => qa T j k * qa a r j) := fun r => by
    rw [sumR_succ]
    have e : sumR k (fun j => qa a r j * w j) = -sumR k (fun j => qa T j k * qa a r j) := by
      rw [← sumR_neg]
      refine sumR_congr fun j hj => ?_
      show qa a r j * (if j = k then (d : Rat) else -qa T j k) = _
      rw [if_neg (by omega)]
      grind
    have e2 : w k = (d : Rat) := if_pos rfl
    rw [e, e2]
    grind
  refine ⟨fun r hr => ?_, ?_⟩
  · rw [hw, h.top r k hr (by omega)]
    grind
  · rw [hw, h.bot k k (Nat.le_refl _) hk (by omega)]
theorem elim_end {n : Nat} {a : Nat → Nat → Int} {T : Nat → Nat → Int} {d : Int} (h : Elim n a n T d) (r : Nat) (hr : r < n) : sumR n (fun j => qa a r j * (qa T j n / (d : Rat))) = qa a r n := by
  have d0 : (d : Rat) ≠ 0 := cast_ne (by have := h.pos; omega)
  have e := h.top r n hr (Nat.le_refl _)
  have e2 : sumR n (fun j => qa a r j * (qa T j n / (d : Rat))) = (1 / (d : Rat)) * sumR n (fun j => qa T j n * qa a r j) := by
    rw [← sumR_mul]
    exact sumR_congr fun j _ => by grind
  rw [e2, e]
  grind
end Md
set_option Elab.async false
set_option linter.all false
set_option maxRecDepth 100000
set_option maxHeartbeats 2000000
namespace Md
def Out (C : List PlC) (L : List Nat) : Prop := ∀ Z : Nat → Prop, (∃ x, Z x) → (∀ x, Z x → x ∈ L) → ∃ x, Z x ∧ ∃ q ∈ (plC C x).bs, ¬ Z q.2
theorem Out.sub {C : List PlC} {L L' : List Nat} (h : Out C L) (hs : ∀ x ∈ L', x ∈ L) : Out C L' := fun Z h1 h2 => h Z h1 fun x hx => hs x (h2 x hx)
theorem max_list (f : Nat → Rat) : ∀ {L : List Nat}, L ≠ [] → ∃ x ∈ L, ∀ y ∈ L, f y ≤ f x
  | [], h => absurd rfl h
  | [x], _ => ⟨x, List.mem_singleton.mpr rfl, fun y hy => by
    rw [List.mem_singleton] at hy
    rw [hy]
    exact Rat.le_refl⟩
  | x :: y :: L, _ => by
    obtain ⟨z, h1, h2⟩ := max_list f (L := y :: L) (by simp)
    by_cases h : f x ≤ f z
    · exact ⟨z, List.mem_cons_of_mem _ h1, fun u hu => by
        rcases List.mem_cons.mp hu with rfl | hu
        · exact h
        · exact h2 u hu⟩
    · exact ⟨x, List.mem_cons_self .., fun u hu => by
        rcases List.mem_cons.mp hu with rfl | hu
        · exact Rat.le_refl
        · have := h2 u hu
          grind⟩
theorem mean_max {bs : List BrC} {f : Nat → Rat} {M : Rat} (hp : ∀ q ∈ bs, 0 < qN q.1) (hf : ∀ q ∈ bs, f q.2 ≤ M) (h : M * wsum bs (fun _ => 1) ≤ wsum bs f) : ∀ q ∈ bs, f q.2 = M := by
  induction bs with
  | nil => intro q hq; cases hq
  | cons b bs ih =>
    rw [wsum_cons, wsum_cons] at h
    have p := hp b (List.mem_cons_self ..)
    have f1 := hf b (List.mem_cons_self ..)
    have hle : wsum bs f ≤ M * wsum bs (fun _ => 1) := by
      rw [← wsum_mul]
      refine wsum_le fun q hq => ⟨Rat.le_of_lt (hp q (List.mem_cons_of_mem _ hq)), ?_⟩
      rw [Rat.mul_one]
      exact hf q (List.mem_cons_of_mem _ hq)
    have u1 := Rat.mul_le_mul_of_nonneg_left f1 (Rat.le_of_lt p)
    have e1 : qN b.1 * f b.2 = qN b.1 * M := by grind
    have e2 : f b.2 = M := by
      have := congrArg (fun z => (qN b.1)⁻¹ * z) e1
      rw [← Rat.mul_assoc, ← Rat.mul_assoc, Rat.inv_mul_cancel _ (by grind), Rat.one_mul, Rat.one_mul] at this
      exact this
    intro q hq
    rcases List.mem_cons.mp hq with rfl | hq
    · exact e2
    · exact ih (fun q hq => hp q (List.mem_cons_of_mem _ hq)) (fun q hq => hf q (List.mem_cons_of_mem _ hq)) (by grind) q hq
theorem max_closed {C : List PlC} (hW : WfC C) {L : List Nat} (hL : ∀ x ∈ L, x < C.length) (hO : Out C L) {f : Nat → Rat} (h0 : ∀ y, y < C.length → y ∉ L → f y ≤ 0) (hf : ∀ x ∈ L, f x ≤ meanC C f x) : ∀ x ∈ L, f x ≤ 0 := by
  intro x hx
  obtain ⟨m, hm, hmax⟩ := max_list f (L := L) (List.ne_nil_of_mem hx)
  have hxm := hmax x hx
  by_cases hM : f m ≤ 0
  · grind
  · exfalso
    obtain ⟨z, ⟨hz, hzm⟩, q, hq, hnz⟩ := hO (fun y => y ∈ L ∧ f y = f m) ⟨m, hm, rfl⟩ fun y hy => hy.1
    have hzl := hL z hz
    have hw := plC_wf hW hzl
    have hall : ∀ y, y < C.length → f y ≤ f m := fun y hy => by
      by_cases hyL : y ∈ L
      · exact hmax y hyL
      · have := h0 y hy hyL
        grind
    have h1 : wsum (plC C z).bs (fun _ => 1) = 1 := mean_one hW hzl
    have e := mean_max (bs := (plC C z).bs) (f := f) (M := f m) (fun q hq => br_pos hW hzl hq) (fun q hq => hall _ (hw.q q hq).2.2) (by
      rw [h1, Rat.mul_one, ← hzm]
      exact hf z hz) q hq
    refine hnz ⟨?_, e⟩
    by_cases hqL : q.2 ∈ L
    · exact hqL
    · have := h0 _ (hw.q q hq).2.2 hqL
      grind
structure IsFill (C : List PlC) (L : List Nat) (e kn f : Nat → Rat) : Prop where
  eq : ∀ x ∈ L, f x = e x + meanC C f x
  out : ∀ y, y ∉ L → f y = kn y
theorem mean_sub (C : List PlC) (f g : Nat → Rat) (k : Nat) : meanC C (fun y => f y - g y) k = meanC C f k - meanC C g k := by
  have e : (fun y => f y - g y) = fun y => f y + (-1) * g y := by
    funext y
    grind
  unfold meanC
  rw [e, wsum_add, wsum_mul]
  grind
theorem fill_unique {C : List PlC} (hW : WfC C) {L : List Nat} (hL : ∀ x ∈ L, x < C.length) (hO : Out C L) {e kn f g : Nat → Rat} (hf : IsFill C L e kn f) (hg : IsFill C L e kn g) : ∀ y, f y = g y := by
  have key : ∀ {f g : Nat → Rat}, IsFill C L e kn f → IsFill C L e kn g → ∀ x ∈ L, f x - g x ≤ 0 := fun {f g} hf hg => max_closed hW hL hO (f := fun y => f y - g y) (fun y _ hy => by
    rw [hf.out y hy, hg.out y hy]
    grind) fun x hx => by
      rw [mean_sub, hf.eq x hx, hg.eq x hx]
      grind
  intro y
  by_cases hy : y ∈ L
  · have h1 := key hf hg y hy
    have h2 := key hg hf y hy
    grind
  · rw [hf.out y hy, hg.out y hy]
def scaleC (C : List PlC) (x : Nat) : Nat := denL ((plC C x).bs.map (·.1))
def cz (s : Nat) (q : BrC) : Int := q.1.1 * ((s : Int) / q.1.2)
def rowZ (C : List PlC) (L : List Nat) (x y : Nat) : Int := (if y = x then (scaleC C x : Int) else 0) - ((plC C x).bs.map fun q => if q.2 = y then cz (scaleC C x) q else 0).sum
theorem scaleC_ok {C : List PlC} (h : WfC C) {x : Nat} (hx : x < C.length) : 0 < scaleC C x ∧ scaleC C x ≤ 360 ∧ ∀ q ∈ (plC C x).bs, q.1.2.natAbs ∣ scaleC C x := by
  have w := plC_wf h hx
  obtain ⟨W, h1, h2, h3⟩ := w.w
  refine ⟨denL_pos fun p hp => ?_, Nat.le_trans (Nat.le_of_dvd h1 (denL_to fun p hp => ?_)) h2, fun q hq => denL_dvd (List.mem_map.mpr ⟨q, hq, rfl⟩)⟩
  · obtain ⟨q, hq, rfl⟩ := List.mem_map.mp hp
    exact (w.q q hq).1.1
  · obtain ⟨q, hq, rfl⟩ := List.mem_map.mp hp
    exact h3 q hq
theorem cz_cast {s : Nat} {q : BrC} (h : Red q.1) (d : q.1.2.natAbs ∣ s) : ((cz s q : Int) : Rat) = qN q.1 * ((s : Int) : Rat) := whole_q h d
theorem rowZ_cast {C : List PlC} (h : WfC C) (L : List Nat) {x : Nat} (hx : x < C.length) (y : Nat) : ((rowZ C L x y : Int) : Rat) = ((scaleC C x : Int) : Rat) * ((if y = x then 1 else 0) - meanC C (fun z => if z = y then 1 else 0) x) := by
  obtain ⟨s0, s1, s2⟩ := scaleC_ok h hx
  have w := plC_wf h hx
  unfold rowZ meanC
  generalize scaleC C x = s at *
  have e : ∀ bs : List BrC, (∀ q ∈ bs, Red q.1 ∧ q.1.2.natAbs ∣ s) → (((bs.map fun q => if q.2 = y then cz s q else 0).sum : Int) : Rat) = ((s : Int) : Rat) * wsum bs (fun z => if z = y then 1 else 0) := by
    intro bs
    induction bs with
    | nil => intro _; rw [wsum_nil, Rat.mul_zero]; rfl
    | cons q bs ih =>
      intro hq
      have h1 := hq q (List.mem_cons_self ..)
      rw [List.map_cons, List.sum_cons, wsum_cons, Rat.intCast_add, ih fun q hq' => hq q (List.mem_cons_of_mem _ hq')]
      by_cases z : q.2 = y
      · rw [if_pos z, if_pos z, cz_cast h1.1 h1.2]
        grind
      · rw [if_neg z, if_neg z]
        have : ((0 : Int) : Rat) = 0 := rfl
        rw [this]
        grind
  rw [Rat.intCast_sub, e _ fun q hq => ⟨red_small (w.q q hq).1, s2 q hq⟩]
  by_cases z : y = x
  · rw [if_pos z, if_pos z]
    grind
  · rw [if_neg z, if_neg z]
    have : ((0 : Int) : Rat) = 0 := rfl
    rw [this]
    grind
def wt (L : List Nat) (m : Nat) (w : Nat → Rat) (y : Nat) : Rat := sumR m fun j => if y = L.getD j 0 then w j else 0
theorem nodup_getD {L : List Nat} (h : L.Nodup) {i j : Nat} (hi : i < L.length) (hj : j < L.length) (e : L.getD i 0 = L.getD j 0) : i = j := by
  rw [List.getD_eq_getElem?_getD, List.getD_eq_getElem?_getD, List.getElem?_eq_getElem hi, List.getElem?_eq_getElem hj] at e
  exact (List.getElem_inj h).mp (Option.some.inj (congrArg some e))
theorem wt_at {L : List Nat} (h : L.Nodup) {m r : Nat} (hm : m ≤ L.length) (hr : r < m) (w : Nat → Rat) : wt L m w (L.getD r 0) = w r := by
  unfold wt
  rw [sumR_only hr, if_pos rfl]
  intro i hi hir
  rw [if_neg]
  exact fun e => hir (nodup_getD h (by omega) (by omega) e.symm)
theorem getD_mem {L : List Nat} {j : Nat} (h : j < L.length) : L.getD j 0 ∈ L := by
  rw [List.getD_eq_getElem?_getD, List.getElem?_eq_getElem h]
  exact List.getElem_mem h
theorem getD_take {L : List Nat} {j m : Nat} (h : j < m) (hm : m ≤ L.length) : L.getD j 0 ∈ L.take m := by
  have : (L.take m)[j]? = some (L.getD j 0) := by
    rw [List.getElem?_take, if_pos h, List.getD_eq_getElem?_getD, List.getElem?_eq_getElem (by omega)]
    rfl
  exact List.mem_of_getElem? this
theorem take_getD {L : List Nat} {m x : Nat} (h : x ∈ L.take m) : ∃ j, j < m ∧ j < L.length ∧ L.getD j 0 = x := by
  obtain ⟨j, hj, e⟩ := List.mem_iff_getElem.mp h
  rw [List.length_take] at hj
  refine ⟨j, by omega, by omega, ?_⟩
  rw [List.getElem_take] at e
  rw [List.getD_eq_getElem?_getD, List.getElem?_eq_getElem (by omega)]
  exact e
theorem wt_out {L : List Nat} {m y : Nat} (hm : m ≤ L.length) (w : Nat → Rat) (h : y ∉ L.take m) : wt L m w y = 0 := sumR_zeros fun j hj => if_neg fun e => h (by
  rw [e]
  exact getD_take hj hm)
theorem mean_wt (C : List PlC) (L : List Nat) (m x : Nat) (w : Nat → Rat) : meanC C (wt L m w) x = sumR m fun j => meanC C (fun z => if z = L.getD j 0 then 1 else 0) x * w j := by
  induction m with
  | zero =>
    rw [sumR_zero]
    unfold meanC
    have : wt L 0 w = fun _ => 0 * 1 := by
      funext y
      rw [Rat.zero_mul]
      rfl
    rw [this, wsum_mul, Rat.zero_mul]
  | succ m ih =>
    rw [sumR_succ, ← ih]
    unfold meanC
    have : wt L (m + 1) w = fun y => wt L m w y + w m * (if y = L.getD m 0 then 1 else 0) := by
      funext y
      unfold wt
      rw [sumR_succ]
      by_cases z : y = L.getD m 0
      · rw [if_pos z, if_pos z, Rat.mul_one]
      · rw [if_neg z, if_neg z, Rat.mul_zero]
    rw [this, wsum_add, wsum_mul]
    grind
theorem row_dot {C : List PlC} (h : WfC C) {L : List Nat} (hn : L.Nodup) (hL : ∀ x ∈ L, x < C.length) {m r : Nat} (hm : m ≤ L.length) (hr : r < m) (w : Nat → Rat) :
    sumR m (fun j => ((rowZ C L (L.getD r 0) (L.getD j 0) : Int) : Rat) * w j) = ((scaleC C (L.getD r 0) : Int) : Rat) * (w r - meanC C (wt L m w) (L.getD r 0)) := by
  have hx := hL _ (getD_mem (L := L) (j := r) (by omega))
  have e : ∀ j, j < m → ((rowZ C L (L.getD r 0) (L.getD j 0) : Int) : Rat) * w j = ((scaleC C (L.getD r 0) : Int) : Rat) * ((if L.getD r 0 = L.getD j 0 then w j else 0) + (-1) * (meanC C (fun z => if z = L.getD j 0 then 1 else 0) (L.getD r 0) * w j)) := fun j hj => by
    rw [rowZ_cast h L hx]
    by_cases z : L.getD j 0 = L.getD r 0
    · rw [if_pos z, if_pos z.symm]
      grind
    · rw [if_neg z, if_neg fun y => z y.symm]
      grind
  rw [sumR_congr e, sumR_mul, sumR_add, sumR_mul, ← mean_wt]
  have := wt_at hn hm hr w
  unfold wt at this
  rw [this]
  grind
def matA (C : List PlC) (L : List Nat) (kr : Nat → Rat) (U : Nat) : Nat → Nat → Int := fun r l => if l < L.length then rowZ C L (L.getD r 0) (L.getD l 0) else (canon (kr r)).1 * ((U : Int) / (canon (kr r)).2)
theorem matA_lo {C : List PlC} {L : List Nat} {kr : Nat → Rat} {U r l : Nat} (h : l < L.length) : matA C L kr U r l = rowZ C L (L.getD r 0) (L.getD l 0) := if_pos h
theorem pivot_pos {C : List PlC} (h : WfC C) {L : List Nat} (hn : L.Nodup) (hL : ∀ x ∈ L, x < C.length) (hO : Out C L) {kr : Nat → Rat} {U k : Nat} {T : Nat → Nat → Int} {d : Int} (hE : Elim L.length (matA C L kr U) k T d) (hk : k < L.length) : 0 < T k k := by
  obtain ⟨p1, p2⟩ := elim_pivot hE hk
  generalize hw : (fun j => if j = k then (d : Rat) else -qa T j k) = w at p1 p2
  have hwk : w k = (d : Rat) := by rw [← hw]; exact if_pos rfl
  have hrow : ∀ r, r < k + 1 → sumR (k + 1) (fun j => qa (matA C L kr U) r j * w j) = ((scaleC C (L.getD r 0) : Int) : Rat) * (w r - meanC C (wt L (k + 1) w) (L.getD r 0)) := fun r hr => by
    rw [← row_dot h hn hL hk hr w]
    refine sumR_congr fun j hj => ?_
    unfold qa
    rw [matA_lo (by omega)]
  rcases Int.lt_or_le 0 (T k k) with z | z
  · exact z
  · exfalso
    have zq : qa T k k ≤ 0 := le_cast z
    have hle : ∀ r, r < k + 1 → w r ≤ meanC C (wt L (k + 1) w) (L.getD r 0) := fun r hr => by
      have hx := hL _ (getD_mem (L := L) (j := r) (by omega))
      have s0 : (0 : Rat) < ((scaleC C (L.getD r 0) : Int) : Rat) := cast_pos (by have := (scaleC_ok h hx).1; omega)
      have e := hrow r hr
      have e2 : sumR (k + 1) (fun j => qa (matA C L kr U) r j * w j) ≤ 0 := by
        rcases Nat.lt_or_ge r k with y | y
        · rw [p1 r y]
          exact Rat.le_refl
        · obtain rfl : r = k := by omega
          rw [p2]
          exact zq
      rw [e] at e2
      rcases (Rat.le_total : w r ≤ meanC C (wt L (k + 1) w) (L.getD r 0) ∨ _) with y | y
      · exact y
      · by_cases y2 : w r - meanC C (wt L (k + 1) w) (L.getD r 0) = 0
        · grind
        · have := Rat.mul_pos s0 (show 0 < w r - meanC C (wt L (k + 1) w) (L.getD r 0) by grind)
          grind
    have hsub : ∀ x ∈ L.take (k + 1), x ∈ L := fun x hx => List.mem_of_mem_take hx
    have key := max_closed h (L := L.take (k + 1)) (fun x hx => hL x (hsub x hx)) (hO.sub hsub) (f := wt L (k + 1) w) (fun y _ hy => by rw [wt_out hk w hy]; exact Rat.le_refl) (fun x hx => by
      obtain ⟨j, h1, h2, rfl⟩ := take_getD hx
      rw [wt_at hn hk h1]
      exact hle j h1) (L.getD k 0) (getD_take (Nat.lt_succ_self k) hk)
    rw [wt_at hn hk (Nat.lt_succ_self k), hwk] at key
    have : (0 : Rat) < (d : Rat) := cast_pos hE.pos
    grind
end Md
set_option Elab.async false
set_option linter.all false
set_option maxRecDepth 100000
set_option maxHeartbeats 2000000
namespace Md
open PySem L2 Evl
def natR (n : Nat) : Rat := ((n : Int) : Rat)
theorem natR_add (a b : Nat) : natR (a + b) = natR a + natR b := by unfold natR; rw [Int.natCast_add, Rat.intCast_add]
theorem natR_mul (a b : Nat) : natR (a * b) = natR a * natR b := by unfold natR; rw [Int.natCast_mul, Rat.intCast_mul]
theorem natR_le {a b : Nat} (h : a ≤ b) : natR a ≤ natR b := le_cast (by omega)
theorem natR_nonneg (a : Nat) : 0 ≤ natR a := Rat.intCast_nonneg.mpr (by omega)
theorem natR_pos {a : Nat} (h : 0 < a) : 0 < natR a := cast_pos (by omega)
structure NB (M B : Nat) (r : Rat) : Prop where
  zt : Zt M r
  lo : -natR B ≤ r
  hi : r ≤ natR B
theorem NB.mono {M B M' B' : Nat} {r : Rat} (h : NB M B r) (hM : M ∣ M') (hB : B ≤ B') : NB M' B' r := ⟨h.zt.dvd hM, by have := natR_le hB; have := h.lo; grind, by have := natR_le hB; have := h.hi; grind⟩
theorem NB.big {M B j : Nat} {r : Rat} (h : NB M B r) (hM : 0 < M) (hB : 1 ≤ B) (hj : B * M < 2 ^ j) : Big j (canon r) := zt_Big (canon_red r) hM (by rw [q_canon]; exact h.zt) (by rw [q_canon]; exact h.lo) (by rw [q_canon]; exact h.hi) hB hj
theorem nb_zero (M B : Nat) : NB M B 0 := ⟨zt_zero M, by have := natR_nonneg B; grind, natR_nonneg B⟩
theorem natR_one : natR 1 = 1 := rfl
theorem nb_one {M B : Nat} (h : 1 ≤ B) : NB M B 1 := ⟨(show Zt M ((1 : Int) : Rat) from zt_int M 1), by have := natR_le h; rw [natR_one] at this; grind, by have := natR_le h; rw [natR_one] at this; exact this⟩
theorem part_bd {bs : List BrC} {f : Nat → Rat} {B : Nat} (hp : ∀ q ∈ bs, 0 ≤ qN q.1) (hf : ∀ q ∈ bs, -natR B ≤ f q.2 ∧ f q.2 ≤ natR B) (h1 : wsum bs (fun _ => 1) ≤ 1) : -natR B ≤ wsum bs f ∧ wsum bs f ≤ natR B := by
  have u1 : wsum bs f ≤ wsum bs (fun _ => natR B * 1) := wsum_le fun q hq => ⟨hp q hq, by rw [Rat.mul_one]; exact (hf q hq).2⟩
  have u2 : wsum bs (fun _ => -natR B * 1) ≤ wsum bs f := wsum_le fun q hq => ⟨hp q hq, by rw [Rat.mul_one]; exact (hf q hq).1⟩
  rw [wsum_mul] at u1 u2
  have u3 := Rat.mul_le_mul_of_nonneg_left h1 (natR_nonneg B)
  constructor <;> grind
theorem part_zt {bs : List BrC} {f : Nat → Rat} {M W : Nat} (hq : ∀ q ∈ bs, Red q.1 ∧ q.1.2.natAbs ∣ W ∧ Zt M (f q.2)) : Zt (M * W) (wsum bs f) := by
  induction bs with
  | nil => exact zt_zero _
  | cons q bs ih =>
    rw [wsum_cons]
    obtain ⟨h1, h2, h3⟩ := hq q (List.mem_cons_self ..)
    refine Zt.add ?_ (ih fun q hq' => hq q (List.mem_cons_of_mem _ hq'))
    rw [Nat.mul_comm]
    exact (zt_den h1 h2).mul h3
theorem nb_part {n : Nat} {p : PlC} (hw : WfB n p) {f : Nat → Rat} {M B : Nat} (hf : ∀ q ∈ p.bs, NB M B (f q.2)) (i : Nat) : NB (M * denL (p.bs.map (·.1))) B (wsum (p.bs.take i) f) := by
  have hp : ∀ q ∈ p.bs, 0 ≤ qN q.1 := fun q hq => Rat.le_of_lt (q_pos (red_small (hw.q q hq).1) (hw.q q hq).2.1)
  have h1 := (wsum_take hp i).2
  have h2 : wsum p.bs (fun _ => 1) = 1 := by rw [wsum_one]; exact hw.s
  rw [h2] at h1
  have b := part_bd (bs := p.bs.take i) (f := f) (B := B) (fun q hq => hp q (List.mem_of_mem_take hq)) (fun q hq => ⟨(hf q (List.mem_of_mem_take hq)).lo, (hf q (List.mem_of_mem_take hq)).hi⟩) h1
  exact ⟨part_zt fun q hq => ⟨red_small (hw.q q (List.mem_of_mem_take hq)).1, denL_dvd (List.mem_map.mpr ⟨q, List.mem_of_mem_take hq, rfl⟩), (hf q (List.mem_of_mem_take hq)).zt⟩, b.1, b.2⟩
theorem scale_wf {n : Nat} {p : PlC} (hw : WfB n p) : 0 < denL (p.bs.map (·.1)) ∧ denL (p.bs.map (·.1)) ≤ 360 := by
  obtain ⟨W, h1, h2, h3⟩ := hw.w
  refine ⟨denL_pos fun c hc => ?_, Nat.le_trans (Nat.le_of_dvd h1 (denL_to fun c hc => ?_)) h2⟩
  · obtain ⟨q, hq, rfl⟩ := List.mem_map.mp hc
    exact (hw.q q hq).1.1
  · obtain ⟨q, hq, rfl⟩ := List.mem_map.mp hc
    exact h3 q hq
theorem nb_mean {C : List PlC} (hW : WfC C) {x : Nat} (hx : x < C.length) {f : Nat → Rat} {M B : Nat} (hf : ∀ y, y < C.length → NB M B (f y)) : NB (M * scaleC C x) B (meanC C f x) := by
  have hw := plC_wf hW hx
  have := nb_part hw (f := f) (M := M) (B := B) (fun q hq => hf _ (hw.q q hq).2.2) (plC C x).bs.length
  rw [List.take_length] at this
  exact this
def fbN (B : Nat) : Nat → Nat
  | 0 => 1
  | k + 1 => (k + 1) * (B * fbN B k)
theorem fbd_nat (B : Nat) : ∀ k, fbd (natR B) k = natR (fbN B k)
  | 0 => rfl
  | k + 1 => by
    show natR (k + 1) * (natR B * fbd (natR B) k) = natR ((k + 1) * (B * fbN B k))
    rw [fbd_nat B k, natR_mul, natR_mul]
theorem fbN_le {B k : Nat} (h : k ≤ 12) : fbN B k ≤ (12 * B) ^ k := by
  induction k with
  | zero => exact Nat.le_refl _
  | succ k ih =>
    show (k + 1) * (B * fbN B k) ≤ (12 * B) ^ (k + 1)
    rw [Nat.pow_succ, ← Nat.mul_assoc, Nat.mul_comm ((12 * B) ^ k)]
    exact Nat.mul_le_mul (Nat.mul_le_mul_right B h) (ih (by omega))
theorem elim_col {n : Nat} {a : Nat → Nat → Int} {k : Nat} {T : Nat → Nat → Int} {d : Int} (h : Elim n a k T d) {j l : Nat} (hj : j < k) (hl : l ≤ n) : qa T j l = Fd k (upc (fun col r => qa a r col) j fun r => qa a r l) := by
  have d0 : (d : Rat) ≠ 0 := cast_ne (by have := h.pos; omega)
  have e := cramer (k := k) (c := fun col r => qa a r col) (t := fun i => qa T i l) (v := fun r => qa a r l) (d := (d : Rat)) (fun r hr => h.top r l hr hl) hj
  rw [← h.det] at e
  have e3 := congrArg (fun z => (d : Rat)⁻¹ * z) e
  rw [← Rat.mul_assoc, Rat.inv_mul_cancel _ d0, Rat.one_mul] at e3
  rw [e3]
  grind
theorem pow_le12 {b k : Nat} (hb : 1 ≤ b) (h : k ≤ 12) : b ^ k ≤ b ^ 12 := Nat.pow_le_pow_right hb h
theorem elim_d {n : Nat} {a : Nat → Nat → Int} {k : Nat} {T : Nat → Nat → Int} {d : Int} (h : Elim n a k T d) (hn : n ≤ 12) (hk : k ≤ n) {B : Nat} (hB : 1 ≤ B) (ha : ∀ r l, r < n → l < n → (a r l).natAbs ≤ B) : d ≤ ((12 * B) ^ 12 : Nat) := by
  have := (Fd_bd (B := natR B) k (c := fun col r => qa a r col) fun col r h1 h2 => by
    have := ha r col (by omega) (by omega)
    constructor
    · have e : -natR B = (((-(B : Int)) : Int) : Rat) := by rw [Rat.intCast_neg]; rfl
      rw [e]
      exact le_cast (by omega)
    · exact le_cast (by omega)).2
  rw [← h.det, fbd_nat] at this
  have e := cast_le this
  have e2 := Nat.le_trans (fbN_le (B := B) (k := k) (by omega)) (pow_le12 (by omega) (by omega))
  omega
theorem abs_of {z : Int} {X : Nat} (h1 : -natR X ≤ (z : Rat)) (h2 : (z : Rat) ≤ natR X) : z.natAbs ≤ X := by
  have e1 : z ≤ (X : Int) := cast_le h2
  have e2 : -(X : Int) ≤ z := cast_le (by rw [Rat.intCast_neg]; exact h1)
  omega
theorem abs_to {z : Int} {X : Nat} (h : z.natAbs ≤ X) : -natR X ≤ (z : Rat) ∧ (z : Rat) ≤ natR X := by
  constructor
  · have e : -natR X = (((-(X : Int)) : Int) : Rat) := by rw [Rat.intCast_neg]; rfl
    rw [e]
    exact le_cast (by omega)
  · exact le_cast (by omega)
theorem elim_bd {n : Nat} {a : Nat → Nat → Int} {k : Nat} {T : Nat → Nat → Int} {d : Int} (h : Elim n a k T d) (hn : n ≤ 12) (hk : k ≤ n) {B : Nat} (hB : 1 ≤ B) (ha : ∀ r l, r < n → l ≤ n → (a r l).natAbs ≤ B) {j l : Nat} (hj : j < n) (hl : l ≤ n) : (T j l).natAbs ≤ 13 * ((12 * B) ^ 12 * B) := by
  have top : ∀ i, i < k → (T i l).natAbs ≤ (12 * B) ^ 12 := fun i hi => by
    have e := elim_col h hi hl
    have := Fd_bd (B := natR B) k (c := upc (fun col r => qa a r col) i fun r => qa a r l) fun col r h1 h2 => by
      by_cases z : col = i
      · rw [z, upc_same]
        exact abs_to (ha r l (by omega) hl)
      · rw [upc_ne z]
        exact abs_to (ha r col (by omega) (by omega))
    rw [← e, fbd_nat] at this
    exact Nat.le_trans (abs_of this.1 this.2) (Nat.le_trans (fbN_le (by omega)) (pow_le12 (by omega) (by omega)))
  generalize hP : (12 * B) ^ 12 = P at *
  have hPB : P ≤ P * B := Nat.le_mul_of_pos_right P hB
  rcases Nat.lt_or_ge j k with z | z
  · have := top j z
    omega
  · have e := h.bot j l z hj hl
    have s := sum_bd (n := k) (f := fun i => qa T i l * qa a j i) (a := natR (P * B)) fun i hi => by
      have h1 := abs_to (top i hi)
      have h2 := abs_to (ha j i hj (by omega))
      rw [natR_mul]
      exact mul_bd h1.1 h1.2 h2.1 h2.2
    have dd := elim_d h hn hk hB fun r l h1 h2 => ha r l h1 (by omega)
    rw [hP] at dd
    have hd1 : -natR P ≤ (d : Rat) ∧ (d : Rat) ≤ natR P := abs_to (by have := h.pos; omega)
    have h2 := abs_to (ha j l hj hl)
    have m := mul_bd hd1.1 hd1.2 h2.1 h2.2
    have e13 : natR (13 * (P * B)) = 13 * natR (P * B) := by rw [natR_mul]; rfl
    have ek : ((k : Int) : Rat) * natR (P * B) ≤ 12 * natR (P * B) := Rat.mul_le_mul_of_nonneg_right (show natR k ≤ natR 12 from natR_le (by omega)) (natR_nonneg _)
    rw [← natR_mul] at m
    have hq : qa T j l = ((T j l : Int) : Rat) := rfl
    have hq2 : qa a j l = ((a j l : Int) : Rat) := rfl
    rw [hq2] at e
    refine abs_of ?_ ?_
    · rw [e13, ← hq, e]
      grind
    · rw [e13, ← hq, e]
      grind
theorem rowZ_bd {C : List PlC} (h : WfC C) (L : List Nat) {x : Nat} (hx : x < C.length) (y : Nat) : (rowZ C L x y).natAbs ≤ 360 := by
  obtain ⟨s0, s1, _⟩ := scaleC_ok h hx
  have e := rowZ_cast h L hx y
  have w := plC_wf h hx
  have m1 : 0 ≤ meanC C (fun z => if z = y then 1 else 0) x := mean_ge h hx fun j _ => by split <;> decide +kernel
  have m2 : meanC C (fun z => if z = y then 1 else 0) x ≤ 1 := mean_le h hx fun j _ => by split <;> decide +kernel
  have b : -(1 : Rat) ≤ (if y = x then 1 else 0) - meanC C (fun z => if z = y then 1 else 0) x ∧ (if y = x then 1 else 0) - meanC C (fun z => if z = y then 1 else 0) x ≤ 1 := by
    split <;> constructor <;> grind
  have s : -natR 360 ≤ ((scaleC C x : Int) : Rat) ∧ ((scaleC C x : Int) : Rat) ≤ natR 360 := abs_to (by omega)
  have := mul_bd s.1 s.2 b.1 b.2
  rw [← e, Rat.mul_one] at this
  exact abs_of this.1 this.2
theorem fill_of {C : List PlC} (hW : WfC C) {L : List Nat} (hn : L.Nodup) (hL : ∀ x ∈ L, x < C.length) {e kn : Nat → Rat} (hk0 : ∀ x ∈ L, kn x = 0) {U : Nat} (hU : 0 < U) {T : Nat → Nat → Int} {d : Int}
    (hd : ∀ r, r < L.length → (canon ((e (L.getD r 0) + meanC C kn (L.getD r 0)) * ((scaleC C (L.getD r 0) : Int) : Rat))).2.natAbs ∣ U)
    (hE : Elim L.length (matA C L (fun r => (e (L.getD r 0) + meanC C kn (L.getD r 0)) * ((scaleC C (L.getD r 0) : Int) : Rat)) U) L.length T d) :
    IsFill C L e kn (fun y => wt L L.length (fun j => qa T j L.length / ((d : Rat) * natR U)) y + kn y) := by
  have d0 : (d : Rat) ≠ 0 := cast_ne (by have := hE.pos; omega)
  have u0 : natR U ≠ 0 := nat_ne hU
  have hLt : ∀ y, y ∉ L → y ∉ L.take L.length := fun y hy => by rw [List.take_length]; exact hy
  refine ⟨fun x hx => ?_, fun y hy => by rw [wt_out (Nat.le_refl _) _ (hLt y hy), Rat.zero_add]⟩
  obtain ⟨r, hr, _, rfl⟩ := take_getD (m := L.length) (by rw [List.take_length]; exact hx)
  have hxl := hL _ hx
  have s0 : ((scaleC C (L.getD r 0) : Int) : Rat) ≠ 0 := cast_ne (by have := (scaleC_ok hW hxl).1; omega)
  rw [wt_at hn (Nat.le_refl _) hr, hk0 _ hx, Rat.add_zero]
  have em : meanC C (fun y => wt L L.length (fun j => qa T j L.length / ((d : Rat) * natR U)) y + kn y) (L.getD r 0) = meanC C (wt L L.length fun j => qa T j L.length / ((d : Rat) * natR U)) (L.getD r 0) + meanC C kn (L.getD r 0) := wsum_add _ _ _
  rw [em]
  have e1 := elim_end hE r hr
  have e2 : qa (matA C L (fun r => (e (L.getD r 0) + meanC C kn (L.getD r 0)) * ((scaleC C (L.getD r 0) : Int) : Rat)) U) r L.length = (e (L.getD r 0) + meanC C kn (L.getD r 0)) * ((scaleC C (L.getD r 0) : Int) : Rat) * natR U := by
    unfold qa matA
    rw [if_neg (Nat.lt_irrefl _), whole_q (canon_red _) (hd r hr), q_canon]
    rfl
  have e3 := row_dot hW hn hL (Nat.le_refl _) hr fun j => qa T j L.length / ((d : Rat) * natR U)
  have e4 : sumR L.length (fun j => ((rowZ C L (L.getD r 0) (L.getD j 0) : Int) : Rat) * (qa T j L.length / ((d : Rat) * natR U))) = (1 / natR U) * sumR L.length (fun j => qa (matA C L (fun r => (e (L.getD r 0) + meanC C kn (L.getD r 0)) * ((scaleC C (L.getD r 0) : Int) : Rat)) U) r j * (qa T j L.length / (d : Rat))) := by
    rw [← sumR_mul]
    refine sumR_congr fun j hj => ?_
    have : qa (matA C L (fun r => (e (L.getD r 0) + meanC C kn (L.getD r 0)) * ((scaleC C (L.getD r 0) : Int) : Rat)) U) r j = ((rowZ C L (L.getD r 0) (L.getD j 0) : Int) : Rat) := by
      unfold qa
      rw [matA_lo hj]
    rw [this]
    grind
  rw [e4, e1, e2] at e3
  generalize qa T r L.length / ((d : Rat) * natR U) = t at *
  generalize meanC C (wt L L.length fun j => qa T j L.length / ((d : Rat) * natR U)) (L.getD r 0) = m1 at *
  generalize meanC C kn (L.getD r 0) = m2 at *
  generalize e (L.getD r 0) = ee at *
  generalize ((scaleC C (L.getD r 0) : Int) : Rat) = s at *
  have e5 : (1 / natR U) * ((ee + m2) * s * natR U) = (ee + m2) * s := by grind
  rw [e5] at e3
  grind
end Md
set_option Elab.async false
set_option linter.all false
set_option maxRecDepth 100000
set_option maxHeartbeats 2000000
namespace L2
open PySem PySem.Spec PyProof.Rows
def rGetN : V → V → Hp → VK → Prop := fun x y H Q => ∃ (p : Addr) (xs : List V) (j : Nat) (v : V), x = .ref p ∧ y = .int (j : Int) ∧ H p = some (.lst xs) ∧ xs[j]? = some v ∧ j < 100000 ∧ Q v H
theorem get_list {X : Cx} : PGet X rGetN := by
  intro pins s σ H o i ov iv Q I r1 r2 h
  obtain ⟨a, xs, j, v, rfl, rfl, hx, hv, hj, q⟩ := h
  cases r1
  obtain ⟨t, rfl⟩ := r2
  obtain ⟨its, rv, pl, hz⟩ := I.list (_root_.Evl.sq_of hx)
  obtain ⟨u, e, r⟩ := rv.get hv
  exact wpAny_getItem_list pl.isList (by omega) (by omega) (by simpa using e) ⟨v, H, I, r, q⟩
end L2
namespace Md
open PySem L2 Evl
def spNum2B (K : PySem.W.Frag) (j : Nat) (g : Int × Int → Int × Int → Int × Int) : Sp := fun vs h Q _ => ∃ (b : Hp) (p q : Int × Int), Ex b h ∧ DtA K b vs [nD p, nD q] ∧ Red p ∧ Red q ∧ Big j p ∧ Big j q ∧ ∀ v b' h', Gr b h b' h' → Dt K b' v (nD (g p q)) → Q v h'
theorem cmulL {i j : Int} (hi : i.natAbs < 2 ^ 4000) (hj : j.natAbs < 2 ^ 4000) : CMulW i j := wide_mul (a := 4000) (b := 4000) hi hj (by decide) (by decide) (by decide)
def ratsD (l : List Rat) : PyData := .list (l.map nQ)
def spTotR (K : PySem.W.Frag) : Sp := fun vs h Q _ => ∃ (b : Hp) (l : List Rat), Ex b h ∧ DtA K b vs [ratsD l] ∧ l.length ≤ 1000 ∧ (∀ i, i ≤ l.length → Big 3000 (canon (l.take i).sum)) ∧ (∀ r ∈ l, Big 3000 (canon r)) ∧ ∀ v b' h', Gr b h b' h' → Dt K b' v (nQ l.sum) → Q v h'
def spMeanAt (K : PySem.W.Frag) : Sp := fun vs h Q _ => ∃ (b : Hp) (n m : Nat) (p : PlC) (f : Nat → Rat) (M B : Nat), Ex b h ∧ DtA K b vs [p.D, listQ n f] ∧ WfB m p ∧ m ≤ n ∧ 0 < M ∧ 1 ≤ B ∧ B * (M * 360) < 2 ^ 2980 ∧ (∀ q ∈ p.bs, NB M B (f q.2)) ∧ ∀ v b' h', Gr b h b' h' → Dt K b' v (nQ (wsum p.bs f)) → Q v h'
def spScale (K : PySem.W.Frag) : Sp := fun vs h Q _ => ∃ (b : Hp) (m : Nat) (p : PlC), Ex b h ∧ DtA K b vs [p.D] ∧ WfB m p ∧ ∀ h', Ex h h' → Q (.int ((denL (p.bs.map (·.1)) : Nat) : Int)) h'
def spRow (K : PySem.W.Frag) : Sp := fun vs h Q _ => ∃ (b : Hp) (C : List PlC) (x : Nat) (L : List Nat), Ex b h ∧ DtA K b vs [chD C, .int (x : Int), natsD L, .int (scaleC C x : Int), nD (1, 1)] ∧ WfC C ∧ x < C.length ∧ L.Nodup ∧ L.length ≤ 12 ∧ ∀ v b' h', Gr b h b' h' → Dt K b' v (intsD (L.map (rowZ C L x))) → Q v h'
def rowD (n : Nat) (T : Nat → Nat → Int) (j : Nat) : PyData := .list ((List.range (n + 1)).map fun l => PyData.int (T j l))
def tabD (n : Nat) (T : Nat → Nat → Int) : PyData := .list ((List.range n).map (rowD n T))
def spCleared (K : PySem.W.Frag) : Sp := fun vs h Q _ => ∃ (b : Hp) (n : Nat) (T : Nat → Nat → Int) (k : Nat) (d : Int), Ex b h ∧ DtA K b vs [tabD n T, .int (k : Int), .int d] ∧ n ≤ 12 ∧ k < n ∧ 0 < d ∧ d.natAbs < 2 ^ 9000 ∧ (∀ j l, j < n → l ≤ n → (T j l).natAbs < 2 ^ 20000) ∧
  ∀ v b' h', Gr b h b' h' → Dt K b' v (tabD n (elimT k T d)) → Q v h'
def placeK (L : List Nat) (kx : Nat → Rat) : Nat → Rat := fun r => kx (L.getD r 0)
def unitK (L : List Nat) (kx : Nat → Rat) : Nat := denL (L.map fun x => canon (kx x))
section
variable {K : PySem.W.Frag} {σ : L2.St} {b h : Hp} {te tl ta tb : TE} {ts tk : TA} {E : XK} {C : List PlC} {p q : Int × Int} {r s : Rat}
theorem ed_num2B {j : Nat} {g : Int × Int → Int × Int → Int × Int} (y : EDA K ts σ b [nD p, nD q]) (h1 : Red p) (h2 : Red q) (h3 : Big j p) (h4 : Big j q) : ED K (tCall (spNum2B K j g) [] E ts) σ b (nD (g p q)) := fun h e _ qq =>
  y h e _ fun vs b2 h2' g2 hv => ⟨b2, p, q, g2.gi, by rw [List.append_nil]; exact hv, h1, h2, h3, h4, fun v b3 h3 g3 hv3 => qq v b3 h3 (g2.trans g3) hv3⟩
theorem ed_plusR (y : EDA K ts σ b [nQ r, nQ s]) (h1 : Big 3000 (canon r)) (h2 : Big 3000 (canon s)) : ED K (tCall (spNum2B K 3000 plusN) [] E ts) σ b (nQ (r + s)) := by
  unfold nQ
  rw [← plus_canon]
  exact ed_num2B y (canon_red r) (canon_red s) h1 h2
theorem ed_timesR (y : EDA K ts σ b [nQ r, nQ s]) (h1 : Big 3000 (canon r)) (h2 : Big 3000 (canon s)) : ED K (tCall (spNum2B K 3000 timesN) [] E ts) σ b (nQ (r * s)) := by
  unfold nQ
  rw [← times_canon]
  exact ed_num2B y (canon_red r) (canon_red s) h1 h2
theorem ed_totR {l : List Rat} (y : EDA K ts σ b [ratsD l]) (h1 : l.length ≤ 1000) (h2 : ∀ i, i ≤ l.length → Big 3000 (canon (l.take i).sum)) (h3 : ∀ r ∈ l, Big 3000 (canon r)) : ED K (tCall (spTotR K) [] E ts) σ b (nQ l.sum) := fun h e _ qq =>
  y h e _ fun vs b2 h2' g2 hv => ⟨b2, l, g2.gi, by rw [List.append_nil]; exact hv, h1, h2, h3, fun v b3 h3 g3 hv3 => qq v b3 h3 (g2.trans g3) hv3⟩
theorem ed_meanAt {n m M B : Nat} {p : PlC} {f : Nat → Rat} (y : EDA K ts σ b [p.D, listQ n f]) (h1 : WfB m p) (h2 : m ≤ n) (h3 : 0 < M) (h4 : 1 ≤ B) (h5 : B * (M * 360) < 2 ^ 2980) (h6 : ∀ q ∈ p.bs, NB M B (f q.2)) : ED K (tCall (spMeanAt K) [] E ts) σ b (nQ (wsum p.bs f)) := fun h e _ qq =>
  y h e _ fun vs b2 h2' g2 hv => ⟨b2, n, m, p, f, M, B, g2.gi, by rw [List.append_nil]; exact hv, h1, h2, h3, h4, h5, h6, fun v b3 h3 g3 hv3 => qq v b3 h3 (g2.trans g3) hv3⟩
theorem ev_scale {m : Nat} {p : PlC} (y : EDA K ts σ b [p.D]) (h1 : WfB m p) : Ev (tCall (spScale K) [] E ts) σ b (.int ((denL (p.bs.map (·.1)) : Nat) : Int)) := fun h e _ qq =>
  y h e _ fun vs b2 h2' g2 hv => ⟨b2, m, p, g2.gi, by rw [List.append_nil]; exact hv, h1, fun h3 e3 => qq h3 (g2.gh.trans e3)⟩
theorem ed_row {x : Nat} {L : List Nat} (y : EDA K ts σ b [chD C, .int (x : Int), natsD L, .int (scaleC C x : Int), nD (1, 1)]) (h1 : WfC C) (h2 : x < C.length) (h3 : L.Nodup) (h4 : L.length ≤ 12) : ED K (tCall (spRow K) [] E ts) σ b (intsD (L.map (rowZ C L x))) := fun h e _ qq =>
  y h e _ fun vs b2 h2' g2 hv => ⟨b2, C, x, L, g2.gi, by rw [List.append_nil]; exact hv, h1, h2, h3, h4, fun v b3 h3 g3 hv3 => qq v b3 h3 (g2.trans g3) hv3⟩
theorem ed_cleared {n k : Nat} {T : Nat → Nat → Int} {d : Int} (y : EDA K ts σ b [tabD n T, .int (k : Int), .int d]) (h1 : n ≤ 12) (h2 : k < n) (h3 : 0 < d) (h4 : d.natAbs < 2 ^ 9000) (h5 : ∀ j l, j < n → l ≤ n → (T j l).natAbs < 2 ^ 20000) : ED K (tCall (spCleared K) [] E ts) σ b (tabD n (elimT k T d)) := fun h e _ qq =>
  y h e _ fun vs b2 h2' g2 hv => ⟨b2, n, T, k, d, g2.gi, by rw [List.append_nil]; exact hv, h1, h2, h3, h4, h5, fun v b3 h3 g3 hv3 => qq v b3 h3 (g2.trans g3) hv3⟩
end
theorem nb_prod {n : Nat} {p : PlC} (hw : WfB n p) {q : BrC} (hq : q ∈ p.bs) {f : Nat → Rat} {M B : Nat} (hf : NB M B (f q.2)) : NB (M * denL (p.bs.map (·.1))) (1000 * B) (qN q.1 * f q.2) := by
  have h := hw.q q hq
  have c := q_small h.1
  have e : (1000 : Rat) = natR 1000 := rfl
  rw [e] at c
  have m := mul_bd c.1 c.2 hf.lo hf.hi
  rw [← natR_mul] at m
  refine ⟨?_, m.1, m.2⟩
  rw [Nat.mul_comm]
  exact (zt_den (red_small h.1) (denL_dvd (List.mem_map.mpr ⟨q, hq, rfl⟩))).mul hf.zt
end Md
namespace Md
open PySem L2 Evl
section
variable {K : PySem.W.Frag} {σ : L2.St} {b h0 : Hp} {tl ta tb : TE} {ts : TA} {D : Ends} {tu : TS} {ds es : List PyData} {i j : Nat}
theorem r_forE (x : ED K tl σ b (.list ds)) (e : Ex b h0)
    (k : ∀ b1 h1, Gr b h0 b1 h1 → ∃ Pv : Nat → L2.St → Hp → Prop, Pv 0 σ h1 ∧ (∀ n σ' h', Pv n σ' h' → Ex b1 h') ∧
      (∀ n d xv σ' h' h2, ds[n]? = some d → Dt K b1 xv d → Pv n σ' h' → Ex h' h2 → tu { D with nx := Pv (n + 1), ct := Pv (n + 1), bk := D.nx } ((σ'.set i (some (.int (n : Int)))).set j (some xv)) h2) ∧ ∀ σ' h', Pv ds.length σ' h' → D.nx σ' h') :
    tFor (iEnum K (tCons tl tNil)) (gTup K 2 (gCons (gName i) (gCons (gName j) gNil))) tu D σ h0 := x h0 e _ fun v b1 h1 g1 hv => by
  obtain ⟨a, xs, rfl, k1, k2⟩ := hv.listI
  obtain ⟨Pv, p0, pe, ps, pd⟩ := k b1 h1 g1
  refine ⟨a, xs, rfl, sq_of (g1.gi _ _ k1), for_it walk_enum Pv p0 (fun n σ' h' _ p => sq_of (pe n σ' h' p _ _ k1)) (fun n y σ' h2 h3 hn p hy => ?_) (fun σ' h' p => pd σ' h' (by rw [← k2.length]; exact p))⟩
  obtain ⟨t, va, vb, rfl, nt, rfl, hva, hvb⟩ := hy
  cases (Option.some.inj hva)
  obtain ⟨dd, hdd, hx⟩ := k2.getV (show xs[n]? = some vb from hvb)
  exact ⟨t, _, rfl, st_of upd_same, rfl, _, _, rfl, _, _, rfl, rfl, ps n dd vb σ' h2 _ hdd hx p (Ex.new nt)⟩
theorem r_forZ (x : ED K ta σ b (.list ds)) (y : ED K tb σ b (.list es)) (hl : es.length = ds.length) (e : Ex b h0)
    (k : ∀ b1 h1, Gr b h0 b1 h1 → ∃ Pv : Nat → L2.St → Hp → Prop, Pv 0 σ h1 ∧ (∀ n σ' h', Pv n σ' h' → Ex b1 h') ∧
      (∀ n d1 d2 v1 v2 σ' h' h2, ds[n]? = some d1 → es[n]? = some d2 → Dt K b1 v1 d1 → Dt K b1 v2 d2 → Pv n σ' h' → Ex h' h2 → tu { D with nx := Pv (n + 1), ct := Pv (n + 1), bk := D.nx } ((σ'.set i (some v1)).set j (some v2)) h2) ∧ ∀ σ' h', Pv ds.length σ' h' → D.nx σ' h') :
    tFor (iZip K (tCons ta (tCons tb tNil))) (gTup K 2 (gCons (gName i) (gCons (gName j) gNil))) tu D σ h0 := x h0 e _ fun v1 b1 h1 g1 hv1 => y.up g1.gb h1 g1.gi _ fun v2 b2 h2 g2 hv2 => by
  obtain ⟨a1, xs, rfl, k1, k2⟩ := hv1.listI
  obtain ⟨a2, ys, rfl, l1, l2⟩ := hv2.listI
  obtain ⟨Pv, p0, pe, ps, pd⟩ := k b2 h2 (g1.trans g2)
  have s1 : ∀ h, Ex b2 h → SqL K h a1 xs := fun h e => sq_of (e _ _ (g2.gb _ _ k1))
  have s2 : ∀ h, Ex b2 h → SqL K h a2 ys := fun h e => sq_of (e _ _ l1)
  refine ⟨a1, a2, xs, ys, rfl, s1 _ g2.gi, s2 _ g2.gi, for_it (walk_zip (xs := xs) (ys := ys) (n := ds.length) (by rw [k2.length, l2.length, hl, Nat.min_self])) Pv p0 (fun n σ' h' _ p => ⟨s1 _ (pe n σ' h' p), s2 _ (pe n σ' h' p)⟩) (fun n z σ' h3 h4 hn p hy => ?_) pd⟩
  obtain ⟨t, va, vb, rfl, nt, rfl, hva, hvb⟩ := hy
  obtain ⟨d1, hd1, q1⟩ := k2.getV (show xs[n]? = some va from hva)
  obtain ⟨d2, hd2, q2⟩ := l2.getV (show ys[n]? = some vb from hvb)
  exact ⟨t, _, rfl, st_of upd_same, rfl, _, _, rfl, _, _, rfl, rfl, ps n d1 d2 va vb σ' h3 _ hd1 hd2 (q1.up g2.gb) q2 p (Ex.new nt)⟩
end
theorem row_at {n : Nat} {T : Nat → Nat → Int} {j l : Nat} (h : l ≤ n) : L2.atI ((List.range (n + 1)).map fun l => PyData.int (T j l)) (l : Int) = some (.int (T j l)) := atI_nat (by rw [List.getElem?_map, List.getElem?_range (by omega)] <;> rfl)
theorem tab_at {n : Nat} {T : Nat → Nat → Int} {j : Nat} (h : j < n) : L2.atI ((List.range n).map (rowD n T)) (j : Int) = some (rowD n T j) := atI_nat (by rw [List.getElem?_map, List.getElem?_range h] <;> rfl)
end Md
namespace Md
open PySem L2 Evl
theorem last_at {n : Nat} {f : Nat → PyData} : L2.atI ((List.range (n + 1)).map f) (-1) = some (f n) := by
  rw [List.range_succ, List.map_append]
  exact atI_last _ _
theorem mat_row {C : List PlC} {L : List Nat} {kr : Nat → Rat} {U r : Nat} (hr : r < L.length) : (L.map (rowZ C L (L.getD r 0))).map PyData.int ++ [PyData.int ((canon (kr r)).1 * ((U : Int) / (canon (kr r)).2))] = (List.range (L.length + 1)).map fun l => PyData.int (matA C L kr U r l) := by
  rw [List.range_succ, List.map_append, List.map_map]
  congr 1
  · rw [← map_getDn L 0 (PyData.int ∘ rowZ C L (L.getD r 0))]
    refine List.map_congr_left fun l hl => ?_
    rw [matA_lo (List.mem_range.mp hl)]
    rfl
  · have e : matA C L kr U r L.length = (canon (kr r)).1 * ((U : Int) / (canon (kr r)).2) := if_neg (Nat.lt_irrefl _)
    show _ = [PyData.int (matA C L kr U r L.length)]
    rw [e]
end Md
namespace Md
open PySem L2 Evl
theorem elim_exists {C : List PlC} (h : WfC C) {L : List Nat} (hn : L.Nodup) (hL : ∀ x ∈ L, x < C.length) (hO : Out C L) (kr : Nat → Rat) (U : Nat) : ∀ k, k ≤ L.length → ∃ T d, Elim L.length (matA C L kr U) k T d
  | 0, _ => ⟨_, 1, elim_start _ _⟩
  | k + 1, hk => by
    obtain ⟨T, d, hE⟩ := elim_exists h hn hL hO kr U k (by omega)
    exact ⟨_, _, (elim_step hE hk (pivot_pos h hn hL hO hE hk)).1⟩
theorem zt_scale {M s : Nat} {r : Rat} (h : Zt (M * s) r) : Zt M (r * natR s) := by
  obtain ⟨z, hz⟩ := h
  refine ⟨z, ?_⟩
  rw [Int.natCast_mul, Rat.intCast_mul] at hz
  rw [← hz]
  unfold natR
  grind
def constK (C : List PlC) (e kn : Nat → Rat) (x : Nat) : Rat := (e x + meanC C kn x) * ((scaleC C x : Int) : Rat)
theorem const_nb {C : List PlC} (hW : WfC C) {e kn : Nat → Rat} {M B x : Nat} (hx : x < C.length) (he : NB M B (e x)) (hk : ∀ y, y < C.length → NB M B (kn y)) : NB (M * scaleC C x) (2 * B) (e x + meanC C kn x) ∧ NB M (720 * B) (constK C e kn x) := by
  have m := nb_mean hW hx hk
  obtain ⟨s0, s1, _⟩ := scaleC_ok hW hx
  have z : Zt (M * scaleC C x) (e x + meanC C kn x) := (he.zt.dvd (Nat.dvd_mul_right _ _)).add m.zt
  have b2 : natR (2 * B) = natR B + natR B := by rw [natR_mul]; have : natR 2 = 2 := rfl; rw [this]; grind
  have l1 := he.lo
  have l2 := he.hi
  have l3 := m.lo
  have l4 := m.hi
  have lo : -natR (2 * B) ≤ e x + meanC C kn x := by rw [b2]; grind
  have hi : e x + meanC C kn x ≤ natR (2 * B) := by rw [b2]; grind
  refine ⟨⟨z, lo, hi⟩, zt_scale z, ?_, ?_⟩
  · have := (mul_bd lo hi (show -natR 360 ≤ natR (scaleC C x) by have := natR_nonneg (scaleC C x); have := natR_nonneg 360; grind) (natR_le s1)).1
    rw [← natR_mul] at this
    have e48 : 2 * B * 360 = 720 * B := by omega
    rw [e48] at this
    exact this
  · have := (mul_bd lo hi (show -natR 360 ≤ natR (scaleC C x) by have := natR_nonneg (scaleC C x); have := natR_nonneg 360; grind) (natR_le s1)).2
    rw [← natR_mul] at this
    have e48 : 2 * B * 360 = 720 * B := by omega
    rw [e48] at this
    exact this
theorem nats_get {L : List Nat} {r : Nat} (hr : r < L.length) : L[r]? = some (L.getD r 0) := by
  rw [List.getD_eq_getElem?_getD, List.getElem?_eq_getElem hr]
  rfl
def rowP (s x : Nat) (bs : List BrC) (y : Nat) : Int := (if y = x then (s : Int) else 0) - (bs.map fun q => if q.2 = y then cz s q else 0).sum
theorem intsum_snoc (l : List Int) (a : Int) : (l ++ [a]).sum = l.sum + a := by
  induction l with
  | nil => rw [List.nil_append, List.sum_cons, List.sum_nil]; omega
  | cons b l ih => rw [List.cons_append, List.sum_cons, List.sum_cons, ih]; omega
theorem rowP_snoc (s x : Nat) (bs : List BrC) (q : BrC) (y : Nat) : rowP s x (bs ++ [q]) y = rowP s x bs y - (if q.2 = y then cz s q else 0) := by
  unfold rowP
  rw [List.map_append, List.map_cons, List.map_nil, intsum_snoc]
  omega
theorem map_set_nodup {L : List Nat} (hn : L.Nodup) {j : Nat} (hj : j < L.length) {f g : Nat → Int} {v : Int} (h1 : g (L.getD j 0) = v) (h2 : ∀ y ∈ L, y ≠ L.getD j 0 → g y = f y) : ((L.map f).map V.int).set j (V.int v) = (L.map g).map V.int := by
  refine List.ext_getElem? fun i => ?_
  rw [List.getElem?_set, List.length_map, List.length_map, List.getElem?_map, List.getElem?_map, List.getElem?_map, List.getElem?_map]
  by_cases e : j = i
  · subst e
    rw [if_pos rfl, if_pos hj, nats_get hj]
    show some (V.int v) = some (V.int (g (L.getD j 0)))
    rw [h1]
  · rw [if_neg e]
    rcases Nat.lt_or_ge i L.length with z | z
    · rw [nats_get z]
      show some (V.int (f (L.getD i 0))) = some (V.int (g (L.getD i 0)))
      rw [h2 _ (getD_mem z) fun y => e (nodup_getD hn hj z y.symm)]
    · rw [List.getElem?_eq_none z]
      rfl
end Md
namespace Md
open PySem L2 Evl
section
variable {K : PySem.W.Frag} {σ : L2.St} {b h : Hp} {te tl ta tb : TE} {ts tk : TA} {E : XK} {C : List PlC}
end
def partF (L : List Nat) (f kn : Nat → Rat) (r : Nat) (y : Nat) : Rat := if y ∈ L.take r then f y else kn y
theorem partF_next {L : List Nat} {f kn : Nat → Rat} {r : Nat} (hr : r < L.length) (y : Nat) : partF L f kn (r + 1) y = if y = L.getD r 0 then f (L.getD r 0) else partF L f kn r y := by
  unfold partF
  rw [take_more1 (nats_get hr)]
  by_cases e : y = L.getD r 0
  · rw [if_pos e, if_pos (List.mem_append_right _ (by rw [e]; exact List.mem_singleton.mpr rfl)), e]
  · rw [if_neg e]
    by_cases z : y ∈ L.take r
    · rw [if_pos z, if_pos (List.mem_append_left _ z)]
    · rw [if_neg z, if_neg]
      intro h
      rcases List.mem_append.mp h with h | h
      · exact z h
      · exact e (List.mem_singleton.mp h)
end Md
namespace Md
theorem nodup_len {L : List Nat} {n : Nat} (h : L.Nodup) (hL : ∀ x ∈ L, x < n) : L.length ≤ n := by
  refine pigeon n L.length (fun i => L.getD i 0) (fun i hi => hL _ (getD_mem hi)) fun i j hij hj e => ?_
  have := nodup_getD h (by omega) hj e
  omega
end Md
namespace Md
open PySem L2 Evl
def IsDefD (K : PySem.W.Frag) (mg : Str → Option Value) (x : Str) (st : Stmt) (ps : List Str) (u : V) : Prop := ∃ f fd, FunD K x x (defArgs st) (defBody st) (defScope st) [u] [] f fd ∧ mg x = some (.ref f) ∧ ∃ ds, Vals [u] ds ∧ Binds K fd ps ds
def HasD (P : Program) (w : World) (K : PySem.W.Frag) (mg : Str → Option Value) (base : Heap) (k : Nat) (x : Str) (ps : List Str) (du : PyData) (sp : Sp) : Prop :=
  ∃ (u : V) (ds : List Value) (f : Addr) (fd : FuncData), (∀ H, Dt K H u du) ∧ Vals [u] ds ∧ FnOk P w K mg base CX0 k f fd ps sp ∧ mg x = some (.ref f) ∧ PySem.W.keepIn K (.ref f) = true ∧ Binds K fd ps ds
section
variable {K : PySem.W.Frag} {σ : L2.St} {b h : Hp} {ts : TA} {E : XK} {D : Ends} {tz : TS} {ds : List PyData} {sp : Sp} {u : V} {du : PyData}
theorem r_callD {i : Nat} (hu : ∀ H, Dt K H u du) (x : EDA K ts σ b ds) (e : Ex b h) (k : ∀ vs b' h', Gr b h b' h' → DtA K b' vs (ds ++ [du]) → sp vs h' (fun v h2 => tz D (σ.set i (some v)) h2) E) : tSeq (tAsg (tCall sp [u] E ts) (gName i)) tz D σ h :=
  x h e _ fun vs b' h' g hv => k (vs ++ [u]) b' h' g (hv.append (DtA.one (hu b')))
end
end Md
set_option Elab.async false
set_option linter.all false
set_option maxRecDepth 100000
set_option maxHeartbeats 2000000
namespace Md
open PySem L2 Evl
inductive Reach (C : List PlC) (x : Nat) : Nat → Prop
  | refl : Reach C x x
  | step {y : Nat} {q : BrC} : Reach C x y → q ∈ (plC C y).bs → Reach C x q.2
theorem Reach.trans {C : List PlC} {x y z : Nat} (h : Reach C x y) (g : Reach C y z) : Reach C x z := by
  induction g with
  | refl => exact h
  | step _ hq ih => exact ih.step hq
theorem Reach.lt {C : List PlC} (h : WfC C) {x y : Nat} (hx : x < C.length) (g : Reach C x y) : y < C.length := by
  induction g with
  | refl => exact hx
  | step _ hq ih => exact ((plC_wf h ih).q _ hq).2.2
noncomputable def reachL (C : List PlC) (x : Nat) : List Nat := (List.range C.length).filter fun y => @decide (Reach C x y) (Classical.propDecidable _)
theorem mem_reachL {C : List PlC} (h : WfC C) {x y : Nat} (hx : x < C.length) : y ∈ reachL C x ↔ Reach C x y := by
  unfold reachL
  rw [List.mem_filter, List.mem_range]
  exact ⟨fun z => @of_decide_eq_true _ (Classical.propDecidable _) z.2, fun z => ⟨z.lt h hx, @decide_eq_true _ (Classical.propDecidable _) z⟩⟩
theorem range_sorted (n : Nat) : (List.range n).Pairwise (· < ·) := List.pairwise_lt_range
theorem sorted_ext : ∀ {l m : List Int}, l.Pairwise (· < ·) → m.Pairwise (· < ·) → (∀ y, y ∈ l ↔ y ∈ m) → l = m
  | [], [], _, _, _ => rfl
  | [], b :: m, _, _, h => by
    have := (h b).mpr (List.mem_cons_self ..)
    cases this
  | a :: l, [], _, _, h => by
    have := (h a).mp (List.mem_cons_self ..)
    cases this
  | a :: l, b :: m, hl, hm, h => by
    rw [List.pairwise_cons] at hl hm
    have e : a = b := by
      have h1 := (h a).mp (List.mem_cons_self ..)
      have h2 := (h b).mpr (List.mem_cons_self ..)
      rcases List.mem_cons.mp h1 with z | z
      · exact z
      · rcases List.mem_cons.mp h2 with y | y
        · exact y.symm
        · have := hl.1 b y
          have := hm.1 a z
          omega
    subst e
    congr 1
    refine sorted_ext hl.2 hm.2 fun y => ⟨fun hy => ?_, fun hy => ?_⟩
    · rcases List.mem_cons.mp ((h y).mp (List.mem_cons_of_mem _ hy)) with z | z
      · have := hl.1 y hy
        omega
      · exact z
    · rcases List.mem_cons.mp ((h y).mpr (List.mem_cons_of_mem _ hy)) with z | z
      · have := hm.1 y hy
        omega
      · exact z
theorem found_sorted {C : List PlC} (h : WfC C) {x : Nat} (hx : x < C.length) {fl : List Nat} (hn : fl.Nodup) (hm : ∀ y, y ∈ fl ↔ Reach C x y) {ns : List Int} (hp : ns.Perm (fl.map fun y : Nat => (y : Int))) (hs : ns.Pairwise (· ≤ ·)) : ns = (reachL C x).map fun y : Nat => (y : Int) := by
  have hnd : ns.Nodup := by
    refine hp.nodup_iff.mpr ?_
    exact List.Pairwise.map _ (fun a b hab e => hab (by omega)) hn
  refine sorted_ext ?_ ?_ fun y => ?_
  · have := hs.and hnd
    exact this.imp fun {a b} z => by
      have h1 := z.1
      have h2 := z.2
      omega
  · refine List.Pairwise.map _ (fun a b hab => ?_) ((range_sorted C.length).filter _)
    omega
  · rw [hp.mem_iff, List.mem_map, List.mem_map]
    constructor
    · rintro ⟨z, hz, rfl⟩
      exact ⟨z, (mem_reachL h hx).mpr ((hm z).mp hz), rfl⟩
    · rintro ⟨z, hz, rfl⟩
      exact ⟨z, (hm z).mpr ((mem_reachL h hx).mp hz), rfl⟩
theorem small11 : SmallN (1, 1) := ⟨by decide, by decide, by decide, by decide⟩
section
variable {K : PySem.W.Frag} {σ : L2.St} {b h : Hp} {te tl ta tb : TE} {t : TT} {ts tk : TA} {E : XK} {D : Ends} {tz : TS} {C : List PlC} {d : PyData} {ds : List PyData} {a : Addr} {us : List V}
theorem plG_D (p : PlC) : (plG p).D = p.D := by
  show PyData.tuple [nD p.g, .str "draw", .list ((p.bs.map fun q => (q.1, (q.2 : Int))).map brD)] = PyData.tuple [nD p.g, .str "draw", .list (p.bs.map brC)]
  rw [List.map_map]
  rfl
theorem ed_targetsC {p : PlC} (y : EDA K ts σ b [p.D]) (hl : p.bs.length ≤ 6) : ED K (tCall (spTargets K) [] E ts) σ b (natsD (p.bs.map (·.2))) := by
  rw [← plG_D] at y
  have := ed_targets (E := E) y (by show ((p.bs.map fun q => (q.1, (q.2 : Int))).map brD).length ≤ 6; rw [List.length_map, List.length_map]; exact hl)
  have e : intsD (plG p).tg = natsD (p.bs.map (·.2)) := by
    show PyData.list (((p.bs.map fun q => (q.1, (q.2 : Int))).map (·.2)).map PyData.int) = PyData.list ((p.bs.map (·.2)).map fun x : Nat => PyData.int (x : Int))
    rw [List.map_map, List.map_map, List.map_map]
    rfl
  rw [e] at this
  exact this
end
def spReach (K : PySem.W.Frag) : Sp := fun vs h Q _ => ∃ (b : Hp) (C : List PlC) (x : Nat), Ex b h ∧ DtA K b vs [chD C, .int (x : Int)] ∧ WfC C ∧ x < C.length ∧ ∀ v b' h', Gr b h b' h' → Dt K b' v (natsD (reachL C x)) → Q v h'
section
variable {K : PySem.W.Frag} {σ : L2.St} {b h : Hp} {ts : TA} {E : XK} {C : List PlC} {x : Nat}
theorem ed_reach (y : EDA K ts σ b [chD C, .int (x : Int)]) (h1 : WfC C) (h2 : x < C.length) : ED K (tCall (spReach K) [] E ts) σ b (natsD (reachL C x)) := fun h e _ qq =>
  y h e _ fun vs b2 h2' g2 hv => ⟨b2, C, x, g2.gi, by rw [List.append_nil]; exact hv, h1, h2, fun v b3 h3 g3 hv3 => qq v b3 h3 (g2.trans g3) hv3⟩
end
end Md
namespace Md
open PySem L2 Evl
end Md
namespace Md
open PySem L2 Evl
theorem r_retCD {K : PySem.W.Frag} {σ : L2.St} {b h : Hp} {ts : TA} {ds : List PyData} {sp : Sp} {E : XK} {D : Ends} {u : V} {du : PyData} (hu : ∀ H, Dt K H u du) (y : EDA K ts σ b ds) (e : Ex b h) (k : ∀ vs b' h', Gr b h b' h' → DtA K b' vs (ds ++ [du]) → sp vs h' (fun v h2 => D.rt v h2) E) : tRet (tCall sp [u] E ts) D σ h :=
  y h e _ fun vs b' h' g hv => k (vs ++ [u]) b' h' g (hv.append (DtA.one (hu b')))
end Md
namespace Md
open PySem L2 Evl
theorem okD {P : Program} {w : World} {K : PySem.W.Frag} {mg : Str → Option Value} {base : Heap} {x : Str} {st : Stmt} {f : Addr} {fd : FuncData} {N ps : List Str} {k : Nat} {sp : Sp} {dvs : List V} (F : FunD K x x (defArgs st) (defBody st) (defScope st) dvs [] f fd) (S : FnScope N ps (defScope st)) (len : ∀ vs H Q E, sp vs H Q E → vs.length = ps.length)
    (hbody : ∀ (cdv : Value) (A : PySem.Around) (outer : List Env) (s : Shared) (H : Hp) (vs : List V) (Q : VK) (E : XK), Room k (A.deeper (PyProof.Rows.envOfC x (defScope st) s.heap.objs.size f cdv)) → sp vs H Q E →
      ∃ t, PSs (cxOf CX0 P w K mg base N x (defScope st) f cdv A outer s H E).nox (defBody st) t ∧ t { nx := fun _ H' => Q .non H', rt := Q } (start N vs) H) : FnOk P w K mg base CX0 (k + 1) f fd ps sp :=
  F.ok S len fun cdv A outer s H vs Q E hr hsp => by
    obtain ⟨t, h, q⟩ := hbody cdv A outer s H vs Q E hr hsp
    exact ⟨t, h.nox, q⟩
end Md
set_option Elab.async false
set_option linter.all false
set_option maxRecDepth 100000
set_option maxHeartbeats 2000000
namespace Md
open PySem L2 Evl
inductive Back (g : Nat → Bool) (tg : Nat → List Nat) (n : Nat) (S : List Nat) : Nat → Prop
  | base {y : Nat} : y ∈ S → Back g tg n S y
  | step {k t : Nat} : k < n → g k = true → t ∈ tg k → Back g tg n S t → Back g tg n S k
structure PInv (g : Nat → Bool) (tg : Nat → List Nat) (n : Nat) (S0 S : List Nat) : Prop where
  nd : S.Nodup
  lt : ∀ y ∈ S, y < n
  sub : ∀ y ∈ S0, y ∈ S
  bk : ∀ y ∈ S, Back g tg n S0 y
variable {g : Nat → Bool} {tg : Nat → List Nat} {n : Nat} {S0 S : List Nat}
end Md
namespace Md
open PySem L2 Evl
section
variable {K : PySem.W.Frag} {σ : L2.St} {b h : Hp} {ts : TA} {E : XK} {C : List PlC} {x : Nat} {r s : Rat}
end
theorem wf_sure_one {n t : Nat} {g : Int × Int} (hg : SmallN g) (h : t < n) : WfB n ⟨g, [((1, 1), t)]⟩ := by
  refine ⟨hg, by show 1 ≤ 1; decide, by show 1 ≤ 6; decide, fun q hq => ?_, ⟨1, by decide, by decide, fun q hq => ?_⟩, ?_⟩
  · have : q = ((1, 1), t) := List.mem_singleton.mp hq
    rw [this]
    exact ⟨small11, (show (0 : Int) < 1 by decide), h⟩
  · have : q = ((1, 1), t) := List.mem_singleton.mp hq
    rw [this]
    exact Nat.dvd_refl 1
  · show (qN (1, 1) + 0 : Rat) = 1
    rw [q_one, Rat.add_zero]
end Md
set_option Elab.async false
set_option linter.all false
set_option maxRecDepth 100000
set_option maxHeartbeats 2000000
namespace Md
open PySem L2 Evl
section
variable {K : PySem.W.Frag} {σ : L2.St} {b h : Hp} {ts : TA} {ta tb te : TE} {E : XK} {C : List PlC} {x : Nat} {r s : Rat} {p : Addr} {us : List V} {d : PyData} {ds : List PyData}
def LayD (d : PyData) : Prop := d.canLay0 = true ∧ d.depth ≤ 8
theorem lay_list (h : ∀ d ∈ ds, LayD d) : (PyData.list ds).canLay0 = true ∧ (PyData.list ds).depth ≤ 9 := by
  refine ⟨lay_all fun d hd => (h d hd).1, ?_⟩
  show PyData.depthAll ds + 1 ≤ 9
  have := dep_all (k := 8) (ds := ds) fun d hd => (h d hd).2
  omega
end
end Md
set_option Elab.async false
set_option linter.all false
set_option maxRecDepth 100000
set_option maxHeartbeats 2000000
namespace Md
open PySem L2 Evl
theorem gains_list (C : List PlC) (h : WfC C) : numsD (gainsC C) = listQ C.length (gainC C) := by
  rw [listQ_nums]
  congr 1
  have : ((List.range C.length).map fun k => canon (gainC C k)) = (List.range C.length).map fun k => (plC C k).g := List.map_congr_left fun k hk => small_Q (plC_wf h (List.mem_range.mp hk)).g
  rw [this, map_plC C (·.g)]
  rfl
theorem gain_nb {C : List PlC} (h : WfC C) {y : Nat} (hy : y < C.length) : NB (denL (gainsC C)) 1000 (gainC C y) := by
  have hw := plC_wf h hy
  have c := q_small hw.g
  exact ⟨zt_den (red_small hw.g) (denL_dvd (List.mem_map.mpr ⟨plC C y, List.mem_of_getElem? (plC_get hy), rfl⟩)), c.1, c.2⟩
theorem unit_lt {C : List PlC} (h : WfC C) : 0 < denL (gainsC C) ∧ denL (gainsC C) < 2 ^ 120 := by
  refine ⟨(unit_ok h).1, Nat.lt_of_le_of_lt (unit_ok h).2 ?_⟩
  exact Nat.lt_of_le_of_lt (Nat.pow_le_pow_right (by decide) h.l12) (by decide +kernel)
section
variable {K : PySem.W.Frag} {σ : L2.St} {b h : Hp} {ts ts1 ts2 : TA} {ta tb te : TE} {E : XK} {C : List PlC} {x : Nat} {r s : Rat} {p : Addr} {us : List V} {d : PyData} {ds : List PyData} {D : Ends} {tz : TS}
end
end Md
set_option Elab.async false
set_option linter.all false
set_option maxRecDepth 100000
set_option maxHeartbeats 2000000
namespace Md
open PySem L2 Evl
def isHead (C : List PlC) (R : Nat → List Nat) (x : Nat) : Bool := (R x).getD 0 0 == x && (R x).all fun y => R y == R x
noncomputable def headsL (C : List PlC) : List Nat := (List.range C.length).filter (isHead C (reachL C))
noncomputable def groupsL (C : List PlC) : List (List Nat) := (headsL C).map (reachL C)
noncomputable def passL (C : List PlC) : List Nat := (List.range C.length).filter fun x => !decide (x ∈ (groupsL C).flatten)
theorem reach_nodup (C : List PlC) (x : Nat) : (reachL C x).Nodup := List.nodup_range.filter _
theorem reach_lt {C : List PlC} {x y : Nat} (h : y ∈ reachL C x) : y < C.length := by
  unfold reachL at h
  exact List.mem_range.mp (List.mem_filter.mp h).1
variable {C : List PlC}
theorem self_mem (h : WfC C) {x : Nat} (hx : x < C.length) : x ∈ reachL C x := (mem_reachL h hx).mpr .refl
structure IsGrp (C : List PlC) (x : Nat) (L : List Nat) : Prop where
  nd : (x :: L).Nodup
  lt : ∀ y ∈ x :: L, y < C.length
  al : ∀ y ∈ x :: L, reachL C y = x :: L
theorem mem_heads {x : Nat} : x ∈ headsL C ↔ x < C.length ∧ (reachL C x).getD 0 0 = x ∧ ∀ y ∈ reachL C x, reachL C y = reachL C x := by
  unfold headsL isHead
  rw [List.mem_filter, List.mem_range, Bool.and_eq_true, beq_iff_eq, List.all_eq_true]
  exact ⟨fun ⟨a, b, c⟩ => ⟨a, b, fun y hy => eq_of_beq (c y hy)⟩, fun ⟨a, b, c⟩ => ⟨a, b, fun y hy => beq_iff_eq.mpr (c y hy)⟩⟩
theorem head_grp (h : WfC C) {x : Nat} (hx : x ∈ headsL C) : ∃ L, reachL C x = x :: L ∧ IsGrp C x L := by
  obtain ⟨h1, h2, h3⟩ := mem_heads.mp hx
  have hs := self_mem h h1
  cases e : reachL C x with
  | nil => rw [e] at hs; cases hs
  | cons a L =>
    rw [e] at h2 h3
    have h2' : a = x := h2
    subst h2'
    refine ⟨L, rfl, by rw [← e]; exact reach_nodup C a, fun y hy => reach_lt (by rw [e]; exact hy), h3⟩
theorem grp_closed (h : WfC C) {x : Nat} {L : List Nat} (g : IsGrp C x L) {y : Nat} (hy : y ∈ x :: L) {q : BrC} (hq : q ∈ (plC C y).bs) : q.2 ∈ x :: L := by
  rw [← g.al y hy]
  exact (mem_reachL h (g.lt y hy)).mpr (Reach.refl.step hq)
theorem closed_reach {Z : Nat → Prop} (hZ : ∀ x, Z x → ∀ q ∈ (plC C x).bs, Z q.2) {x y : Nat} (hx : Z x) (r : Reach C x y) : Z y := by
  induction r with
  | refl => exact hx
  | step _ hq ih => exact hZ _ ih _ hq
theorem out_tail (h : WfC C) {x : Nat} {L : List Nat} (g : IsGrp C x L) : Out C L := fun Z ⟨z, hz⟩ hsub => by
  refine Classical.byContradiction fun hno => ?_
  have hcl : ∀ w, Z w → ∀ q ∈ (plC C w).bs, Z q.2 := fun w hw q hq => Classical.byContradiction fun hn => hno ⟨w, hw, q, hq, hn⟩
  have hzm := List.mem_cons_of_mem x (hsub z hz)
  have r : Reach C z x := (mem_reachL h (g.lt z hzm)).mp (by rw [g.al z hzm]; exact List.mem_cons_self ..)
  have hxL := hsub x (closed_reach hcl hz r)
  exact (List.nodup_cons.mp g.nd).1 hxL
theorem mem_pass {x : Nat} : x ∈ passL C ↔ x < C.length ∧ ∀ y ∈ headsL C, x ∉ reachL C y := by
  unfold passL groupsL
  rw [List.mem_filter, List.mem_range, Bool.not_eq_true', decide_eq_false_iff_not, List.mem_flatten]
  constructor
  · rintro ⟨a, b⟩
    exact ⟨a, fun y hy hx => b ⟨_, List.mem_map.mpr ⟨y, hy, rfl⟩, hx⟩⟩
  · rintro ⟨a, b⟩
    refine ⟨a, ?_⟩
    rintro ⟨l, hl, hx⟩
    obtain ⟨y, hy, rfl⟩ := List.mem_map.mp hl
    exact b y hy hx
theorem reach_sub (h : WfC C) {z w : Nat} (hz : z < C.length) (r : Reach C z w) : ∀ y ∈ reachL C w, y ∈ reachL C z := fun y hy => (mem_reachL h hz).mpr (r.trans ((mem_reachL h (r.lt h hz)).mp hy))
theorem filter_eq_of {n : Nat} {p q : Nat → Bool} (h1 : ∀ y ∈ (List.range n).filter p, y ∈ (List.range n).filter q) (h2 : ((List.range n).filter q).length ≤ ((List.range n).filter p).length) : (List.range n).filter p = (List.range n).filter q := by
  have hs : ∀ y ∈ (List.range n).filter q, y ∈ (List.range n).filter p := fun y hy => Classical.byContradiction fun hn => by
    have hnd : (y :: (List.range n).filter p).Nodup := List.nodup_cons.mpr ⟨hn, List.nodup_range.filter _⟩
    have := hnd.length_le_of_subset (l₂ := (List.range n).filter q) (fun a ha => by
      rcases List.mem_cons.mp ha with rfl | ha
      · exact hy
      · exact h1 a ha)
    rw [List.length_cons] at this
    omega
  refine List.filter_congr fun y hy => ?_
  rw [Bool.eq_iff_iff]
  exact ⟨fun z => (List.mem_filter.mp (h1 y (List.mem_filter.mpr ⟨hy, z⟩))).2, fun z => (List.mem_filter.mp (hs y (List.mem_filter.mpr ⟨hy, z⟩))).2⟩
theorem leastZ (f : Nat → Nat) {Z : Nat → Prop} : ∀ (k z : Nat), f z ≤ k → Z z → ∃ w, Z w ∧ ∀ v, Z v → f w ≤ f v
  | 0, z, h, hz => ⟨z, hz, fun v _ => by omega⟩
  | k + 1, z, h, hz => by
    by_cases c : ∃ v, Z v ∧ f v ≤ k
    · obtain ⟨v, hv, hk⟩ := c
      exact leastZ f k v hk hv
    · exact ⟨z, hz, fun v hv => Nat.le_of_not_lt fun hlt => c ⟨v, hv, by omega⟩⟩
theorem grp_in (h : WfC C) {Z : Nat → Prop} {z : Nat} (hz : Z z) (hlt : ∀ x, Z x → x < C.length) (hcl : ∀ w, Z w → ∀ q ∈ (plC C w).bs, Z q.2) : ∃ w x, Z w ∧ x ∈ headsL C ∧ w ∈ reachL C x := by
  obtain ⟨w, hw, hmin⟩ := leastZ (fun x => (reachL C x).length) _ z (Nat.le_refl _) hz
  have hwl := hlt w hw
  have key : ∀ y ∈ reachL C w, reachL C y = reachL C w := fun y hy => by
    have r := (mem_reachL h hwl).mp hy
    exact filter_eq_of (reach_sub h hwl r) (hmin y (closed_reach hcl hw r))
  have hs := self_mem h hwl
  cases e : reachL C w with
  | nil => rw [e] at hs; cases hs
  | cons a L =>
    have ha : a ∈ reachL C w := by rw [e]; exact List.mem_cons_self ..
    have ea := key a ha
    refine ⟨w, a, hw, mem_heads.mpr ⟨reach_lt ha, by rw [ea, e]; rfl, fun y hy => ?_⟩, by rw [ea]; exact hs⟩
    rw [ea] at hy
    rw [key y hy, ea]
theorem out_pass (h : WfC C) : Out C (passL C) := fun Z ⟨z, hz⟩ hsub => by
  refine Classical.byContradiction fun hno => ?_
  have hcl : ∀ w, Z w → ∀ q ∈ (plC C w).bs, Z q.2 := fun w hw q hq => Classical.byContradiction fun hn => hno ⟨w, hw, q, hq, hn⟩
  obtain ⟨w, x, hw, hx, hm⟩ := grp_in h hz (fun x hx => (mem_pass.mp (hsub x hx)).1) hcl
  exact (mem_pass.mp (hsub w hw)).2 x hx hm
theorem heads_one (h : WfC C) {x y z : Nat} (hx : x ∈ headsL C) (hy : y ∈ headsL C) (h1 : z ∈ reachL C x) (h2 : z ∈ reachL C y) : x = y := by
  obtain ⟨a1, a2, a3⟩ := mem_heads.mp hx
  obtain ⟨b1, b2, b3⟩ := mem_heads.mp hy
  rw [← a2, ← b2, ← a3 z h1, ← b3 z h2]
theorem pass_lt : ∀ x ∈ passL C, x < C.length := fun x hx => (mem_pass.mp hx).1
theorem pass_nodup : (passL C).Nodup := List.nodup_range.filter _
theorem heads_nodup : (headsL C).Nodup := List.nodup_range.filter _
theorem pass_or {x : Nat} (hx : x < C.length) : x ∈ passL C ∨ ∃ y ∈ headsL C, x ∈ reachL C y := by
  by_cases c : ∃ y ∈ headsL C, x ∈ reachL C y
  · exact .inr c
  · exact .inl (mem_pass.mpr ⟨hx, fun y hy hm => c ⟨y, hy, hm⟩⟩)
theorem mean_congr (h : WfC C) {x : Nat} {f g : Nat → Rat} (e : ∀ q ∈ (plC C x).bs, f q.2 = g q.2) : meanC C f x = meanC C g x := wsum_congr e
theorem mean_mulC (c : Rat) (f : Nat → Rat) (x : Nat) : meanC C (fun y => c * f y) x = c * meanC C f x := wsum_mul _ _ _
theorem mean_const (h : WfC C) (c : Rat) {x : Nat} (hx : x < C.length) : meanC C (fun _ => c) x = c := by
  have e : (fun _ : Nat => c) = fun y => c * (fun _ => (1 : Rat)) y := by
    funext y
    grind
  rw [e, mean_mulC, mean_one h hx, Rat.mul_one]
structure GrpMean (C : List PlC) (x : Nat) (L : List Nat) (e : Nat → Rat) (m : Rat) : Prop where
  ex : ∃ s t, IsFill C L e (fun _ => 0) s ∧ IsFill C L (fun _ => 1) (fun _ => 0) t ∧ m = (e x + meanC C s x) / (1 + meanC C t x)
theorem steps_nn (h : WfC C) {x : Nat} {L : List Nat} (g : IsGrp C x L) {t : Nat → Rat} (ht : IsFill C L (fun _ => 1) (fun _ => 0) t) : (∀ y, 0 ≤ t y) ∧ ∀ k, k < C.length → 0 ≤ meanC C t k := by
  have hL : ∀ y ∈ L, y < C.length := fun y hy => g.lt y (List.mem_cons_of_mem x hy)
  have key := max_closed h hL (out_tail h g) (f := fun y => (-1) * t y) (fun y _ hy => by
    show (-1) * t y ≤ 0
    rw [ht.out y hy]
    grind) fun y hy => by
      rw [mean_mulC]
      have e := ht.eq y hy
      grind
  have nn : ∀ y, 0 ≤ t y := fun y => by
    by_cases hy : y ∈ L
    · have k := key y hy
      have k' : (-1) * t y ≤ 0 := k
      grind
    · rw [ht.out y hy]
      exact Rat.le_refl
  exact ⟨nn, fun k hk => mean_ge h hk fun j _ => nn j⟩
theorem grp_round (h : WfC C) {x : Nat} {L : List Nat} (g : IsGrp C x L) {e : Nat → Rat} {m : Rat} (hm : GrpMean C x L e m) {s : Nat → Rat} (hs : IsFill C L (fun y => e y - m) (fun _ => 0) s) : (e x - m) + meanC C s x = 0 := by
  obtain ⟨s1, t, h1, h2, h3⟩ := hm.ex
  have hL : ∀ y ∈ L, y < C.length := fun y hy => g.lt y (List.mem_cons_of_mem x hy)
  have e1 : IsFill C L (fun y => e y - m) (fun _ => 0) (fun y => s1 y - m * t y) := ⟨fun y hy => by
    rw [mean_sub, mean_mulC]
    have a := h1.eq y hy
    have b := h2.eq y hy
    grind, fun y hy => by
    show s1 y - m * t y = 0
    rw [h1.out y hy, h2.out y hy]
    grind⟩
  have e2 := fill_unique h hL (out_tail h g) hs e1
  have e3 : meanC C s x = meanC C s1 x - m * meanC C t x := by
    rw [← mean_mulC, ← mean_sub]
    exact wsum_congr fun q _ => e2 q.2
  have ht := (steps_nn h g h2).2 x (g.lt x (List.mem_cons_self ..))
  have hT : 1 + meanC C t x ≠ 0 := by grind
  rw [e3]
  have : m * (1 + meanC C t x) = e x + meanC C s1 x := by
    rw [h3]
    grind
  grind
structure LongOk (C : List PlC) (g : Nat → Rat) : Prop where
  grp : ∀ x ∈ headsL C, ∀ L, reachL C x = x :: L → ∃ m, GrpMean C x L (gainC C) m ∧ ∀ y ∈ x :: L, g y = m
  pas : ∀ x ∈ passL C, g x = meanC C g x
structure LeadOk (C : List PlC) (g f : Nat → Rat) : Prop where
  grp : ∀ x ∈ headsL C, ∀ L, reachL C x = x :: L → ∃ s m, IsFill C L (fun y => gainC C y - g y) (fun _ => 0) s ∧ GrpMean C x L s m ∧ ∀ y ∈ x :: L, f y = s y - m
  pas : ∀ x ∈ passL C, f x = gainC C x - g x + meanC C f x
theorem long_mean (h : WfC C) {g : Nat → Rat} (hg : LongOk C g) {x : Nat} (hx : x < C.length) : g x = meanC C g x := by
  rcases pass_or hx with hp | ⟨z, hz, hm⟩
  · exact hg.pas x hp
  · obtain ⟨L, e, G⟩ := head_grp h hz
    obtain ⟨m, _, h2⟩ := hg.grp z hz L e
    rw [e] at hm
    rw [h2 x hm, mean_congr h (g := fun _ => m) fun q hq => h2 _ (grp_closed h G hm hq), mean_const h m hx]
theorem lead_eq (h : WfC C) {g f : Nat → Rat} (hg : LongOk C g) (hf : LeadOk C g f) {x : Nat} (hx : x < C.length) : g x + f x = gainC C x + meanC C f x := by
  rcases pass_or hx with hp | ⟨z, hz, hm⟩
  · have := hf.pas x hp
    grind
  · obtain ⟨L, e, G⟩ := head_grp h hz
    obtain ⟨m, hm1, h2⟩ := hg.grp z hz L e
    obtain ⟨s, m2, hs, _, h3⟩ := hf.grp z hz L e
    rw [e] at hm
    have em : meanC C f x = meanC C s x - m2 := by
      rw [mean_congr h (g := fun y => s y - m2) fun q hq => h3 _ (grp_closed h G hm hq), mean_sub, mean_const h m2 hx]
    have hs' : IsFill C L (fun y => gainC C y - m) (fun _ => 0) s := ⟨fun y hy => by
      have := hs.eq y hy
      rw [h2 y (List.mem_cons_of_mem z hy)] at this
      exact this, hs.out⟩
    rw [h3 x hm, em, h2 x hm]
    rcases List.mem_cons.mp hm with rfl | hxL
    · have r := grp_round h G hm1 hs'
      have s0 := hs.out x (List.nodup_cons.mp G.nd).1
      grind
    · have := hs'.eq x hxL
      grind
theorem share_sum (h : WfC C) {x : Nat} {L : List Nat} (G : IsGrp C x L) {p e u : Nat → Rat} (hp : ∀ f : Nat → Rat, ((x :: L).map fun y => p y * meanC C f y).sum = ((x :: L).map fun y => p y * f y).sum) (hu : IsFill C L e (fun _ => 0) u) :
    ((x :: L).map fun y => p y * e y).sum = p x * (e x + meanC C u x) := by
  have hx : x ∉ L := (List.nodup_cons.mp G.nd).1
  have e1 := hp u
  rw [List.map_cons, List.map_cons, List.sum_cons, List.sum_cons, hu.out x hx] at e1
  have e2 : (L.map fun y => p y * u y).sum = (L.map fun y => p y * e y).sum + (L.map fun y => p y * meanC C u y).sum := by
    have : ∀ M : List Nat, (∀ y ∈ M, y ∈ L) → (M.map fun y => p y * u y).sum = (M.map fun y => p y * e y).sum + (M.map fun y => p y * meanC C u y).sum := by
      intro M
      induction M with
      | nil =>
        intro _
        show (0 : Rat) = 0 + 0
        grind
      | cons a M ih =>
        intro hM
        rw [List.map_cons, List.map_cons, List.map_cons, List.sum_cons, List.sum_cons, List.sum_cons, ih fun y hy => hM y (List.mem_cons_of_mem a hy), hu.eq a (hM a (List.mem_cons_self ..))]
        grind
    exact this L fun y hy => hy
  rw [List.map_cons, List.sum_cons]
  grind
theorem lead_share (h : WfC C) {g f : Nat → Rat} (hf : LeadOk C g f) {x : Nat} (hx : x ∈ headsL C) {L : List Nat} (e : reachL C x = x :: L) (G : IsGrp C x L) {p : Nat → Rat} (hp : ∀ f : Nat → Rat, ((x :: L).map fun y => p y * meanC C f y).sum = ((x :: L).map fun y => p y * f y).sum) :
    ((x :: L).map fun y => p y * f y).sum = 0 := by
  obtain ⟨s, m, hs, hm, h3⟩ := hf.grp x hx L e
  obtain ⟨u, t, hu, ht, hq⟩ := hm.ex
  have a1 := share_sum h G hp hu
  have a2 := share_sum h G hp ht
  have key : ∀ M : List Nat, (∀ y ∈ M, y ∈ x :: L) → (M.map fun y => p y * f y).sum = (M.map fun y => p y * s y).sum - m * (M.map fun y => p y * (fun _ => (1 : Rat)) y).sum := by
    intro M
    induction M with
    | nil =>
      intro _
      show (0 : Rat) = 0 - m * 0
      grind
    | cons a M ih =>
      intro hM
      rw [List.map_cons, List.map_cons, List.map_cons, List.sum_cons, List.sum_cons, List.sum_cons, ih fun y hy => hM y (List.mem_cons_of_mem a hy), h3 a (hM a (List.mem_cons_self ..))]
      grind
  rw [key _ fun y hy => hy, a1, a2]
  have hT : 1 + meanC C t x ≠ 0 := by
    have := (steps_nn h G ht).2 x (G.lt x (List.mem_cons_self ..))
    grind
  have : m * (1 + meanC C t x) = s x + meanC C u x := by
    rw [hq]
    grind
  grind
end Md
set_option Elab.async false
set_option linter.all false
set_option maxRecDepth 100000
set_option maxHeartbeats 2000000
namespace Md
open PySem L2 Evl
def detC (C : List PlC) (L : List Nat) : Rat := Fd L.length fun col r => ((rowZ C L (L.getD r 0) (L.getD col 0) : Int) : Rat)
theorem elim_dS {n : Nat} {a : Nat → Nat → Int} {k : Nat} {T : Nat → Nat → Int} {d : Int} (h : Elim n a k T d) (hn : n ≤ 12) (hk : k ≤ n) {B : Nat} (hB : 1 ≤ B) (ha : ∀ r l, r < n → l < n → (a r l).natAbs ≤ B) : d ≤ ((12 * B) ^ k : Nat) := by
  have := (Fd_bd (B := natR B) k (c := fun col r => qa a r col) fun col r h1 h2 => by
    have := ha r col (by omega) (by omega)
    constructor
    · have e : -natR B = (((-(B : Int)) : Int) : Rat) := by rw [Rat.intCast_neg]; rfl
      rw [e]
      exact le_cast (by omega)
    · exact le_cast (by omega)).2
  rw [← h.det, fbd_nat] at this
  have e := cast_le this
  have e2 := fbN_le (B := B) (k := k) (by omega)
  omega
theorem fill_nbS {C : List PlC} (hW : WfC C) {L : List Nat} (hn : L.Nodup) (hl : L.length ≤ 12) (hL : ∀ x ∈ L, x < C.length) {kr : Nat → Rat} {U M B : Nat} (hU : 0 < U) (hUM : U ∣ M) {T : Nat → Nat → Int} {d : Int} (hB : 1 ≤ B)
    (hd : ∀ r, r < L.length → (canon (kr r)).2.natAbs ∣ U) (hk : ∀ r, r < L.length → -natR B ≤ kr r ∧ kr r ≤ natR B) (hE : Elim L.length (matA C L kr U) L.length T d) :
    d.toNat ≤ 4320 ^ L.length ∧ ∀ j, j < L.length → NB (M * d.toNat) (B * 4320 ^ L.length) (qa T j L.length / ((d : Rat) * natR U)) := by
  have hp := hE.pos
  have d0 : (d : Rat) ≠ 0 := cast_ne (by omega)
  have u0 : natR U ≠ 0 := nat_ne hU
  have hlo : ∀ r l, r < L.length → l < L.length → (matA C L kr U r l).natAbs ≤ 360 := fun r l h1 h2 => by
    rw [matA_lo h2]
    exact rowZ_bd hW L (hL _ (getD_mem h1)) _
  have hdl := elim_dS hE hl (Nat.le_refl _) (B := 360) (by decide) hlo
  have hdn : d.toNat ≤ 4320 ^ L.length := by
    have : (12 * 360) = 4320 := rfl
    rw [this] at hdl
    omega
  have ed : ((d.toNat : Nat) : Int) = d := Int.toNat_of_nonneg (by omega)
  refine ⟨hdn, fun j hj => ?_⟩
  -- the column of the constants, made small
  have hv : ∀ r, r < L.length → qa (matA C L kr U) r L.length = natR (U * B) * (kr r / natR B) := fun r hr => by
    have b0 : natR B ≠ 0 := nat_ne hB
    unfold qa matA
    rw [if_neg (Nat.lt_irrefl _), whole_q (canon_red _) (hd r hr), q_canon, natR_mul]
    show kr r * natR U = _
    grind
  have e1 := elim_col hE hj (Nat.le_refl L.length)
  have e2 : Fd L.length (upc (fun col r => qa (matA C L kr U) r col) j fun r => qa (matA C L kr U) r L.length) = natR (U * B) * Fd L.length (upc (fun col r => qa (matA C L kr U) r col) j fun r => kr r / natR B) := by
    rw [← Fd_mul _ _ _ _ _ hj]
    refine Fd_congr _ fun col r h1 h2 => ?_
    by_cases z : col = j
    · rw [z, upc_same, upc_same]
      exact hv r h2
    · rw [upc_ne z, upc_ne z]
  have bF := Fd_bd (B := natR 360) L.length (c := upc (fun col r => qa (matA C L kr U) r col) j fun r => kr r / natR B) fun col r h1 h2 => by
    by_cases z : col = j
    · rw [z, upc_same]
      have hBp := natR_pos hB
      have h3 := hk r h2
      have c1 : kr r / natR B ≤ 1 := div_le' hBp (by rw [Rat.one_mul]; exact h3.2)
      have c2 : (-1 : Rat) ≤ kr r / natR B := le_div' hBp (by grind)
      have : natR 360 = 360 := rfl
      rw [this]
      constructor <;> grind
    · rw [upc_ne z]
      exact abs_to (hlo r col h2 h1)
  rw [fbd_nat] at bF
  have f288 : natR (fbN 360 L.length) ≤ natR (4320 ^ L.length) := natR_le (fbN_le (B := 360) hl)
  generalize hFe : Fd L.length (upc (fun col r => qa (matA C L kr U) r col) j fun r => kr r / natR B) = FF at *
  have et : qa T j L.length / ((d : Rat) * natR U) = natR B * FF * (1 / (d : Rat)) := by
    rw [e1, e2, natR_mul]
    grind
  have dpos : (0 : Rat) < (d : Rat) := cast_pos hp
  have done : (1 : Rat) ≤ (d : Rat) := (show ((1 : Int) : Rat) ≤ (d : Rat) from le_cast (by omega))
  have i1 : 1 / (d : Rat) ≤ 1 := div_le' dpos (by rw [Rat.one_mul]; exact done)
  have i0 : -(1 : Rat) ≤ 1 / (d : Rat) := le_div' dpos (by grind)
  have b1 := natR_nonneg B
  have m1 := mul_bd (x := natR B) (a := natR B) (y := FF) (b := natR (4320 ^ L.length)) (by grind) Rat.le_refl (by grind) (by grind)
  have m2 := mul_bd m1.1 m1.2 i0 i1
  rw [Rat.mul_one, ← natR_mul, ← et] at m2
  refine ⟨?_, m2.1, m2.2⟩
  obtain ⟨c, rfl⟩ := hUM
  refine Zt.dvd (M := U * d.toNat) ⟨T j L.length, ?_⟩ ⟨c, by rw [Nat.mul_assoc, Nat.mul_comm c, ← Nat.mul_assoc]⟩
  rw [Int.natCast_mul, ed, Rat.intCast_mul]
  show qa T j L.length / ((d : Rat) * natR U) * (natR U * (d : Rat)) = qa T j L.length
  grind
theorem matA_bdS {C : List PlC} (h : WfC C) {L : List Nat} (hL : ∀ x ∈ L, x < C.length) {kx : Nat → Rat} {M B : Nat} (hk : ∀ x ∈ L, NB M B (kx x)) (hM : 0 < M) (hB : 1 ≤ B) (hMB : B * M < 2 ^ 1500) :
    unitK L kx ∣ M ∧ 0 < unitK L kx ∧ (∀ r, r < L.length → (canon (placeK L kx r)).2.natAbs ∣ unitK L kx) ∧ ∀ r l, r < L.length → l ≤ L.length → (matA C L (placeK L kx) (unitK L kx) r l).natAbs ≤ 2 ^ 1500 := by
  have hmem : ∀ c ∈ L.map fun x => canon (kx x), ∃ x ∈ L, c = canon (kx x) := fun c hc => by
    obtain ⟨x, hx, rfl⟩ := List.mem_map.mp hc
    exact ⟨x, hx, rfl⟩
  have u1 : unitK L kx ∣ M := denL_to fun c hc => by
    obtain ⟨x, hx, rfl⟩ := hmem c hc
    exact zt_dvd (canon_red _) (by rw [q_canon]; exact (hk x hx).zt)
  have u2 : 0 < unitK L kx := denL_pos fun c hc => by
    obtain ⟨x, hx, rfl⟩ := hmem c hc
    exact (canon_red _).1
  have u3 : ∀ r, r < L.length → (canon (placeK L kx r)).2.natAbs ∣ unitK L kx := fun r hr => denL_dvd (List.mem_map.mpr ⟨_, getD_mem hr, rfl⟩)
  refine ⟨u1, u2, u3, fun r l hr hl => ?_⟩
  unfold matA
  split
  · exact Nat.le_trans (rowZ_bd h L (hL _ (getD_mem hr)) _) (Nat.le_trans (by decide : 360 ≤ 2 ^ 9) (Nat.pow_le_pow_right (by decide) (by decide)))
  · have e := whole_q (canon_red (placeK L kx r)) (u3 r hr)
    rw [q_canon] at e
    have b := hk _ (getD_mem hr)
    have hUM := Nat.le_of_dvd hM u1
    have m := mul_bd b.lo b.hi (show -natR (unitK L kx) ≤ (((unitK L kx : Nat) : Int) : Rat) by have := natR_nonneg (unitK L kx); have e : (((unitK L kx : Nat) : Int) : Rat) = natR (unitK L kx) := rfl; grind) (Rat.le_refl)
    have e2 : (((unitK L kx : Nat) : Int) : Rat) = natR (unitK L kx) := rfl
    have ek : placeK L kx r = kx (L.getD r 0) := rfl
    rw [ek] at e
    rw [e2] at m e
    rw [← natR_mul, ← e] at m
    have := abs_of m.1 m.2
    have h2 : B * unitK L kx ≤ B * M := Nat.mul_le_mul_left B hUM
    exact Nat.le_trans this (Nat.le_of_lt (Nat.lt_of_le_of_lt h2 hMB))
theorem fill_dataS {C : List PlC} (hW : WfC C) {L : List Nat} (hn : L.Nodup) (hl : L.length ≤ 12) (hL : ∀ x ∈ L, x < C.length) (hO : Out C L) {e kn : Nat → Rat} {M B : Nat} (hM : 0 < M) (hB : 1 ≤ B) (hMB : B * M < 2 ^ 1400)
    (he : ∀ x ∈ L, NB M B (e x)) (hk : ∀ y, y < C.length → NB M B (kn y)) (h0 : ∀ x ∈ L, kn x = 0) :
    ∃ f D, IsFill C L e kn f ∧ 0 < D ∧ (D ≤ 4320 ^ L.length ∧ natR D = detC C L) ∧ (∀ y, y < C.length → NB (M * D) (B * 4320 ^ (L.length + 1)) (f y)) ∧
      ∀ T d, Elim L.length (matA C L (placeK L (constK C e kn)) (unitK L (constK C e kn))) L.length T d → ((List.range L.length).map fun j => qa T j L.length / ((d : Rat) * natR (unitK L (constK C e kn)))) = L.map f := by
  have hc : ∀ x ∈ L, NB M (720 * B) (constK C e kn x) := fun x hx => (const_nb hW (hL x hx) (he x hx) hk).2
  obtain ⟨u1, u2, u3, u4⟩ := matA_bdS hW hL hc hM (by omega) (by
    rw [Nat.mul_assoc]
    exact Nat.lt_of_lt_of_le (lt_pow_mul (i := 10) (Nat.le_refl _) (by decide) hMB) (Nat.pow_le_pow_right (by decide) (by decide)))
  obtain ⟨T0, d0, hE0⟩ := elim_exists hW hn hL hO (placeK L (constK C e kn)) (unitK L (constK C e kn)) L.length (Nat.le_refl _)
  have hf0 := fill_of hW hn hL h0 u2 u3 hE0
  obtain ⟨hd, hnb⟩ := fill_nbS hW hn hl hL u2 u1 (by omega : 1 ≤ 720 * B) u3 (fun r hr => ⟨(hc _ (getD_mem hr)).lo, (hc _ (getD_mem hr)).hi⟩) hE0
  have hdp : 0 < d0.toNat := by have := hE0.pos; omega
  have hdet : natR d0.toNat = detC C L := by
    have e1 := hE0.det
    have e2 : natR d0.toNat = (d0 : Rat) := by
      unfold natR
      rw [Int.toNat_of_nonneg (by have := hE0.pos; omega)]
    rw [e2, e1]
    unfold detC
    refine Fd_congr _ fun col r h1 h2 => ?_
    unfold qa
    rw [matA_lo h1]
  refine ⟨_, d0.toNat, hf0, hdp, ⟨hd, hdet⟩, fun y hy => ?_, fun T d hE => ?_⟩
  · by_cases hyL : y ∈ L
    · obtain ⟨j, hj, _, rfl⟩ := take_getD (m := L.length) (by rw [List.take_length]; exact hyL)
      show NB _ _ (wt L L.length _ (L.getD j 0) + kn (L.getD j 0))
      rw [wt_at hn (Nat.le_refl _) hj, h0 _ hyL, Rat.add_zero]
      refine (hnb j hj).mono (Nat.dvd_refl _) ?_
      have : 720 * 4320 ^ L.length ≤ 4320 ^ (L.length + 1) := by
        rw [Nat.pow_succ, Nat.mul_comm]
        exact Nat.mul_le_mul_left _ (by decide)
      have h2 := Nat.mul_le_mul_left B this
      have e2 : 720 * B * 4320 ^ L.length = B * (720 * 4320 ^ L.length) := by rw [Nat.mul_comm 720 B, Nat.mul_assoc]
      rw [e2]
      exact h2
    · show NB _ _ (wt L L.length _ y + kn y)
      rw [wt_out (Nat.le_refl _) _ (by rw [List.take_length]; exact hyL), Rat.zero_add]
      exact (hk y hy).mono (Nat.dvd_mul_right _ _) (Nat.le_mul_of_pos_right B (Nat.pow_pos (by decide)))
  · have hf := fill_of hW hn hL h0 u2 u3 hE
    have key := fill_unique hW hL hO hf hf0
    rw [← map_getDn L 0]
    refine List.map_congr_left fun j hj => ?_
    have hj := List.mem_range.mp hj
    have e1 := key (L.getD j 0)
    rw [wt_at hn (Nat.le_refl _) hj, h0 _ (getD_mem hj), Rat.add_zero] at e1
    show _ = _ + kn (L.getD j 0)
    rw [h0 _ (getD_mem hj)]
    exact e1
def spSolvedS (K : PySem.W.Frag) : Sp := fun vs h Q _ => ∃ (b : Hp) (C : List PlC) (L : List Nat) (kx : Nat → Rat) (M B : Nat), Ex b h ∧ DtA K b vs [.list (L.map fun x => intsD (L.map (rowZ C L x))), ratsD (L.map kx)] ∧ WfC C ∧ L.Nodup ∧ L.length ≤ 12 ∧ (∀ x ∈ L, x < C.length) ∧ Out C L ∧
  0 < M ∧ 1 ≤ B ∧ B * M < 2 ^ 1500 ∧ (∀ x ∈ L, NB M B (kx x)) ∧
  ∀ v b' h' T d, Gr b h b' h' → Elim L.length (matA C L (placeK L kx) (unitK L kx)) L.length T d → Dt K b' v (ratsD ((List.range L.length).map fun j => qa T j L.length / ((d : Rat) * natR (unitK L kx)))) → Q v h'
def spFillS (K : PySem.W.Frag) : Sp := fun vs h Q _ => ∃ (b : Hp) (C : List PlC) (L : List Nat) (e kn : Nat → Rat) (M B : Nat), Ex b h ∧ DtA K b vs [chD C, natsD L, listQ C.length e, listQ C.length kn, nD (1, 1)] ∧ WfC C ∧ L.Nodup ∧ (∀ x ∈ L, x < C.length) ∧ Out C L ∧
  0 < M ∧ 1 ≤ B ∧ B * M < 2 ^ 1400 ∧ (∀ x ∈ L, NB M B (e x)) ∧ (∀ y, y < C.length → NB M B (kn y)) ∧ (∀ x ∈ L, kn x = 0) ∧
  ∀ v b' h' f D, Gr b h b' h' → IsFill C L e kn f → 0 < D → (D ≤ 4320 ^ L.length ∧ natR D = detC C L) → (∀ y, y < C.length → NB (M * D) (B * 4320 ^ (L.length + 1)) (f y)) → Dt K b' v (listQ C.length f) → OwnF h b' v → Q v h'
section
variable {K : PySem.W.Frag} {σ : L2.St} {b h : Hp} {te tl ta tb : TE} {ts tk : TA} {E : XK} {C : List PlC} {p q : Int × Int} {r s : Rat}
theorem ed_solvedS {L : List Nat} {kx f : Nat → Rat} {M B : Nat} (y : EDA K ts σ b [.list (L.map fun x => intsD (L.map (rowZ C L x))), ratsD (L.map kx)]) (h1 : WfC C) (h2 : L.Nodup) (h3 : L.length ≤ 12) (h4 : ∀ x ∈ L, x < C.length) (h5 : Out C L) (h6 : 0 < M) (h7 : 1 ≤ B) (h8 : B * M < 2 ^ 1500) (h9 : ∀ x ∈ L, NB M B (kx x))
    (hd : ∀ T d, Elim L.length (matA C L (placeK L kx) (unitK L kx)) L.length T d → ((List.range L.length).map fun j => qa T j L.length / ((d : Rat) * natR (unitK L kx))) = L.map f) : ED K (tCall (spSolvedS K) [] E ts) σ b (ratsD (L.map f)) := fun h e _ qq =>
  y h e _ fun vs b2 h2' g2 hv => ⟨b2, C, L, kx, M, B, g2.gi, by rw [List.append_nil]; exact hv, h1, h2, h3, h4, h5, h6, h7, h8, h9, fun v b3 h3 T d g3 hE hv3 => qq v b3 h3 (g2.trans g3) (hd T d hE ▸ hv3)⟩
end
end Md
set_option Elab.async false
set_option linter.all false
set_option maxRecDepth 100000
set_option maxHeartbeats 2000000
namespace Md
open PySem L2 Evl
variable {C : List PlC}
theorem fill_le (h : WfC C) {x : Nat} {L : List Nat} (G : IsGrp C x L) {e s t : Nat → Rat} {B : Rat} (he : ∀ y, y < C.length → e y ≤ B) (hs : IsFill C L e (fun _ => 0) s) (ht : IsFill C L (fun _ => 1) (fun _ => 0) t) : ∀ y, s y ≤ B * t y := by
  have hL : ∀ y ∈ L, y < C.length := fun y hy => G.lt y (List.mem_cons_of_mem x hy)
  have key := max_closed h hL (out_tail h G) (f := fun y => s y - B * t y) (fun y _ hy => by
    show s y - B * t y ≤ 0
    rw [hs.out y hy, ht.out y hy]
    grind) fun y hy => by
      rw [mean_sub, mean_mulC]
      have a := hs.eq y hy
      have b := ht.eq y hy
      have c := he y (hL y hy)
      have d : B * t y = B + B * meanC C t y := by
        rw [b]
        grind
      show s y - B * t y ≤ _
      generalize B * t y = u1 at *
      generalize B * meanC C t y = u2 at *
      grind
  intro y
  by_cases hy : y ∈ L
  · have k : s y - B * t y ≤ 0 := key y hy
    grind
  · rw [hs.out y hy, ht.out y hy]
    grind
theorem neg_fill {L : List Nat} {e s : Nat → Rat} (hs : IsFill C L e (fun _ => 0) s) : IsFill C L (fun y => (-1) * e y) (fun _ => 0) (fun y => (-1) * s y) := ⟨fun y hy => by
  rw [mean_mulC]
  have := hs.eq y hy
  grind, fun y hy => by
  show (-1) * s y = 0
  rw [hs.out y hy]
  grind⟩
theorem grp_mean_le (h : WfC C) {x : Nat} {L : List Nat} (G : IsGrp C x L) {e : Nat → Rat} {m B : Rat} (he : ∀ y, y < C.length → e y ≤ B) (hm : GrpMean C x L e m) : m ≤ B := by
  obtain ⟨s, t, hs, ht, hq⟩ := hm.ex
  have k := fill_le h G he hs ht
  have hx := G.lt x (List.mem_cons_self ..)
  have tn := (steps_nn h G ht).2 x hx
  have a1 : meanC C s x ≤ B * meanC C t x := by
    rw [← mean_mulC]
    exact wsum_le fun q hq => ⟨Rat.le_of_lt (br_pos h hx hq), k q.2⟩
  rw [hq]
  have := he x hx
  exact div_le' (by grind) (by grind)
theorem grp_mean_neg {x : Nat} {L : List Nat} {e : Nat → Rat} {m : Rat} (hm : GrpMean C x L e m) : GrpMean C x L (fun y => (-1) * e y) ((-1) * m) := by
  obtain ⟨s, t, hs, ht, hq⟩ := hm.ex
  refine ⟨_, t, neg_fill hs, ht, ?_⟩
  rw [hq, mean_mulC]
  grind
theorem grp_mean_bd (h : WfC C) {x : Nat} {L : List Nat} (G : IsGrp C x L) {e : Nat → Rat} {m : Rat} {B : Nat} (he : ∀ y, y < C.length → -natR B ≤ e y ∧ e y ≤ natR B) (hm : GrpMean C x L e m) : -natR B ≤ m ∧ m ≤ natR B := by
  have a := grp_mean_le h G (fun y hy => (he y hy).2) hm
  have b := grp_mean_le h G (B := natR B) (fun y hy => by have := (he y hy).1; grind) (grp_mean_neg hm)
  exact ⟨by grind, a⟩
theorem fill_same (h : WfC C) {L : List Nat} (hL : ∀ y ∈ L, y < C.length) (hO : Out C L) {kn f : Nat → Rat} {B : Rat} (hB : 0 ≤ B) (hk : ∀ y, y < C.length → kn y ≤ B) (hf : IsFill C L (fun _ => 0) kn f) : ∀ y, y < C.length → f y ≤ B := by
  have key := max_closed h hL hO (f := fun y => f y - (fun _ => B) y) (fun y hy hn => by
    show f y - B ≤ 0
    rw [hf.out y hn]
    have := hk y hy
    grind) fun y hy => by
      rw [mean_sub, mean_const h B (hL y hy)]
      have := hf.eq y hy
      grind
  intro y hy
  by_cases hm : y ∈ L
  · have k : f y - B ≤ 0 := key y hm
    grind
  · rw [hf.out y hm]
    exact hk y hy
theorem fill_same_bd (h : WfC C) {L : List Nat} (hL : ∀ y ∈ L, y < C.length) (hO : Out C L) {kn f : Nat → Rat} {B : Nat} (hk : ∀ y, y < C.length → -natR B ≤ kn y ∧ kn y ≤ natR B) (hf : IsFill C L (fun _ => 0) kn f) : ∀ y, y < C.length → -natR B ≤ f y ∧ f y ≤ natR B := fun y hy => by
  have a := fill_same h hL hO (natR_nonneg B) (fun y hy => (hk y hy).2) hf y hy
  have hn : IsFill C L (fun _ => 0) (fun y => (-1) * kn y) (fun y => (-1) * f y) := ⟨fun y hy => by
    rw [mean_mulC]
    have := hf.eq y hy
    grind, fun y hy => by
    show (-1) * f y = (-1) * kn y
    rw [hf.out y hy]⟩
  have b := fill_same h hL hO (natR_nonneg B) (fun y hy => by have := (hk y hy).1; grind) hn y hy
  exact ⟨by grind, a⟩
theorem grp_mean_zt (h : WfC C) {x : Nat} {L : List Nat} (G : IsGrp C x L) {e s t : Nat → Rat} {M B D E : Nat} (hs : ∀ y, y < C.length → NB (M * D) B (s y)) (he : Zt M (e x)) (hD : 0 < D) (hDl : D ≤ 4320 ^ L.length) (hDE : D = E)
    (ht : ∀ y, y < C.length → NB (1 * E) (1 * 4320 ^ (L.length + 1)) (t y)) (htf : IsFill C L (fun _ => 1) (fun _ => 0) t) : ∃ Z : Nat, 0 < Z ∧ Z ≤ 4320 ^ (2 * (L.length + 1)) ∧ Zt (M * Z) ((e x + meanC C s x) / (1 + meanC C t x)) := by
  subst hDE
  have hx := G.lt x (List.mem_cons_self ..)
  have tn := (steps_nn h G htf).2 x hx
  have nS := nb_mean h hx hs
  have nT := nb_mean h hx ht
  obtain ⟨s0, s1, _⟩ := scaleC_ok h hx
  have zS : Zt (M * D * scaleC C x) (e x + meanC C s x) := (he.dvd (by rw [Nat.mul_assoc]; exact Nat.dvd_mul_right _ _)).add nS.zt
  have zT : Zt (1 * D * scaleC C x) (1 + meanC C t x) := (show Zt _ ((1 : Int) : Rat) from zt_int _ 1).add nT.zt
  obtain ⟨z1, h1⟩ := zS
  obtain ⟨z2, h2⟩ := zT
  have sc0 : 0 < scaleC C x := by omega
  have e1 : (((M * D * scaleC C x : Nat) : Int) : Rat) = natR M * natR D * natR (scaleC C x) := by
    show natR (M * D * scaleC C x) = _
    rw [natR_mul, natR_mul]
  have e2 : (((1 * D * scaleC C x : Nat) : Int) : Rat) = natR D * natR (scaleC C x) := by
    show natR (1 * D * scaleC C x) = _
    rw [Nat.one_mul, natR_mul]
  rw [e1] at h1
  rw [e2] at h2
  have pD := natR_pos hD
  have pS := natR_pos sc0
  have pp : 0 < natR D * natR (scaleC C x) := Rat.mul_pos pD pS
  have hT : 0 < 1 + meanC C t x := by grind
  have z2p : (0 : Rat) < (z2 : Rat) := by
    rw [← h2]
    exact Rat.mul_pos hT pp
  have z2q : 0 < z2 := by
    have : ((0 : Int) : Rat) < (z2 : Rat) := z2p
    exact Rat.intCast_lt_intCast.mp this
  have ez : ((z2.toNat : Nat) : Int) = z2 := Int.toNat_of_nonneg (by omega)
  refine ⟨z2.toNat, by omega, ?_, z1, ?_⟩
  · have hi : meanC C t x ≤ natR (4320 ^ (L.length + 1)) := by
      have := nT.hi
      rwa [Nat.one_mul] at this
    have b1 : 1 + meanC C t x ≤ natR (1 + 4320 ^ (L.length + 1)) := by
      rw [natR_add, natR_one]
      grind
    have b2 : (z2 : Rat) ≤ natR ((1 + 4320 ^ (L.length + 1)) * (D * scaleC C x)) := by
      rw [← h2, natR_mul, natR_mul]
      exact Rat.mul_le_mul_of_nonneg_right b1 (Rat.le_of_lt pp)
    have b3 : z2 ≤ (((1 + 4320 ^ (L.length + 1)) * (D * scaleC C x) : Nat) : Int) := cast_le b2
    have b4 : (1 + 4320 ^ (L.length + 1)) * (D * scaleC C x) ≤ (1 + 4320 ^ (L.length + 1)) * (4320 ^ L.length * 360) := Nat.mul_le_mul_left _ (Nat.mul_le_mul hDl s1)
    have b5 : (1 + 4320 ^ (L.length + 1)) * (4320 ^ L.length * 360) ≤ 4320 ^ (2 * (L.length + 1)) := by
      have e : 4320 ^ (2 * (L.length + 1)) = 4320 ^ L.length * 4320 * (4320 ^ L.length * 4320) := by
        rw [Nat.two_mul, Nat.pow_add, Nat.pow_succ]
      rw [e, Nat.pow_succ]
      have p1 : 1 ≤ 4320 ^ L.length := Nat.pow_pos (by decide)
      generalize 4320 ^ L.length = P at *
      have : 1 + P * 4320 ≤ P * 4320 * 2 := by omega
      calc (1 + P * 4320) * (P * 360) ≤ (P * 4320 * 2) * (P * 360) := Nat.mul_le_mul_right _ this
        _ = P * 4320 * (P * 720) := by
          rw [Nat.mul_assoc (P * 4320) 2, Nat.mul_comm 2 (P * 360), Nat.mul_assoc P 360 2]
        _ ≤ P * 4320 * (P * 4320) := Nat.mul_le_mul_left _ (Nat.mul_le_mul_left _ (by decide))
    omega
  · have e3 : (((M * z2.toNat : Nat) : Int) : Rat) = natR M * (z2 : Rat) := by
      rw [Int.natCast_mul, ez, Rat.intCast_mul]
      rfl
    rw [e3, ← h2, ← h1]
    have hT0 : 1 + meanC C t x ≠ 0 := by grind
    grind
theorem natR_inj {a b : Nat} (h : natR a = natR b) : a = b := by
  have h1 : ((a : Int) : Rat) = ((b : Int) : Rat) := h
  have := Rat.intCast_inj.mp h1
  omega
theorem nb_add {M A B : Nat} {r s : Rat} (h : NB M A r) (g : NB M B s) : NB M (A + B) (r + s) := by
  have e := natR_add A B
  have := h.lo
  have := h.hi
  have := g.lo
  have := g.hi
  exact ⟨h.zt.add g.zt, by rw [e]; grind, by rw [e]; grind⟩
theorem nb_neg {M B : Nat} {s : Rat} (g : NB M B s) : NB M B (-s) := by
  have := g.lo
  have := g.hi
  refine ⟨?_, by grind, by grind⟩
  obtain ⟨z, hz⟩ := g.zt
  refine ⟨-z, ?_⟩
  rw [Rat.intCast_neg, ← hz]
  grind
theorem nb_sub {M A B : Nat} {r s : Rat} (h : NB M A r) (g : NB M B s) : NB M (A + B) (r - s) := by
  have : r - s = r + -s := by grind
  rw [this]
  exact nb_add h (nb_neg g)
theorem grp_len {x : Nat} {L : List Nat} (h : WfC C) (G : IsGrp C x L) : L.length + 1 ≤ C.length := nodup_len G.nd G.lt
def natssD (ls : List (List Nat)) : PyData := .list (ls.map natsD)
def spGroups (K : PySem.W.Frag) : Sp := fun vs h Q _ => ∃ (b : Hp) (C : List PlC), Ex b h ∧ DtA K b vs [chD C] ∧ WfC C ∧ ∀ v b' h', Gr b h b' h' → Dt K b' v (natssD (groupsL C)) → Q v h'
def spPass (K : PySem.W.Frag) : Sp := fun vs h Q _ => ∃ (b : Hp) (C : List PlC), Ex b h ∧ DtA K b vs [chD C] ∧ WfC C ∧ ∀ v b' h', Gr b h b' h' → Dt K b' v (natsD (passL C)) → Q v h'
def spMeanG (K : PySem.W.Frag) : Sp := fun vs h Q _ => ∃ (b : Hp) (C : List PlC) (x : Nat) (L : List Nat) (e : Nat → Rat) (M B : Nat), Ex b h ∧ DtA K b vs [chD C, natsD (x :: L), listQ C.length e] ∧ WfC C ∧ IsGrp C x L ∧ 0 < M ∧ 1 ≤ B ∧ B * M < 2 ^ 1400 ∧ (∀ y, y < C.length → NB M B (e y)) ∧
  ∀ v b' h' m Z, Gr b h b' h' → GrpMean C x L e m → 0 < Z → Z ≤ 4320 ^ (2 * (L.length + 1)) → NB (M * Z) B m → Dt K b' v (nQ m) → Q v h'
def spDivB (K : PySem.W.Frag) : Sp := fun vs h Q _ => ∃ (b : Hp) (p q : Int × Int), Ex b h ∧ DtA K b vs [nD p, nD q] ∧ Red p ∧ Red q ∧ 0 < q.1 ∧ Big 3000 p ∧ Big 3000 q ∧ ∀ v b' h', Gr b h b' h' → Dt K b' v (nD (divN p q)) → Q v h'
def spMinusR (K : PySem.W.Frag) : Sp := fun vs h Q _ => ∃ (b : Hp) (r s : Rat), Ex b h ∧ DtA K b vs [nQ r, nQ s] ∧ Big 3000 (canon r) ∧ Big 3000 (canon s) ∧ ∀ v b' h', Gr b h b' h' → Dt K b' v (nQ (r - s)) → Q v h'
section
variable {K : PySem.W.Frag} {σ : L2.St} {b h : Hp} {ts : TA} {ta tb te : TE} {E : XK} {x : Nat} {r s : Rat} {L : List Nat} {d : PyData} {ds : List PyData} {p q : Int × Int}
theorem ed_groups (y : EDA K ts σ b [chD C]) (h1 : WfC C) : ED K (tCall (spGroups K) [] E ts) σ b (natssD (groupsL C)) := fun h e _ qq =>
  y h e _ fun vs b2 h2' g2 hv => ⟨b2, C, g2.gi, by rw [List.append_nil]; exact hv, h1, fun v b3 h3 g3 hv3 => qq v b3 h3 (g2.trans g3) hv3⟩
theorem ed_pass (y : EDA K ts σ b [chD C]) (h1 : WfC C) : ED K (tCall (spPass K) [] E ts) σ b (natsD (passL C)) := fun h e _ qq =>
  y h e _ fun vs b2 h2' g2 hv => ⟨b2, C, g2.gi, by rw [List.append_nil]; exact hv, h1, fun v b3 h3 g3 hv3 => qq v b3 h3 (g2.trans g3) hv3⟩
theorem ed_minusR (y : EDA K ts σ b [nQ r, nQ s]) (h1 : Big 3000 (canon r)) (h2 : Big 3000 (canon s)) : ED K (tCall (spMinusR K) [] E ts) σ b (nQ (r - s)) := fun h e _ qq =>
  y h e _ fun vs b2 h2' g2 hv => ⟨b2, r, s, g2.gi, by rw [List.append_nil]; exact hv, h1, h2, fun v b3 h3 g3 hv3 => qq v b3 h3 (g2.trans g3) hv3⟩
theorem ed_divB (y : EDA K ts σ b [nQ r, nQ s]) (h1 : Big 3000 (canon r)) (h2 : Big 3000 (canon s)) (h0 : 0 < s) : ED K (tCall (spDivB K) [] E ts) σ b (nQ (r / s)) := by
  have hq : 0 < (canon s).1 := by
    have h1 : 0 ≤ (canon s).1 := Rat.num_nonneg.mpr (Rat.le_of_lt h0)
    have h2 : (canon s).1 ≠ 0 := fun z => by
      have a := q_canon s
      unfold qN at a
      rw [z, Rat.div_def] at a
      have : ((0 : Int) : Rat) = 0 := rfl
      rw [this, Rat.zero_mul] at a
      rw [← a] at h0
      exact absurd h0 (by decide)
    omega
  have e : nD (divN (canon r) (canon s)) = nQ (r / s) := by
    show nD (num _ _) = nD (canon _)
    rw [num_canon (Int.mul_pos (by have := (canon_red r).1; omega) hq), Rat.intCast_mul, Rat.intCast_mul]
    congr 2
    have a := q_canon r
    have c := q_canon s
    unfold qN at a c
    have n1 : (((canon r).2 : Int) : Rat) ≠ 0 := cast_ne (by have := (canon_red r).1; omega)
    have n2 : (((canon s).2 : Int) : Rat) ≠ 0 := cast_ne (by have := (canon_red s).1; omega)
    have n3 : (((canon s).1 : Int) : Rat) ≠ 0 := cast_ne (by omega)
    generalize (((canon r).1 : Int) : Rat) = A at *
    generalize (((canon r).2 : Int) : Rat) = A2 at *
    generalize (((canon s).1 : Int) : Rat) = S at *
    generalize (((canon s).2 : Int) : Rat) = S2 at *
    rw [← a, ← c]
    grind
  rw [← e]
  exact fun h e _ qq => y h e _ fun vs b2 h2' g2 hv => ⟨b2, canon r, canon s, g2.gi, by rw [List.append_nil]; exact hv, canon_red r, canon_red s, hq, h1, h2, fun v b3 h3 g3 hv3 => qq v b3 h3 (g2.trans g3) hv3⟩
end
theorem eqv_natsA : ∀ a b : List Nat, PyData.eqvAll (a.map fun y : Nat => PyData.int (y : Int)) (b.map fun y : Nat => PyData.int (y : Int)) = decide (a = b)
  | [], [] => rfl
  | [], _ :: _ => by
    rw [decide_eq_false (by simp)]
    rfl
  | _ :: _, [] => by
    rw [decide_eq_false (by simp)]
    rfl
  | x :: a, y :: b => by
    rw [List.map_cons, List.map_cons, PyData.eqvAll, eqv_natsA a b]
    have : PyData.eqv (.int (x : Int)) (.int (y : Int)) = decide (x = y) := by
      show ((x : Int) == (y : Int)) = _
      rw [Bool.eq_iff_iff, beq_iff_eq, decide_eq_true_iff]
      omega
    rw [this, Bool.eq_iff_iff, Bool.and_eq_true, decide_eq_true_iff, decide_eq_true_iff, decide_eq_true_iff, List.cons.injEq]
theorem shaped_nats (a : List Nat) : SeqAt.shaped (natsD a) = true := by
  have hl := lay_list (ds := a.map fun y : Nat => PyData.int (y : Int)) fun d hd => by
    obtain ⟨y, _, rfl⟩ := List.mem_map.mp hd
    exact ⟨rfl, by show 0 ≤ 8; decide⟩
  have hl2 : (natsD a).canLay0 = true ∧ (natsD a).depth ≤ 9 := hl
  unfold SeqAt.shaped
  rw [hl2.1, decide_eq_true (Nat.le_trans hl2.2 (by decide))] <;> rfl
theorem ev_eqNats {K : PySem.W.Frag} {σ : L2.St} {b : Hp} {ta tb : TE} {l m : List Nat} (x : ED K ta σ b (natsD l)) (y : ED K tb σ b (natsD m)) : Ev (tOp (rEqD K) ta tb) σ b (.bl (decide (l = m))) := by
  have := ev_eqD x y (shaped_nats l) (shaped_nats m)
  have e : PyData.eqv (natsD l) (natsD m) = decide (l = m) := by
    rw [← eqv_natsA]
    show PyData.eqv (.list _) (.list _) = _
    rw [PyData.eqv]
  rwa [e] at this
theorem rep_list (C : List PlC) (r : Rat) : List.replicate ((C.map PlC.D).length : Int).toNat (nQ r) = (List.range C.length).map fun _ => nQ r := by
  rw [List.length_map, Int.toNat_natCast]
  refine List.ext_getElem? fun i => ?_
  rcases Nat.lt_or_ge i C.length with z | z
  · rw [List.getElem?_replicate, if_pos z, List.getElem?_map, List.getElem?_range z]
    rfl
  · rw [List.getElem?_replicate, if_neg (by omega), List.getElem?_eq_none (by rw [List.length_map, List.length_range]; exact z)]
theorem cut_tail (x : Nat) (L : List Nat) : cutD ((x :: L).map fun y : Nat => PyData.int (y : Int)) (some 1) none = L.map fun y : Nat => PyData.int (y : Int) := by
  unfold cutD
  have e1 : HT.sIx ((x :: L).map fun y : Nat => PyData.int (y : Int)).length 0 (some 1) = 1 := by
    rw [List.length_map, List.length_cons]
    unfold HT.sIx
    simp
    try omega
  have e2 : HT.sIx ((x :: L).map fun y : Nat => PyData.int (y : Int)).length ((x :: L).map fun y : Nat => PyData.int (y : Int)).length none = L.length + 1 := by
    rw [List.length_map, List.length_cons]
    rfl
  rw [e1, e2]
  show (L.map _).take (L.length + 1 - 1) = _
  rw [List.take_of_length_le (by rw [List.length_map]; omega)]
end Md
set_option Elab.async false
set_option linter.all false
set_option maxRecDepth 100000
set_option maxHeartbeats 2000000
namespace Md
open PySem L2 Evl
variable {C : List PlC}
theorem flat_nodup (f : Nat → List Nat) : ∀ {H : List Nat}, H.Nodup → (∀ x ∈ H, (f x).Nodup) → (∀ x ∈ H, ∀ y ∈ H, ∀ z, z ∈ f x → z ∈ f y → x = y) → ((H.map f).flatten).Nodup
  | [], _, _, _ => List.nodup_nil
  | a :: H, h1, h2, h3 => by
    obtain ⟨n1, n2⟩ := List.nodup_cons.mp h1
    rw [List.map_cons, List.flatten_cons, List.nodup_append]
    refine ⟨h2 a (List.mem_cons_self ..), flat_nodup f n2 (fun x hx => h2 x (List.mem_cons_of_mem a hx)) (fun x hx y hy => h3 x (List.mem_cons_of_mem a hx) y (List.mem_cons_of_mem a hy)), fun p hp q hq e => ?_⟩
    subst e
    obtain ⟨l, hl, hq⟩ := List.mem_flatten.mp hq
    obtain ⟨y, hy, rfl⟩ := List.mem_map.mp hl
    have := h3 a (List.mem_cons_self ..) y (List.mem_cons_of_mem a hy) p hp hq
    rw [this] at n1
    exact n1 hy
noncomputable def sizeG (C : List PlC) (n : Nat) : Nat := ((((headsL C).take n).map (reachL C)).flatten).length
theorem size_all (h : WfC C) : sizeG C (headsL C).length + (passL C).length ≤ C.length := by
  unfold sizeG
  rw [List.take_length, ← List.length_append]
  refine nodup_len ?_ fun x hx => ?_
  · rw [List.nodup_append]
    refine ⟨flat_nodup _ heads_nodup (fun x _ => reach_nodup C x) (fun x hx y hy z => heads_one h hx hy), pass_nodup, fun p hp q hq e => ?_⟩
    subst e
    obtain ⟨l, hl, hp⟩ := List.mem_flatten.mp hp
    obtain ⟨y, hy, rfl⟩ := List.mem_map.mp hl
    exact (mem_pass.mp hq).2 y hy hp
  · rcases List.mem_append.mp hx with z | z
    · obtain ⟨l, hl, hp⟩ := List.mem_flatten.mp z
      obtain ⟨y, hy, rfl⟩ := List.mem_map.mp hl
      exact reach_lt hp
    · exact pass_lt x z
theorem take_snoc {n x : Nat} {H : List Nat} (e : H[n]? = some x) : H.take (n + 1) = H.take n ++ [x] := by
  rw [List.take_add_one, e]
  rfl
theorem size_succ {n x : Nat} (e : (headsL C)[n]? = some x) : sizeG C (n + 1) = sizeG C n + (reachL C x).length := by
  unfold sizeG
  rw [take_snoc e, List.map_append, List.flatten_append, List.length_append]
  congr 1
  show ([reachL C x].flatten).length = _
  rw [List.flatten_cons, List.flatten_nil, List.append_nil]
theorem take_other {n x : Nat} (h : WfC C) (e : (headsL C)[n]? = some x) {z y : Nat} (hz : z ∈ (headsL C).take n) (hy : y ∈ reachL C z) : y ∉ reachL C x := fun hyx => by
  have hxm := List.mem_of_getElem? e
  have hzm := List.mem_of_mem_take hz
  have := heads_one h hzm hxm hy hyx
  subst this
  have hnd : ((headsL C).take (n + 1)).Nodup := (List.take_sublist (n + 1) _).nodup heads_nodup
  rw [take_snoc e, List.nodup_append] at hnd
  exact hnd.2.2 z hz z (List.mem_singleton.mpr rfl) rfl
structure GInv (C : List PlC) (R : Nat → List Nat → (Nat → Rat) → Prop) (M : Nat) (B k : Nat) (n : Nat) (kn : Nat → Rat) (Z : Nat) : Prop where
  z0 : 0 < Z
  z1 : Z ≤ 4320 ^ (k * sizeG C n)
  nb : ∀ y, NB (M * Z) B (kn y)
  grp : ∀ x ∈ (headsL C).take n, ∀ L, reachL C x = x :: L → R x L kn
  out : ∀ y, (∀ x ∈ (headsL C).take n, y ∉ reachL C x) → kn y = 0
theorem ginv_zero {R : Nat → List Nat → (Nat → Rat) → Prop} {M B k : Nat} : GInv C R M B k 0 (fun _ => 0) 1 := ⟨by decide, Nat.pow_pos (by decide), fun _ => nb_zero _ _, fun x hx => (by rw [List.take_zero] at hx; cases hx), fun _ _ => rfl⟩
theorem ginv_step (h : WfC C) {R : Nat → List Nat → (Nat → Rat) → Prop} (hR : ∀ x L f g, R x L f → (∀ y ∈ x :: L, g y = f y) → R x L g) {M B k n x Z Zg : Nat} {kn nw : Nat → Rat} (g : GInv C R M B k n kn Z) {L : List Nat} (e : (headsL C)[n]? = some x) (hL : reachL C x = x :: L) (z0 : 0 < Zg) (z1 : Zg ≤ 4320 ^ (k * (L.length + 1)))
    (nb : ∀ y ∈ x :: L, NB (M * Zg) B (nw y)) (hr : R x L nw) : GInv C R M B k (n + 1) (fun y => if y ∈ x :: L then nw y else kn y) (Z * Zg) := by
  refine ⟨Nat.mul_pos g.z0 z0, ?_, fun y => ?_, fun z hz Lz hLz => ?_, fun y hy => ?_⟩
  · rw [size_succ e, hL, Nat.mul_add, Nat.pow_add]
    exact Nat.mul_le_mul g.z1 z1
  · show NB _ _ (if y ∈ x :: L then nw y else kn y)
    by_cases hy : y ∈ x :: L
    · rw [if_pos hy]
      exact (nb y hy).mono ⟨Z, by rw [Nat.mul_comm Z Zg, ← Nat.mul_assoc]⟩ (Nat.le_refl _)
    · rw [if_neg hy]
      exact (g.nb y).mono ⟨Zg, by rw [← Nat.mul_assoc]⟩ (Nat.le_refl _)
  · rw [take_snoc e] at hz
    rcases List.mem_append.mp hz with hz | hz
    · refine hR z Lz kn _ (g.grp z hz Lz hLz) fun y hy => ?_
      have := take_other h e hz (y := y) (by rw [hLz]; exact hy)
      rw [hL] at this
      exact if_neg this
    · obtain rfl := List.mem_singleton.mp hz
      rw [hL] at hLz
      injection hLz with _ hLz
      subst hLz
      exact hR z L nw _ hr fun y hy => if_pos hy
  · have h1 : y ∉ x :: L := by
      rw [← hL]
      exact hy x (by rw [take_snoc e]; exact List.mem_append_right _ (List.mem_singleton.mpr rfl))
    show (if y ∈ x :: L then nw y else kn y) = 0
    rw [if_neg h1]
    exact g.out y fun z hz => hy z (by rw [take_snoc e]; exact List.mem_append_left _ hz)
theorem ginv_pass {R : Nat → List Nat → (Nat → Rat) → Prop} {M B k Z : Nat} {kn : Nat → Rat} (g : GInv C R M B k (headsL C).length kn Z) : (∀ x ∈ passL C, kn x = 0) ∧ ∀ x ∈ headsL C, ∀ L, reachL C x = x :: L → R x L kn := by
  refine ⟨fun x hx => g.out x fun z hz => ?_, fun x hx L hL => g.grp x (by rw [List.take_length]; exact hx) L hL⟩
  rw [List.take_length] at hz
  exact (mem_pass.mp hx).2 z hz
theorem pass_out (h : WfC C) {x : Nat} {L : List Nat} (hx : x ∈ headsL C) (hL : reachL C x = x :: L) {y : Nat} (hy : y ∈ x :: L) : y ∉ passL C := fun z => (mem_pass.mp z).2 x hx (by rw [hL]; exact hy)
def RLong (C : List PlC) (x : Nat) (L : List Nat) (f : Nat → Rat) : Prop := ∃ m, GrpMean C x L (gainC C) m ∧ ∀ y ∈ x :: L, f y = m
def RLead (C : List PlC) (g : Nat → Rat) (x : Nat) (L : List Nat) (f : Nat → Rat) : Prop := ∃ s m, IsFill C L (fun y => gainC C y - g y) (fun _ => 0) s ∧ GrpMean C x L s m ∧ ∀ y ∈ x :: L, f y = s y - m
theorem rlong_mono (x : Nat) (L : List Nat) (f g : Nat → Rat) (h : RLong C x L f) (e : ∀ y ∈ x :: L, g y = f y) : RLong C x L g := by
  obtain ⟨m, h1, h2⟩ := h
  exact ⟨m, h1, fun y hy => (e y hy).trans (h2 y hy)⟩
theorem rlead_mono {g0 : Nat → Rat} (x : Nat) (L : List Nat) (f g : Nat → Rat) (h : RLead C g0 x L f) (e : ∀ y ∈ x :: L, g y = f y) : RLead C g0 x L g := by
  obtain ⟨s, m, h1, h2, h3⟩ := h
  exact ⟨s, m, h1, h2, fun y hy => (e y hy).trans (h3 y hy)⟩
def spLong (K : PySem.W.Frag) : Sp := fun vs h Q _ => ∃ (b : Hp) (C : List PlC), Ex b h ∧ DtA K b vs [chD C] ∧ WfC C ∧
  ∀ v b' h' g Z, Gr b h b' h' → LongOk C g → 0 < Z → Z ≤ 4320 ^ (2 * C.length) → (∀ y, y < C.length → NB (denL (gainsC C) * Z) 1000 (g y)) → Dt K b' v (listQ C.length g) → OwnF h b' v → Q v h'
theorem mean_unique {x : Nat} {L : List Nat} (h : WfC C) (G : IsGrp C x L) {e : Nat → Rat} {m m' : Rat} (h1 : GrpMean C x L e m) (h2 : GrpMean C x L e m') : m = m' := by
  obtain ⟨s, t, a1, a2, a3⟩ := h1.ex
  obtain ⟨s', t', b1, b2, b3⟩ := h2.ex
  have hL : ∀ y ∈ L, y < C.length := fun y hy => G.lt y (List.mem_cons_of_mem x hy)
  have e1 := fill_unique h hL (out_tail h G) a1 b1
  have e2 := fill_unique h hL (out_tail h G) a2 b2
  rw [a3, b3, mean_congr h (f := s) (g := s') fun q _ => e1 q.2, mean_congr h (f := t) (g := t') fun q _ => e2 q.2]
theorem long_unique (h : WfC C) {f g : Nat → Rat} (hf : LongOk C f) (hg : LongOk C g) : ∀ y, y < C.length → f y = g y := by
  have hgr : ∀ x ∈ headsL C, ∀ y ∈ reachL C x, f y = g y := fun x hx y hy => by
    obtain ⟨L, e, G⟩ := head_grp h hx
    obtain ⟨m, a1, a2⟩ := hf.grp x hx L e
    obtain ⟨m', b1, b2⟩ := hg.grp x hx L e
    rw [e] at hy
    rw [a2 y hy, b2 y hy, mean_unique h G a1 b1]
  -- both fill the same
  have two : ∀ {f g : Nat → Rat}, LongOk C f → LongOk C g → (∀ x ∈ headsL C, ∀ y ∈ reachL C x, f y = g y) → ∀ x ∈ passL C, f x - g x ≤ 0 := fun {f g} hf hg hgr => max_closed h pass_lt (out_pass h) (f := fun y => f y - g y) (fun y hy hn => by
    show f y - g y ≤ 0
    rcases pass_or (C := C) hy with z | ⟨x, hx, hm⟩
    · exact absurd z hn
    · rw [hgr x hx y hm]
      grind) fun x hx => by
      rw [mean_sub, ← hf.pas x hx, ← hg.pas x hx]
      exact Rat.le_refl
  intro y hy
  rcases pass_or (C := C) hy with z | ⟨x, hx, hm⟩
  · have a := two hf hg hgr y z
    have b := two hg hf (fun x hx y hy => (hgr x hx y hy).symm) y z
    grind
  · exact hgr x hx y hm
end Md
set_option Elab.async false
set_option linter.all false
set_option maxRecDepth 100000
set_option maxHeartbeats 2000000
namespace Md
open PySem L2 Evl
variable {C : List PlC}
theorem mean_exists (h : WfC C) {x : Nat} {L : List Nat} (G : IsGrp C x L) {e : Nat → Rat} {M B : Nat} (hM : 0 < M) (hB : 1 ≤ B) (hMB : B * M < 2 ^ 1400) (he : ∀ y, y < C.length → NB M B (e y)) : ∃ m Z, GrpMean C x L e m ∧ 0 < Z ∧ Z ≤ 4320 ^ (2 * (L.length + 1)) ∧ NB (M * Z) B m := by
  have hx := G.lt x (List.mem_cons_self ..)
  have hLl := grp_len h G
  have h12 := h.l12
  have hLn : L.Nodup := (List.nodup_cons.mp G.nd).2
  have hLt : ∀ y ∈ L, y < C.length := fun y hy => G.lt y (List.mem_cons_of_mem x hy)
  obtain ⟨s, D1, hS, a1, a2, a3, _⟩ := fill_dataS h hLn (by omega) hLt (out_tail h G) (e := e) (kn := fun _ => 0) hM hB hMB (fun y hy => he y (hLt y hy)) (fun _ _ => nb_zero _ _) (fun _ _ => rfl)
  obtain ⟨t, D2, hT, b1, b2, b3, _⟩ := fill_dataS h hLn (by omega) hLt (out_tail h G) (e := fun _ => 1) (kn := fun _ => 0) (M := 1) (B := 1) (by decide) (by decide) (by decide +kernel) (fun _ _ => nb_one (by decide)) (fun _ _ => nb_zero _ _) (fun _ _ => rfl)
  obtain ⟨Z, c1, c2, c3⟩ := grp_mean_zt h G (e := e) a3 (he x hx).zt a1 a2.1 (natR_inj (by rw [a2.2, b2.2])) b3 hT
  have hGM : GrpMean C x L e ((e x + meanC C s x) / (1 + meanC C t x)) := ⟨s, t, hS, hT, rfl⟩
  have hbd := grp_mean_bd h G (B := B) (fun y hy => ⟨(he y hy).lo, (he y hy).hi⟩) hGM
  exact ⟨_, Z, hGM, c1, c2, c3, hbd.1, hbd.2⟩
theorem head_at {n : Nat} (hn : n < (headsL C).length) : ∃ x, (headsL C)[n]? = some x := ⟨_, List.getElem?_eq_getElem hn⟩
theorem unit_lt13 (h : WfC C) {j : Nat} {Z a : Nat} (hZ : Z ≤ 2 ^ a) : denL (gainsC C) * Z < 2 ^ (a + 120) := by
  rw [Nat.mul_comm]
  exact lt_pow_mul (Nat.le_refl _) hZ (unit_lt h).2
theorem pow288 {k a : Nat} (h : k ≤ a) : 4320 ^ k ≤ 2 ^ (13 * a) := by
  refine Nat.le_trans (Nat.pow_le_pow_right (by decide) h) ?_
  rw [Nat.pow_mul]
  exact Nat.pow_le_pow_left (by decide) a
theorem long_ginv (h : WfC C) : ∀ n, n ≤ (headsL C).length → ∃ kn Z, GInv C (RLong C) (denL (gainsC C)) 1000 2 n kn Z
  | 0, _ => ⟨_, _, ginv_zero⟩
  | n + 1, hn => by
    obtain ⟨kn, Z, g⟩ := long_ginv h n (by omega)
    obtain ⟨x, hx⟩ := head_at (C := C) (n := n) (by omega)
    obtain ⟨L, e, G⟩ := head_grp h (List.mem_of_getElem? hx)
    obtain ⟨m, Zg, a1, a2, a3, a4⟩ := mean_exists h G (e := gainC C) (M := denL (gainsC C)) (B := 1000) (unit_lt h).1 (by decide) (Nat.lt_of_lt_of_le (lt_pow_mul (i := 10) (Nat.le_refl _) (by decide) (unit_lt h).2) (Nat.pow_le_pow_right (by decide) (by decide))) fun y hy => gain_nb h hy
    exact ⟨_, _, ginv_step h rlong_mono g hx e a2 a3 (nw := fun _ => m) (fun _ _ => a4) ⟨m, a1, fun _ _ => rfl⟩⟩
theorem long_exists (h : WfC C) : ∃ g Z, LongOk C g ∧ 0 < Z ∧ Z ≤ 4320 ^ (2 * C.length) ∧ ∀ y, y < C.length → NB (denL (gainsC C) * Z) 1000 (g y) := by
  obtain ⟨kn, Z, inv⟩ := long_ginv h _ (Nat.le_refl _)
  obtain ⟨ip, ig⟩ := ginv_pass inv
  have hsz := size_all h
  have h12 := h.l12
  have hz2 : Z ≤ 4320 ^ (2 * C.length) := Nat.le_trans inv.z1 (Nat.pow_le_pow_right (by decide) (by omega))
  have hz3 : Z ≤ 2 ^ (13 * 24) := Nat.le_trans hz2 (pow288 (by omega))
  have hpl := nodup_len (pass_nodup (C := C)) pass_lt
  obtain ⟨f, D, hF, d0, d1, d2, _⟩ := fill_dataS h pass_nodup (by omega) pass_lt (out_pass h) (e := fun _ => 0) (kn := kn) (M := denL (gainsC C) * Z) (B := 1000) (Nat.mul_pos (unit_lt h).1 inv.z0) (by decide) (Nat.lt_of_lt_of_le (lt_pow_mul (i := 10) (Nat.le_refl _) (by decide) (unit_lt13 (j := 0) h hz3)) (Nat.pow_le_pow_right (by decide) (by decide))) (fun _ _ => nb_zero _ _) (fun y _ => inv.nb y) ip
  have hbd := fill_same_bd h pass_lt (out_pass h) (B := 1000) (fun y _ => ⟨(inv.nb y).lo, (inv.nb y).hi⟩) hF
  refine ⟨f, Z * D, ⟨fun x hx L hL => ?_, fun x hx => ?_⟩, Nat.mul_pos inv.z0 d0, ?_, fun y hy => ⟨?_, (hbd y hy).1, (hbd y hy).2⟩⟩
  · obtain ⟨m, a1, a2⟩ := ig x hx L hL
    exact ⟨m, a1, fun y hy => by rw [hF.out y (pass_out h hx hL hy)]; exact a2 y hy⟩
  · have := hF.eq x hx
    rwa [Rat.zero_add] at this
  · refine Nat.le_trans (Nat.mul_le_mul inv.z1 d1.1) ?_
    rw [← Nat.pow_add]
    exact Nat.pow_le_pow_right (by decide) (by omega)
  · have := (d2 y hy).zt
    rwa [Nat.mul_assoc] at this
open Classical in
noncomputable def longC (C : List PlC) : Nat → Rat := if h : ∃ g, LongOk C g then h.choose else fun _ => 0
theorem long_ok (h : WfC C) : LongOk C (longC C) := by
  obtain ⟨g, Z, a, _⟩ := long_exists h
  have e : ∃ g, LongOk C g := ⟨g, a⟩
  unfold longC
  rw [dif_pos e]
  exact e.choose_spec
theorem long_nb (h : WfC C) : ∃ Z, 0 < Z ∧ Z ≤ 4320 ^ (2 * C.length) ∧ ∀ y, y < C.length → NB (denL (gainsC C) * Z) 1000 (longC C y) := by
  obtain ⟨g, Z, a, b, c, d⟩ := long_exists h
  exact ⟨Z, b, c, fun y hy => by rw [long_unique h (long_ok h) a y hy]; exact d y hy⟩
theorem long_is (h : WfC C) {g : Nat → Rat} (hg : LongOk C g) : listQ C.length g = listQ C.length (longC C) := listQ_congr fun y hy => long_unique h hg (long_ok h) y hy
theorem lead_unique (h : WfC C) {g f f' : Nat → Rat} (hf : LeadOk C g f) (hf' : LeadOk C g f') : ∀ y, y < C.length → f y = f' y := by
  have hgr : ∀ x ∈ headsL C, ∀ y ∈ reachL C x, f y = f' y := fun x hx y hy => by
    obtain ⟨L, e, G⟩ := head_grp h hx
    obtain ⟨s, m, a1, a2, a3⟩ := hf.grp x hx L e
    obtain ⟨s', m', b1, b2, b3⟩ := hf'.grp x hx L e
    have hL : ∀ y ∈ L, y < C.length := fun y hy => G.lt y (List.mem_cons_of_mem x hy)
    have es : s = s' := funext (fill_unique h hL (out_tail h G) a1 b1)
    subst es
    rw [e] at hy
    rw [a3 y hy, b3 y hy, mean_unique h G a2 b2]
  have two : ∀ {f f' : Nat → Rat}, LeadOk C g f → LeadOk C g f' → (∀ x ∈ headsL C, ∀ y ∈ reachL C x, f y = f' y) → ∀ x ∈ passL C, f x - f' x ≤ 0 := fun {f f'} hf hf' hgr => max_closed h pass_lt (out_pass h) (f := fun y => f y - f' y) (fun y hy hn => by
    show f y - f' y ≤ 0
    rcases pass_or (C := C) hy with z | ⟨x, hx, hm⟩
    · exact absurd z hn
    · rw [hgr x hx y hm]
      grind) fun x hx => by
      have a := hf.pas x hx
      have b := hf'.pas x hx
      rw [mean_sub]
      show f x - f' x ≤ _
      grind
  intro y hy
  rcases pass_or (C := C) hy with z | ⟨x, hx, hm⟩
  · have a := two hf hf' hgr y z
    have b := two hf' hf (fun x hx y hy => (hgr x hx y hy).symm) y z
    grind
  · exact hgr x hx y hm
theorem grp_pass_len (h : WfC C) {x : Nat} {L : List Nat} (hx : x ∈ headsL C) (hL : reachL C x = x :: L) (G : IsGrp C x L) : L.length + 1 + (passL C).length ≤ C.length := by
  have : ((x :: L) ++ passL C).Nodup := by
    rw [List.nodup_append]
    exact ⟨G.nd, pass_nodup, fun a ha b hb e => pass_out h hx hL ha (by rw [e]; exact hb)⟩
  have := nodup_len this fun y hy => by
    rcases List.mem_append.mp hy with z | z
    · exact G.lt y z
    · exact pass_lt y z
  rw [List.length_append] at this
  exact this
theorem ahead_nb (h : WfC C) {Z : Nat} (hg : ∀ y, y < C.length → NB (denL (gainsC C) * Z) 1000 (longC C y)) : ∀ y, y < C.length → NB (denL (gainsC C) * Z) 2000 (gainC C y - longC C y) := fun y hy => nb_sub ((gain_nb h hy).mono (Nat.dvd_mul_right _ _) (Nat.le_refl _)) (hg y hy)
theorem lead_size (h : WfC C) {x : Nat} {L : List Nat} (hx : x ∈ headsL C) (hL : reachL C x = x :: L) (G : IsGrp C x L) {M D Zg : Nat} {s : Nat → Rat} {m : Rat} (hD : D ≤ 4320 ^ L.length) (hZ : Zg ≤ 4320 ^ (2 * (L.length + 1))) (hs : ∀ y, y < C.length → NB (M * D) (2000 * 4320 ^ (L.length + 1)) (s y)) (hm : NB (M * D * Zg) (2000 * 4320 ^ (L.length + 1)) m) :
    D * Zg ≤ 4320 ^ (3 * (L.length + 1)) ∧ ∀ y ∈ x :: L, NB (M * (D * Zg)) (4000 * 4320 ^ (C.length - (passL C).length)) (s y - m) := by
  have hl := grp_pass_len h hx hL G
  refine ⟨?_, fun y hy => ?_⟩
  · refine Nat.le_trans (Nat.mul_le_mul hD hZ) ?_
    rw [← Nat.pow_add]
    exact Nat.pow_le_pow_right (by decide) (by omega)
  · have a := nb_sub ((hs y (G.lt y hy)).mono (Nat.dvd_mul_right _ Zg) (Nat.le_refl _)) hm
    rw [Nat.mul_assoc] at a
    refine a.mono (Nat.dvd_refl _) ?_
    have : 4320 ^ (L.length + 1) ≤ 4320 ^ (C.length - (passL C).length) := Nat.pow_le_pow_right (by decide) (by omega)
    omega
theorem sz_raise {U0 : Nat} (h : WfC C) {Z : Nat} (hZ : Z ≤ 4320 ^ (2 * C.length)) : 2000 * (denL (gainsC C) * Z) < 2 ^ 1400 := by
  have h12 := h.l12
  have hz3 : Z ≤ 2 ^ (13 * 24) := Nat.le_trans hZ (pow288 (by omega))
  exact Nat.lt_of_lt_of_le (lt_pow_mul (i := 11) (Nat.le_refl _) (by decide) (unit_lt13 (j := 0) h hz3)) (Nat.pow_le_pow_right (by decide) (by decide))
theorem sz_mean (h : WfC C) {Z D l : Nat} (hZ : Z ≤ 4320 ^ (2 * C.length)) (hl : l + 1 ≤ C.length) (hD : D ≤ 4320 ^ l) : 2000 * 4320 ^ (l + 1) * (denL (gainsC C) * Z * D) < 2 ^ 1400 := by
  have h12 := h.l12
  have a : 4320 ^ (2 * C.length) * 4320 ^ l ≤ 4320 ^ (2 * C.length + l) := by rw [← Nat.pow_add]; exact Nat.le_refl _
  have b : Z * D ≤ 2 ^ (13 * 36) := Nat.le_trans (Nat.le_trans (Nat.mul_le_mul hZ hD) a) (pow288 (by omega))
  have c : 2000 * 4320 ^ (l + 1) ≤ 2 ^ (11 + 13 * 12) := by
    have c1 : 4320 ^ (l + 1) ≤ 2 ^ (13 * 12) := pow288 (k := l + 1) (a := 12) (by omega)
    generalize 4320 ^ (l + 1) = P at *
    rw [Nat.pow_add]
    exact Nat.mul_le_mul (by decide) c1
  rw [Nat.mul_assoc (denL (gainsC C))]
  exact Nat.lt_of_lt_of_le (lt_pow_mul (Nat.le_refl _) c (unit_lt13 (j := 0) h b)) (Nat.pow_le_pow_right (by decide) (by decide))
theorem sz_last (h : WfC C) {Z W : Nat} (hZ : Z ≤ 4320 ^ (2 * C.length)) (hW : W ≤ 4320 ^ (3 * C.length)) : 4000 * 4320 ^ (C.length - (passL C).length) * (denL (gainsC C) * Z * W) < 2 ^ 1400 := by
  have h12 := h.l12
  have a : 4320 ^ (2 * C.length) * 4320 ^ (3 * C.length) ≤ 4320 ^ (2 * C.length + 3 * C.length) := by rw [← Nat.pow_add]; exact Nat.le_refl _
  have b : Z * W ≤ 2 ^ (13 * 60) := Nat.le_trans (Nat.le_trans (Nat.mul_le_mul hZ hW) a) (pow288 (by omega))
  have c : 4000 * 4320 ^ (C.length - (passL C).length) ≤ 2 ^ (12 + 13 * 12) := by
    rw [Nat.pow_add]
    exact Nat.mul_le_mul (by decide) (pow288 (by omega))
  rw [Nat.mul_assoc (denL (gainsC C))]
  exact Nat.lt_of_lt_of_le (lt_pow_mul (Nat.le_refl _) c (unit_lt13 (j := 0) h b)) (Nat.pow_le_pow_right (by decide) (by decide))
theorem lead_last (h : WfC C) {Z0 W D : Nat} {kn f : Nat → Rat} (z0 : 0 < Z0) (z1 : Z0 ≤ 4320 ^ (2 * C.length)) (inv : GInv C (RLead C (longC C)) (denL (gainsC C) * Z0) (4000 * 4320 ^ (C.length - (passL C).length)) 3 (headsL C).length kn W) (d0 : 0 < D) (d1 : D ≤ 4320 ^ (passL C).length)
    (hF : IsFill C (passL C) (fun y => gainC C y - longC C y) kn f) (hNf : ∀ y, y < C.length → NB (denL (gainsC C) * Z0 * W * D) (4000 * 4320 ^ (C.length - (passL C).length) * 4320 ^ ((passL C).length + 1)) (f y)) :
    LeadOk C (longC C) f ∧ 0 < Z0 * W * D ∧ Z0 * W * D ≤ 4320 ^ (5 * C.length) ∧ ∀ y, y < C.length → NB (denL (gainsC C) * (Z0 * W * D)) (4000 * 4320 ^ (C.length + 1)) (f y) := by
  obtain ⟨ip, ig⟩ := ginv_pass inv
  have hsz := size_all h
  refine ⟨⟨fun x hx L hL => ?_, fun x hx => hF.eq x hx⟩, Nat.mul_pos (Nat.mul_pos z0 inv.z0) d0, ?_, fun y hy => ?_⟩
  · obtain ⟨s, m, a1, a2, a3⟩ := ig x hx L hL
    exact ⟨s, m, a1, a2, fun y hy => by rw [hF.out y (pass_out h hx hL hy)]; exact a3 y hy⟩
  · refine Nat.le_trans (Nat.mul_le_mul (Nat.mul_le_mul z1 inv.z1) d1) ?_
    rw [← Nat.pow_add, ← Nat.pow_add]
    exact Nat.pow_le_pow_right (by decide) (by omega)
  · have a := hNf y hy
    rw [Nat.mul_assoc 4000, ← Nat.pow_add] at a
    have e1 : C.length - (passL C).length + ((passL C).length + 1) = C.length + 1 := by omega
    have e2 : denL (gainsC C) * Z0 * W * D = denL (gainsC C) * (Z0 * W * D) := by simp only [Nat.mul_assoc]
    rw [e1, e2] at a
    exact a
theorem lead_ginv (h : WfC C) {Z0 : Nat} (z0 : 0 < Z0) (z1 : Z0 ≤ 4320 ^ (2 * C.length)) (hg : ∀ y, y < C.length → NB (denL (gainsC C) * Z0) 1000 (longC C y)) : ∀ n, n ≤ (headsL C).length → ∃ kn W, GInv C (RLead C (longC C)) (denL (gainsC C) * Z0) (4000 * 4320 ^ (C.length - (passL C).length)) 3 n kn W
  | 0, _ => ⟨_, _, ginv_zero⟩
  | n + 1, hn => by
    obtain ⟨kn, W, g⟩ := lead_ginv h z0 z1 hg n (by omega)
    obtain ⟨x, hx⟩ := head_at (C := C) (n := n) (by omega)
    have hxm := List.mem_of_getElem? hx
    obtain ⟨L, e, G⟩ := head_grp h hxm
    have hLl := grp_len h G
    have h12 := h.l12
    have hLn : L.Nodup := (List.nodup_cons.mp G.nd).2
    have hLt : ∀ y ∈ L, y < C.length := fun y hy => G.lt y (List.mem_cons_of_mem x hy)
    have M0 : 0 < denL (gainsC C) * Z0 := Nat.mul_pos (unit_lt h).1 z0
    obtain ⟨s, D, a1, a2, a3, a4, _⟩ := fill_dataS h hLn (by omega) hLt (out_tail h G) (e := fun y => gainC C y - longC C y) (kn := fun _ => 0) (B := 2000) M0 (by decide) (sz_raise (U0 := 0) h z1) (fun y hy => ahead_nb h hg y (hLt y hy)) (fun _ _ => nb_zero _ _) (fun _ _ => rfl)
    obtain ⟨m, Zg, b1, b2, b3, b4⟩ := mean_exists h G (e := s) (Nat.mul_pos M0 a2) (Nat.mul_pos (by decide) (Nat.pow_pos (by decide))) (sz_mean h z1 hLl a3.1) a4
    obtain ⟨c1, c2⟩ := lead_size h hxm e G a3.1 b3 a4 b4
    exact ⟨_, _, ginv_step h rlead_mono g hx e (Nat.mul_pos a2 b2) c1 (nw := fun y => s y - m) c2 ⟨s, m, a1, b1, fun _ _ => rfl⟩⟩
theorem lead_exists (h : WfC C) : ∃ f Z, LeadOk C (longC C) f ∧ 0 < Z ∧ Z ≤ 4320 ^ (5 * C.length) ∧ ∀ y, y < C.length → NB (denL (gainsC C) * Z) (4000 * 4320 ^ (C.length + 1)) (f y) := by
  obtain ⟨Z0, z0, z1, hg⟩ := long_nb h
  obtain ⟨kn, W, inv⟩ := lead_ginv h z0 z1 hg _ (Nat.le_refl _)
  obtain ⟨ip, ig⟩ := ginv_pass inv
  have hsz := size_all h
  have h12 := h.l12
  have hpl := nodup_len (pass_nodup (C := C)) pass_lt
  have hW2 : W ≤ 4320 ^ (3 * C.length) := Nat.le_trans inv.z1 (Nat.pow_le_pow_right (by decide) (by omega))
  obtain ⟨f, D, hF, d0, d1, d2, _⟩ := fill_dataS h pass_nodup (by omega) pass_lt (out_pass h) (e := fun y => gainC C y - longC C y) (kn := kn) (M := denL (gainsC C) * Z0 * W) (B := 4000 * 4320 ^ (C.length - (passL C).length)) (Nat.mul_pos (Nat.mul_pos (unit_lt h).1 z0) inv.z0) (Nat.mul_pos (by decide) (Nat.pow_pos (by decide))) (sz_last h z1 hW2)
    (fun y hy => (ahead_nb h hg y (pass_lt y hy)).mono (Nat.dvd_mul_right _ _) (Nat.le_trans (by decide : 2000 ≤ 4000 * 1) (Nat.mul_le_mul_left 4000 (Nat.pow_pos (by decide))))) (fun y _ => inv.nb y) ip
  obtain ⟨c1, c2, c3, c4⟩ := lead_last h z0 z1 inv d0 d1.1 hF d2
  exact ⟨f, _, c1, c2, c3, c4⟩
open Classical in
noncomputable def leadC (C : List PlC) : Nat → Rat := if h : ∃ f, LeadOk C (longC C) f then h.choose else fun _ => 0
theorem lead_ok (h : WfC C) : LeadOk C (longC C) (leadC C) := by
  obtain ⟨g, Z, a, _⟩ := lead_exists h
  have e : ∃ f, LeadOk C (longC C) f := ⟨g, a⟩
  unfold leadC
  rw [dif_pos e]
  exact e.choose_spec
theorem lead_nb (h : WfC C) : ∃ Z, 0 < Z ∧ Z ≤ 4320 ^ (5 * C.length) ∧ ∀ y, y < C.length → NB (denL (gainsC C) * Z) (4000 * 4320 ^ (C.length + 1)) (leadC C y) := by
  obtain ⟨g, Z, a, b, c, d⟩ := lead_exists h
  exact ⟨Z, b, c, fun y hy => by rw [lead_unique h (lead_ok h) a y hy]; exact d y hy⟩
theorem lead_is (h : WfC C) {f : Nat → Rat} (hf : LeadOk C (longC C) f) : listQ C.length f = listQ C.length (leadC C) := listQ_congr fun y hy => lead_unique h hf (lead_ok h) y hy
def spLead (K : PySem.W.Frag) : Sp := fun vs h Q _ => ∃ (b : Hp) (C : List PlC), Ex b h ∧ DtA K b vs [chD C] ∧ WfC C ∧ ∀ v b' h', Gr b h b' h' → Dt K b' v (listQ C.length (leadC C)) → OwnF h b' v → Q v h'
section
variable {K : PySem.W.Frag} {σ : L2.St} {b h : Hp} {ts : TA} {E : XK}
theorem ed_long (y : EDA K ts σ b [chD C]) (h1 : WfC C) : ED K (tCall (spLong K) [] E ts) σ b (listQ C.length (longC C)) := fun h e _ qq =>
  y h e _ fun vs b2 h2' g2 hv => ⟨b2, C, g2.gi, by rw [List.append_nil]; exact hv, h1, fun v b3 h3 g Z g3 hg _ _ _ hv3 _ => qq v b3 h3 (g2.trans g3) (by rw [← long_is h1 hg]; exact hv3)⟩
end
end Md
set_option Elab.async false
set_option linter.all false
set_option maxRecDepth 100000
set_option maxHeartbeats 2000000
namespace Md
open PySem L2 Evl
variable {C : List PlC}
theorem nb_big {M B j i k : Nat} {r : Rat} (h : NB M B r) (hM : 0 < M) (hB : 1 ≤ B) (h1 : B ≤ 2 ^ i) (h2 : M < 2 ^ k) (hj : i + k ≤ j) : Big j (canon r) := h.big hM hB (Nat.lt_of_lt_of_le (lt_pow_mul (Nat.le_refl _) h1 h2) (Nat.pow_le_pow_right (by decide) hj))
theorem long_size (h : WfC C) : ∃ M, 0 < M ∧ M < 2 ^ 432 ∧ ∀ y, y < C.length → NB M 1000 (longC C y) := by
  obtain ⟨Z, a, b, c⟩ := long_nb h
  have h12 := h.l12
  exact ⟨_, Nat.mul_pos (unit_lt h).1 a, unit_lt13 (j := 0) h (Nat.le_trans b (pow288 (k := 2 * C.length) (a := 24) (by omega))), c⟩
theorem pow288' {k : Nat} (h : k ≤ 60) : 4320 ^ k ≤ 2 ^ 726 := Nat.le_trans (Nat.pow_le_pow_right (by decide) h) (by decide +kernel)
theorem lead_sizes (h : WfC C) : ∃ M, 0 < M ∧ M < 2 ^ 846 ∧ ∀ y, y < C.length → NB M (2 ^ 169) (leadC C y) := by
  obtain ⟨Z, a, b, c⟩ := lead_nb h
  have h12 := h.l12
  refine ⟨_, Nat.mul_pos (unit_lt h).1 a, unit_lt13 (j := 0) h (Nat.le_trans b (pow288' (k := 5 * C.length) (by omega))), fun y hy => (c y hy).mono (Nat.dvd_refl _) ?_⟩
  have : 4320 ^ (C.length + 1) ≤ 4320 ^ 13 := Nat.pow_le_pow_right (by decide) (by omega)
  exact Nat.le_trans (Nat.mul_le_mul_left 4000 this) (by decide +kernel)
theorem nb_mul {M N A B : Nat} {r s : Rat} (h : NB M A r) (g : NB N B s) : NB (M * N) (A * B) (r * s) := by
  have m := mul_bd h.lo h.hi g.lo g.hi
  rw [← natR_mul] at m
  exact ⟨h.zt.mul g.zt, m.1, m.2⟩
def ringC (a b : Int) : List PlC := [⟨(a, 1), [((1, 1), 1)]⟩, ⟨(b, 1), [((1, 1), 0)]⟩]
theorem wf_one_int {n t : Nat} {g : Int} (hg : g.natAbs < 1000) (h : t < n) : WfB n ⟨(g, 1), [((1, 1), t)]⟩ := wf_sure_one ⟨show (1 : Int) ≤ 1 by decide, show (1 : Int) < 1000 by decide, hg, Nat.gcd_one_right _⟩ h
theorem ringC_wf {a b : Int} (ha : a.natAbs < 1000) (hb : b.natAbs < 1000) : WfC (ringC a b) := ⟨by show 1 ≤ 2; decide, by show 2 ≤ 12; decide, fun p hp => by
  rcases List.mem_cons.mp hp with rfl | hp
  · exact wf_one_int ha (by show 1 < 2; decide)
  · rw [List.mem_singleton.mp hp]
    exact wf_one_int hb (by show 0 < 2; decide)⟩
theorem wsum_ring (t : Nat) (f : Nat → Rat) : wsum [((1, 1), t)] f = f t := by
  rw [wsum_cons, wsum_nil, q_one]
  show 1 * f t + 0 = f t
  grind
theorem ring_mean0 (a b : Int) (f : Nat → Rat) : meanC (ringC a b) f 0 = f 1 := wsum_ring 1 f
theorem ring_mean1 (a b : Int) (f : Nat → Rat) : meanC (ringC a b) f 1 = f 0 := wsum_ring 0 f
theorem ring_gain (a b : Int) : gainC (ringC a b) 0 = (a : Rat) ∧ gainC (ringC a b) 1 = (b : Rat) := by
  constructor
  · show (a : Rat) / ((1 : Int) : Rat) = a
    have : ((1 : Int) : Rat) = 1 := rfl
    rw [this]
    grind
  · show (b : Rat) / ((1 : Int) : Rat) = b
    have : ((1 : Int) : Rat) = 1 := rfl
    rw [this]
    grind
theorem ring_all {a b : Int} {x y : Nat} (hx : x < 2) (hy : y < 2) : Reach (ringC a b) x y := by
  have s01 : Reach (ringC a b) 0 1 := Reach.step (q := ((1, 1), 1)) .refl (List.mem_singleton.mpr rfl)
  have s10 : Reach (ringC a b) 1 0 := Reach.step (q := ((1, 1), 0)) .refl (List.mem_singleton.mpr rfl)
  have hx' : x = 0 ∨ x = 1 := by omega
  have hy' : y = 0 ∨ y = 1 := by omega
  rcases hx' with rfl | rfl <;> rcases hy' with rfl | rfl
  · exact .refl
  · exact s01
  · exact s10
  · exact .refl
theorem ring_long {a b : Int} (ha : a.natAbs < 1000) (hb : b.natAbs < 1000) : longC (ringC a b) 0 = ((a + b : Int) : Rat) / ((2 : Int) : Rat) ∧ longC (ringC a b) 1 = ((a + b : Int) : Rat) / ((2 : Int) : Rat) ∧ leadC (ringC a b) 0 = ((a - b : Int) : Rat) / ((4 : Int) : Rat) ∧ leadC (ringC a b) 1 = ((b - a : Int) : Rat) / ((4 : Int) : Rat) := by
  have hW := ringC_wf ha hb
  have e0 := long_mean hW (long_ok hW) (x := 0) (by show 0 < 2; decide)
  have l0 := lead_eq hW (long_ok hW) (lead_ok hW) (x := 0) (by show 0 < 2; decide)
  have l1 := lead_eq hW (long_ok hW) (lead_ok hW) (x := 1) (by show 1 < 2; decide)
  rw [ring_mean0] at e0 l0
  rw [ring_mean1] at l1
  obtain ⟨g0, g1⟩ := ring_gain a b
  rw [g0] at l0
  rw [g1] at l1
  have hr : ∀ x, x < 2 → reachL (ringC a b) x = [0, 1] := fun x hx => by
    have : reachL (ringC a b) x = (List.range 2).filter fun _ => true := List.filter_congr fun y hy => by
      rw [@decide_eq_true _ (Classical.propDecidable _) (ring_all hx (List.mem_range.mp hy))]
    rw [this]
    rfl
  have hh : (0 : Nat) ∈ headsL (ringC a b) := mem_heads.mpr ⟨by show 0 < 2; decide, by rw [hr 0 (by decide)]; rfl, fun y hy => by
    rw [hr 0 (by decide)] at hy
    have : y < 2 := by
      simp only [List.mem_cons, List.not_mem_nil, or_false] at hy
      omega
    rw [hr y this, hr 0 (by decide)]⟩
  obtain ⟨L, eL, G⟩ := head_grp hW hh
  have eL2 : L = [1] := by
    rw [hr 0 (by decide)] at eL
    injection eL with _ eL
    exact eL.symm
  subst eL2
  have s := lead_share hW (lead_ok hW) hh eL G (p := fun _ => 1) fun f => by
    show 1 * meanC (ringC a b) f 0 + (1 * meanC (ringC a b) f 1 + 0) = 1 * f 0 + (1 * f 1 + 0)
    rw [ring_mean0, ring_mean1]
    grind
  have s2 : 1 * leadC (ringC a b) 0 + (1 * leadC (ringC a b) 1 + 0) = 0 := s
  have c2 : ((2 : Int) : Rat) = 2 := rfl
  have c4 : ((4 : Int) : Rat) = 4 := rfl
  rw [Rat.intCast_add, Rat.intCast_sub, Rat.intCast_sub, c2, c4]
  refine ⟨?_, ?_, ?_, ?_⟩ <;> grind
def spTwo (K : PySem.W.Frag) : Sp := fun vs h Q _ => ∃ (b : Hp) (ds : List Int), Ex b h ∧ DtA K b vs [.list (ds.map PyData.int)] ∧ ds.length = 2 ∧ (∀ d ∈ ds, 0 ≤ d ∧ d < 1000) ∧ ∀ v b' h' x y, Gr b h b' h' → -20 ≤ x → x ≤ 20 → -20 ≤ y → y ≤ 29 → x < y → Dt K b' v (.tuple [.int x, .int y]) → Q v h'
def spRing (K : PySem.W.Frag) : Sp := fun vs h Q _ => ∃ (b : Hp) (x y : Int), Ex b h ∧ DtA K b vs [.int x, .int y] ∧ ∀ v b' h', Gr b h b' h' → Dt K b' v (chD (ringC x y)) → Q v h'
section
variable {K : PySem.W.Frag} {σ : L2.St} {b h : Hp} {ts : TA} {E : XK} {ds : List PyData} {D : Ends} {tz : TS}
end
end Md
set_option Elab.async false
set_option linter.all false
set_option maxRecDepth 100000
set_option maxHeartbeats 2000000
namespace Md
open PySem L2 Evl
def hiQ (f : Nat → Rat) : Nat → Rat
  | 0 => f 0
  | k + 1 => if decide (hiQ f k < f k) = true then f k else hiQ f k
def loQ (f : Nat → Rat) : Nat → Rat
  | 0 => f 0
  | k + 1 => if decide (f k < loQ f k) = true then f k else loQ f k
theorem hi_mem {f : Nat → Rat} {n : Nat} (hn : 0 < n) : ∀ k, k ≤ n → ∃ j, j < n ∧ hiQ f k = f j
  | 0, _ => ⟨0, hn, rfl⟩
  | k + 1, hk => by
    obtain ⟨j, h1, h2⟩ := hi_mem hn k (by omega)
    show ∃ j, j < n ∧ (if decide (hiQ f k < f k) = true then f k else hiQ f k) = f j
    by_cases c : decide (hiQ f k < f k) = true
    · rw [if_pos c]
      exact ⟨k, by omega, rfl⟩
    · rw [if_neg c]
      exact ⟨j, h1, h2⟩
theorem lo_mem {f : Nat → Rat} {n : Nat} (hn : 0 < n) : ∀ k, k ≤ n → ∃ j, j < n ∧ loQ f k = f j
  | 0, _ => ⟨0, hn, rfl⟩
  | k + 1, hk => by
    obtain ⟨j, h1, h2⟩ := lo_mem hn k (by omega)
    show ∃ j, j < n ∧ (if decide (f k < loQ f k) = true then f k else loQ f k) = f j
    by_cases c : decide (f k < loQ f k) = true
    · rw [if_pos c]
      exact ⟨k, by omega, rfl⟩
    · rw [if_neg c]
      exact ⟨j, h1, h2⟩
theorem hi_ge {f : Nat → Rat} : ∀ {k j : Nat}, j < k → f j ≤ hiQ f k
  | k + 1, j, h => by
    show f j ≤ (if decide (hiQ f k < f k) = true then f k else hiQ f k)
    by_cases c : decide (hiQ f k < f k) = true
    · rw [if_pos c]
      have c := of_decide_eq_true c
      rcases Nat.lt_or_ge j k with z | z
      · have := hi_ge (f := f) z
        grind
      · obtain rfl : j = k := by omega
        exact Rat.le_refl
    · rw [if_neg c]
      have c : ¬ hiQ f k < f k := fun z => c (decide_eq_true z)
      rcases Nat.lt_or_ge j k with z | z
      · exact hi_ge z
      · obtain rfl : j = k := by omega
        grind
theorem lo_le {f : Nat → Rat} : ∀ {k j : Nat}, j < k → loQ f k ≤ f j
  | k + 1, j, h => by
    show (if decide (f k < loQ f k) = true then f k else loQ f k) ≤ f j
    by_cases c : decide (f k < loQ f k) = true
    · rw [if_pos c]
      have c := of_decide_eq_true c
      rcases Nat.lt_or_ge j k with z | z
      · have := lo_le (f := f) z
        grind
      · obtain rfl : j = k := by omega
        exact Rat.le_refl
    · rw [if_neg c]
      have c : ¬ f k < loQ f k := fun z => c (decide_eq_true z)
      rcases Nat.lt_or_ge j k with z | z
      · exact lo_le z
      · obtain rfl : j = k := by omega
        grind
section
variable {K : PySem.W.Frag} {σ : L2.St} {b h : Hp} {ts : TA} {E : XK} {C : List PlC} {r s : Rat} {n : Nat} {f : Nat → Rat}
end
end Md
set_option Elab.async false
set_option linter.all false
set_option maxRecDepth 100000
set_option maxHeartbeats 2000000
namespace Md
open PySem L2 Evl
def hgtR (c : Rat) (g : Nat → Int) : Nat → Rat
  | 0 => 0
  | k + 1 => hgtR c g k + (c - (g k : Rat))
section
variable {n : Nat} {g : Nat → Int}
end
end Md
set_option Elab.async false
set_option linter.all false
set_option maxRecDepth 100000
set_option maxHeartbeats 2000000
namespace Md
open PySem L2 Evl
section
variable {a b : Int} {m : Nat}
end
end Md
set_option Elab.async false
set_option linter.all false
set_option maxRecDepth 100000
set_option maxHeartbeats 2000000
namespace Md
open PySem L2 Evl
section
variable {n : Nat} {g : Nat → Int}
theorem nb_int {M B : Nat} {z : Int} (h : z.natAbs ≤ B) : NB M B (z : Rat) := ⟨zt_int M z, (abs_to h).1, (abs_to h).2⟩
structure RngS (n : Nat) (g : Nat → Int) (c : Rat) : Prop where
  G : ∀ k, k < n → Big 900 (canon (g k : Rat))
  A : ∀ i, i ≤ n → Big 900 (canon (sumR i fun j => (g j : Rat)))
  B : Big 900 (canon c)
  C : ∀ k, k < n → Big 900 (canon (c - (g k : Rat)))
  D : ∀ k, k ≤ n → Big 900 (canon (hgtR c g k))
  E : ∀ i, i ≤ n → Big 900 (canon (sumR i (hgtR c g)))
  F : Big 900 (canon (sumR n (hgtR c g) / natR n))
  I : Big 900 (canon (1 / natR n))
end
end Md
set_option Elab.async false
set_option linter.all false
set_option maxRecDepth 100000
set_option maxHeartbeats 2000000
namespace Md
open PySem L2 Evl
section
variable {K : PySem.W.Frag} {σ : L2.St} {b h : Hp} {ta te : TE} {ts : TA} {t : TT} {vs : List Nat} {E : XK} {D : Ends} {d : PyData} {us : List V} {q : Addr} {r s : Rat}
end
end Md
set_option Elab.async false
set_option linter.all false
set_option maxRecDepth 100000
set_option maxHeartbeats 2000000
namespace Md
open PySem L2 Evl
def EucW (g i x y : Nat) : Prop := Nat.gcd x y = g ∧ (if i = 0 then y = 0 ∨ y < 2 ^ 1998 * g else y < x ∧ x * y * 2 ^ (i - 1) < 2 ^ 3996 * (g * g))
theorem eucW_turn {g i x y : Nat} (h : EucW g i x y) (h0 : 0 < y) : EucW g (i + 1) y (x % y) := by
  obtain ⟨h1, h2⟩ := h
  refine ⟨by rw [← h1, Nat.gcd_comm x y, Nat.gcd_rec y x, Nat.gcd_comm], ?_⟩
  have hm := Nat.mod_lt x h0
  rw [if_neg (by omega)]
  refine ⟨hm, ?_⟩
  by_cases hi : i = 0
  · rw [if_pos hi] at h2
    subst hi
    have h3 : y < 2 ^ 1998 * g := h2.resolve_left (by omega)
    show y * (x % y) * 2 ^ 0 < 2 ^ 3996 * (g * g)
    rw [Nat.pow_zero, Nat.mul_one, show (3996 : Nat) = 1998 + 1998 from rfl, Nat.pow_add]
    have := Nat.mul_lt_mul'' h3 (Nat.lt_trans hm h3)
    rwa [Nat.mul_mul_mul_comm] at this
  · rw [if_neg hi] at h2
    obtain ⟨h3, h4⟩ := h2
    obtain ⟨j, rfl⟩ : ∃ j, i = j + 1 := ⟨i - 1, by omega⟩
    show y * (x % y) * 2 ^ (j + 1) < 2 ^ 3996 * (g * g)
    refine Nat.lt_of_le_of_lt ?_ h4
    show y * (x % y) * 2 ^ (j + 1) ≤ x * y * 2 ^ j
    have h5 : x % y * 2 ≤ x := mod_twice (Nat.le_of_lt h3) h0
    calc y * (x % y) * 2 ^ (j + 1) = y * (x % y * 2) * 2 ^ j := by rw [Nat.pow_succ]; simp [Nat.mul_comm, Nat.mul_left_comm, Nat.mul_assoc]
      _ ≤ y * x * 2 ^ j := Nat.mul_le_mul_right _ (Nat.mul_le_mul_left _ h5)
      _ = x * y * 2 ^ j := by rw [Nat.mul_comm y x]
theorem eucW_end {g x y : Nat} (h : EucW g 4000 x y) : y = 0 := by
  obtain ⟨h1, h2⟩ := h
  rw [if_neg (by decide)] at h2
  obtain ⟨h3, h4⟩ := h2
  rcases Nat.eq_zero_or_pos y with z | z
  · exact z
  · exfalso
    have dx : g ≤ x := by rw [← h1]; exact Nat.le_of_dvd (by omega) (Nat.gcd_dvd_left x y)
    have dy : g ≤ y := by rw [← h1]; exact Nat.le_of_dvd z (Nat.gcd_dvd_right x y)
    have h5 : g * g ≤ x * y := Nat.mul_le_mul dx dy
    have h6 : g * g * 2 ^ (4000 - 1) ≤ x * y * 2 ^ (4000 - 1) := Nat.mul_le_mul_right _ h5
    have h7 : g * g * 2 ^ 3996 ≤ g * g * 2 ^ (4000 - 1) := Nat.mul_le_mul_left _ (Nat.pow_le_pow_right (by decide) (by decide))
    rw [Nat.mul_comm (2 ^ 3996)] at h4
    exact absurd (Nat.lt_of_lt_of_le h4 (Nat.le_trans h7 h6)) (Nat.lt_irrefl _)
theorem eucW_zero {g i x : Nat} (h : EucW g i x 0) : x = g := by
  have := h.1
  rwa [Nat.gcd_zero_right] at this
def spGcdW (K : PySem.W.Frag) : Sp := SpF K 2 (fun ds => ∃ a b : Int, ds = [.int a, .int b] ∧ (b.natAbs = 0 ∨ b.natAbs < 2 ^ 1998 * Nat.gcd a.natAbs b.natAbs)) (fun ds d => ∀ a b : Int, ds = [.int a, .int b] → d = .int ((Nat.gcd a.natAbs b.natAbs : Nat) : Int))
def spNumberW (K : PySem.W.Frag) : Sp := SpF K 2 (fun ds => ∃ n d : Int, ds = [.int n, .int d] ∧ d ≠ 0 ∧ n.natAbs < 2 ^ 8100 ∧ d.natAbs < 2 ^ 8100 ∧ d.natAbs < 2 ^ 1998 * Nat.gcd n.natAbs d.natAbs) (fun ds r => ∀ n d : Int, ds = [.int n, .int d] → r = nD (num n d))
theorem small_gcd {a b : Nat} (h : b < 2 ^ 1900) : b = 0 ∨ b < 2 ^ 1998 * Nat.gcd a b := by
  rcases Nat.eq_zero_or_pos b with z | z
  · exact .inl z
  · refine .inr ?_
    have h1 := Nat.gcd_pos_of_pos_right a z
    have h2 : 2 ^ 1998 * 1 ≤ 2 ^ 1998 * Nat.gcd a b := Nat.mul_le_mul_left _ h1
    have h3 : b < 2 ^ 1998 := Nat.lt_of_lt_of_le h (Nat.pow_le_pow_right (by decide) (by decide))
    rw [Nat.mul_one] at h2
    exact Nat.lt_of_lt_of_le h3 h2
theorem Has.imp {P : Program} {w : World} {K : PySem.W.Frag} {mg : Str → Option Value} {base : Heap} {k : Nat} {x : Str} {ps : List Str} {sp sp' : Sp} (H : Has P w K mg base k x ps sp) (h : ∀ vs h Q E, sp' vs h Q E → sp vs h Q E) : Has P w K mg base k x ps sp' := by
  obtain ⟨f, fd, F, h1, h2, h3⟩ := H
  exact ⟨f, fd, F.imp h, h1, h2, h3⟩
theorem numberW_weak {P : Program} {w : World} {K : PySem.W.Frag} {mg : Str → Option Value} {base : Heap} {k : Nat} {x : Str} {ps : List Str} (H : Has P w K mg base k x ps (spNumberW K)) : Has P w K mg base k x ps (spNumber K) :=
  H.imp fun vs h Q E q => by
    obtain ⟨b, ds, h1, h2, h3, ⟨x, y, e, h0, hx, hy⟩, h5⟩ := q
    exact ⟨b, ds, h1, h2, h3, ⟨x, y, e, h0, Nat.lt_of_lt_of_le hx (Nat.pow_le_pow_right (by decide) (by decide)), Nat.lt_of_lt_of_le hy (Nat.pow_le_pow_right (by decide) (by decide)), (small_gcd hy).resolve_left (by omega)⟩, h5⟩
theorem num_den {n d : Int} (h : 0 < d) : d.natAbs = (num n d).2.natAbs * Nat.gcd n.natAbs d.natAbs := by
  rw [num_pos h]
  show d.natAbs = (d / ((Nat.gcd n.natAbs d.natAbs : Nat) : Int)).natAbs * Nat.gcd n.natAbs d.natAbs
  obtain ⟨c, hc⟩ := Nat.gcd_dvd_right n.natAbs d.natAbs
  have g0 : 0 < Nat.gcd n.natAbs d.natAbs := Nat.gcd_pos_of_pos_right _ (by omega)
  generalize Nat.gcd n.natAbs d.natAbs = g at *
  have hd : d = (g : Int) * (c : Int) := by
    have : d = (d.natAbs : Int) := by omega
    rw [this, hc, Int.natCast_mul]
  have e : d / (g : Int) = (c : Int) := by
    rw [hd]
    exact Int.mul_ediv_cancel_left _ (by omega)
  rw [e, Int.natAbs_natCast, hc, Nat.mul_comm]
def spPlusW (K : PySem.W.Frag) : Sp := fun vs h Q _ => ∃ (b : Hp) (r s : Rat), Ex b h ∧ DtA K b vs [nQ r, nQ s] ∧ Big 4000 (canon r) ∧ Big 4000 (canon s) ∧ (r + s).den < 2 ^ 1998 ∧ ∀ v b' h', Gr b h b' h' → Dt K b' v (nQ (r + s)) → Q v h'
def spTimesW (K : PySem.W.Frag) : Sp := fun vs h Q _ => ∃ (b : Hp) (r s : Rat), Ex b h ∧ DtA K b vs [nQ r, nQ s] ∧ Big 4000 (canon r) ∧ Big 4000 (canon s) ∧ (r * s).den < 2 ^ 1998 ∧ ∀ v b' h', Gr b h b' h' → Dt K b' v (nQ (r * s)) → Q v h'
def spTotW (K : PySem.W.Frag) : Sp := fun vs h Q _ => ∃ (b : Hp) (l : List Rat), Ex b h ∧ DtA K b vs [ratsD l] ∧ l.length ≤ 1000 ∧ (∀ i, i ≤ l.length → Big 4000 (canon (l.take i).sum) ∧ (l.take i).sum.den < 2 ^ 1998) ∧ (∀ r ∈ l, Big 4000 (canon r)) ∧ ∀ v b' h', Gr b h b' h' → Dt K b' v (nQ l.sum) → Q v h'
theorem den_gcd {n d : Int} {r : Rat} (h : 0 < d) (e : num n d = canon r) (hr : r.den < 2 ^ 1998) : d.natAbs < 2 ^ 1998 * Nat.gcd n.natAbs d.natAbs := by
  have h1 := num_den (n := n) h
  rw [e] at h1
  have h2 : (canon r).2.natAbs = r.den := Int.natAbs_natCast _
  rw [h2] at h1
  have g0 : 0 < Nat.gcd n.natAbs d.natAbs := Nat.gcd_pos_of_pos_right _ (by omega)
  generalize Nat.gcd n.natAbs d.natAbs = g at *
  rw [h1]
  exact Nat.mul_lt_mul_of_pos_right hr g0
section
variable {K : PySem.W.Frag} {σ : L2.St} {b h : Hp} {ts : TA} {E : XK} {r s : Rat}
theorem ed_plusW (y : EDA K ts σ b [nQ r, nQ s]) (h1 : Big 4000 (canon r)) (h2 : Big 4000 (canon s)) (h3 : (r + s).den < 2 ^ 1998) : ED K (tCall (spPlusW K) [] E ts) σ b (nQ (r + s)) := fun h e _ qq =>
  y h e _ fun vs b2 h2' g2 hv => ⟨b2, r, s, g2.gi, by rw [List.append_nil]; exact hv, h1, h2, h3, fun v b3 h3 g3 hv3 => qq v b3 h3 (g2.trans g3) hv3⟩
theorem ed_timesW (y : EDA K ts σ b [nQ r, nQ s]) (h1 : Big 4000 (canon r)) (h2 : Big 4000 (canon s)) (h3 : (r * s).den < 2 ^ 1998) : ED K (tCall (spTimesW K) [] E ts) σ b (nQ (r * s)) := fun h e _ qq =>
  y h e _ fun vs b2 h2' g2 hv => ⟨b2, r, s, g2.gi, by rw [List.append_nil]; exact hv, h1, h2, h3, fun v b3 h3 g3 hv3 => qq v b3 h3 (g2.trans g3) hv3⟩
theorem ed_totW {l : List Rat} (y : EDA K ts σ b [ratsD l]) (h1 : l.length ≤ 1000) (h2 : ∀ i, i ≤ l.length → Big 4000 (canon (l.take i).sum) ∧ (l.take i).sum.den < 2 ^ 1998) (h3 : ∀ r ∈ l, Big 4000 (canon r)) : ED K (tCall (spTotW K) [] E ts) σ b (nQ l.sum) := fun h e _ qq =>
  y h e _ fun vs b2 h2' g2 hv => ⟨b2, l, g2.gi, by rw [List.append_nil]; exact hv, h1, h2, h3, fun v b3 h3 g3 hv3 => qq v b3 h3 (g2.trans g3) hv3⟩
end
end Md
set_option Elab.async false
set_option linter.all false
set_option maxRecDepth 100000
set_option maxHeartbeats 2000000
namespace Md
open PySem L2 Evl
structure PlV where
  g : Int × Int
  k : Option Bool
  bs : List BrC
def kdV : Option Bool → Str
  | none => "draw"
  | some true => "ours"
  | some false => "theirs"
def PlV.el (p : PlV) : List PyData := match p.k with
  | none => p.bs.map brC
  | some _ => p.bs.map fun q => PyData.int (q.2 : Int)
def PlV.D (p : PlV) : PyData := .tuple [nD p.g, .str (kdV p.k), .list p.el]
def gvD (G : List PlV) : PyData := .list (G.map PlV.D)
def tkQ (o : Bool) (l : List Rat) : Rat := if o = true then hiQ (fun j => l.getD j 0) l.length else loQ (fun j => l.getD j 0) l.length
theorem getDq_mem {l : List Rat} {j : Nat} (h : j < l.length) : l.getD j 0 ∈ l := by
  rw [List.getD_eq_getElem?_getD, List.getElem?_eq_getElem h]
  exact List.getElem_mem h
theorem tk_mem {o : Bool} {l : List Rat} (h : 0 < l.length) : tkQ o l ∈ l := by
  unfold tkQ
  split
  · obtain ⟨j, h1, h2⟩ := hi_mem (f := fun j => l.getD j 0) h l.length (Nat.le_refl _)
    rw [h2]
    exact getDq_mem h1
  · obtain ⟨j, h1, h2⟩ := lo_mem (f := fun j => l.getD j 0) h l.length (Nat.le_refl _)
    rw [h2]
    exact getDq_mem h1
theorem mem_getD {l : List Rat} {y : Rat} (h : y ∈ l) : ∃ j, j < l.length ∧ l.getD j 0 = y := by
  obtain ⟨j, hj, rfl⟩ := List.mem_iff_getElem.mp h
  exact ⟨j, hj, by rw [List.getD_eq_getElem?_getD, List.getElem?_eq_getElem hj]; rfl⟩
theorem tk_hi {l : List Rat} {y : Rat} (h : y ∈ l) : y ≤ tkQ true l := by
  obtain ⟨j, hj, e⟩ := mem_getD h
  show y ≤ hiQ _ _
  have := hi_ge (f := fun j => l.getD j 0) hj
  rw [← e]
  exact this
theorem tk_lo {l : List Rat} {y : Rat} (h : y ∈ l) : tkQ false l ≤ y := by
  obtain ⟨j, hj, e⟩ := mem_getD h
  show loQ _ _ ≤ y
  have := lo_le (f := fun j => l.getD j 0) hj
  rw [← e]
  exact this
theorem tk_is {o : Bool} {l : List Rat} {m : Rat} (hm : m ∈ l) (h : ∀ y ∈ l, if o = true then y ≤ m else m ≤ y) : tkQ o l = m := by
  have h0 := h _ (tk_mem (o := o) (List.length_pos_of_mem hm))
  cases o with
  | true =>
    have h1 := tk_hi hm
    rw [if_pos rfl] at h0
    grind
  | false =>
    have h1 := tk_lo hm
    rw [if_neg (by decide)] at h0
    grind
theorem tk_mul {o : Bool} {l : List Rat} {c : Rat} (hl : 0 < l.length) (hc : 0 ≤ c) : tkQ o (l.map fun x => x * c) = tkQ o l * c := by
  refine tk_is (List.mem_map.mpr ⟨_, tk_mem hl, rfl⟩) fun y hy => ?_
  obtain ⟨x, hx, rfl⟩ := List.mem_map.mp hy
  cases o with
  | true =>
    rw [if_pos rfl]
    exact Rat.mul_le_mul_of_nonneg_right (tk_hi hx) hc
  | false =>
    rw [if_neg (by decide)]
    exact Rat.mul_le_mul_of_nonneg_right (tk_lo hx) hc
def vW (p : PlV) (f : Nat → Rat) : Rat := match p.k with
  | none => wsum p.bs f
  | some o => tkQ o (p.bs.map fun q => f q.2)
structure WfV (w n : Nat) (p : PlV) : Prop where
  g : SmallN p.g
  l1 : 1 ≤ p.bs.length
  l6 : p.bs.length ≤ 6
  t : ∀ q ∈ p.bs, q.2 < n
  c : p.k = none → ∀ q ∈ p.bs, SmallN q.1 ∧ 0 ≤ q.1.1
  w : p.k = none → ∃ W : Nat, 0 < W ∧ W ≤ w ∧ ∀ q ∈ p.bs, q.1.2.natAbs ∣ W
  s : p.k = none → (p.bs.map fun q => qN q.1).sum = 1
structure WfVG (w : Nat) (G : List PlV) : Prop where
  l1 : 1 ≤ G.length
  l12 : G.length ≤ 12
  p : ∀ p ∈ G, WfV w G.length p
def vl (G : List PlV) (k : Nat) : PlV := G.getD k ⟨(0, 1), some true, []⟩
theorem vl_get {G : List PlV} {k : Nat} (h : k < G.length) : G[k]? = some (vl G k) := by
  unfold vl
  rw [List.getD_eq_getElem?_getD, List.getElem?_eq_getElem h]
  rfl
theorem vl_mem {G : List PlV} {k : Nat} (h : k < G.length) : vl G k ∈ G := List.mem_of_getElem? (vl_get h)
theorem vl_wf {w : Nat} {G : List PlV} (h : WfVG w G) {k : Nat} (hk : k < G.length) : WfV w G.length (vl G k) := h.p _ (vl_mem hk)
theorem map_vl {β : Type} (G : List PlV) (f : PlV → β) : (List.range G.length).map (fun i => f (vl G i)) = G.map f := map_getDn G _ f
theorem vW_congr {p : PlV} {f g : Nat → Rat} (h : ∀ q ∈ p.bs, f q.2 = g q.2) : vW p f = vW p g := by
  unfold vW
  split
  · exact wsum_congr h
  · congr 1
    exact List.map_congr_left h
theorem vW_mul {w n : Nat} {p : PlV} (hw : WfV w n p) {c : Rat} (hc : 0 ≤ c) (f : Nat → Rat) : vW p (fun j => f j * c) = vW p f * c := by
  unfold vW
  split
  · have : wsum p.bs (fun j => f j * c) = wsum p.bs (fun j => c * f j) := wsum_congr fun q _ => Rat.mul_comm _ _
    rw [this, wsum_mul, Rat.mul_comm]
  · rw [← tk_mul (by rw [List.length_map]; exact hw.l1) hc, List.map_map]
    rfl
theorem qN_nonneg {p : Int × Int} (h : Red p) (h0 : 0 ≤ p.1) : 0 ≤ qN p := by
  rcases Int.lt_or_eq_of_le h0 with z | z
  · exact Rat.le_of_lt (q_pos h z)
  · unfold qN
    rw [← z, Rat.div_def]
    show (0 : Rat) ≤ ((0 : Int) : Rat) * _
    have : ((0 : Int) : Rat) = 0 := rfl
    rw [this, Rat.zero_mul]
    exact Rat.le_refl
theorem nb_vW {w n M B S : Nat} {p : PlV} {f : Nat → Rat} (hw : WfV w n p) (hS : p.k = none → ∀ q ∈ p.bs, q.1.2.natAbs ∣ S) (hf : ∀ q ∈ p.bs, NB M B (f q.2)) : NB (M * S) B (vW p f) := by
  unfold vW
  split
  · rename_i hk
    have hc := hw.c hk
    have b := part_bd (bs := p.bs) (f := f) (B := B) (fun q hq => qN_nonneg (red_small (hc q hq).1) (hc q hq).2) (fun q hq => ⟨(hf q hq).lo, (hf q hq).hi⟩) (by rw [wsum_one, hw.s hk]; exact Rat.le_refl)
    exact ⟨part_zt fun q hq => ⟨red_small (hc q hq).1, hS hk q hq, (hf q hq).zt⟩, b.1, b.2⟩
  · rename_i o hk
    obtain ⟨q, hq, e⟩ := List.mem_map.mp (tk_mem (o := o) (l := p.bs.map fun q => f q.2) (by rw [List.length_map]; exact hw.l1))
    rw [← e]
    exact (hf q hq).mono (Nat.dvd_mul_right _ _) (Nat.le_refl _)
def wG (G : List PlV) (d : Rat) : Nat → Nat → Rat
  | 0, _ => 0
  | t + 1, k => qN (vl G k).g + d * vW (vl G k) (wG G d t)
theorem disc_le {dn dd : Nat} (h1 : dn ≤ dd) (h2 : 1 ≤ dd) : 0 ≤ natR dn / natR dd ∧ natR dn / natR dd ≤ 1 ∧ Zt dd (natR dn / natR dd) := by
  have p := natR_pos (a := dd) h2
  have h := natR_le h1
  have h0 := natR_nonneg dn
  refine ⟨le_div' p (by grind), div_le' p (by grind), (dn : Int), ?_⟩
  have : natR dd ≠ 0 := by grind
  show natR dn / natR dd * natR dd = natR dn
  exact Rat.div_mul_cancel this
theorem nb_wG {w U S dn dd : Nat} {G : List PlV} (hW : WfVG w G) (hU : ∀ p ∈ G, p.g.2.natAbs ∣ U) (hS : ∀ p ∈ G, p.k = none → ∀ q ∈ p.bs, q.1.2.natAbs ∣ S) (h1 : dn ≤ dd) (h2 : 1 ≤ dd) :
    ∀ t k, k < G.length → NB (U * (S * dd) ^ t) (1000 * t) (wG G (natR dn / natR dd) t k)
  | 0, k, _ => nb_zero _ _
  | t + 1, k, hk => by
    have hw := vl_wf hW hk
    have hm := vl_mem hk
    have ih := nb_wG hW hU hS h1 h2 t
    have a := nb_vW (f := wG G (natR dn / natR dd) t) hw (hS _ hm) fun q hq => ih q.2 (hw.t q hq)
    obtain ⟨d0, d1, dz⟩ := disc_le h1 h2
    have g := q_small hw.g
    have eM : U * (S * dd) ^ (t + 1) = dd * (U * (S * dd) ^ t * S) := by
      rw [Nat.pow_succ]
      simp [Nat.mul_comm, Nat.mul_left_comm, Nat.mul_assoc]
    have eB : natR (1000 * (t + 1)) = natR (1000 * t) + 1000 := by
      rw [Nat.mul_add, natR_add]
      rfl
    have n0 := natR_nonneg (1000 * t)
    have lo := a.lo
    have hi := a.hi
    generalize hv : vW (vl G k) (wG G (natR dn / natR dd) t) = v at *
    have dv : -natR (1000 * t) ≤ natR dn / natR dd * v ∧ natR dn / natR dd * v ≤ natR (1000 * t) := by
      generalize natR dn / natR dd = d at *
      have u1 := Rat.mul_le_mul_of_nonneg_left hi d0
      have u2 := Rat.mul_le_mul_of_nonneg_left lo d0
      have u3 := Rat.mul_le_mul_of_nonneg_right d1 n0
      constructor <;> grind
    show NB _ _ (qN (vl G k).g + natR dn / natR dd * vW (vl G k) (wG G (natR dn / natR dd) t))
    rw [hv]
    refine ⟨Zt.add ((zt_den (red_small hw.g) (hU _ hm)).dvd (Nat.dvd_mul_right _ _)) (by rw [eM]; exact dz.mul a.zt), ?_, ?_⟩
    · rw [eB]; grind
    · rw [eB]; grind
def gainsV (G : List PlV) : List (Int × Int) := G.map (·.g)
def chp (p : PlV) : List (Int × Int) := match p.k with
  | none => p.bs.map (·.1)
  | some _ => []
def chancesV (G : List PlV) : List (Int × Int) := (G.map chp).flatten
theorem chv_mem {G : List PlV} {p : PlV} {q : BrC} (hp : p ∈ G) (hk : p.k = none) (hq : q ∈ p.bs) : q.1 ∈ chancesV G := List.mem_flatten.mpr ⟨_, List.mem_map.mpr ⟨p, hp, rfl⟩, by
  unfold chp
  rw [hk]
  exact List.mem_map.mpr ⟨q, hq, rfl⟩⟩
theorem mem_chv {G : List PlV} {c : Int × Int} (h : c ∈ chancesV G) : ∃ p ∈ G, p.k = none ∧ ∃ q ∈ p.bs, q.1 = c := by
  obtain ⟨l, hl, hc⟩ := List.mem_flatten.mp h
  obtain ⟨p, hp, rfl⟩ := List.mem_map.mp hl
  unfold chp at hc
  split at hc
  · rename_i hk
    obtain ⟨q, hq, rfl⟩ := List.mem_map.mp hc
    exact ⟨p, hp, hk, q, hq, rfl⟩
  · cases hc
theorem denV_le {w : Nat} (hw1 : 1 ≤ w) : ∀ {G : List PlV} {n : Nat}, (∀ p ∈ G, WfV w n p) → ∃ M : Nat, 0 < M ∧ M ≤ w ^ G.length ∧ ∀ c ∈ chancesV G, c.2.natAbs ∣ M
  | [], n, _ => ⟨1, by decide, by show 1 ≤ w ^ 0; rw [Nat.pow_zero]; exact Nat.le_refl 1, fun c h => by
    obtain ⟨p, hp, _⟩ := mem_chv h
    cases hp⟩
  | p :: G, n, h => by
    obtain ⟨M, h0, h1, h2⟩ := denV_le hw1 (G := G) (n := n) fun p hp => h p (List.mem_cons_of_mem _ hp)
    have hp := h p (List.mem_cons_self ..)
    obtain ⟨W, w0, w1, w2⟩ : ∃ W : Nat, 0 < W ∧ W ≤ w ∧ (p.k = none → ∀ q ∈ p.bs, q.1.2.natAbs ∣ W) := by
      by_cases hk : p.k = none
      · obtain ⟨W, a, b, c⟩ := hp.w hk
        exact ⟨W, a, b, fun _ => c⟩
      · exact ⟨1, by decide, hw1, fun z => absurd z hk⟩
    refine ⟨M * W, Nat.mul_pos h0 w0, ?_, fun c hc => ?_⟩
    · rw [List.length_cons, Nat.pow_succ]
      exact Nat.mul_le_mul h1 w1
    · obtain ⟨p', hp', hk, q, hq, rfl⟩ := mem_chv hc
      rcases List.mem_cons.mp hp' with rfl | hp'
      · exact Nat.dvd_trans (w2 hk q hq) (Nat.dvd_mul_left _ _)
      · exact Nat.dvd_trans (h2 _ (chv_mem hp' hk hq)) (Nat.dvd_mul_right _ _)
theorem scaleV_ok {w : Nat} (hw1 : 1 ≤ w) {G : List PlV} (h : WfVG w G) : 0 < denL (chancesV G) ∧ denL (chancesV G) ≤ w ^ G.length := by
  obtain ⟨M, h0, h1, h2⟩ := denV_le hw1 h.p
  refine ⟨denL_pos fun c hc => ?_, Nat.le_trans (Nat.le_of_dvd h0 (denL_to h2)) h1⟩
  obtain ⟨p, hp, hk, q, hq, rfl⟩ := mem_chv hc
  exact ((h.p p hp).c hk q hq).1.1
theorem num_cast (z : Int) : ((z : Rat)).num = z := rfl
theorem nb_abs {M B : Nat} {r : Rat} {z : Int} (h : NB M B r) (e : (z : Rat) = r * natR M) : z.natAbs ≤ B * M := by
  have hp := natR_nonneg M
  have u1 := Rat.mul_le_mul_of_nonneg_right h.lo hp
  have u2 := Rat.mul_le_mul_of_nonneg_right h.hi hp
  rw [← e] at u1 u2
  have v2 : z ≤ ((B : Nat) : Int) * ((M : Nat) : Int) := cast_le (by rw [Rat.intCast_mul]; exact u2)
  have v1 : -(((B : Nat) : Int) * ((M : Nat) : Int)) ≤ z := cast_le (by rw [Rat.intCast_neg, Rat.intCast_mul]; have : natR B * natR M = ((B : Int) : Rat) * ((M : Int) : Rat) := rfl; grind)
  have e3 : ((B * M : Nat) : Int) = ((B : Nat) : Int) * ((M : Nat) : Int) := Int.natCast_mul _ _
  rw [← e3] at v1 v2
  omega
end Md
set_option Elab.async false
set_option linter.all false
set_option maxRecDepth 100000
set_option maxHeartbeats 2000000
namespace Md
open PySem L2 Evl
section
variable {K : PySem.W.Frag} {σ : L2.St} {b h : Hp} {te tl tl1 ta tb : TE} {ts : TA} {E : XK} {D : Ends} {tz : TS} {d : PyData} {ds : List PyData}
end
section
variable {K : PySem.W.Frag} {σ : L2.St} {b h : Hp} {te tl tl1 ta tb : TE} {ts : TA} {E : XK} {G : List PlV} {p : PlV}
end
def ofC (p : PlC) : PlV := ⟨p.g, none, p.bs⟩
theorem ofC_D (C : List PlC) : gvD (C.map ofC) = chD C := by
  unfold gvD chD
  rw [List.map_map]
  rfl
theorem ofC_wf {C : List PlC} (h : WfC C) : WfVG 360 (C.map ofC) := by
  refine ⟨by rw [List.length_map]; exact h.l1, by rw [List.length_map]; exact h.l12, fun p hp => ?_⟩
  obtain ⟨p, hp1, rfl⟩ := List.mem_map.mp hp
  have w := h.p p hp1
  rw [List.length_map]
  exact ⟨w.g, w.l1, w.l6, fun q hq => (w.q q hq).2.2, fun _ q hq => ⟨(w.q q hq).1, by have := (w.q q hq).2.1; show 0 ≤ q.1.1; omega⟩, fun _ => w.w, fun _ => w.s⟩
theorem ofC_vl {C : List PlC} {k : Nat} (h : k < C.length) : vl (C.map ofC) k = ofC (plC C k) := by
  have h1 := vl_get (G := C.map ofC) (k := k) (by rw [List.length_map]; exact h)
  rw [List.getElem?_map, plC_get h] at h1
  exact (Option.some.inj h1).symm
end Md
namespace Md
open PySem L2 Evl
theorem el_draw {p : PlV} (h : p.k = none) : p.el = p.bs.map brC := by unfold PlV.el; rw [h]
end Md
namespace Md
open PySem L2 Evl
end Md
set_option Elab.async false
set_option linter.all false
set_option maxRecDepth 100000
set_option maxHeartbeats 2000000
namespace Md
open PySem L2 Evl
def onw (G : List PlV) (d : Rat) (f : Nat → Rat) (k : Nat) : Rat := qN (vl G k).g + d * vW (vl G k) f
section
variable {K : PySem.W.Frag} {σ : L2.St} {b h : Hp} {ts : TA} {E : XK}
end
theorem zt_den_dvd {M : Nat} {r : Rat} (h : Zt M r) : r.den ∣ M := by
  have := zt_dvd (canon_red r) (M := M) (by rw [q_canon]; exact h)
  have e : (canon r).2.natAbs = r.den := Int.natAbs_natCast _
  rwa [e] at this
theorem nb_big4 {M B : Nat} {r : Rat} (h : NB M B r) (hM : 0 < M) (h1 : M < 2 ^ 1998) (hB : B ≤ 2 ^ 1000) : Big 4000 (canon r) := by
  have h2 : NB M (2 ^ 1000) r := h.mono (Nat.dvd_refl _) hB
  refine h2.big hM (Nat.one_le_two_pow) ?_
  have : 2 ^ 1000 * M < 2 ^ 1000 * 2 ^ 1998 := Nat.mul_lt_mul_of_pos_left h1 (Nat.two_pow_pos _)
  rw [← Nat.pow_add] at this
  exact Nat.lt_of_lt_of_le this (Nat.pow_le_pow_right (by decide) (by decide))
theorem nb_den {M B : Nat} {r : Rat} (h : NB M B r) (hM : 0 < M) (h1 : M < 2 ^ 1998) : r.den < 2 ^ 1998 := Nat.lt_of_le_of_lt (Nat.le_of_dvd hM (zt_den_dvd h.zt)) h1
end Md
namespace Md
open PySem L2 Evl
end Md
set_option Elab.async false
set_option linter.all false
set_option maxRecDepth 100000
set_option maxHeartbeats 2000000
namespace Md
open PySem L2 Evl
structure Dis (dn dd : Nat) : Prop where
  a : 1 ≤ dn
  b : dn < dd
  c : dd ≤ 1000001
  r : Red ((dn : Int), (dd : Int))
theorem Dis.q2 {dn dd : Nat} (h : Dis dn dd) : qN ((dd : Int), ((dd - dn : Nat) : Int)) = 1 / (1 - natR dn / natR dd) := by
  have hb := h.b
  have p1 := natR_pos (a := dd) (by omega)
  have p2 := natR_pos (a := dd - dn) (by omega)
  have e : natR dd = natR (dd - dn) + natR dn := by
    rw [← natR_add]
    congr 1
    omega
  show natR dd / natR (dd - dn) = _
  have h1 : 1 - natR dn / natR dd = natR (dd - dn) / natR dd := by
    rw [Rat.div_def, Rat.div_def]
    have := Rat.mul_inv_cancel (natR dd) (by grind)
    grind
  rw [h1]
  have a1 : natR dd ≠ 0 := by grind
  have a2 : natR (dd - dn) ≠ 0 := by grind
  generalize natR dd = x at *
  generalize natR (dd - dn) = y at *
  rw [Rat.div_def, Rat.div_def, Rat.div_def, Rat.inv_mul_rev]
  grind
theorem NB.mul {M N B C : Nat} {r s : Rat} (h : NB M B r) (g : NB N C s) : NB (M * N) (B * C) (r * s) := by
  refine ⟨h.zt.mul g.zt, ?_, ?_⟩
  · rw [natR_mul]
    have a1 := h.lo
    have a2 := h.hi
    have c1 := g.lo
    have c2 := g.hi
    have b0 := natR_nonneg B
    have c0 := natR_nonneg C
    generalize natR B = x at *
    generalize natR C = y at *
    rcases Rat.le_total (a := 0) (b := s) with z | z
    · have u1 := Rat.mul_le_mul_of_nonneg_right a1 z
      have u2 := Rat.mul_le_mul_of_nonneg_left c2 b0
      grind
    · have z' : 0 ≤ -s := by grind
      have u1 := Rat.mul_le_mul_of_nonneg_right a2 z'
      have u2 := Rat.mul_le_mul_of_nonneg_left (show -s ≤ y by grind) b0
      grind
  · rw [natR_mul]
    have a1 := h.lo
    have a2 := h.hi
    have c1 := g.lo
    have c2 := g.hi
    have b0 := natR_nonneg B
    have c0 := natR_nonneg C
    generalize natR B = x at *
    generalize natR C = y at *
    rcases Rat.le_total (a := 0) (b := s) with z | z
    · have u1 := Rat.mul_le_mul_of_nonneg_right a2 z
      have u2 := Rat.mul_le_mul_of_nonneg_left c2 b0
      grind
    · have z' : 0 ≤ -s := by grind
      have u1 := Rat.mul_le_mul_of_nonneg_right a1 z'
      have u2 := Rat.mul_le_mul_of_nonneg_left (show -s ≤ y by grind) b0
      grind
section
variable {K : PySem.W.Frag} {σ : L2.St} {b h : Hp} {ts tk : TA} {E : XK} {r s : Rat}
end
end Md
namespace Md
open PySem L2 Evl
end Md
set_option Elab.async false
set_option linter.all false
set_option maxRecDepth 100000
set_option maxHeartbeats 2000000
namespace Md
open PySem L2 Evl
def PoolAt (h : Hp) (q : Addr) : Prop := ∃ pl : List Int, h q = some (.lst (pl.map V.int)) ∧ 2 ≤ pl.length ∧ pl.length ≤ 100000
structure GrQ (q : Addr) (b h b' h' : Hp) : Prop where
  gb : Ex b b'
  gh : ∀ a o, a ≠ q → h a = some o → h' a = some o
  gi : Ex b' h'
  gf : ∀ a, b a = none → h a ≠ none → b' a = none
  pl : PoolAt h' q
theorem PoolAt.some {h : Hp} {q : Addr} (p : PoolAt h q) : h q ≠ none := by
  obtain ⟨pl, e, _⟩ := p
  rw [e]
  intro z
  cases z
theorem PoolAt.up {h h' : Hp} {q : Addr} (p : PoolAt h q) (e : Ex h h') : PoolAt h' q := by
  obtain ⟨pl, e1, e2⟩ := p
  exact ⟨pl, e _ _ e1, e2⟩
section
variable {q : Addr} {b h b1 h1 b2 h2 b' h' : Hp}
theorem Gr.toQ (g : Gr b h b' h') (p : PoolAt h q) : GrQ q b h b' h' := ⟨g.gb, fun a o _ e => g.gh a o e, g.gi, g.gf, p.up g.gh⟩
theorem GrQ.nq (g : GrQ q b h b' h') (p : PoolAt h q) (n : b q = none) : b' q = none := g.gf q n p.some
theorem GrQ.nn (g : GrQ q b h b1 h1) {a : Addr} (p : PoolAt h q) (z : h a ≠ none) : h1 a ≠ none := by
  by_cases e : a = q
  · rw [e]
    exact g.pl.some
  · cases e2 : h a with
    | none => exact absurd e2 z
    | some o =>
      rw [g.gh a o e e2]
      intro z
      cases z
theorem GrQ.trans (p : PoolAt h q) (x : GrQ q b h b1 h1) (y : GrQ q b1 h1 b2 h2) : GrQ q b h b2 h2 := ⟨x.gb.trans y.gb, fun a o n e => y.gh a o n (x.gh a o n e), y.gi, fun a z n => y.gf a (x.gf a z n) (x.nn p n), y.pl⟩
theorem GrQ.stay (e : Ex b h) (p : PoolAt h q) : GrQ q b h b h := (Gr.refl e).toQ p
theorem GrQ.back (e : Ex b b1) (g : GrQ q b h b2 h1) (e1 : Ex b1 h) (n : b1 q = none) : ∃ b3, GrQ q b1 h b3 h1 ∧ Ex b2 b3 ∧ ∀ a, b2 a = none → b1 a = none → b3 a = none := by
  have nq : ∀ {a : Addr} {o : HO}, b1 a = some o → a ≠ q := fun {a o} e z => by
    rw [z, n] at e
    cases e
  refine ⟨fun a => match b2 a with | some o => some o | none => b1 a, ⟨fun a o q1 => ?_, g.gh, fun a o q1 => ?_, fun a q1 n => ?_, g.pl⟩, fun a o q => ?_, fun a z1 z2 => by simp only [z1, z2]⟩
  · cases z : b2 a with
    | none => simpa [z] using q1
    | some u =>
      have h1 := g.gi a u z
      have h2 := g.gh a o (nq q1) (e1 a o q1)
      rw [h1] at h2
      simp [z, h2]
  · cases z : b2 a with
    | none =>
      simp only [z] at q1
      exact g.gh a o (nq q1) (e1 a o q1)
    | some u =>
      simp only [z] at q1
      rw [← q1]
      exact g.gi a u z
  · have z : b2 a = none := g.gf a (fresh_back e q1) n
    simp only [z]
    exact q1
  · simp only [q]
theorem GrQ.mut {p : Addr} {o : HO} (g : GrQ q b h b1 h1) (n : h p = none) (nb : b1 p = none) (np : p ≠ q) : GrQ q b h b1 (upd h1 p o) := by
  refine ⟨g.gb, fun a u na e => ?_, Ex.mut g.gi nb, g.gf, ?_⟩
  · have : a ≠ p := fun z => by rw [z, n] at e; cases e
    rw [upd_ne this]
    exact g.gh a u na e
  · obtain ⟨pl, e1, e2⟩ := g.pl
    exact ⟨pl, by rw [upd_ne (fun z => np z.symm)]; exact e1, e2⟩
theorem GrQ.hid {p : Addr} {o : HO} (g : GrQ q b h b1 h1) (n : h1 p = none) : GrQ q b h b1 (upd h1 p o) := by
  have np : p ≠ q := fun z => g.pl.some (by rw [← z]; exact n)
  refine ⟨g.gb, fun a u na e => ?_, g.gi.trans (Ex.new n), g.gf, ?_⟩
  · have h2 := g.gh a u na e
    have : a ≠ p := fun z => by rw [z, n] at h2; cases h2
    rw [upd_ne this]
    exact h2
  · obtain ⟨pl, e1, e2⟩ := g.pl
    exact ⟨pl, by rw [upd_ne (fun z => np z.symm)]; exact e1, e2⟩
theorem GrQ.tell {p : Addr} {o : HO} (g : GrQ q b h b1 h1) (n : h p = none) (nb : b1 p = none) (hp : h1 p = some o) : GrQ q b h (upd b1 p o) h1 := by
  refine ⟨g.gb.trans (Ex.new nb), g.gh, fun a u q1 => ?_, fun a q1 z => ?_, g.pl⟩
  · by_cases ha : a = p
    · subst ha
      rw [upd_same] at q1
      rw [hp]
      exact q1
    · rw [upd_ne ha] at q1
      exact g.gi a u q1
  · rw [upd_ne (fun ha => z (by rw [ha]; exact n))]
    exact g.gf a q1 z
theorem GrQ.gone (g : GrQ q b h b1 h1) (p : PoolAt h q) {a : Addr} (n : h1 a = none) : h a = none := by
  cases e : h a with
  | none => rfl
  | some o => exact absurd n (g.nn p (by rw [e]; intro z; cases z))
end
def EXQ (K : PySem.W.Frag) (q : Addr) (te : TE) (σ : L2.St) (b : Hp) (R : PyData → Prop) : Prop := ∀ h, Ex b h → PoolAt h q → ∀ Q : VK, (∀ v b' h' d, GrQ q b h b' h' → R d → Dt K b' v d → Q v h') → te σ h Q
def EAQ (K : PySem.W.Frag) (q : Addr) (ta : TA) (σ : L2.St) (b : Hp) (R : List PyData → Prop) : Prop := ∀ h, Ex b h → PoolAt h q → ∀ Q : List V → Hp → Prop, (∀ vs b' h' ds, GrQ q b h b' h' → R ds → DtA K b' vs ds → Q vs h') → ta σ h Q
def IntR (R : Int → Prop) : PyData → Prop := fun d => ∃ i, d = .int i ∧ R i
section
variable {K : PySem.W.Frag} {q : Addr} {σ : L2.St} {b b' h : Hp} {te ta tb : TE} {ts tr : TA} {R S T : PyData → Prop} {RI SI : Int → Prop} {d : PyData}
theorem EXQ.up (x : EXQ K q te σ b R) (e : Ex b b') (n : b' q = none) : EXQ K q te σ b' R := fun h e1 p _ k => x h (e.trans e1) p _ fun v b2 h2 d g r hv => by
  obtain ⟨b3, g3, e3, _⟩ := g.back e e1 n
  exact k v b3 h2 d g3 r (hv.up e3)
theorem EAQ.up {R : List PyData → Prop} (x : EAQ K q ts σ b R) (e : Ex b b') (n : b' q = none) : EAQ K q ts σ b' R := fun h e1 p _ k => x h (e.trans e1) p _ fun v b2 h2 d g r hv => by
  obtain ⟨b3, g3, e3, _⟩ := g.back e e1 n
  exact k v b3 h2 d g3 r (hv.up e3)
theorem EXQ.imp (x : EXQ K q te σ b R) (i : ∀ d, R d → S d) : EXQ K q te σ b S := fun h e p _ k => x h e p _ fun v b2 h2 d g r hv => k v b2 h2 d g (i d r) hv
theorem EX.toQ (x : EX K te σ b R) : EXQ K q te σ b R := fun h e p _ k => x h e _ fun v b2 h2 d g r hv => k v b2 h2 d (g.toQ p) r hv
theorem ED.toQ (x : ED K te σ b d) : EXQ K q te σ b (· = d) := fun h e p _ k => x h e _ fun v b2 h2 g hv => k v b2 h2 d (g.toQ p) rfl hv
theorem Ev.toQ {i : Int} (x : Ev te σ b (.int i)) : EXQ K q te σ b (IntR (· = i)) := (ED.toQ (K := K) (ed_int x)).imp fun d e => ⟨i, e, rfl⟩
end
section
variable {K : PySem.W.Frag} {q : Addr} {σ : L2.St} {b b' h : Hp} {te ta tb : TE} {ts tr : TA} {R S T : PyData → Prop} {RI SI : Int → Prop} {d : PyData} {E : XK}
end
end Md
namespace Md
open PySem L2 Evl
section
variable {K : PySem.W.Frag} {q : Addr} {σ : L2.St} {b b' h : Hp} {te ta tb : TE} {ts tr : TA} {R S T : PyData → Prop} {RI SI : Int → Prop} {d : PyData} {E : XK} {vs : List Nat}
end
end Md
namespace Md
open PySem L2 Evl
end Md
namespace Md
open PySem L2 Evl
end Md
namespace Md
open PySem L2 Evl
end Md
namespace Md
open PySem L2 Evl
section
variable {K : PySem.W.Frag} {σ : L2.St} {b h : Hp} {ts : TA} {D : Ends} {d1 d2 : PyData}
end
end Md
namespace Md
open PySem L2 Evl
section
variable {K : PySem.W.Frag} {q : Addr} {σ : L2.St} {b h : Hp} {ta : TE} {ts : TA} {E : XK} {r s : Rat}
end
end Md
namespace Md
open PySem L2 Evl
end Md
namespace Md
open PySem L2 Evl
end Md
set_option Elab.async false
set_option linter.all false
set_option maxRecDepth 100000
set_option maxHeartbeats 2000000
namespace Md
open PySem L2 Evl
section
variable {K : PySem.W.Frag} {σ : L2.St} {b h : Hp} {ts : TA} {E : XK} {n x t : Nat} {g l : Nat → Rat}
end
end Md
namespace Md
open PySem L2 Evl
section
variable {K : PySem.W.Frag} {q : Addr} {σ : L2.St} {b b' h : Hp} {te tl ta tb : TE} {ts tr : TA} {R S T : PyData → Prop} {RI SI : Int → Prop} {d : PyData} {E : XK} {vs : List Nat} {D : Ends} {tu tw : TS}
theorem GrQ.drop {b1 h1 : Hp} (g : GrQ q b h b1 h1) : GrQ q b h b h1 := ⟨Ex.refl b, g.gh, g.gb.trans g.gi, fun _ z _ => z, g.pl⟩
end
end Md
namespace Md
open PySem L2 Evl
end Md
set_option Elab.async false
set_option linter.all false
set_option maxRecDepth 100000
set_option maxHeartbeats 2000000
namespace Md
open PySem L2 Evl
section
variable {K : PySem.W.Frag} {q p : Addr} {σ : L2.St} {b h : Hp} {te ta tb t1 t2 t3 : TE} {ts : TA} {E : XK} {R : PyData → Prop} {d d1 d2 d3 : PyData} {ds : List PyData} {us : List V} {D : Ends} {tz : TS}
theorem EDh.up {b' : Hp} (x : EDh K te σ b h d) (e : Ex b b') (e2 : Ex b' h) : EDh K te σ b' h d := fun h1 e1 _ q => x h1 e1 _ fun v b2 h2 g hv => by
  obtain ⟨b3, g3, e3, _⟩ := g.back e (e2.trans e1)
  exact q v b3 h2 g3 (hv.up e3)
end
end Md
namespace Md
open PySem L2 Evl
end Md
set_option Elab.async false
set_option linter.all false
set_option maxRecDepth 100000
set_option maxHeartbeats 2000000
namespace Md
open PySem L2 Evl
section
variable {K : PySem.W.Frag} {q : Addr} {σ : L2.St} {b h : Hp} {te ta tb : TE} {ts : TA} {E : XK} {ds : List PyData} {D : Ends} {tu tz : TS} {g : TG} {RI : Int → Prop}
end
end Md
set_option Elab.async false
set_option linter.all false
set_option maxRecDepth 100000
set_option maxHeartbeats 2000000
namespace Md
open PySem L2 Evl
structure LaY (k : Nat) (d : PyData) : Prop where
  lay : d.canLay0 = true
  dep : d.depth ≤ k
theorem laYAll {k : Nat} : ∀ {ds : List PyData}, (∀ d ∈ ds, LaY k d) → PyData.canLayAll0 ds = true ∧ PyData.depthAll ds ≤ k
  | [], _ => ⟨rfl, Nat.zero_le _⟩
  | d :: ds, h => by
    have h1 := h d (List.mem_cons_self ..)
    have h2 := laYAll fun e he => h e (List.mem_cons_of_mem _ he)
    refine ⟨?_, ?_⟩
    · show (d.canLay0 && PyData.canLayAll0 ds) = true
      rw [h1.lay, h2.1]
      rfl
    · show max d.depth (PyData.depthAll ds) ≤ k
      have := h1.dep
      have := h2.2
      omega
theorem laY_list {k : Nat} {ds : List PyData} (h : ∀ d ∈ ds, LaY k d) : LaY (k + 1) (.list ds) := ⟨(laYAll h).1, by have := (laYAll h).2; show PyData.depthAll ds + 1 ≤ k + 1; omega⟩
theorem laY_tup {k : Nat} {ds : List PyData} (h : ∀ d ∈ ds, LaY k d) : LaY (k + 1) (.tuple ds) := ⟨(laYAll h).1, by have := (laYAll h).2; show PyData.depthAll ds + 1 ≤ k + 1; omega⟩
theorem laY_int (i : Int) : LaY 0 (.int i) := ⟨rfl, Nat.le_refl _⟩
theorem LaY.mono {k l : Nat} {d : PyData} (h : LaY k d) (hl : k ≤ l) : LaY l d := ⟨h.lay, Nat.le_trans h.dep hl⟩
theorem laY_nQ (r : Rat) : LaY 1 (nQ r) := laY_tup fun d hd => by
  rcases List.mem_cons.mp hd with rfl | hd
  · exact laY_int _
  · rw [List.mem_singleton.mp hd]
    exact laY_int _
theorem LaY.shaped {k : Nat} {d : PyData} (h : LaY k d) (hk : k ≤ 64) : SeqAt.shaped d = true := by
  unfold SeqAt.shaped
  rw [h.lay, decide_eq_true (Nat.le_trans h.dep hk)]
  rfl
structure RowB (n : Nat) (g l : Nat → Rat) : Prop where
  g : ∀ k, k < n → NB 42 2000000000000 (g k)
  l : ∀ k, k < n → NB 42 2000000000000 (l k)
theorem RowB.big {n : Nat} {g l : Nat → Rat} (h : RowB n g l) {k : Nat} (hk : k < n) : Big 62 (canon (g k)) ∧ Big 62 (canon (l k)) := ⟨(h.g k hk).big (by decide) (by decide) (by decide), (h.l k hk).big (by decide) (by decide) (by decide)⟩
def OwnS (K : PySem.W.Frag) (h b' : Hp) (p : Addr) (u : V) : Prop := (∃ a xs, u = .ref a ∧ h a = none ∧ a ≠ p ∧ b' a = some (.lst xs)) ∨ ∃ t xs, u = .ref t ∧ SqT K b' t xs
def OwnAt (G : List PlV) (h b' : Hp) (p : Addr) (us : List V) : Prop := ∀ j u, us[j]? = some u → (vl G j).k ≠ none → ∃ a xs, u = .ref a ∧ h a = none ∧ a ≠ p ∧ b' a = some (.lst xs)
theorem OwnAt.up {G : List PlV} {h b b' : Hp} {p : Addr} {us : List V} (x : OwnAt G h b p us) (e : Ex b b') : OwnAt G h b' p us := fun j u hj hk => by
  obtain ⟨a, xs, h1, h2, h3, h4⟩ := x j u hj hk
  exact ⟨a, xs, h1, h2, h3, e _ _ h4⟩
theorem OwnAt.of {G : List PlV} {h h0 b : Hp} {p : Addr} {us : List V} (x : OwnAt G h b p us) (e : Ex h0 h) : OwnAt G h0 b p us := fun j u hj hk => by
  obtain ⟨a, xs, h1, h2, h3, h4⟩ := x j u hj hk
  exact ⟨a, xs, h1, fresh_back e h2, h3, h4⟩
section
variable {K : PySem.W.Frag} {σ : L2.St} {b h : Hp} {ts : TA} {E : XK}
end
end Md
namespace Md
open PySem L2 Evl
section
variable {K : PySem.W.Frag} {σ : L2.St} {b h : Hp} {ts : TA} {E : XK}
end
end Md
namespace Md
open PySem L2 Evl
end Md
namespace Md
open PySem L2 Evl
theorem OwnS.up {K : PySem.W.Frag} {h b b' : Hp} {p : Addr} {u : V} (x : OwnS K h b p u) (e : Ex b b') : OwnS K h b' p u := by
  rcases x with ⟨a, xs, rfl, n, np, k⟩ | ⟨t, xs, rfl, k⟩
  · exact Or.inl ⟨a, xs, rfl, n, np, e _ _ k⟩
  · exact Or.inr ⟨t, xs, rfl, ex_t e k⟩
end Md
namespace Md
open PySem L2 Evl
section
variable {K : PySem.W.Frag} {σ : L2.St} {b h : Hp} {ts : TA} {E : XK} {ta tb : TE} {q a t : Addr} {xs ys : List V} {o : HO}
end
end Md
set_option Elab.async false
set_option linter.all false
set_option maxRecDepth 100000
set_option maxHeartbeats 2000000
namespace Md
open PySem L2 Evl
section
variable {C : List PlC}
end
def spMeansW (K : PySem.W.Frag) : Sp := fun vs h Q _ => ∃ (b : Hp) (C : List PlC) (f : Nat → Rat) (M B : Nat), Ex b h ∧ DtA K b vs [chD C, listQ C.length f] ∧ WfC C ∧ (∀ k, k < C.length → NB M B (f k)) ∧ 0 < M ∧ 1 ≤ B ∧ M < 2 ^ 1900 ∧ B < 2 ^ 200 ∧ ∀ v b' h', Gr b h b' h' → Dt K b' v (listQ C.length (meanC C f)) → Q v h'
section
variable {K : PySem.W.Frag} {σ : L2.St} {b h : Hp} {ts : TA} {E : XK} {r s : Rat}
end
end Md
namespace Md
open PySem L2 Evl
section
variable {K : PySem.W.Frag} {σ : L2.St} {b h : Hp} {ts tk : TA} {E : XK} {C : List PlC}
end
end Md
set_option Elab.async false
set_option linter.all false
set_option maxRecDepth 100000
set_option maxHeartbeats 2000000
namespace Md
open PySem L2 Evl
structure WfM (C : List PlC) : Prop where
  l1 : 1 ≤ C.length
  q : ∀ x, x < C.length → ∀ q ∈ (plC C x).bs, 0 ≤ qN q.1 ∧ q.2 < C.length
  s : ∀ x, x < C.length → wsum (plC C x).bs (fun _ => 1) = 1
theorem meanM_le {C : List PlC} (h : WfM C) {k : Nat} (hk : k < C.length) {f : Nat → Rat} {c : Rat} (hf : ∀ j, j < C.length → f j ≤ c) : meanC C f k ≤ c := by
  have a : meanC C f k ≤ wsum (plC C k).bs (fun j => c * 1) := wsum_le fun q hq => ⟨(h.q k hk q hq).1, by
    have := hf q.2 (h.q k hk q hq).2
    grind⟩
  have b := wsum_mul (plC C k).bs c (fun _ => 1)
  have d := h.s k hk
  rw [b, d] at a
  grind
theorem meanM_mono {C : List PlC} (h : WfM C) {k : Nat} (hk : k < C.length) {f g : Nat → Rat} (hf : ∀ j, j < C.length → f j ≤ g j) : meanC C f k ≤ meanC C g k := wsum_le fun q hq => ⟨(h.q k hk q hq).1, hf q.2 (h.q k hk q hq).2⟩
theorem WfC.toM {C : List PlC} (h : WfC C) : WfM C := ⟨h.l1, fun x hx q hq => by
  have := (plC_wf h hx).q q hq
  exact ⟨qN_nonneg (red_small this.1) (Int.le_of_lt this.2.1), this.2.2⟩, fun x hx => mean_one h hx⟩
section
variable {C : List PlC} {β : Rat}
def IsWor (C : List PlC) (β : Rat) (e f : Nat → Rat) : Prop := ∀ x, x < C.length → f x = e x + β * meanC C f x
theorem sub_le (h : WfM C) (h0 : 0 ≤ β) (h1 : β < 1) {d : Nat → Rat} (hd : ∀ x, x < C.length → d x ≤ β * meanC C d x) : ∀ x, x < C.length → d x ≤ 0 := by
  have hn := h.l1
  obtain ⟨j, hj, e⟩ := hi_mem (f := d) (by omega : 0 < C.length) C.length (Nat.le_refl _)
  have hm : meanC C d j ≤ d j := meanM_le h hj fun i hi => by
    rw [← e]
    exact hi_ge hi
  have h2 := hd j hj
  have h3 : β * meanC C d j ≤ β * d j := Rat.mul_le_mul_of_nonneg_left hm h0
  have h4 : d j ≤ 0 := by
    rcases (Rat.le_total (a := d j) (b := 0)) with z | z
    · exact z
    · have h5 : 0 ≤ (1 - β) * d j := Rat.mul_nonneg (by grind) z
      have h6 : (1 - β) * d j ≤ 0 := by grind
      have h7 : (1 - β) * d j = 0 := Rat.le_antisymm h6 h5
      rcases Rat.mul_eq_zero.mp h7 with y | y
      · grind
      · grind
  intro x hx
  have : d x ≤ hiQ d C.length := hi_ge hx
  rw [e] at this
  exact Rat.le_trans this h4
theorem wor_ge (h : WfM C) (h0 : 0 ≤ β) (h1 : β < 1) {e f g : Nat → Rat} (hf : ∀ x, x < C.length → f x ≤ e x + β * meanC C f x) (hg : IsWor C β e g) : ∀ x, x < C.length → f x ≤ g x := by
  have := sub_le h h0 h1 (d := fun x => f x - g x) fun x hx => by
    have a := hf x hx
    have b := hg x hx
    rw [mean_sub C f g x]
    grind
  intro x hx
  have := this x hx
  grind
theorem wor_le (h : WfM C) (h0 : 0 ≤ β) (h1 : β < 1) {e f g : Nat → Rat} (hf : ∀ x, x < C.length → e x + β * meanC C f x ≤ f x) (hg : IsWor C β e g) : ∀ x, x < C.length → g x ≤ f x := by
  have := sub_le h h0 h1 (d := fun x => g x - f x) fun x hx => by
    have a := hf x hx
    have b := hg x hx
    rw [mean_sub C g f x]
    grind
  intro x hx
  have := this x hx
  grind
theorem wor_unique (h : WfM C) (h0 : 0 ≤ β) (h1 : β < 1) {e f g : Nat → Rat} (hf : IsWor C β e f) (hg : IsWor C β e g) : ∀ x, x < C.length → f x = g x := fun x hx =>
  Rat.le_antisymm (wor_ge h h0 h1 (fun y hy => by rw [← hf y hy]; exact Rat.le_refl) hg x hx) (wor_ge h h0 h1 (fun y hy => by rw [← hg y hy]; exact Rat.le_refl) hf x hx)
theorem wor_lt (h : WfM C) (h0 : 0 ≤ β) (h1 : β < 1) {e f g : Nat → Rat} (hf : ∀ x, x < C.length → e x + β * meanC C f x ≤ f x) (hg : IsWor C β e g) {x : Nat} (hx : x < C.length) (hlt : e x + β * meanC C f x < f x) : g x < f x := by
  have a := wor_le h h0 h1 hf hg
  have b := hg x hx
  have c : meanC C g x ≤ meanC C f x := meanM_mono h hx a
  have d : β * meanC C g x ≤ β * meanC C f x := Rat.mul_le_mul_of_nonneg_left c h0
  grind
end
end Md
namespace Md
theorem count_lt {α : Type} {S : α → Rat} {a b : α} (h : S b < S a) : ∀ {l : List α}, b ∈ l → (l.filter fun c => decide (S c < S b)).length < (l.filter fun c => decide (S c < S a)).length := by
  have le : ∀ l : List α, (l.filter fun c => decide (S c < S b)).length ≤ (l.filter fun c => decide (S c < S a)).length := fun l => by
    induction l with
    | nil => exact Nat.le_refl _
    | cons c l ih =>
      by_cases y : S c < S b
      · have z : S c < S a := by grind
        rw [List.filter_cons_of_pos (by exact decide_eq_true y), List.filter_cons_of_pos (by exact decide_eq_true z), List.length_cons, List.length_cons]
        omega
      · rw [List.filter_cons_of_neg (by rw [decide_eq_false y]; decide)]
        by_cases z : S c < S a
        · rw [List.filter_cons_of_pos (by exact decide_eq_true z), List.length_cons]
          omega
        · rw [List.filter_cons_of_neg (by rw [decide_eq_false z]; decide)]
          exact ih
  intro l hb
  induction l with
  | nil => cases hb
  | cons c l ih =>
    rcases List.mem_cons.mp hb with rfl | hm
    · rw [List.filter_cons_of_neg (by rw [decide_eq_false (by grind)]; decide), List.filter_cons_of_pos (by exact decide_eq_true h), List.length_cons]
      have := le l
      omega
    · have ih := ih hm
      by_cases y : S c < S b
      · have z : S c < S a := by grind
        rw [List.filter_cons_of_pos (by exact decide_eq_true y), List.filter_cons_of_pos (by exact decide_eq_true z), List.length_cons, List.length_cons]
        omega
      · rw [List.filter_cons_of_neg (by rw [decide_eq_false y]; decide)]
        by_cases z : S c < S a
        · rw [List.filter_cons_of_pos (by exact decide_eq_true z), List.length_cons]
          omega
        · rw [List.filter_cons_of_neg (by rw [decide_eq_false z]; decide)]
          exact ih
def allC : List Nat → List (List Nat)
  | [] => [[]]
  | n :: ns => (List.range n).flatMap fun k => (allC ns).map (k :: ·)
theorem mem_allC : ∀ {ns c : List Nat}, c.length = ns.length → (∀ i, i < ns.length → c.getD i 0 < ns.getD i 0) → c ∈ allC ns
  | [], c, hl, _ => by
    have : c = [] := List.length_eq_zero_iff.mp hl
    subst this
    exact List.mem_singleton.mpr rfl
  | n :: ns, [], hl, _ => by cases hl
  | n :: ns, k :: c, hl, h => by
    refine List.mem_flatMap.mpr ⟨k, List.mem_range.mpr (h 0 (by show 0 < ns.length + 1; omega)), List.mem_map.mpr ⟨c, mem_allC (Nat.succ.inj hl) fun i hi => ?_, rfl⟩⟩
    exact h (i + 1) (by show i + 1 < ns.length + 1; omega)
end Md
namespace Md
section
variable {C D : List PlC} {β : Rat} {e w v : Nat → Rat}
theorem better_le (hD : WfM D) (hl : D.length = C.length) (h0 : 0 < β) (h1 : β < 1) (hw : IsWor C β e w) (hv : IsWor D β e v) (hm : ∀ x, x < C.length → meanC D w x ≤ meanC C w x) : (∀ x, x < C.length → v x ≤ w x) ∧ ∀ x, x < C.length → meanC D w x < meanC C w x → v x < w x := by
  have key : ∀ x, x < D.length → e x + β * meanC D w x ≤ w x := fun x hx => by
    rw [hl] at hx
    have a : β * meanC D w x ≤ β * meanC C w x := Rat.mul_le_mul_of_nonneg_left (hm x hx) (Rat.le_of_lt h0)
    have b := hw x hx
    grind
  refine ⟨fun x hx => wor_le hD (Rat.le_of_lt h0) h1 key hv x (by omega), fun x hx hlt => wor_lt hD (Rat.le_of_lt h0) h1 key hv (by omega) ?_⟩
  have a : β * meanC D w x < β * meanC C w x := Rat.mul_lt_mul_of_pos_left hlt h0
  have b := hw x hx
  grind
theorem better_ge (hD : WfM D) (hl : D.length = C.length) (h0 : 0 < β) (h1 : β < 1) (hw : IsWor C β e w) (hv : IsWor D β e v) (hm : ∀ x, x < C.length → meanC C w x ≤ meanC D w x) : ∀ x, x < C.length → w x ≤ v x := by
  have key : ∀ x, x < D.length → w x ≤ e x + β * meanC D w x := fun x hx => by
    rw [hl] at hx
    have a : β * meanC C w x ≤ β * meanC D w x := Rat.mul_le_mul_of_nonneg_left (hm x hx) (Rat.le_of_lt h0)
    have b := hw x hx
    grind
  exact fun x hx => wor_ge hD (Rat.le_of_lt h0) h1 key hv x (by omega)
end
def sumW (n : Nat) (f : Nat → Rat) : Rat := ((List.range n).map f).sum
theorem sumW_next (n : Nat) (f : Nat → Rat) : sumW (n + 1) f = sumW n f + f n := by
  unfold sumW
  rw [List.range_succ, List.map_append]
  exact sum_snoc _ _
theorem sumW_le {f g : Nat → Rat} : ∀ {n : Nat}, (∀ x, x < n → f x ≤ g x) → sumW n f ≤ sumW n g
  | 0, _ => Rat.le_refl
  | n + 1, h => by
    have a := sumW_le (f := f) (g := g) (n := n) fun x hx => h x (by omega)
    have b := h n (by omega)
    rw [sumW_next, sumW_next]
    grind
theorem sumW_lt {f g : Nat → Rat} : ∀ {n : Nat}, (∀ x, x < n → f x ≤ g x) → ∀ {y : Nat}, y < n → f y < g y → sumW n f < sumW n g
  | 0, _, y, hy, _ => absurd hy (by omega)
  | n + 1, h, y, hy, hlt => by
    rw [sumW_next, sumW_next]
    have b := h n (by omega)
    by_cases c : y = n
    · subst c
      have a := sumW_le (f := f) (g := g) (n := y) fun x hx => h x (by omega)
      grind
    · have a := sumW_lt (f := f) (g := g) (n := n) (fun x hx => h x (by omega)) (y := y) (by omega) hlt
      grind
end Md
namespace Md
def tgV (G : List PlV) (c : Nat → Nat) (x : Nat) : Nat := ((vl G x).bs.getD (c x) ((1, 1), 0)).2
def chV (G : List PlV) (c : Nat → Nat) : List PlC := (List.range G.length).map fun x => if (vl G x).k = none then ⟨(vl G x).g, (vl G x).bs⟩ else ⟨(vl G x).g, [((1, 1), tgV G c x)]⟩
def OkC (G : List PlV) (c : Nat → Nat) : Prop := ∀ x, x < G.length → (vl G x).k ≠ none → c x < (vl G x).bs.length
section
variable {G : List PlV} {c : Nat → Nat} {n : Nat} {f : Nat → Rat}
theorem chV_len : (chV G c).length = G.length := by
  unfold chV
  rw [List.length_map, List.length_range]
theorem chV_at {x : Nat} (hx : x < G.length) : plC (chV G c) x = if (vl G x).k = none then ⟨(vl G x).g, (vl G x).bs⟩ else ⟨(vl G x).g, [((1, 1), tgV G c x)]⟩ := by
  have h1 := plC_get (C := chV G c) (k := x) (by rw [chV_len]; exact hx)
  unfold chV at h1
  rw [List.getElem?_map, List.getElem?_range hx] at h1
  exact (Option.some.inj h1).symm
theorem tgV_lt {w : Nat} (h : WfVG w G) (hc : OkC G c) {x : Nat} (hx : x < G.length) (hk : (vl G x).k ≠ none) : tgV G c x < G.length := by
  have hb := hc x hx hk
  unfold tgV
  rw [List.getD_eq_getElem?_getD, List.getElem?_eq_getElem hb]
  exact (vl_wf h hx).t _ (List.getElem_mem _)
theorem mean_draw {x : Nat} (hx : x < G.length) (hk : (vl G x).k = none) : meanC (chV G c) f x = wsum (vl G x).bs f := by
  unfold meanC
  rw [chV_at hx, if_pos hk]
theorem mean_side {x : Nat} (hx : x < G.length) (hk : (vl G x).k ≠ none) : meanC (chV G c) f x = f (tgV G c x) := by
  unfold meanC
  rw [chV_at hx, if_neg hk]
  exact wsum_ring _ _
theorem chV_wf {w : Nat} (h : WfVG w G) (hc : OkC G c) : WfM (chV G c) := by
  refine ⟨by rw [chV_len]; exact h.l1, fun x hx q hq => ?_, fun x hx => ?_⟩
  · rw [chV_len] at hx ⊢
    rw [chV_at hx] at hq
    by_cases hk : (vl G x).k = none
    · rw [if_pos hk] at hq
      have := (vl_wf h hx).c hk q hq
      exact ⟨qN_nonneg (red_small this.1) this.2, (vl_wf h hx).t q hq⟩
    · rw [if_neg hk] at hq
      rw [List.mem_singleton.mp hq]
      exact ⟨show (0 : Rat) ≤ qN (1, 1) by decide +kernel, tgV_lt h hc hx hk⟩
  · rw [chV_len] at hx
    by_cases hk : (vl G x).k = none
    · have := mean_draw (c := c) (f := fun _ => 1) hx hk
      unfold meanC at this
      rw [this, wsum_one]
      exact (vl_wf h hx).s hk
    · have := mean_side (c := c) (f := fun _ => 1) hx hk
      unfold meanC at this
      exact this
theorem turn_less {w : Nat} (h : WfVG w G) {c d : Nat → Nat} (hd : OkC G d) {β : Rat} (h0 : 0 < β) (h1 : β < 1) {e u v : Nat → Rat} (hu : IsWor (chV G c) β e u) (hv : IsWor (chV G d) β e v)
    (hm : ∀ x, x < G.length → (vl G x).k ≠ none → u (tgV G d x) ≤ u (tgV G c x)) {y : Nat} (hy : y < G.length) (hk : (vl G y).k ≠ none) (hlt : u (tgV G d y) < u (tgV G c y)) : sumW G.length v < sumW G.length u := by
  have key := better_le (C := chV G c) (D := chV G d) (chV_wf h hd) (by rw [chV_len, chV_len]) h0 h1 hu hv fun x hx => by
    rw [chV_len] at hx
    by_cases z : (vl G x).k = none
    · rw [mean_draw hx z, mean_draw hx z]
      exact Rat.le_refl
    · rw [mean_side hx z, mean_side hx z]
      exact hm x hx z
  rw [chV_len] at key
  exact sumW_lt key.1 hy (key.2 y hy (by rw [mean_side hy hk, mean_side hy hk]; exact hlt))
theorem turn_more {w : Nat} (h : WfVG w G) {c d : Nat → Nat} (hd : OkC G d) {β : Rat} (h0 : 0 < β) (h1 : β < 1) {e u v : Nat → Rat} (hu : IsWor (chV G c) β e u) (hv : IsWor (chV G d) β e v)
    (hm : ∀ x, x < G.length → (vl G x).k ≠ none → u (tgV G c x) ≤ u (tgV G d x)) : ∀ x, x < G.length → u x ≤ v x := by
  have key := better_ge (C := chV G c) (D := chV G d) (chV_wf h hd) (by rw [chV_len, chV_len]) h0 h1 hu hv fun x hx => by
    rw [chV_len] at hx
    by_cases z : (vl G x).k = none
    · rw [mean_draw hx z, mean_draw hx z]
      exact Rat.le_refl
    · rw [mean_side hx z, mean_side hx z]
      exact hm x hx z
  rwa [chV_len] at key
end
end Md
set_option Elab.async false
set_option linter.all false
set_option maxRecDepth 100000
set_option maxHeartbeats 2000000
namespace Md
open PySem L2 Evl
inductive Sl where
  | d (x : PyData)
  | o (ds : List PyData)
abbrev Gam := List (Option Sl)
abbrev DE := Gam → (PyData → Prop) → Prop
abbrev DN := Gam → (List PyData → Prop) → Prop
abbrev DT := Gam → (Bool → Prop) → Prop
abbrev DO := Gam → (Option Int → Prop) → Prop
abbrev DG := PyData → Gam → (Gam → Prop) → Prop
abbrev DGs := List PyData → Gam → (Gam → Prop) → Prop
structure DEnds where
  nx : Gam → Prop
  rt : PyData → Prop
  ro : List PyData → Prop
  bk : Gam → Prop := fun _ => False
  ct : Gam → Prop := fun _ => False
  rp : List Sl → Prop := fun _ => False
abbrev DS := DEnds → Gam → Prop
def gat : Gam → Nat → Option Sl
  | [], _ => none
  | a :: _, 0 => a
  | _ :: l, i + 1 => gat l i
theorem gat_set : ∀ (Γ : Gam) (i j : Nat) (s : Option Sl), gat (Γ.set i s) j = if i = j ∧ i < Γ.length then s else gat Γ j
  | [], i, j, s => by
    rw [if_neg (fun h => absurd h.2 (Nat.not_lt_zero _))]
    rfl
  | a :: l, 0, 0, s => by
    rw [if_pos ⟨rfl, Nat.zero_lt_succ _⟩]
    rfl
  | a :: l, 0, j + 1, s => by
    rw [if_neg (fun h => by have := h.1; omega)]
    rfl
  | a :: l, i + 1, 0, s => by
    rw [if_neg (fun h => by have := h.1; omega)]
    rfl
  | a :: l, i + 1, j + 1, s => by
    show gat (l.set i s) j = if i + 1 = j + 1 ∧ i + 1 < (a :: l).length then s else gat l j
    rw [gat_set l i j s]
    have e : (i + 1 = j + 1 ∧ i + 1 < (a :: l).length) ↔ (i = j ∧ i < l.length) := by
      rw [List.length_cons]
      omega
    simp only [e]
theorem gat_lt : ∀ {Γ : Gam} {i : Nat} {s : Sl}, gat Γ i = some s → i < Γ.length
  | [], _, _, h => by cases h
  | _ :: _, 0, _, _ => Nat.zero_lt_succ _
  | _ :: l, i + 1, _, h => Nat.succ_lt_succ (gat_lt (Γ := l) h)
def allD : Gam → Gam
  | [] => []
  | some (.o ds) :: l => some (.d (.list ds)) :: allD l
  | some (.d x) :: l => some (.d x) :: allD l
  | none :: l => none :: allD l
def unO : Option Sl → Option Sl
  | some (.o ds) => some (.d (.list ds))
  | s => s
theorem allD_gat : ∀ (Γ : Gam) (i : Nat), gat (allD Γ) i = unO (gat Γ i)
  | [], _ => rfl
  | some (.o ds) :: l, 0 => rfl
  | some (.d x) :: l, 0 => rfl
  | none :: l, 0 => rfl
  | some (.o ds) :: l, i + 1 => allD_gat l i
  | some (.d x) :: l, i + 1 => allD_gat l i
  | none :: l, i + 1 => allD_gat l i
def wipeG (Γ : Gam) : List Nat → Gam
  | [] => Γ
  | v :: vs => (wipeG Γ vs).set v none
theorem wipeG_len (Γ : Gam) : ∀ vs : List Nat, (wipeG Γ vs).length = Γ.length
  | [] => rfl
  | v :: vs => by unfold wipeG; rw [List.length_set, wipeG_len Γ vs]
theorem wipeG_some {Γ : Gam} {i : Nat} {s : Sl} : ∀ {vs : List Nat}, gat (wipeG Γ vs) i = some s → gat Γ i = some s ∧ i ∉ vs
  | [], h => ⟨h, by simp⟩
  | v :: vs, h => by
    unfold wipeG at h
    rw [gat_set] at h
    by_cases c : v = i ∧ v < (wipeG Γ vs).length
    · rw [if_pos c] at h
      cases h
    · rw [if_neg c] at h
      have l := gat_lt h
      obtain ⟨h1, h2⟩ := wipeG_some h
      refine ⟨h1, fun z => ?_⟩
      rcases List.mem_cons.mp z with z | z
      · exact c ⟨z.symm, by rw [← z]; exact l⟩
      · exact h2 z
section
variable {K : PySem.W.Frag}
structure RelD (K : PySem.W.Frag) (b : Hp) (Γ : Gam) (σ : L2.St) : Prop where
  len : σ.length = Γ.length
  d : ∀ i x, gat Γ i = some (.d x) → ∃ v, σ[i]? = some (some v) ∧ Dt K b v x
theorem RelD.up {b b' : Hp} {Γ : Gam} {σ : L2.St} (r : RelD K b Γ σ) (e : Ex b b') : RelD K b' Γ σ := ⟨r.len, fun i x h => by
  obtain ⟨v, h1, h2⟩ := r.d i x h
  exact ⟨v, h1, h2.up e⟩⟩
theorem RelD.set {b : Hp} {Γ : Gam} {σ : L2.St} (r : RelD K b Γ σ) {i : Nat} {v : V} {x : PyData} (h : Dt K b v x) : RelD K b (Γ.set i (some (.d x))) (σ.set i (some v)) := by
  refine ⟨by rw [List.length_set, List.length_set, r.len], fun j y e => ?_⟩
  rw [gat_set] at e
  by_cases c : i = j ∧ i < Γ.length
  · rw [if_pos c] at e
    obtain ⟨rfl, c⟩ := c
    cases e
    exact ⟨v, by rw [List.getElem?_set_self (by rw [r.len]; exact c)], h⟩
  · rw [if_neg c] at e
    have hj := gat_lt e
    have hij : i ≠ j := fun z => c ⟨z, by rw [z]; exact hj⟩
    rw [List.getElem?_set_ne hij]
    exact r.d j y e
theorem RelD.wipe {b : Hp} {Γ : Gam} {σ : L2.St} (r : RelD K b Γ σ) (vs : List Nat) : RelD K b (wipeG Γ vs) (L2.wipe σ vs) := by
  refine ⟨by rw [wipe_length, wipeG_len, r.len], fun j y e => ?_⟩
  obtain ⟨h1, h2⟩ := wipeG_some e
  rw [L2.wipe_out h2]
  exact r.d j y h1
end
end Md
namespace Md
open PySem L2 Evl
def EXA (K : PySem.W.Frag) (ta : TA) (σ : L2.St) (b : Hp) (P : List PyData → Prop) : Prop := ∀ h, Ex b h → ∀ Q : List V → Hp → Prop, (∀ vs b' h' ds, Gr b h b' h' → P ds → DtA K b' vs ds → Q vs h') → ta σ h Q
def ENX (K : PySem.W.Frag) (te : TE) (σ : L2.St) (b : Hp) (P : List PyData → Prop) : Prop := ∀ h, Ex b h → ∀ Q : VK, (∀ p us b' h' ds, h p = none → b' p = none → Gr b h b' h' → h' p = some (.lst us) → DtA K b' us ds → P ds → Q (.ref p) h') → te σ h Q
def ETX (tt : TT) (σ : L2.St) (b : Hp) (P : Bool → Prop) : Prop := ∀ h, Ex b h → ∀ Q : Bool → Hp → Prop, (∀ c h', Ex h h' → P c → Q c h') → tt σ h Q
def EOX (to : TO) (σ : L2.St) (b : Hp) (P : Option Int → Prop) : Prop := ∀ h, Ex b h → ∀ Q : Option Int → Hp → Prop, (∀ c h', Ex h h' → P c → Q c h') → to σ h Q
def SimE (K : PySem.W.Frag) (te : TE) (de : DE) : Prop := ∀ σ Γ b, RelD K b Γ σ → ∀ P, de Γ P → EX K te σ b P
def SimA (K : PySem.W.Frag) (ta : TA) (da : DN) : Prop := ∀ σ Γ b, RelD K b Γ σ → ∀ P, da Γ P → EXA K ta σ b P
def SimN (K : PySem.W.Frag) (te : TE) (dn : DN) : Prop := ∀ σ Γ b, RelD K b Γ σ → ∀ P, dn Γ P → ENX K te σ b P
def SimT (K : PySem.W.Frag) (tt : TT) (dt : DT) : Prop := ∀ σ Γ b, RelD K b Γ σ → ∀ P, dt Γ P → ETX tt σ b P
def SimO (K : PySem.W.Frag) (to : TO) (dd : DO) : Prop := ∀ σ Γ b, RelD K b Γ σ → ∀ P, dd Γ P → EOX to σ b P
def onI : PyData → (Int → Prop) → Prop
  | .int i, k => k i
  | _, _ => False
def onB : PyData → (Bool → Prop) → Prop
  | .bool i, k => k i
  | _, _ => False
def onL : PyData → (List PyData → Prop) → Prop
  | .list i, k => k i
  | _, _ => False
def onT : PyData → (List PyData → Prop) → Prop
  | .tuple i, k => k i
  | _, _ => False
theorem onI_is {x : PyData} {k : Int → Prop} (h : onI x k) : ∃ i, x = .int i ∧ k i := by
  cases x with
  | int i => exact ⟨i, rfl, h⟩
  | _ => cases h
theorem onB_is {x : PyData} {k : Bool → Prop} (h : onB x k) : ∃ i, x = .bool i ∧ k i := by
  cases x with
  | bool i => exact ⟨i, rfl, h⟩
  | _ => cases h
theorem onL_is {x : PyData} {k : List PyData → Prop} (h : onL x k) : ∃ i, x = .list i ∧ k i := by
  cases x with
  | list i => exact ⟨i, rfl, h⟩
  | _ => cases h
theorem onT_is {x : PyData} {k : List PyData → Prop} (h : onT x k) : ∃ i, x = .tuple i ∧ k i := by
  cases x with
  | tuple i => exact ⟨i, rfl, h⟩
  | _ => cases h
def dVar (i : Nat) : DE := fun Γ P => match gat Γ i with
  | some (.d x) => P x
  | _ => False
def dC (d : PyData) : DE := fun _ P => P d
def dTup (da : DN) : DE := fun Γ P => da Γ fun ds => ds.length ≤ 100000 ∧ P (.tuple ds)
def dLst (da : DN) : DN := fun Γ P => da Γ fun ds => ds.length ≤ 100000 ∧ P ds
def dOfN (dn : DN) : DE := fun Γ P => dn Γ fun ds => P (.list ds)
def dNil : DN := fun _ P => P []
def dCons (de : DE) (da : DN) : DN := fun Γ P => de Γ fun x => da Γ fun ds => P (x :: ds)
def dII (da db : DE) (g : Int → Int → (PyData → Prop) → Prop) : DE := fun Γ P => da Γ fun x => db Γ fun y => onI x fun i => onI y fun j => g i j P
def dAdd (da db : DE) : DE := dII da db fun i j P => P (.int (i + j))
def dSub (da db : DE) : DE := dII da db fun i j P => P (.int (i - j))
def dMul (da db : DE) : DE := dII da db fun i j P => CMul i j ∧ P (.int (i * j))
def dMulW (da db : DE) : DE := dII da db fun i j P => CMulW i j ∧ P (.int (i * j))
def dLt (da db : DE) : DE := dII da db fun i j P => P (.bool (decide (i < j)))
def dLe (da db : DE) : DE := dII da db fun i j P => P (.bool (decide (i ≤ j)))
def dGt (da db : DE) : DE := dII da db fun i j P => P (.bool (decide (j < i)))
def dGe (da db : DE) : DE := dII da db fun i j P => P (.bool (decide (j ≤ i)))
def dIxL (da db : DE) : DE := fun Γ P => da Γ fun x => db Γ fun y => onL x fun ds => onI y fun i => ∃ d, L2.atI ds i = some d ∧ P d
def dIxT (da db : DE) : DE := fun Γ P => da Γ fun x => db Γ fun y => onT x fun ds => onI y fun i => ∃ d, L2.atI ds i = some d ∧ P d
def dEqD (da db : DE) : DE := fun Γ P => da Γ fun x => db Γ fun y => SeqAt.shaped x = true ∧ SeqAt.shaped y = true ∧ P (.bool (PyData.eqv x y))
def dNeD (da db : DE) : DE := fun Γ P => da Γ fun x => db Γ fun y => SeqAt.shaped x = true ∧ SeqAt.shaped y = true ∧ P (.bool (!PyData.eqv x y))
def eqS : PyData → PyData → Option Bool
  | .int i, .int j => some (decide (i = j))
  | .str i, .str j => some (decide (i = j))
  | .bool i, .bool j => some (decide (i = j))
  | .none, .none => some true
  | .int _, .none => some false
  | .none, .int _ => some false
  | _, _ => none
def dEqS (da db : DE) : DE := fun Γ P => da Γ fun x => db Γ fun y => ∃ c, eqS x y = some c ∧ P (.bool c)
def dNeS (da db : DE) : DE := fun Γ P => da Γ fun x => db Γ fun y => ∃ c, eqS x y = some c ∧ P (.bool (!c))
def dIsN (da : DE) : DE := fun Γ P => da Γ fun x => P (.bool (isNo x))
def dNotN (da : DE) : DE := fun Γ P => da Γ fun x => P (.bool (!isNo x))
def dIf (dt : DT) (da db : DE) : DE := fun Γ P => dt Γ fun c => if c = true then da Γ P else db Γ P
def dTest (de : DE) : DT := fun Γ P => de Γ fun x => onB x P
def dNot (dt : DT) : DT := fun Γ P => dt Γ fun c => P (!c)
def dAnd (dt du : DT) : DT := fun Γ P => dt Γ fun c => if c = true then du Γ P else P false
def dOr (dt du : DT) : DT := fun Γ P => dt Γ fun c => if c = true then P true else du Γ P
def dYes : DT := fun _ P => P true
def dAndV (da db : DE) : DE := fun Γ P => da Γ fun x => onB x fun c => if c = true then db Γ P else P (.bool false)
def dOrV (da db : DE) : DE := fun Γ P => da Γ fun x => onB x fun c => if c = true then P (.bool true) else db Γ P
def dNotV (da : DE) : DE := fun Γ P => da Γ fun x => onB x fun c => P (.bool (!c))
def dPNone : DO := fun _ P => P none
def dPart (de : DE) : DO := fun Γ P => de Γ fun x => onI x fun i => P (some i)
def dSl (de : DE) (dl dh : DO) : DN := fun Γ P => de Γ fun x => dl Γ fun l => dh Γ fun u => onL x fun ds => P (cutD ds l u)
def dCat (da db : DE) : DN := fun Γ P => da Γ fun x => db Γ fun y => onL x fun ds => onL y fun es => ds.length + es.length ≤ 100000 ∧ P (ds ++ es)
def dRep (da db : DE) : DN := fun Γ P => da Γ fun x => db Γ fun y => onL x fun ds => onI y fun k => (0 ≤ k ∧ ds.length * k.toNat ≤ 100000 ∧ k < 2 ^ 63) ∧ P (List.replicate k.toNat ds).flatten
def onSq : PyData → (List PyData → Prop) → Prop
  | .list i, k => k i
  | .tuple i, k => k i
  | _, _ => False
def dLen (da : DE) : DE := fun Γ P => da Γ fun x => onSq x fun ds => P (.int (ds.length : Int))
def dListOf (da : DE) : DN := fun Γ P => da Γ fun x => onSq x P
def dInt1 (da : DE) : DE := fun Γ P => da Γ fun x => match x with
  | .int i => P (.int i)
  | .bool c => P (.int (if c then 1 else 0))
  | _ => False
def dAbs (da : DE) : DE := fun Γ P => da Γ fun x => onI x fun i => P (.int (i.natAbs : Int))
abbrev Con := List PyData → (PyData → Prop) → Prop
def spP (K : PySem.W.Frag) (R : Con) : Sp := fun vs h Q _ => ∃ (b : Hp) (ds : List PyData) (P : PyData → Prop), Ex b h ∧ DtA K b vs ds ∧ R ds P ∧ ∀ v b' h' x, Gr b h b' h' → P x → Dt K b' v x → Q v h'
abbrev ConN := List PyData → (List PyData → Prop) → Prop
def spN (K : PySem.W.Frag) (R : ConN) : Sp := fun vs h Q _ => ∃ (b : Hp) (ds : List PyData) (P : List PyData → Prop), Ex b h ∧ DtA K b vs ds ∧ R ds P ∧ ∀ p us b' h' xs, h p = none → b' p = none → Gr b h b' h' → h' p = some (.lst us) → DtA K b' us xs → P xs → Q (.ref p) h'
def dCall (R : Con) (da : DN) : DE := fun Γ P => da Γ fun ds => R ds P
def dCallN (R : ConN) (da : DN) : DN := fun Γ P => da Γ fun ds => R ds P
def dCallK (n m : Nat) (R : Con) (da dk : DN) : DE := fun Γ P => da Γ fun ds => dk Γ fun es => ds.length = n ∧ es.length = m ∧ R (ds ++ es) P
def dCallKN (n m : Nat) (R : ConN) (da dk : DN) : DN := fun Γ P => da Γ fun ds => dk Γ fun es => ds.length = n ∧ es.length = m ∧ R (ds ++ es) P
section
variable {K : PySem.W.Frag} {te ta tb : TE} {ts tk tr : TA} {da db de : DE} {dn dr dk : DN} {tt tu : TT} {dt du : DT} {E : XK} {R : Con} {RN : ConN}
theorem EXA.up {σ : L2.St} {b b' : Hp} {P : List PyData → Prop} (x : EXA K ts σ b P) (e : Ex b b') : EXA K ts σ b' P := fun h e1 _ q => x h (e.trans e1) _ fun v b2 h2 d g hp hv => by
  obtain ⟨b3, g3, e3, _⟩ := g.back e e1
  exact q v b3 h2 d g3 hp (hv.up e3)
theorem z_var {i : Nat} : SimE K (tVar i) (dVar i) := fun σ Γ b r P hp h e Q q => by
  unfold dVar at hp
  cases g : gat Γ i with
  | none =>
    rw [g] at hp
    cases hp
  | some s =>
    rw [g] at hp
    cases s with
    | o ds => cases hp
    | d x =>
      obtain ⟨v, hv, hd⟩ := r.d i x g
      exact ⟨v, hv, q v b h x (Gr.refl e) hp hd⟩
theorem z_c {v : V} {d : PyData} (hd : ∀ H, Dt K H v d) : SimE K (tC v) (dC d) := fun σ Γ b r P hp h e Q q => q v b h d (Gr.refl e) hp (hd b)
theorem z_i {i : Int} : SimE K (tC (.int i)) (dC (.int i)) := z_c fun _ => Dt.int i
theorem z_s {i : Str} : SimE K (tC (.str i)) (dC (.str i)) := z_c fun _ => Dt.str i
theorem z_b {i : Bool} : SimE K (tC (.bl i)) (dC (.bool i)) := z_c fun _ => Dt.bool i
theorem z_nil : SimA K tNil dNil := fun σ Γ b r P hp h e Q q => q [] b h [] (Gr.refl e) hp DtA.nil
theorem z_cons (x : SimE K te de) (y : SimA K tr dr) : SimA K (tCons te tr) (dCons de dr) := fun σ Γ b r P hp h e Q q => x σ Γ b r _ hp h e _ fun v b2 h2 d g2 hp2 hv =>
  y σ Γ b2 (r.up g2.gb) _ hp2 h2 g2.gi _ fun vs b3 h3 ds g3 hp3 hvs => q (v :: vs) b3 h3 (d :: ds) (g2.trans g3) hp3 (DtA.cons (hv.up g3.gb) hvs)
theorem z_tup (x : SimA K ts dn) : SimE K (tTup ts) (dTup dn) := fun σ Γ b r P hp h e Q q => x σ Γ b r _ hp h e _ fun vs b2 h2 ds g2 hp2 hvs =>
  ⟨sz_of (by rw [hvs.length]; exact hp2.1), fun p hpn => q (.ref p) _ _ (.tuple ds) (g2.trans (Gr.new g2.gi hpn)) hp2.2 (Dt.tuple (st_of upd_same) (hvs.up (Ex.new (none_of g2.gi hpn))))⟩
theorem z_lst (x : SimA K ts dn) : SimN K (tLst ts) (dLst dn) := fun σ Γ b r P hp h e Q q => x σ Γ b r _ hp h e _ fun vs b2 h2 ds g2 hp2 hvs =>
  ⟨sz_of (by rw [hvs.length]; exact hp2.1), fun p hpn => q p vs b2 _ ds (gone g2 hpn) (none_of g2.gi hpn) (g2.trans (Gr.hid g2.gi hpn)) upd_same hvs hp2.2⟩
theorem z_ofN (x : SimN K te dn) : SimE K te (dOfN dn) := fun σ Γ b r P hp h e Q q => x σ Γ b r _ hp h e _ fun p us b2 h2 ds np nb g2 hpu hv hp2 =>
  q (.ref p) _ h2 (.list ds) (g2.tell np nb hpu) hp2 (Dt.list upd_same (hv.up (Ex.new nb)))
theorem z_two {r2 : R2} {g : PyData → PyData → (PyData → Prop) → Prop} (x : SimE K ta da) (y : SimE K tb db)
    (hr : ∀ (b h : Hp) (v w : V) (d d' : PyData) (P : PyData → Prop) (Q : VK), Ex b h → Dt K b v d → Dt K b w d' → g d d' P → (∀ v b' h' d, Gr b h b' h' → P d → Dt K b' v d → Q v h') → r2 v w h Q) :
    SimE K (tOp r2 ta tb) (fun Γ P => da Γ fun x => db Γ fun y => g x y P) := fun σ Γ b r P hp h e Q q =>
  x σ Γ b r _ hp h e _ fun v b2 h2 d g2 hp2 hv => y σ Γ b2 (r.up g2.gb) _ hp2 h2 g2.gi _ fun w b3 h3 d' g3 hp3 hw =>
    hr b3 h3 v w d d' P Q g3.gi (hv.up g3.gb) hw hp3 fun v b4 h4 d4 g4 hp4 hv4 => q v b4 h4 d4 ((g2.trans g3).trans g4) hp4 hv4
theorem z_II {C : Int → Int → Prop} {g : Int → Int → V} {G : Int → Int → PyData} (hg : ∀ i j H, Dt K H (g i j) (G i j)) (x : SimE K ta da) (y : SimE K tb db) :
    SimE K (tOp (rI C g) ta tb) (dII da db fun i j P => C i j ∧ P (G i j)) :=
  z_two x y fun b h v w d d' P Q e hv hw hp q => by
    obtain ⟨i, rfl, hp1⟩ := onI_is hp
    obtain ⟨j, rfl, hp2⟩ := onI_is hp1
    exact ⟨i, j, hv.intI, hw.intI, hp2.1, q _ b h _ (Gr.refl e) hp2.2 (hg i j b)⟩
theorem z_II0 {g : Int → Int → V} {G : Int → Int → PyData} (hg : ∀ i j H, Dt K H (g i j) (G i j)) (x : SimE K ta da) (y : SimE K tb db) :
    SimE K (tOp (rI0 g) ta tb) (dII da db fun i j P => P (G i j)) :=
  z_two x y fun b h v w d d' P Q e hv hw hp q => by
    obtain ⟨i, rfl, hp1⟩ := onI_is hp
    obtain ⟨j, rfl, hp2⟩ := onI_is hp1
    exact ⟨i, j, hv.intI, hw.intI, q _ b h _ (Gr.refl e) hp2 (hg i j b)⟩
theorem z_ixL (x : SimE K ta da) (y : SimE K tb db) : SimE K (tOp (rIxL K) ta tb) (dIxL da db) :=
  z_two x y fun b h v w d d' P Q e hv hw hp q => by
    obtain ⟨ds, rfl, hp⟩ := onL_is hp
    obtain ⟨i, rfl, hp⟩ := onI_is hp
    obtain ⟨z, hz, hp⟩ := hp
    obtain ⟨a, xs, rfl, k1, k2⟩ := hv.listI
    obtain ⟨u, hu, hd⟩ := k2.atI hz
    exact ⟨a, xs, i, u, rfl, hw.intI, sq_of (e _ _ k1), hu, q u b h z (Gr.refl e) hp hd⟩
theorem z_ixT (x : SimE K ta da) (y : SimE K tb db) : SimE K (tOp (rIxT K) ta tb) (dIxT da db) :=
  z_two x y fun b h v w d d' P Q e hv hw hp q => by
    obtain ⟨ds, rfl, hp⟩ := onT_is hp
    obtain ⟨i, rfl, hp⟩ := onI_is hp
    obtain ⟨z, hz, hp⟩ := hp
    obtain ⟨a, xs, rfl, k1, k2⟩ := hv.tupleI
    obtain ⟨u, hu, hd⟩ := k2.atI hz
    exact ⟨a, xs, i, u, rfl, hw.intI, ex_t e k1, hu, q u b h z (Gr.refl e) hp hd⟩
theorem z_eqD (x : SimE K ta da) (y : SimE K tb db) : SimE K (tOp (rEqD K) ta tb) (dEqD da db) :=
  z_two x y fun b h v w d d' P Q e hv hw hp q => ⟨d, d', Dt.dp _ _ (hv.up e), Dt.dp _ _ (hw.up e), hp.1, hp.2.1, q _ b h _ (Gr.refl e) hp.2.2 (Dt.bool _)⟩
theorem z_neD (x : SimE K ta da) (y : SimE K tb db) : SimE K (tOp (rNeD K) ta tb) (dNeD da db) :=
  z_two x y fun b h v w d d' P Q e hv hw hp q => ⟨d, d', Dt.dp _ _ (hv.up e), Dt.dp _ _ (hw.up e), hp.1, hp.2.1, q _ b h _ (Gr.refl e) hp.2.2 (Dt.bool _)⟩
theorem eqS_V {b : Hp} {v w : V} {d d' : PyData} {c : Bool} (hv : Dt K b v d) (hw : Dt K b w d') (h : eqS d d' = some c) : L2.scal v w = true ∧ decide (v = w) = c := by
  cases hv <;> cases hw <;> first
    | (cases h; done)
    | (simp only [eqS, Option.some.injEq] at h
       subst h
       refine ⟨rfl, ?_⟩
       first | (simp only [decide_eq_decide, V.int.injEq, V.str.injEq, V.bl.injEq]; done) | rfl | simp)
theorem z_eqS (x : SimE K ta da) (y : SimE K tb db) : SimE K (tOp rEq ta tb) (dEqS da db) :=
  z_two x y fun b h v w d d' P Q e hv hw hp q => by
    obtain ⟨c, hc, hp⟩ := hp
    obtain ⟨h1, h2⟩ := eqS_V hv hw hc
    refine ⟨h1, ?_⟩
    rw [h2]
    exact q _ b h _ (Gr.refl e) hp (Dt.bool _)
end
end Md
namespace Md
open PySem L2 Evl
section
variable {K : PySem.W.Frag} {te ta tb : TE} {ts tk tr : TA} {da db de : DE} {dn dr dk : DN} {tt tu : TT} {dt du : DT} {E : XK} {R : Con} {RN : ConN} {tl th : TO} {dl dh : DO}
theorem z_add (x : SimE K ta da) (y : SimE K tb db) : SimE K (tOp (rI0 fun i j => .int (i + j)) ta tb) (dAdd da db) := z_II0 (fun _ _ _ => Dt.int _) x y
theorem z_sub (x : SimE K ta da) (y : SimE K tb db) : SimE K (tOp (rI0 fun i j => .int (i - j)) ta tb) (dSub da db) := z_II0 (fun _ _ _ => Dt.int _) x y
theorem z_mulW (x : SimE K ta da) (y : SimE K tb db) : SimE K (tOp (rI CMulW fun i j => .int (i * j)) ta tb) (dMulW da db) := z_II (fun _ _ _ => Dt.int _) x y
theorem z_gt (x : SimE K ta da) (y : SimE K tb db) : SimE K (tOp (rI0 fun i j => .bl (decide (j < i))) ta tb) (dGt da db) := z_II0 (fun _ _ _ => Dt.bool _) x y
theorem z_if (z : SimT K tt dt) (x : SimE K ta da) (y : SimE K tb db) : SimE K (tIf tt ta tb) (dIf dt da db) := fun σ Γ b r P hp h e Q q => z σ Γ b r _ hp h e _ fun c h2 e2 hp2 => by
  have g2 : Gr b h b h2 := Gr.stay e e2
  cases c with
  | true => exact x σ Γ b r _ hp2 h2 g2.gi _ fun v b3 h3 d g3 hp3 hv => q v b3 h3 d (g2.trans g3) hp3 hv
  | false => exact y σ Γ b r _ hp2 h2 g2.gi _ fun v b3 h3 d g3 hp3 hv => q v b3 h3 d (g2.trans g3) hp3 hv
theorem z_test (x : SimE K te de) : SimT K (tTest te) (dTest de) := fun σ Γ b r P hp h e Q q => x σ Γ b r _ hp h e _ fun v b2 h2 d g2 hp2 hv => by
  obtain ⟨c, rfl, hc⟩ := onB_is hp2
  exact ⟨c, hv.boolI, q c h2 g2.gh hc⟩
theorem z_or (x : SimT K tt dt) (y : SimT K tu du) : SimT K (tOr tt tu) (dOr dt du) := fun σ Γ b r P hp h e Q q => x σ Γ b r _ hp h e _ fun c h2 e2 hc => by
  cases c with
  | true => exact q true h2 e2 hc
  | false => exact y σ Γ b r _ hc h2 (e.trans e2) _ fun c h3 e3 hc => q c h3 (e2.trans e3) hc
theorem z_yes : SimT K tYes dYes := fun σ Γ b r P hp h e Q q => q true h (Ex.refl h) hp
theorem z_pnone : SimO K tNoPart dPNone := fun σ Γ b r P hp h e Q q => q none h (Ex.refl h) hp
theorem z_part (x : SimE K te de) : SimO K (tPart te) (dPart de) := fun σ Γ b r P hp h e Q q => x σ Γ b r _ hp h e _ fun v b2 h2 d g2 hp2 hv => by
  obtain ⟨i, rfl, hc⟩ := onI_is hp2
  exact ⟨i, hv.intI, q _ h2 g2.gh hc⟩
theorem z_sl (x : SimE K te de) (y : SimO K tl dl) (z : SimO K th dh) : SimN K (tSl (rSlL K) te tl th) (dSl de dl dh) := fun σ Γ b r P hp h e Q q => x σ Γ b r _ hp h e _ fun v b2 h2 d g2 hp2 hv =>
  y σ Γ b2 (r.up g2.gb) _ hp2 h2 g2.gi _ fun l h3 e3 hp3 => z σ Γ b2 (r.up g2.gb) _ hp3 h3 (g2.gi.trans e3) _ fun u h4 e4 hp4 => by
    obtain ⟨ds, rfl, hp5⟩ := onL_is hp4
    obtain ⟨a, xs, rfl, k1, k2⟩ := hv.listI
    have g4 := g2.trans (Gr.stay g2.gi (e3.trans e4))
    exact ⟨a, xs, rfl, sq_of (g4.gi _ _ k1), fun p hpn => q p _ b2 _ _ (gone g4 hpn) (none_of g4.gi hpn) (g4.trans (Gr.hid g4.gi hpn)) upd_same (k2.cut l u) hp5⟩
theorem z_twoN {r2 : R2} {g : PyData → PyData → (List PyData → Prop) → Prop} (x : SimE K ta da) (y : SimE K tb db)
    (hr : ∀ (b h : Hp) (v w : V) (d d' : PyData) (P : List PyData → Prop) (Q : VK), Ex b h → Dt K b v d → Dt K b w d' → g d d' P → (∀ p us ds, h p = none → DtA K b us ds → P ds → Q (.ref p) (upd h p (.lst us))) → r2 v w h Q) :
    SimN K (tOp r2 ta tb) (fun Γ P => da Γ fun x => db Γ fun y => g x y P) := fun σ Γ b r P hp h e Q q =>
  x σ Γ b r _ hp h e _ fun v b2 h2 d g2 hp2 hv => y σ Γ b2 (r.up g2.gb) _ hp2 h2 g2.gi _ fun w b3 h3 d' g3 hp3 hw =>
    hr b3 h3 v w d d' P Q g3.gi (hv.up g3.gb) hw hp3 fun p us ds np hu hp4 => by
      have g4 := g2.trans g3
      exact q p us b3 _ ds (gone g4 np) (none_of g4.gi np) (g4.trans (Gr.hid g4.gi np)) upd_same hu hp4
theorem z_cat (x : SimE K ta da) (y : SimE K tb db) : SimN K (tOp rCat ta tb) (dCat da db) :=
  z_twoN x y fun b h v w d d' P Q e hv hw hp q => by
    obtain ⟨ds, rfl, hp1⟩ := onL_is hp
    obtain ⟨es, rfl, hp2⟩ := onL_is hp1
    obtain ⟨a, xs, rfl, k1, k2⟩ := hv.listI
    obtain ⟨c, ys, rfl, l1, l2⟩ := hw.listI
    exact ⟨a, c, xs, ys, rfl, rfl, e _ _ k1, e _ _ l1, sz_of (by rw [k2.length, l2.length]; exact hp2.1), fun p np => q p _ _ np (k2.append l2) hp2.2⟩
theorem dta_flat {b : Hp} {xs : List V} {ds : List PyData} (h : DtA K b xs ds) : ∀ n : Nat, DtA K b (List.replicate n xs).flatten (List.replicate n ds).flatten
  | 0 => DtA.nil
  | n + 1 => by
    rw [List.replicate_succ, List.replicate_succ, List.flatten_cons, List.flatten_cons]
    exact h.append (dta_flat h n)
theorem z_rep (x : SimE K ta da) (y : SimE K tb db) : SimN K (tOp rRep ta tb) (dRep da db) :=
  z_twoN x y fun b h v w d d' P Q e hv hw hp q => by
    obtain ⟨ds, rfl, hp1⟩ := onL_is hp
    obtain ⟨k, rfl, hp2⟩ := onI_is hp1
    obtain ⟨⟨h0, h1, h9⟩, hp3⟩ := hp2
    obtain ⟨a, xs, rfl, k1, k2⟩ := hv.listI
    exact ⟨a, k, xs, rfl, hw.intI, e _ _ k1, by omega, h9, sz_of (by rw [k2.length]; exact h1), fun p np => q p _ _ np (dta_flat k2 _) hp3⟩
theorem z_one {r1 : List V → Hp → VK → Prop} {g : PyData → (PyData → Prop) → Prop} (x : SimE K ta da)
    (hr : ∀ (b h : Hp) (v : V) (d : PyData) (P : PyData → Prop) (Q : VK), Ex b h → Dt K b v d → g d P → (∀ v b' h' d, Gr b h b' h' → P d → Dt K b' v d → Q v h') → r1 [v] h Q) :
    SimE K (tCB r1 (tCons ta tNil)) (fun Γ P => da Γ fun x => g x P) := fun σ Γ b r P hp h e Q q =>
  x σ Γ b r _ hp h e _ fun v b2 h2 d g2 hp2 hv => hr b2 h2 v d P Q g2.gi hv hp2 fun v b3 h3 d3 g3 hp3 hv3 => q v b3 h3 d3 (g2.trans g3) hp3 hv3
theorem z_oneN {r1 : List V → Hp → VK → Prop} {g : PyData → (List PyData → Prop) → Prop} (x : SimE K ta da)
    (hr : ∀ (b h : Hp) (v : V) (d : PyData) (P : List PyData → Prop) (Q : VK), Ex b h → Dt K b v d → g d P → (∀ p us ds, h p = none → DtA K b us ds → P ds → Q (.ref p) (upd h p (.lst us))) → r1 [v] h Q) :
    SimN K (tCB r1 (tCons ta tNil)) (fun Γ P => da Γ fun x => g x P) := fun σ Γ b r P hp h e Q q =>
  x σ Γ b r _ hp h e _ fun v b2 h2 d g2 hp2 hv => hr b2 h2 v d P Q g2.gi hv hp2 fun p us ds np hu hp3 =>
    q p us b2 _ ds (gone g2 np) (none_of g2.gi np) (g2.trans (Gr.hid g2.gi np)) upd_same hu hp3
theorem onSq_is {x : PyData} {k : List PyData → Prop} (h : onSq x k) : ∃ i, (x = .list i ∨ x = .tuple i) ∧ k i := by
  cases x with
  | list i => exact ⟨i, .inl rfl, h⟩
  | tuple i => exact ⟨i, .inr rfl, h⟩
  | _ => cases h
theorem Dt.seqI {b h : Hp} {v : V} {x : PyData} {ds : List PyData} (hv : Dt K b v x) (e : Ex b h) (hx : x = .list ds ∨ x = .tuple ds) : ∃ a xs, v = V.ref a ∧ (SqL K h a xs ∨ SqT K h a xs) ∧ DtA K b xs ds := by
  rcases hx with rfl | rfl
  · obtain ⟨a, xs, rfl, k1, k2⟩ := hv.listI
    exact ⟨a, xs, rfl, .inl (sq_of (e _ _ k1)), k2⟩
  · obtain ⟨a, xs, rfl, k1, k2⟩ := hv.tupleI
    exact ⟨a, xs, rfl, .inr (ex_t e k1), k2⟩
theorem z_len (x : SimE K ta da) : SimE K (tCB (rLenS K) (tCons ta tNil)) (dLen da) := z_one (da := da) x fun b h v d P Q e hv hp q => by
  obtain ⟨ds, hx, hp⟩ := onSq_is hp
  obtain ⟨a, xs, rfl, h1, h2⟩ := hv.seqI e hx
  refine ⟨a, xs, rfl, h1, ?_⟩
  rw [h2.length]
  exact q _ b h _ (Gr.refl e) hp (Dt.int _)
theorem z_list (x : SimE K ta da) : SimN K (tCB (rListS K) (tCons ta tNil)) (dListOf da) := z_oneN (da := da) x fun b h v d P Q e hv hp q => by
  obtain ⟨ds, hx, hp⟩ := onSq_is hp
  obtain ⟨a, xs, rfl, h1, h2⟩ := hv.seqI e hx
  exact ⟨a, xs, rfl, h1, fun l hl => q l xs ds hl h2 hp⟩
theorem z_int1 (x : SimE K ta da) : SimE K (tCB rInt1 (tCons ta tNil)) (dInt1 da) := z_one (da := da) x fun b h v d P Q e hv hp q => by
  cases d with
  | int i => exact .inl ⟨i, by rw [hv.intI], q _ b h _ (Gr.refl e) hp (Dt.int _)⟩
  | bool i => exact .inr ⟨i, by rw [hv.boolI], q _ b h _ (Gr.refl e) hp (Dt.int _)⟩
  | _ => cases hp
theorem z_abs (x : SimE K ta da) : SimE K (tCB rAbs (tCons ta tNil)) (dAbs da) := z_one (da := da) x fun b h v d P Q e hv hp q => by
  obtain ⟨i, rfl, hp⟩ := onI_is hp
  refine ⟨i, by rw [hv.intI], ?_⟩
  have e3 : (if i < 0 then -i else i) = (i.natAbs : Int) := by split <;> omega
  rw [e3]
  exact q _ b h _ (Gr.refl e) hp (Dt.int _)
def dSum (da : DE) : DE := fun Γ P => da Γ fun x => ∃ ns : List Int, x = .list (ns.map PyData.int) ∧ P (.int ns.sum)
def dMax (da : DE) : DE := fun Γ P => da Γ fun x => ∃ ns : List Int, x = .list (ns.map PyData.int) ∧ 0 < ns.length ∧ ∀ m, m ∈ ns → (∀ y, y ∈ ns → y ≤ m) → P (.int m)
def dMin (da : DE) : DE := fun Γ P => da Γ fun x => ∃ ns : List Int, x = .list (ns.map PyData.int) ∧ 0 < ns.length ∧ ∀ m, m ∈ ns → (∀ y, y ∈ ns → m ≤ y) → P (.int m)
def dAll (da : DE) : DE := fun Γ P => da Γ fun x => ∃ bs : List Bool, x = .list (bs.map PyData.bool) ∧ P (.bool (bs.all id))
def dAny (da : DE) : DE := fun Γ P => da Γ fun x => ∃ bs : List Bool, x = .list (bs.map PyData.bool) ∧ P (.bool (bs.any id))
def dRepr (da : DE) : DE := fun Γ P => da Γ fun x => (∃ ds, x = .list ds ∨ x = .tuple ds) ∧ x.showable = true ∧ x.hasDict = false ∧ x.depth ≤ 60 ∧ x.shown.length ≤ sizeLine ∧ P (.str x.shown)
def dIsi (T : String) (da : DE) : DE := fun Γ P => da Γ fun x => ∃ c, kitB (kindD x) T = some c ∧ P (.bool c)
def dTupOf (da : DE) : DE := fun Γ P => da Γ fun x => onL x fun ds => P (.tuple ds)
def dMax2 (da db : DE) : DE := dII da db fun i j P => P (.int (if j > i then j else i))
def dMin2 (da db : DE) : DE := dII da db fun i j P => P (.int (if j < i then j else i))
def dGcd (da db : DE) : DE := dII da db fun i j P => P (.int ((Nat.gcd i.natAbs j.natAbs : Nat) : Int))
def dLcm (da db : DE) : DE := dII da db fun i j P => (i.natAbs < 2 ^ 13000 ∧ j.natAbs < 2 ^ 13000) ∧ P (.int ((Nat.lcm i.natAbs j.natAbs : Nat) : Int))
def dFdiv (da db : DE) : DE := dII da db fun i j P => CDivW i j ∧ P (.int (i / j))
def dModI (da db : DE) : DE := dII da db fun i j P => 0 < j ∧ P (.int (i % j))
def dNeg (da : DE) : DE := fun Γ P => da Γ fun x => onI x fun i => P (.int (-i))
def dInD (da db : DE) : DE := fun Γ P => da Γ fun x => db Γ fun y => onL y fun ds => SeqAt.shaped x = true ∧ SeqAt.shaped (.list ds) = true ∧ P (.bool (ds.any fun z => PyData.eqv z x))
def dNiD (da db : DE) : DE := fun Γ P => da Γ fun x => db Γ fun y => onL y fun ds => SeqAt.shaped x = true ∧ SeqAt.shaped (.list ds) = true ∧ P (.bool (!ds.any fun z => PyData.eqv z x))
theorem dta_ints {b : Hp} : ∀ {ns : List Int} {us : List V}, DtA K b us (ns.map PyData.int) → us = ns.map V.int
  | [], _, h => by
    cases h
    rfl
  | n :: ns, _, h => by
    cases h with
    | cons h1 h2 =>
      rw [h1.intI, dta_ints h2]
      rfl
theorem dta_bools {b : Hp} : ∀ {ns : List Bool} {us : List V}, DtA K b us (ns.map PyData.bool) → us = ns.map V.bl
  | [], _, h => by
    cases h
    rfl
  | n :: ns, _, h => by
    cases h with
    | cons h1 h2 =>
      rw [h1.boolI, dta_bools h2]
      rfl
theorem z_sum (x : SimE K ta da) : SimE K (tCB (rSum K) (tCons ta tNil)) (dSum da) := z_one (da := da) x fun b h v d P Q e hv hp q => by
  obtain ⟨ns, rfl, hp⟩ := hp
  obtain ⟨a, xs, rfl, k1, k2⟩ := hv.listI
  obtain rfl := dta_ints k2
  exact ⟨a, ns, rfl, sq_of (e _ _ k1), q _ b h _ (Gr.refl e) hp (Dt.int _)⟩
theorem z_max (x : SimE K ta da) : SimE K (tCB (rMax K) (tCons ta tNil)) (dMax da) := z_one (da := da) x fun b h v d P Q e hv hp q => by
  obtain ⟨ns, rfl, h0, hp⟩ := hp
  obtain ⟨a, xs, rfl, k1, k2⟩ := hv.listI
  obtain rfl := dta_ints k2
  exact ⟨a, ns, rfl, sq_of (e _ _ k1), h0, fun m h1 h2 => q _ b h _ (Gr.refl e) (hp m h1 h2) (Dt.int _)⟩
theorem z_min (x : SimE K ta da) : SimE K (tCB (rMin K) (tCons ta tNil)) (dMin da) := z_one (da := da) x fun b h v d P Q e hv hp q => by
  obtain ⟨ns, rfl, h0, hp⟩ := hp
  obtain ⟨a, xs, rfl, k1, k2⟩ := hv.listI
  obtain rfl := dta_ints k2
  exact ⟨a, ns, rfl, sq_of (e _ _ k1), h0, fun m h1 h2 => q _ b h _ (Gr.refl e) (hp m h1 h2) (Dt.int _)⟩
theorem z_all (x : SimE K ta da) : SimE K (tCB (rAll K) (tCons ta tNil)) (dAll da) := z_one (da := da) x fun b h v d P Q e hv hp q => by
  obtain ⟨ns, rfl, hp⟩ := hp
  obtain ⟨a, xs, rfl, k1, k2⟩ := hv.listI
  obtain rfl := dta_bools k2
  exact ⟨a, ns, rfl, sq_of (e _ _ k1), q _ b h _ (Gr.refl e) hp (Dt.bool _)⟩
theorem z_any (x : SimE K ta da) : SimE K (tCB (rAny K) (tCons ta tNil)) (dAny da) := z_one (da := da) x fun b h v d P Q e hv hp q => by
  obtain ⟨ns, rfl, hp⟩ := hp
  obtain ⟨a, xs, rfl, k1, k2⟩ := hv.listI
  obtain rfl := dta_bools k2
  exact ⟨a, ns, rfl, sq_of (e _ _ k1), q _ b h _ (Gr.refl e) hp (Dt.bool _)⟩
theorem z_repr (x : SimE K ta da) : SimE K (tCB (rRepr K) (tCons ta tNil)) (dRepr da) := z_one (da := da) x fun b h v d P Q e hv hp q => by
  obtain ⟨⟨ds, hx⟩, h1, h2, h3, h4, hp⟩ := hp
  obtain ⟨a, xs, rfl, k1, k2⟩ := hv.seqI e hx
  exact ⟨a, _, rfl, Dt.dp _ _ (hv.up e), h1, h2, h3, h4, q _ b h _ (Gr.refl e) hp (Dt.str _)⟩
theorem z_inD (x : SimE K ta da) (y : SimE K tb db) : SimE K (tOp (rInD K) ta tb) (dInD da db) :=
  z_two x y fun b h v w d d' P Q e hv hw hp q => by
    obtain ⟨ds, rfl, hp1⟩ := onL_is hp
    exact ⟨d, ds, Dt.dp _ _ (hv.up e), Dt.dp _ _ (hw.up e), hp1.1, hp1.2.1, q _ b h _ (Gr.refl e) hp1.2.2 (Dt.bool _)⟩
theorem z_call (x : SimA K ts dn) : SimE K (tCall (spP K R) [] E ts) (dCall R dn) := fun σ Γ b r P hp h e Q q => x σ Γ b r _ hp h e _ fun vs b2 h2 ds g2 hp2 hvs =>
  ⟨b2, ds, P, g2.gi, by rw [List.append_nil]; exact hvs, hp2, fun v b3 h3 d g3 hp3 hv => q v b3 h3 d (g2.trans g3) hp3 hv⟩
theorem z_callN (x : SimA K ts dn) : SimN K (tCall (spN K RN) [] E ts) (dCallN RN dn) := fun σ Γ b r P hp h e Q q => x σ Γ b r _ hp h e _ fun vs b2 h2 ds g2 hp2 hvs =>
  ⟨b2, ds, P, g2.gi, by rw [List.append_nil]; exact hvs, hp2, fun p us b3 h3 xs np nb g3 hpu hu hp3 => q p us b3 h3 xs (gone g2 np) nb (g2.trans g3) hpu hu hp3⟩
end
end Md
namespace Md
open PySem L2 Evl
section
variable {K : PySem.W.Frag} {te ta tb : TE} {ts tk tr : TA} {da db de : DE} {dn dr dk : DN} {tt tu : TT} {dt du : DT} {E : XK} {R : Con} {RN : ConN} {tl th : TO} {dl dh : DO}
theorem z_modI (x : SimE K ta da) (y : SimE K tb db) : SimE K (tOp (rI (fun _ j => 0 < j) fun i j => .int (i % j)) ta tb) (dModI da db) := z_II (fun _ _ _ => Dt.int _) x y
def dPow (da db : DE) : DE := dII da db fun i j P => CPow i j ∧ P (.int (i ^ j.toNat))
theorem z_neg (x : SimE K ta da) : SimE K (tUn (rU fun i => .int (-i)) ta) (dNeg da) := fun σ Γ b r P hp h e Q q => x σ Γ b r _ hp h e _ fun v b2 h2 d g2 hp2 hv => by
  obtain ⟨i, rfl, hp3⟩ := onI_is hp2
  exact ⟨i, hv.intI, q _ b2 h2 _ g2 hp3 (Dt.int _)⟩
def dIsB (da db : DE) : DE := fun Γ P => da Γ fun x => db Γ fun y => onB x fun i => onB y fun j => P (.bool (decide (i = j)))
def dNotB (da db : DE) : DE := fun Γ P => da Γ fun x => db Γ fun y => onB x fun i => onB y fun j => P (.bool (!decide (i = j)))
def cI (g : Int → Int → Bool) : PyData → PyData → (PyData → Prop) → Prop := fun x y P => onI x fun i => onI y fun j => P (.bool (g i j))
def dChain (g1 g2 : Int → Int → Bool) (da db dc : DE) : DE := fun Γ P => da Γ fun x => db Γ fun y => cI g1 x y fun c => onB c fun c => if c = true then dc Γ fun z => cI g2 y z P else P (.bool false)
end
structure Put (js : List Nat) (Γ : Gam) (σ : L2.St) (Γ' : Gam) (σ' : L2.St) : Prop where
  ls : σ'.length = σ.length
  lg : Γ'.length = Γ.length
  out : ∀ i, i ∉ js → σ'[i]? = σ[i]? ∧ gat Γ' i = gat Γ i
  ino : ∀ i ds, i ∈ js → gat Γ' i = some (.o ds) → False
theorem Put.refl {Γ : Gam} {σ : L2.St} : Put [] Γ σ Γ σ := ⟨rfl, rfl, fun _ _ => ⟨rfl, rfl⟩, fun i ds h => by cases h⟩
theorem Put.trans {js ks : List Nat} {Γ Γ1 Γ2 : Gam} {σ σ1 σ2 : L2.St} (x : Put js Γ σ Γ1 σ1) (y : Put ks Γ1 σ1 Γ2 σ2) : Put (js ++ ks) Γ σ Γ2 σ2 := by
  refine ⟨y.ls.trans x.ls, y.lg.trans x.lg, fun i h => ?_, fun i ds h e => ?_⟩
  · have h1 := x.out i fun z => h (List.mem_append_left _ z)
    have h2 := y.out i fun z => h (List.mem_append_right _ z)
    exact ⟨h2.1.trans h1.1, h2.2.trans h1.2⟩
  · by_cases k : i ∈ ks
    · exact y.ino i ds k e
    · rcases List.mem_append.mp h with h | h
      · rw [(y.out i k).2] at e
        exact x.ino i ds h e
      · exact k h
theorem Put.one {Γ : Gam} {σ : L2.St} {i : Nat} {v : V} {x : PyData} : Put [i] Γ σ (Γ.set i (some (.d x))) (σ.set i (some v)) := by
  refine ⟨List.length_set, List.length_set, fun j h => ?_, fun j ds h e => ?_⟩
  · have hij : i ≠ j := fun z => h (by rw [z]; exact List.mem_cons_self)
    exact ⟨List.getElem?_set_ne hij, by rw [gat_set, if_neg (fun z => hij z.1)]⟩
  · obtain rfl := List.mem_singleton.mp h
    rw [gat_set] at e
    by_cases c : j = j ∧ j < Γ.length
    · rw [if_pos c] at e
      cases e
    · rw [if_neg c] at e
      exact c ⟨rfl, gat_lt e⟩
theorem wipe_at {σ : L2.St} {i : Nat} : ∀ {vs : List Nat}, i ∈ vs → (L2.wipe σ vs)[i]? = if i < σ.length then some none else none
  | [], h => by cases h
  | v :: vs, h => by
    show ((L2.wipe σ vs).set v none)[i]? = _
    rw [List.getElem?_set, wipe_length]
    by_cases c : v = i
    · subst c
      rw [if_pos rfl]
    · rw [if_neg c]
      rcases List.mem_cons.mp h with h | h
      · exact absurd h.symm c
      · exact wipe_at h
theorem Put.wipe {js vs : List Nat} {Γ Γ' : Gam} {σ0 σ' : L2.St} (x : Put js Γ (L2.wipe σ0 vs) Γ' σ') (h : ∀ i ∈ js, i ∈ vs) : L2.wipe σ' vs = L2.wipe σ0 vs := by
  refine List.ext_getElem? fun i => ?_
  by_cases k : i ∈ vs
  · rw [wipe_at k, wipe_at k, x.ls, wipe_length]
  · rw [L2.wipe_out k, (x.out i fun z => k (h i z)).1]
def SimG (K : PySem.W.Frag) (g : TG) (dg : DG) (js : List Nat) : Prop := ∀ σ Γ b h v x, RelD K b Γ σ → Dt K b v x → Ex b h → ∀ P, dg x Γ P → ∀ Q : L2.St → Hp → Prop, (∀ σ' Γ', RelD K b Γ' σ' → Put js Γ σ Γ' σ' → P Γ' → Q σ' h) → g v σ h Q
def SimGs (K : PySem.W.Frag) (g : TGs) (dg : DGs) (js : List Nat) : Prop := ∀ σ Γ b h vs xs, RelD K b Γ σ → DtA K b vs xs → Ex b h → ∀ P, dg xs Γ P → ∀ Q : L2.St → Hp → Prop, (∀ σ' Γ', RelD K b Γ' σ' → Put js Γ σ Γ' σ' → P Γ' → Q σ' h) → g vs σ h Q
def dgN (i : Nat) : DG := fun x Γ P => P (Γ.set i (some (.d x)))
def dgNil : DGs := fun xs Γ P => xs = [] ∧ P Γ
def dgCons (g : DG) (gs : DGs) : DGs := fun xs Γ P => match xs with
  | x :: r => g x Γ fun Γ1 => gs r Γ1 P
  | [] => False
def dgT (n : Nat) (gs : DGs) : DG := fun x Γ P => onT x fun ds => ds.length = n ∧ gs ds Γ P
section
variable {K : PySem.W.Frag}
theorem g_name {i : Nat} : SimG K (gName i) (dgN i) [i] := fun σ Γ b h v x r hv e P hp Q q => q _ _ (r.set hv) Put.one hp
theorem g_nil : SimGs K gNil dgNil [] := fun σ Γ b h vs xs r hv e P hp Q q => by
  obtain ⟨rfl, hp⟩ := hp
  cases hv
  exact ⟨rfl, q σ Γ r Put.refl hp⟩
theorem g_cons {g : TG} {gs : TGs} {dg : DG} {dgs : DGs} {js ks : List Nat} (x : SimG K g dg js) (y : SimGs K gs dgs ks) : SimGs K (gCons g gs) (dgCons dg dgs) (js ++ ks) := fun σ Γ b h vs xs r hv e P hp Q q => by
  cases hv with
  | nil => cases hp
  | cons h1 h2 =>
    exact ⟨_, _, rfl, x σ Γ b h _ _ r h1 e _ hp _ fun σ1 Γ1 r1 p1 hp1 => y σ1 Γ1 b h _ _ r1 h2 e _ hp1 _ fun σ2 Γ2 r2 p2 hp2 => q σ2 Γ2 r2 (p1.trans p2) hp2⟩
theorem g_tup {n : Nat} {gs : TGs} {dgs : DGs} {js : List Nat} (x : SimGs K gs dgs js) : SimG K (gTup K n gs) (dgT n dgs) js := fun σ Γ b h v d r hv e P hp Q q => by
  obtain ⟨ds, rfl, hl, hp1⟩ := onT_is hp
  obtain ⟨a, xs, rfl, k1, k2⟩ := hv.tupleI
  exact ⟨a, xs, rfl, ex_t e k1, by rw [k2.length]; exact hl, x σ Γ b h _ _ r k2 e _ hp1 _ q⟩
end
def WalkD (K : PySem.W.Frag) (J : It) (xs : List PyData) (b1 : Hp) : Prop := ∃ (G : Hp → Prop) (Y : Nat → Hp → V → Hp → Prop), Walk J xs.length G Y ∧ (∀ h, Ex b1 h → G h) ∧
  ∀ i x b2 h2 v h3, xs[i]? = some x → Ex b1 b2 → Ex b2 h2 → Y i h2 v h3 → ∃ b3, Gr b2 h2 b3 h3 ∧ Dt K b3 v x
def SimI (K : PySem.W.Frag) (wi : TI) (di : DN) : Prop := ∀ σ Γ b, RelD K b Γ σ → ∀ P, di Γ P → ∀ h, Ex b h → ∀ Rr : It → Hp → Prop, (∀ J h1 b1 xs, Gr b h b1 h1 → P xs → WalkD K J xs b1 → Rr J h1) → wi σ h Rr
def rangeD (lo : Int) (n : Nat) : List PyData := (List.range n).map fun i : Nat => PyData.int (lo + (i : Int))
def zipD (xs ys : List PyData) : List PyData := List.zipWith (fun x y => .tuple [x, y]) xs ys
def enumD (xs : List PyData) : List PyData := zipD ((List.range xs.length).map fun i : Nat => PyData.int (i : Int)) xs
def diL (de : DE) : DN := fun Γ P => de Γ fun x => onL x P
def diT (de : DE) : DN := fun Γ P => de Γ fun x => onT x P
def diR1 (da : DN) : DN := fun Γ P => da Γ fun ds => match ds with
  | [x] => onI x fun n => -(2 ^ 62) ≤ n ∧ n < 2 ^ 62 ∧ P (rangeD 0 n.toNat)
  | _ => False
def diR2 (da : DN) : DN := fun Γ P => da Γ fun ds => match ds with
  | [x, y] => onI x fun m => onI y fun n => (-(2 ^ 62) ≤ m ∧ m < 2 ^ 62 ∧ -(2 ^ 62) ≤ n ∧ n < 2 ^ 62) ∧ P (rangeD m (n - m).toNat)
  | _ => False
def diZ (da : DN) : DN := fun Γ P => da Γ fun ds => match ds with
  | [x, y] => onL x fun xs => onL y fun ys => P (zipD xs ys)
  | _ => False
def diE (da : DN) : DN := fun Γ P => da Γ fun ds => match ds with
  | [x] => onL x fun xs => P (enumD xs)
  | _ => False
section
variable {K : PySem.W.Frag} {te ta tb : TE} {ts tk tr : TA} {da db de : DE} {dn dr dk : DN}
theorem i_list (x : SimE K te de) : SimI K (iList K te) (diL de) := fun σ Γ b r P hp h e Rr k => x σ Γ b r _ hp h e _ fun v b1 h1 d g1 hp1 hv => by
  obtain ⟨ds, rfl, hp2⟩ := onL_is hp1
  obtain ⟨a, xs, rfl, k1, k2⟩ := hv.listI
  refine ⟨a, rfl, ⟨xs, sq_of (g1.gi _ _ k1)⟩, k _ h1 b1 ds g1 hp2 ⟨fun h => SqL K h a xs, YAt xs, ?_, fun h e => sq_of (e _ _ k1), ?_⟩⟩
  · rw [← k2.length]
    exact walk_list
  · rintro i x b2 h2 v h3 hx e2 e3 ⟨rfl, hy⟩
    obtain ⟨d, hd, hv⟩ := k2.getV hy
    rw [hx] at hd
    cases hd
    exact ⟨b2, Gr.refl e3, hv.up e2⟩
theorem walkd_range {lo : Int} {n : Nat} {b1 : Hp} : WalkD K (Itr lo n) (rangeD lo n) b1 := by
  refine ⟨fun _ => True, YFn fun i => .int (lo + i), ?_, fun _ _ => trivial, ?_⟩
  · have e : (rangeD lo n).length = n := by unfold rangeD; rw [List.length_map, List.length_range]
    rw [e]
    exact walk_range
  · rintro i x b2 h2 v h3 hx e2 e3 ⟨rfl, rfl⟩
    unfold rangeD at hx
    rw [List.getElem?_map] at hx
    cases q : (List.range n)[i]? with
    | none =>
      rw [q] at hx
      cases hx
    | some j =>
      rw [q] at hx
      cases hx
      obtain ⟨hj, rfl⟩ := List.getElem?_eq_some_iff.mp q
      rw [List.getElem_range]
      exact ⟨b2, Gr.refl e3, Dt.int _⟩
theorem i_rng1 (x : SimA K ts dn) : SimI K (iRng1 ts) (diR1 dn) := fun σ Γ b r P hp h e Rr k => x σ Γ b r _ hp h e _ fun vs b1 h1 ds g1 hp1 hv => by
  match ds, hv, hp1 with
  | [d], .cons h1' .nil, hp1 =>
    obtain ⟨n, rfl, a1, a2, hp2⟩ := onI_is hp1
    exact ⟨n, by rw [h1'.intI], a1, a2, k _ h1 b1 _ g1 hp2 walkd_range⟩
theorem i_rng2 (x : SimA K ts dn) : SimI K (iRng2 ts) (diR2 dn) := fun σ Γ b r P hp h e Rr k => x σ Γ b r _ hp h e _ fun vs b1 h1 ds g1 hp1 hv => by
  match ds, hv, hp1 with
  | [d, d'], .cons h1' (.cons h2' .nil), hp1 =>
    obtain ⟨m, rfl, hp2⟩ := onI_is hp1
    obtain ⟨n, rfl, a1, hp3⟩ := onI_is hp2
    exact ⟨m, n, by rw [h1'.intI, h2'.intI], a1, k _ h1 b1 _ g1 hp3 walkd_range⟩
theorem zip_get {xs ys : List PyData} {i : Nat} {x : PyData} (h : (zipD xs ys)[i]? = some x) : ∃ a c, xs[i]? = some a ∧ ys[i]? = some c ∧ x = .tuple [a, c] := by
  unfold zipD at h
  rw [List.getElem?_zipWith] at h
  cases h1 : xs[i]? with
  | none => rw [h1] at h; cases h
  | some a =>
    cases h2 : ys[i]? with
    | none => rw [h1, h2] at h; cases h
    | some c =>
      rw [h1, h2] at h
      cases h
      exact ⟨a, c, rfl, rfl, rfl⟩
theorem i_zip (x : SimA K ts dn) : SimI K (iZip K ts) (diZ dn) := fun σ Γ b r P hp h e Rr k => x σ Γ b r _ hp h e _ fun vs b1 h1 ds g1 hp1 hv => by
  match ds, hv, hp1 with
  | [d, d'], .cons q1 (.cons q2 .nil), hp1 =>
    obtain ⟨xs, rfl, hp2⟩ := onL_is hp1
    obtain ⟨ys, rfl, hp3⟩ := onL_is hp2
    obtain ⟨a1, us, rfl, k1, k2⟩ := q1.listI
    obtain ⟨a2, ws, rfl, l1, l2⟩ := q2.listI
    refine ⟨a1, a2, us, ws, rfl, sq_of (g1.gi _ _ k1), sq_of (g1.gi _ _ l1), k _ h1 b1 _ g1 hp3 ⟨fun h => SqL K h a1 us ∧ SqL K h a2 ws, YPair (fun i => us[i]?) (fun i => ws[i]?), walk_zip (by rw [k2.length, l2.length]; exact List.length_zipWith), fun h e => ⟨sq_of (e _ _ k1), sq_of (e _ _ l1)⟩, ?_⟩⟩
    rintro i x b2 h2 v h3 hx e2 e3 ⟨t, va, vb, rfl, nt, rfl, hva, hvb⟩
    obtain ⟨d1, d2, e4, e5, rfl⟩ := zip_get hx
    obtain ⟨f1, hf1, r1⟩ := k2.getV (show us[i]? = some va from hva)
    obtain ⟨f2, hf2, r2⟩ := l2.getV (show ws[i]? = some vb from hvb)
    rw [e4] at hf1
    rw [e5] at hf2
    cases hf1
    cases hf2
    have ee := Ex.new (o := .tup [va, vb]) (none_of e3 nt)
    exact ⟨_, Gr.new e3 nt, Dt.tuple (st_of upd_same) (DtA.cons ((r1.up e2).up ee) (DtA.one ((r2.up e2).up ee)))⟩
theorem i_enum (x : SimA K ts dn) : SimI K (iEnum K ts) (diE dn) := fun σ Γ b r P hp h e Rr k => x σ Γ b r _ hp h e _ fun vs b1 h1 ds g1 hp1 hv => by
  match ds, hv, hp1 with
  | [d], .cons q1 .nil, hp1 =>
    obtain ⟨xs, rfl, hp2⟩ := onL_is hp1
    obtain ⟨a1, us, rfl, k1, k2⟩ := q1.listI
    have el : (enumD xs).length = us.length := by
      unfold enumD zipD
      rw [List.length_zipWith, List.length_map, List.length_range, Nat.min_self, k2.length]
    refine ⟨a1, us, rfl, sq_of (g1.gi _ _ k1), k _ h1 b1 _ g1 hp2 ⟨fun h => SqL K h a1 us, YPair (fun i => some (.int (i : Nat))) (fun i => us[i]?), by rw [el]; exact walk_enum, fun h e => sq_of (e _ _ k1), ?_⟩⟩
    rintro i x b2 h2 v h3 hx e2 e3 ⟨t, va, vb, rfl, nt, rfl, hva, hvb⟩
    obtain ⟨d1, d2, e4, e5, rfl⟩ := zip_get hx
    obtain ⟨f2, hf2, r2⟩ := k2.getV (show us[i]? = some vb from hvb)
    rw [e5] at hf2
    cases hf2
    cases hva
    rw [List.getElem?_map] at e4
    cases q : (List.range xs.length)[i]? with
    | none =>
      rw [q] at e4
      cases e4
    | some j =>
      rw [q] at e4
      cases e4
      obtain ⟨hj, rfl⟩ := List.getElem?_eq_some_iff.mp q
      rw [List.getElem_range]
      have ee := Ex.new (o := .tup [.int (i : Nat), vb]) (none_of e3 nt)
      exact ⟨_, Gr.new e3 nt, Dt.tuple (st_of upd_same) (DtA.cons (Dt.int _) (DtA.one ((r2.up e2).up ee)))⟩
end
end Md
namespace Md
open PySem L2 Evl
def dLc (di : DN) (dg : DG) (dt : DT) (de : DE) (vs : List Nat) : DN := fun Γ P => di Γ fun xs => xs.length ≤ 40000 ∧ ∃ J : Nat → List PyData → Prop, J 0 [] ∧
  (∀ i x acc, xs[i]? = some x → J i acc → dg x (wipeG Γ vs) fun Γ1 => dt Γ1 fun c => if c = true then de Γ1 fun d => J (i + 1) (acc ++ [d]) else J (i + 1) acc) ∧ ∀ acc, J xs.length acc → P acc
theorem z_lc {K : PySem.W.Frag} {wi : TI} {di : DN} {g : TG} {dg : DG} {tt : TT} {dt : DT} {te : TE} {de : DE} {vs js : List Nat} (hj : ∀ i ∈ js, i ∈ vs) (xi : SimI K wi di) (xg : SimG K g dg js) (xt : SimT K tt dt) (xe : SimE K te de) :
    SimN K (tLc wi g tt te vs) (dLc di dg dt de vs) := fun σ Γ b r P hp h e Q q => xi σ Γ b r _ hp h e _ fun J h1 b1 xs g1 hp1 w => by
  obtain ⟨hl, Jv, j0, jn, je⟩ := hp1
  obtain ⟨G, Y, w, hG, hY⟩ := w
  intro Dl hD
  refine lc_it w (fun i h' => ∃ b2 us acc, Gr b1 h1 b2 h' ∧ b2 Dl = none ∧ h' Dl = some (.lst us) ∧ DtA K b2 us acc ∧ acc.length ≤ i ∧ Jv i acc) ?_ (fun i h' _ p => ?_) ?_ ?_
  · exact ⟨b1, [], [], Gr.hid g1.gi hD, none_of g1.gi hD, upd_same, DtA.nil, Nat.le_refl _, j0⟩
  · obtain ⟨b2, us, acc, g2, _⟩ := p
    exact hG h' (g2.gb.trans g2.gi)
  · rintro i x h2 h3 hi ⟨b2, us, acc, g2, nb, hu, hA, hlen, hJ⟩ hy
    obtain ⟨b3, g3, hx⟩ := hY i xs[i] b2 h2 x h3 (List.getElem?_eq_getElem hi) g2.gb g2.gi hy
    have nb3 : b3 Dl = none := g3.gf Dl nb (by rw [hu]; intro z; cases z)
    have hu3 := g3.gh _ _ hu
    refine xg _ _ b3 h3 x xs[i] ((r.up (g1.gb.trans (g2.gb.trans g3.gb))).wipe vs) hx g3.gi _ (jn i xs[i] acc (List.getElem?_eq_getElem hi) hJ) _ fun σ1 Γ1 r1 p1 hp2 => ?_
    refine ⟨p1.wipe hj, xt σ1 Γ1 b3 r1 _ hp2 h3 g3.gi _ fun c h4 e4 hc => ?_⟩
    have g4 : Gr b3 h3 b3 h4 := Gr.stay g3.gi e4
    have hu4 : h4 Dl = some (.lst us) := e4 _ _ hu3
    cases c with
    | true =>
      show te σ1 h4 _
      refine xe σ1 Γ1 b3 r1 _ hc h4 g4.gi _ fun y b5 h5 d g5 hd hy5 => ⟨us, g5.gh _ _ hu4, sz_lt (by rw [hA.length]; omega), ?_⟩
      have nb5 : b5 Dl = none := g5.gf Dl nb3 (by rw [hu4]; intro z; cases z)
      exact ⟨b5, us ++ [y], acc ++ [d], ((g2.trans g3).trans (g4.trans g5)).mut hD nb5, nb5, upd_same, ((hA.up g3.gb).up g5.gb).append (DtA.one hy5), by rw [List.length_append]; exact Nat.succ_le_succ hlen, hd⟩
    | false =>
      exact ⟨b3, us, acc, (g2.trans g3).trans g4, nb3, hu4, hA.up g3.gb, Nat.le_succ_of_le hlen, hc⟩
  · rintro h' ⟨b2, us, acc, g2, nb, hu, hA, _, hJ⟩
    exact q Dl us b2 h' acc (gone g1 hD) nb (g1.trans g2) hu hA (je acc hJ)
structure Rel (K : PySem.W.Frag) (b0 h0 bf b h : Hp) (Γ : Gam) (σ : L2.St) : Prop where
  r : RelD K b Γ σ
  g : Gr b0 h0 b h
  f : Ex bf b
  o : ∀ i ds, gat Γ i = some (.o ds) → ∃ p us, σ[i]? = some (some (.ref p)) ∧ h p = some (.lst us) ∧ b p = none ∧ h0 p = none ∧ DtA K b us ds
  u : ∀ i j ds es p, i ≠ j → gat Γ i = some (.o ds) → gat Γ j = some (.o es) → σ[i]? = some (some (.ref p)) → σ[j]? = some (some (.ref p)) → False
structure Parts (K : PySem.W.Frag) (b h h0 : Hp) (us : List V) (sls : List Sl) : Prop where
  l : us.length = sls.length
  d : ∀ (i : Nat) (x : PyData), sls[i]? = some (Sl.d x) → ∃ v, us[i]? = some v ∧ Dt K b v x
  o : ∀ (i : Nat) (ds : List PyData), sls[i]? = some (Sl.o ds) → ∃ p ws, us[i]? = some (V.ref p) ∧ h p = some (.lst ws) ∧ b p = none ∧ h0 p = none ∧ DtA K b ws ds
  u : ∀ (i j : Nat) (ds es : List PyData) (p : Addr), i ≠ j → sls[i]? = some (Sl.o ds) → sls[j]? = some (Sl.o es) → us[i]? = some (V.ref p) → us[j]? = some (V.ref p) → False
structure Match (K : PySem.W.Frag) (b0 h0 bf : Hp) (D : Ends) (DD : DEnds) : Prop where
  nx : ∀ b h Γ σ, Rel K b0 h0 bf b h Γ σ → DD.nx Γ → D.nx σ h
  bk : ∀ b h Γ σ, Rel K b0 h0 bf b h Γ σ → DD.bk Γ → D.bk σ h
  ct : ∀ b h Γ σ, Rel K b0 h0 bf b h Γ σ → DD.ct Γ → D.ct σ h
  rt : ∀ b h v x, Gr b0 h0 b h → Dt K b v x → DD.rt x → D.rt v h
  ro : ∀ b h p us ds, Gr b0 h0 b h → b p = none → h0 p = none → h p = some (.lst us) → DtA K b us ds → DD.ro ds → D.rt (.ref p) h
  rp : ∀ b h t us sls, Gr b0 h0 b h → b t = none → h0 t = none → h t = some (.tup us) → Parts K b h h0 us sls → DD.rp sls → D.rt (.ref t) h
def SimS (K : PySem.W.Frag) (ts : TS) (ds : DS) : Prop := ∀ b0 h0 bf D DD, Match K b0 h0 bf D DD → ∀ b h Γ σ, Rel K b0 h0 bf b h Γ σ → ds DD Γ → ts D σ h
section
variable {K : PySem.W.Frag} {b0 h0 bf b h b' h' : Hp} {Γ Γ' : Gam} {σ σ' : L2.St}
theorem Rel.up (x : Rel K b0 h0 bf b h Γ σ) (g : Gr b h b' h') : Rel K b0 h0 bf b' h' Γ σ := ⟨x.r.up g.gb, x.g.trans g, x.f.trans g.gb, fun i ds e => by
  obtain ⟨p, us, h1, h2, h3, h4, h5⟩ := x.o i ds e
  exact ⟨p, us, h1, g.gh _ _ h2, g.gf p h3 (by rw [h2]; intro z; cases z), h4, h5.up g.gb⟩, x.u⟩
theorem Rel.floor {bf' : Hp} (x : Rel K b0 h0 bf b h Γ σ) (e : Ex bf' bf) : Rel K b0 h0 bf' b h Γ σ := ⟨x.r, x.g, e.trans x.f, x.o, x.u⟩
theorem Rel.put {js : List Nat} (x : Rel K b0 h0 bf b h Γ σ) (p : Put js Γ σ Γ' σ') (r : RelD K b Γ' σ') : Rel K b0 h0 bf b h Γ' σ' := by
  have out : ∀ {i ds}, gat Γ' i = some (.o ds) → i ∉ js := fun {i ds} e z => p.ino i ds z e
  refine ⟨r, x.g, x.f, fun i ds e => ?_, fun i j ds es q hij e1 e2 e3 e4 => ?_⟩
  · have o := p.out i (out e)
    obtain ⟨q, us, h1, h2⟩ := x.o i ds (o.2 ▸ e)
    exact ⟨q, us, o.1.trans h1, h2⟩
  · have o1 := p.out i (out e1)
    have o2 := p.out j (out e2)
    exact x.u i j ds es q hij (o1.2 ▸ e1) (o2.2 ▸ e2) (o1.1 ▸ e3) (o2.1 ▸ e4)
theorem Rel.own {i : Nat} {p : Addr} {us : List V} {ds : List PyData} (x : Rel K b0 h0 bf b h Γ σ) (g : Gr b h b' h') (np : h p = none) (nb : b' p = none) (hp : h' p = some (.lst us)) (hA : DtA K b' us ds) (hi : i < Γ.length) :
    Rel K b0 h0 bf b' h' (Γ.set i (some (.o ds))) (σ.set i (some (.ref p))) := by
  have y := x.up g
  have hs : i < σ.length := by rw [x.r.len]; exact hi
  have other : ∀ {j es}, j ≠ i → gat Γ j = some (.o es) → σ[j]? = some (some (.ref p)) → False := fun {j es} hj e e1 => by
    obtain ⟨q, vs, h1, h2, _⟩ := x.o j es e
    rw [e1] at h1
    cases h1
    rw [np] at h2
    cases h2
  refine ⟨⟨by rw [List.length_set, List.length_set, x.r.len], fun j z e => ?_⟩, y.g, y.f, fun j es e => ?_, fun j k es fs q hjk e1 e2 e3 e4 => ?_⟩
  · rw [gat_set] at e
    by_cases c : i = j ∧ i < Γ.length
    · rw [if_pos c] at e
      cases e
    · rw [if_neg c] at e
      rw [List.getElem?_set_ne (fun z => c ⟨z, hi⟩)]
      exact y.r.d j z e
  · rw [gat_set] at e
    by_cases c : i = j ∧ i < Γ.length
    · rw [if_pos c] at e
      cases e
      obtain ⟨rfl, _⟩ := c
      exact ⟨p, us, List.getElem?_set_self hs, hp, nb, gone x.g np, hA⟩
    · rw [if_neg c] at e
      rw [List.getElem?_set_ne (fun z => c ⟨z, hi⟩)]
      exact y.o j es e
  · rw [gat_set] at e1 e2
    by_cases c1 : i = j
    · subst c1
      have c2 : i ≠ k := hjk
      rw [if_neg (fun z => c2 z.1)] at e2
      rw [List.getElem?_set_self hs] at e3
      rw [List.getElem?_set_ne c2] at e4
      cases e3
      exact other (Ne.symm c2) e2 e4
    · rw [if_neg (fun z => c1 z.1)] at e1
      rw [List.getElem?_set_ne c1] at e3
      by_cases c2 : i = k
      · subst c2
        rw [List.getElem?_set_self hs] at e4
        cases e4
        exact other (Ne.symm c1) e1 e3
      · rw [if_neg (fun z => c2 z.1)] at e2
        rw [List.getElem?_set_ne c2] at e4
        exact x.u j k es fs q hjk e1 e2 e3 e4
theorem Rel.mut {i : Nat} {p : Addr} {us : List V} {ds es : List PyData} (x : Rel K b0 h0 bf b h Γ σ) (e : gat Γ i = some (.o ds)) (hs : σ[i]? = some (some (.ref p))) (hA : DtA K b us es) : Rel K b0 h0 bf b (upd h p (.lst us)) (Γ.set i (some (.o es))) σ := by
  obtain ⟨q, vs, h1, h2, h3, h4, h5⟩ := x.o i ds e
  rw [hs] at h1
  cases h1
  have hi := gat_lt e
  refine ⟨⟨by rw [List.length_set, x.r.len], fun j z e1 => ?_⟩, x.g.mut h4 h3, x.f, fun j fs e1 => ?_, fun j k fs gs q hjk e1 e2 e3 e4 => ?_⟩
  · rw [gat_set] at e1
    by_cases c : i = j ∧ i < Γ.length
    · rw [if_pos c] at e1
      cases e1
    · rw [if_neg c] at e1
      exact x.r.d j z e1
  · rw [gat_set] at e1
    by_cases c : i = j ∧ i < Γ.length
    · rw [if_pos c] at e1
      cases e1
      obtain ⟨rfl, _⟩ := c
      exact ⟨p, us, hs, upd_same, h3, h4, hA⟩
    · rw [if_neg c] at e1
      obtain ⟨q, ws, k1, k2, k3, k4, k5⟩ := x.o j fs e1
      refine ⟨q, ws, k1, ?_, k3, k4, k5⟩
      rw [upd_ne]
      · exact k2
      · intro z
        subst z
        exact x.u i j ds fs q (fun z => c ⟨z, hi⟩) e e1 hs k1
  · rw [gat_set] at e1 e2
    have s1 : ∃ fs, gat Γ j = some (.o fs) := by
      by_cases c : i = j
      · exact ⟨ds, c ▸ e⟩
      · rw [if_neg (fun z => c z.1)] at e1
        exact ⟨fs, e1⟩
    have s2 : ∃ fs, gat Γ k = some (.o fs) := by
      by_cases c : i = k
      · exact ⟨ds, c ▸ e⟩
      · rw [if_neg (fun z => c z.1)] at e2
        exact ⟨gs, e2⟩
    obtain ⟨f1, s1⟩ := s1
    obtain ⟨f2, s2⟩ := s2
    exact x.u j k f1 f2 q hjk s1 s2 e3 e4
theorem Rel.all (x : Rel K b0 h0 bf b h Γ σ) : ∃ b1, Ex b b1 ∧ Ex b1 h ∧ RelD K b1 (allD Γ) σ := by
  classical
  let B : Hp := fun a => if ∃ i ds, gat Γ i = some (.o ds) ∧ σ[i]? = some (some (.ref a)) then h a else b a
  have e1 : Ex b B := fun a o ha => by
    show (if _ then _ else _) = _
    by_cases c : ∃ i ds, gat Γ i = some (.o ds) ∧ σ[i]? = some (some (.ref a))
    · obtain ⟨i, ds, c1, c2⟩ := c
      obtain ⟨p, us, k1, k2, k3, _⟩ := x.o i ds c1
      rw [c2] at k1
      cases k1
      rw [ha] at k3
      cases k3
    · rw [if_neg c]
      exact ha
  have e2 : Ex B h := fun a o ha => by
    have ha : (if _ then _ else _) = _ := ha
    by_cases c : ∃ i ds, gat Γ i = some (.o ds) ∧ σ[i]? = some (some (.ref a))
    · rw [if_pos c] at ha
      exact ha
    · rw [if_neg c] at ha
      exact x.g.gi _ _ ha
  have la : ∀ Γ : Gam, (allD Γ).length = Γ.length := fun Γ => by
    induction Γ with
    | nil => rfl
    | cons s l ih =>
      match s with
      | none => exact congrArg Nat.succ ih
      | some (.d x) => exact congrArg Nat.succ ih
      | some (.o x) => exact congrArg Nat.succ ih
  refine ⟨B, e1, e2, ⟨by rw [la, x.r.len], fun i z e => ?_⟩⟩
  rw [allD_gat] at e
  cases q : gat Γ i with
  | none =>
    rw [q] at e
    cases e
  | some s =>
    cases s with
    | d y =>
      rw [q] at e
      cases e
      obtain ⟨v, k1, k2⟩ := x.r.d i _ q
      exact ⟨v, k1, k2.up e1⟩
    | o ds =>
      rw [q] at e
      cases e
      obtain ⟨p, us, k1, k2, k3, k4, k5⟩ := x.o i ds q
      refine ⟨.ref p, k1, Dt.list ?_ (k5.up e1)⟩
      show (if _ then _ else _) = _
      rw [if_pos ⟨i, ds, q, k1⟩]
      exact k2
theorem Rel.forget (x : Rel K b0 h0 bf b h Γ σ) (ws : List Nat) : Rel K b0 h0 bf b h (wipeG Γ ws) σ :=
  ⟨⟨by rw [wipeG_len, x.r.len], fun i y e => x.r.d i y (wipeG_some e).1⟩, x.g, x.f, fun i ds e => x.o i ds (wipeG_some e).1, fun i j ds es p hij e1 e2 => x.u i j ds es p hij (wipeG_some e1).1 (wipeG_some e2).1⟩
def tellG (i : Nat) (Γ : Gam) : Gam := match gat Γ i with
  | some (.o ds) => Γ.set i (some (.d (.list ds)))
  | _ => Γ
theorem Rel.tell (x : Rel K b0 h0 bf b h Γ σ) (i : Nat) : ∃ b1, Ex b b1 ∧ Rel K b0 h0 bf b1 h (tellG i Γ) σ := by
  unfold tellG
  cases q : gat Γ i with
  | none => exact ⟨b, Ex.refl b, x⟩
  | some s =>
    cases s with
    | d y => exact ⟨b, Ex.refl b, x⟩
    | o ds =>
      obtain ⟨p, us, k1, k2, k3, k4, k5⟩ := x.o i ds q
      have en : Ex b (upd b p (.lst us)) := Ex.new k3
      have hi := gat_lt q
      refine ⟨upd b p (.lst us), en, ⟨⟨by rw [List.length_set, x.r.len], fun j z e => ?_⟩, x.g.tell k4 k3 k2, x.f.trans en, fun j es e => ?_, fun j k es fs a hjk e1 e2 e3 e4 => ?_⟩⟩
      · rw [gat_set] at e
        by_cases c : i = j ∧ i < Γ.length
        · rw [if_pos c] at e
          cases e
          obtain ⟨rfl, _⟩ := c
          exact ⟨.ref p, k1, Dt.list upd_same (k5.up en)⟩
        · rw [if_neg c] at e
          obtain ⟨v, l1, l2⟩ := x.r.d j z e
          exact ⟨v, l1, l2.up en⟩
      · rw [gat_set] at e
        by_cases c : i = j ∧ i < Γ.length
        · rw [if_pos c] at e
          cases e
        · rw [if_neg c] at e
          obtain ⟨a, vs, l1, l2, l3, l4, l5⟩ := x.o j es e
          refine ⟨a, vs, l1, l2, ?_, l4, l5.up en⟩
          rw [upd_ne]
          · exact l3
          · intro z
            subst z
            exact x.u i j ds es a (fun z => c ⟨z, hi⟩) q e k1 l1
      · rw [gat_set] at e1 e2
        by_cases c1 : i = j ∧ i < Γ.length
        · rw [if_pos c1] at e1
          cases e1
        · rw [if_neg c1] at e1
          by_cases c2 : i = k ∧ i < Γ.length
          · rw [if_pos c2] at e2
            cases e2
          · rw [if_neg c2] at e2
            exact x.u j k es fs a hjk e1 e2 e3 e4
end
end Md
namespace Md
open PySem L2 Evl
def scD : PyData → Bool
  | .none => true
  | .bool _ => true
  | .int _ => true
  | .str _ => true
  | _ => false
def dNext : DS := fun DD Γ => DD.nx Γ
def dBreak : DS := fun DD Γ => DD.bk Γ
def dCont : DS := fun DD Γ => DD.ct Γ
def dSeq (t u : DS) : DS := fun DD Γ => t { DD with nx := u DD } Γ
def dCut (ws : List Nat) (t u : DS) : DS := fun DD Γ => ∃ Mid : Gam → Prop, t { DD with nx := fun Γ1 => Mid (wipeG Γ1 ws) } Γ ∧ ∀ Γ', Mid Γ' → u DD Γ'
def dAsg (de : DE) (dg : DG) : DS := fun DD Γ => de Γ fun x => dg x Γ DD.nx
def dAsgS (de : DE) (dg : DG) : DS := fun DD Γ => de (allD Γ) fun x => scD x = true ∧ dg x Γ DD.nx
def dAsgO (i : Nat) (dn : DN) : DS := fun DD Γ => dn Γ fun ds => i < Γ.length ∧ DD.nx (Γ.set i (some (.o ds)))
def dPar (i j : Nat) (da : DN) : DS := fun DD Γ => da Γ fun ds => match ds with
  | [x, y] => DD.nx ((Γ.set i (some (.d x))).set j (some (.d y)))
  | _ => False
def dAug (i : Nat) (f : Int → Int → Int) (de : DE) : DS := fun DD Γ => match gat Γ i with
  | some (.d (.int a)) => de (allD Γ) fun y => onI y fun c => DD.nx (Γ.set i (some (.d (.int (f a c)))))
  | _ => False
def dApp (i : Nat) (de : DE) : DS := fun DD Γ => match gat Γ i with
  | some (.o ds) => de Γ fun x => ds.length < 100000 ∧ DD.nx (Γ.set i (some (.o (ds ++ [x]))))
  | _ => False
def dAppS (i : Nat) (de : DE) : DS := fun DD Γ => match gat Γ i with
  | some (.o ds) => de (allD Γ) fun x => scD x = true ∧ ds.length < 100000 ∧ DD.nx (Γ.set i (some (.o (ds ++ [x]))))
  | _ => False
def dSet (i : Nat) (dj de : DE) : DS := fun DD Γ => match gat Γ i with
  | some (.o ds) => de Γ fun x => dj (allD Γ) fun k => onI k fun k => ∃ j, L2.ixN ds.length k = some j ∧ DD.nx (Γ.set i (some (.o (ds.set j x))))
  | _ => False
def dSetS (i : Nat) (dj de : DE) : DS := fun DD Γ => match gat Γ i with
  | some (.o ds) => de (allD Γ) fun x => scD x = true ∧ dj (allD Γ) fun k => onI k fun k => ∃ j, L2.ixN ds.length k = some j ∧ DD.nx (Γ.set i (some (.o (ds.set j x))))
  | _ => False
def dAugL (i : Nat) (f : Int → Int → Int) (dj de : DE) : DS := fun DD Γ => match gat Γ i with
  | some (.o ds) => dj (allD Γ) fun k => onI k fun k => ∃ (j : Nat) (a : Int), k = (j : Int) ∧ j < 100000 ∧ ds[j]? = some (.int a) ∧ de (allD Γ) fun y => onI y fun c => DD.nx (Γ.set i (some (.o (ds.set j (.int (f a c))))))
  | _ => False
def dIfS (dt : DT) (du dw : DS) : DS := fun DD Γ => dt (allD Γ) fun c => if c = true then du DD Γ else dw DD Γ
def dRet (de : DE) : DS := fun DD Γ => de Γ DD.rt
def dRetS (de : DE) : DS := fun DD Γ => de (allD Γ) fun x => scD x = true ∧ DD.rt x
def dRetN (dn : DN) : DS := fun DD Γ => dn Γ DD.ro
def dRetO (i : Nat) : DS := fun DD Γ => match gat Γ i with
  | some (.o ds) => DD.ro ds
  | _ => False
def dRetNone : DS := fun DD _ => DD.rt .none
def dTell (i : Nat) (t : DS) : DS := fun DD Γ => t DD (tellG i Γ)
def dFor (ws : List Nat) (di : DN) (dg : DG) (du : DS) : DS := fun DD Γ => di Γ fun xs => ∃ I : Nat → Gam → Prop, I 0 (wipeG Γ ws) ∧ (∀ i x Γ', xs[i]? = some x → I i Γ' → dg x Γ' fun Γ1 => du { DD with nx := fun Γ2 => I (i + 1) (wipeG Γ2 ws), ct := fun Γ2 => I (i + 1) (wipeG Γ2 ws), bk := DD.nx } Γ1) ∧ ∀ Γ', I xs.length Γ' → DD.nx Γ'
section
variable {K : PySem.W.Frag} {te ta tb tj : TE} {ts tk tr : TA} {da db de dj : DE} {dn dr dk di : DN} {tt : TT} {dt : DT} {g : TG} {dg : DG} {js : List Nat} {t u w : TS} {dt1 du dw : DS} {wi : TI}
theorem z_next : SimS K tNext dNext := fun b0 h0 bf D DD M b h Γ σ r p => M.nx b h Γ σ r p
theorem z_seq (x : SimS K t dt1) (y : SimS K u du) : SimS K (tSeq t u) (dSeq dt1 du) := fun b0 h0 bf D DD M b h Γ σ r p =>
  x b0 h0 bf { D with nx := u D } { DD with nx := du DD } ⟨fun b h Γ σ r p => y b0 h0 bf D DD M b h Γ σ r p, M.bk, M.ct, M.rt, M.ro, M.rp⟩ b h Γ σ r p
theorem z_asg (x : SimE K te de) (y : SimG K g dg js) : SimS K (tAsg te g) (dAsg de dg) := fun b0 h0 bf D DD M b h Γ σ r p =>
  x σ Γ b r.r _ p h r.g.gi _ fun v b2 h2 d g2 hp hv => y σ Γ b2 h2 v d (r.r.up g2.gb) hv g2.gi _ hp _ fun σ1 Γ1 r1 p1 hp1 => M.nx b2 h2 Γ1 σ1 ((r.up g2).put p1 r1) hp1
theorem z_asgO {i : Nat} (x : SimN K te dn) : SimS K (tAsg te (gName i)) (dAsgO i dn) := fun b0 h0 bf D DD M b h Γ σ r p =>
  x σ Γ b r.r _ p h r.g.gi _ fun q us b2 h2 ds nq nb g2 hq hA hp => M.nx b2 h2 _ _ (r.own g2 nq nb hq hA hp.1) hp.2
theorem z_par {i j : Nat} (x : SimA K ts dn) : SimS K (tPar i j ts) (dPar i j dn) := fun b0 h0 bf D DD M b h Γ σ r p =>
  x σ Γ b r.r _ p h r.g.gi _ fun vs b2 h2 ds g2 hp hv => by
    match ds, hv, hp with
    | [d1, d2], .cons q1 (.cons q2 .nil), hp =>
      exact ⟨_, _, rfl, M.nx b2 h2 _ _ ((r.up g2).put (Put.one.trans Put.one) (((r.r.up g2.gb).set q1).set q2)) hp⟩
theorem z_app {i : Nat} (x : SimE K te de) : SimS K (tDrop (tBM K "list" rAppend (tVar i) (tCons te tNil))) (dApp i de) := fun b0 h0 bf D DD M b h Γ σ r p => by
  unfold dApp at p
  split at p
  next ds e =>
    obtain ⟨q, us, k1, k2, k3, k4, k5⟩ := r.o i ds e
    refine ⟨.ref q, k1, Or.inl ⟨rfl, us, sq_of k2⟩, x σ Γ b r.r _ p h r.g.gi _ fun v b2 h2 d g2 hp hv => ?_⟩
    exact ⟨q, us, v, rfl, rfl, g2.gh _ _ k2, sz_lt (by rw [k5.length]; exact hp.1), M.nx b2 _ _ _ ((r.up g2).mut e k1 ((k5.up g2.gb).append (DtA.one hv))) hp.2⟩
  next => cases p
theorem DtA.set2 {b : Hp} {v : V} {d : PyData} (hv : Dt K b v d) : ∀ {us : List V} {ds : List PyData} (j : Nat), DtA K b us ds → DtA K b (us.set j v) (ds.set j d)
  | _, _, _, .nil => .nil
  | _, _, 0, .cons _ h2 => .cons hv h2
  | _, _, j + 1, .cons h1 h2 => .cons h1 (DtA.set2 hv j h2)
theorem z_set {i : Nat} (x : SimE K te de) (y : SimE K tj dj) : SimS K (tAsg te (gSub (tVar i) tj rSetL)) (dSet i dj de) := fun b0 h0 bf D DD M b h Γ σ r p => by
  unfold dSet at p
  split at p
  next ds e =>
    refine x σ Γ b r.r _ p h r.g.gi _ fun v b2 h2 d g2 hp hv => ?_
    have r2 := r.up g2
    obtain ⟨q, us, k1, k2, k3, k4, k5⟩ := r2.o i ds e
    obtain ⟨c1, f1, f2, rc⟩ := r2.all
    refine ⟨.ref q, k1, y σ _ c1 rc _ hp h2 f2 _ fun kv b4 h4 kd g4 hp4 hkv => ?_⟩
    obtain ⟨k, rfl, j, hj, hp5⟩ := onI_is hp4
    have g5 : Gr b2 h2 b2 h4 := Gr.stay r2.g.gi g4.gh
    exact ⟨q, us, k, j, rfl, hkv.intI, g4.gh _ _ k2, by rw [k5.length]; exact hj, M.nx b2 _ _ _ ((r2.up g5).mut e k1 (DtA.set2 hv j k5)) hp5⟩
  next => cases p
theorem z_augL {i : Nat} {f : Int → Int → Int} (x : SimE K te de) (y : SimE K tj dj) : SimS K (tAugS (tVar i) tj te rGetN (ipI f) rSetL) (dAugL i f dj de) := fun b0 h0 bf D DD M b h Γ σ r p => by
  unfold dAugL at p
  split at p
  next ds e =>
    obtain ⟨q, us, k1, k2, k3, k4, k5⟩ := r.o i ds e
    obtain ⟨b1, e1, e2, ra⟩ := r.all
    refine ⟨.ref q, k1, y σ _ b1 ra _ p h e2 _ fun kv b2 h2 kd g2 hp2 hkv => ?_⟩
    obtain ⟨k, rfl, j, a, rfl, hj9, hja, hp3⟩ := onI_is hp2
    have g3 : Gr b h b h2 := Gr.stay r.g.gi g2.gh
    have r2 := r.up g3
    obtain ⟨va, hva, hda⟩ := k5.get hja
    obtain rfl := hda.intI
    refine ⟨q, us, j, _, rfl, hkv.intI, g2.gh _ _ k2, hva, hj9, ?_⟩
    refine x σ _ b1 ra _ hp3 h2 (e2.trans g2.gh) _ fun yv b4 h4 yd g4 hp4 hyv => ?_
    obtain ⟨c, rfl, hp5⟩ := onI_is hp4
    refine ⟨a, c, rfl, hyv.intI, ?_⟩
    have g5 : Gr b h2 b h4 := Gr.stay r2.g.gi g4.gh
    exact ⟨q, us, (j : Int), j, rfl, hkv.intI, g4.gh _ _ (g2.gh _ _ k2), ixN_nat (List.getElem?_eq_some_iff.mp hva).1, M.nx b _ _ _ ((r2.up g5).mut e k1 (DtA.set2 (Dt.int _) j k5)) hp5⟩
  next => cases p
theorem z_ifS (x : SimT K tt dt) (y : SimS K u du) (z : SimS K w dw) : SimS K (tIfS tt u w) (dIfS dt du dw) := fun b0 h0 bf D DD M b h Γ σ r p => by
  obtain ⟨b1, e1, e2, ra⟩ := r.all
  refine x σ _ b1 ra _ p h e2 _ fun c h2 e3 hp => ?_
  have g3 : Gr b h b h2 := Gr.stay r.g.gi e3
  cases c with
  | true => exact y b0 h0 bf D DD M b h2 Γ σ (r.up g3) hp
  | false => exact z b0 h0 bf D DD M b h2 Γ σ (r.up g3) hp
theorem z_ret (x : SimE K te de) : SimS K (tRet te) (dRet de) := fun b0 h0 bf D DD M b h Γ σ r p => x σ Γ b r.r _ p h r.g.gi _ fun v b2 h2 d g2 hp hv => M.rt b2 h2 v d (r.g.trans g2) hv hp
theorem z_retN (x : SimN K te dn) : SimS K (tRet te) (dRetN dn) := fun b0 h0 bf D DD M b h Γ σ r p => x σ Γ b r.r _ p h r.g.gi _ fun q us b2 h2 ds nq nb g2 hq hA hp => M.ro b2 h2 q us ds (r.g.trans g2) nb (gone r.g nq) hq hA hp
theorem z_retO {i : Nat} : SimS K (tRet (tVar i)) (dRetO i) := fun b0 h0 bf D DD M b h Γ σ r p => by
  unfold dRetO at p
  split at p
  next ds e =>
    obtain ⟨q, us, k1, k2, k3, k4, k5⟩ := r.o i ds e
    exact ⟨.ref q, k1, M.ro b h q us ds r.g k3 k4 k2 k5 p⟩
  next => cases p
theorem for_core {ws : List Nat} {J : It} {xs : List PyData} {b1 h1 b0 h0 bf : Hp} {D : Ends} {DD : DEnds} (M : Match K b0 h0 bf D DD) (w : WalkD K J xs b1) (xg : SimG K g dg js) (xu : SimS K u du) {b : Hp} {Γ : Gam} {σ : L2.St} (fl : Ex bf b1) (r : Rel K b0 h0 b1 b h1 Γ σ)
    (I : Nat → Gam → Prop) (i0 : I 0 Γ) (is : ∀ i x Γ', xs[i]? = some x → I i Γ' → dg x Γ' fun Γ1 => du { DD with nx := fun Γ2 => I (i + 1) (wipeG Γ2 ws), ct := fun Γ2 => I (i + 1) (wipeG Γ2 ws), bk := DD.nx } Γ1) (ie : ∀ Γ', I xs.length Γ' → DD.nx Γ') :
    ∃ W : Nat → Nat → L2.St → Hp → Prop, (∃ m, W 0 m σ h1) ∧ ∀ i m σ H, W i m σ H → (J.stop i H ∧ D.nx σ H) ∨ (J.go i H ∧ ∃ N : L2.St → Hp → Prop, (∀ σ' H', N σ' H' → ∃ m', m' < m ∧ W (i + 1) m' σ' H') ∧ ∀ x H', J.yld i H x H' → g x σ H' fun σ2 H2 => u { D with nx := N, ct := N, bk := D.nx } σ2 H2) := by
  obtain ⟨G, Y, w, hG, hY⟩ := w
  refine for_it w (fun i σ' h' => ∃ b' Γ', Rel K b0 h0 b1 b' h' Γ' σ' ∧ I i Γ') ⟨b, Γ, r, i0⟩ (fun i σ' h' _ p => ?_) (fun i x σ' h2 h3 hi p hy => ?_) (fun σ' h' p => ?_)
  · obtain ⟨b', Γ', r', _⟩ := p
    exact hG h' (r'.f.trans r'.g.gi)
  · obtain ⟨b2, Γ2, r2, hI⟩ := p
    obtain ⟨b3, g3, hx⟩ := hY i xs[i] b2 h2 x h3 (List.getElem?_eq_getElem hi) r2.f r2.g.gi hy
    have r3 := r2.up g3
    refine xg _ _ b3 h3 x xs[i] r3.r hx g3.gi _ (is i xs[i] Γ2 (List.getElem?_eq_getElem hi) hI) _ fun σ1 Γ1 q1 p1 hp1 => ?_
    exact xu b0 h0 b1 { D with nx := fun σ' h' => ∃ b' Γ', Rel K b0 h0 b1 b' h' Γ' σ' ∧ I (i + 1) Γ', ct := fun σ' h' => ∃ b' Γ', Rel K b0 h0 b1 b' h' Γ' σ' ∧ I (i + 1) Γ', bk := D.nx } { DD with nx := fun Γ2 => I (i + 1) (wipeG Γ2 ws), ct := fun Γ2 => I (i + 1) (wipeG Γ2 ws), bk := DD.nx }
      ⟨fun b h Γ σ r p => ⟨b, _, r.forget ws, p⟩, fun b h Γ σ r p => M.nx b h Γ σ (r.floor fl) p, fun b h Γ σ r p => ⟨b, _, r.forget ws, p⟩, M.rt, M.ro, M.rp⟩ b3 h3 Γ1 σ1 (r3.put p1 q1) hp1
  · obtain ⟨b', Γ', r', hI⟩ := p
    exact M.nx b' h' Γ' σ' (r'.floor fl) (ie Γ' hI)
theorem z_for {ws : List Nat} (xi : SimI K wi di) (xg : SimG K g dg js) (xu : SimS K u du) : SimS K (tFor wi g u) (dFor ws di dg du) := fun b0 h0 bf D DD M b h Γ σ r p =>
  xi σ Γ b r.r _ p h r.g.gi _ fun J h1 b1 xs g1 hp1 w => by
    obtain ⟨I, i0, is, ie⟩ := hp1
    have r1 := r.up g1
    exact for_core M w xg xu r1.f (Rel.forget ⟨r1.r, r1.g, Ex.refl b1, r1.o, r1.u⟩ ws) I i0 is ie
end
def startG (n : Nat) (ds : List PyData) : Gam := ds.map (fun x => some (.d x)) ++ List.replicate (n - ds.length) none
theorem startG_gat : ∀ {ds : List PyData} {n i : Nat} {x : PyData}, gat (startG n ds) i = some (.d x) → ds[i]? = some x := fun {ds n i x} h => by
  induction ds generalizing i n with
  | nil =>
    have : ∀ m i, gat (List.replicate m none) i = none := fun m => by
      induction m with
      | zero => exact fun i => rfl
      | succ m ih => exact fun i => match i with
        | 0 => rfl
        | i + 1 => ih i
    have h : gat (List.replicate (n - 0) none) i = _ := h
    rw [this] at h
    cases h
  | cons d ds ih =>
    cases i with
    | zero =>
      have h : some (Sl.d d) = some (.d x) := h
      cases h
      rfl
    | succ i =>
      have h : gat (startG (n - 1) ds) i = some (.d x) := by
        have e : startG n (d :: ds) = some (.d d) :: startG (n - 1) ds := by
          unfold startG
          rw [List.map_cons, List.cons_append, List.length_cons]
          congr 3
          omega
        rw [e] at h
        exact h
      exact ih h
theorem startG_no : ∀ {ds : List PyData} {n i : Nat} {es : List PyData}, gat (startG n ds) i = some (.o es) → False := fun {ds n i es} h => by
  induction ds generalizing i n with
  | nil =>
    have : ∀ m i, gat (List.replicate m none) i = none := fun m => by
      induction m with
      | zero => exact fun i => rfl
      | succ m ih => exact fun i => match i with
        | 0 => rfl
        | i + 1 => ih i
    have h : gat (List.replicate (n - 0) none) i = _ := h
    rw [this] at h
    cases h
  | cons d ds ih =>
    cases i with
    | zero =>
      have h : some (Sl.d d) = some (.o es) := h
      cases h
    | succ i =>
      have h : gat (startG (n - 1) ds) i = some (.o es) := by
        have e : startG n (d :: ds) = some (.d d) :: startG (n - 1) ds := by
          unfold startG
          rw [List.map_cons, List.cons_append, List.length_cons]
          congr 3
          omega
        rw [e] at h
        exact h
      exact ih h
end Md
namespace Md
open PySem L2 Evl
section
variable {K : PySem.W.Frag} {b h : Hp} {vs : List V} {ds : List PyData} {t : TS} {dd : DS} {N : List Str} {Q : VK}
theorem start_relD (hA : DtA K b vs ds) (hl : ds.length ≤ N.length) : RelD K b (startG N.length ds) (L2.start N vs) := by
  refine ⟨?_, fun i x e => ?_⟩
  · unfold L2.start startG
    simp only [List.length_append, List.length_map, List.length_replicate, hA.length]
  · have hx := startG_gat e
    obtain ⟨v, hv, hd⟩ := hA.get hx
    refine ⟨v, ?_, hd⟩
    unfold L2.start
    rw [List.getElem?_append_left (by rw [List.length_map]; exact (List.getElem?_eq_some_iff.mp hv).1), List.getElem?_map, hv]
    rfl
theorem start_rel (eb : Ex b h) (hA : DtA K b vs ds) (hl : ds.length ≤ N.length) : Rel K b h b b h (startG N.length ds) (L2.start N vs) :=
  ⟨start_relD hA hl, Gr.refl eb, Ex.refl b, fun i es e => (startG_no e).elim, fun i j ds es p _ e => (startG_no e).elim⟩
theorem sim_P {Γ : Gam} (S : SimS K t dd) (eb : Ex b h) (hA : DtA K b vs ds) (hl : ds.length ≤ N.length) (hΓ : startG N.length ds = Γ) {P : PyData → Prop} (p : dd { nx := fun _ => P .none, rt := P, ro := fun l => P (.list l) } Γ)
    (kQ : ∀ v b' h' x, Gr b h b' h' → P x → Dt K b' v x → Q v h') : t { nx := fun _ H' => Q .non H', rt := Q } (L2.start N vs) h := by
  subst hΓ
  refine S b h b _ _ ⟨fun b1 h1 Γ σ r p => ?_, fun b1 h1 Γ σ r p => ?_, fun b1 h1 Γ σ r p => ?_, fun b1 h1 v x g hv p => ?_, fun b1 h1 q us es g nb n0 hq hA p => ?_, fun b1 h1 t us sls g nb n0 ht hP p => ?_⟩ b h _ _ (start_rel eb hA hl) p
  · exact kQ .non b1 h1 .none r.g p Dt.none
  · exact p
  · exact p
  · exact kQ v b1 h1 x g p hv
  · exact kQ (.ref q) _ h1 (.list es) (g.tell n0 nb hq) p (Dt.list upd_same (hA.up (Ex.new nb)))
  · exact p.elim
theorem sim_N {Γ : Gam} (S : SimS K t dd) (eb : Ex b h) (hA : DtA K b vs ds) (hl : ds.length ≤ N.length) (hΓ : startG N.length ds = Γ) {P : List PyData → Prop} (p : dd { nx := fun _ => False, rt := fun _ => False, ro := P } Γ)
    (kQ : ∀ p us b' h' xs, h p = none → b' p = none → Gr b h b' h' → h' p = some (.lst us) → DtA K b' us xs → P xs → Q (.ref p) h') : t { nx := fun _ H' => Q .non H', rt := Q } (L2.start N vs) h := by
  subst hΓ
  refine S b h b _ _ ⟨fun b1 h1 Γ σ r p => ?_, fun b1 h1 Γ σ r p => ?_, fun b1 h1 Γ σ r p => ?_, fun b1 h1 v x g hv p => ?_, fun b1 h1 q us es g nb n0 hq hA p => ?_, fun b1 h1 t us sls g nb n0 ht hP p => ?_⟩ b h _ _ (start_rel eb hA hl) p
  · exact p.elim
  · exact p
  · exact p
  · exact p.elim
  · exact kQ q us b1 h1 es n0 nb g hq hA p
  · exact p.elim
end
def con1 (f : PyData → (PyData → Prop) → Prop) : Con := fun ds P => match ds with
  | [a] => f a P
  | _ => False
def con2 (f : PyData → PyData → (PyData → Prop) → Prop) : Con := fun ds P => match ds with
  | [a, b] => f a b P
  | _ => False
def con3 (f : PyData → PyData → PyData → (PyData → Prop) → Prop) : Con := fun ds P => match ds with
  | [a, b, c] => f a b c P
  | _ => False
def con5 (f : PyData → PyData → PyData → PyData → PyData → (PyData → Prop) → Prop) : Con := fun ds P => match ds with
  | [a, b, c, d, e] => f a b c d e P
  | _ => False
def conN2 (f : PyData → PyData → (List PyData → Prop) → Prop) : ConN := fun ds P => match ds with
  | [a, b] => f a b P
  | _ => False
def conN3 (f : PyData → PyData → PyData → (List PyData → Prop) → Prop) : ConN := fun ds P => match ds with
  | [a, b, c] => f a b c P
  | _ => False
def conN5 (f : PyData → PyData → PyData → PyData → PyData → (List PyData → Prop) → Prop) : ConN := fun ds P => match ds with
  | [a, b, c, d, e] => f a b c d e P
  | _ => False
theorem con1_is {f ds P} (h : con1 f ds P) : ∃ a, ds = [a] ∧ f a P := by
  match ds, h with
  | [a], h => exact ⟨a, rfl, h⟩
theorem con2_is {f ds P} (h : con2 f ds P) : ∃ a b, ds = [a, b] ∧ f a b P := by
  match ds, h with
  | [a, b], h => exact ⟨a, b, rfl, h⟩
theorem conN2_is {f ds P} (h : conN2 f ds P) : ∃ a b, ds = [a, b] ∧ f a b P := by
  match ds, h with
  | [a, b], h => exact ⟨a, b, rfl, h⟩
theorem conN5_is {f ds P} (h : conN5 f ds P) : ∃ a b c d e, ds = [a, b, c, d, e] ∧ f a b c d e P := by
  match ds, h with
  | [a, b, c, d, e], h => exact ⟨a, b, c, d, e, rfl, h⟩
theorem lc_map {α : Type} (L : List α) (enc : α → PyData) (r : α → PyData) {dg : DG} {de : DE} {vs : List Nat} {Γ : Gam} {P : List PyData → Prop} (hl : L.length ≤ 40000)
    (h : ∀ a ∈ L, ∀ k : PyData → Prop, k (r a) → dg (enc a) (wipeG Γ vs) fun Γ1 => de Γ1 k) (hp : P (L.map r)) :
    (L.map enc).length ≤ 40000 ∧ ∃ J : Nat → List PyData → Prop, J 0 [] ∧ (∀ i x acc, (L.map enc)[i]? = some x → J i acc → dg x (wipeG Γ vs) fun Γ1 => dYes Γ1 fun c => if c = true then de Γ1 fun d => J (i + 1) (acc ++ [d]) else J (i + 1) acc) ∧ ∀ acc, J (L.map enc).length acc → P acc := by
  refine ⟨by rw [List.length_map]; exact hl, fun i acc => acc = (L.take i).map r, rfl, fun i x acc hx hacc => ?_, fun acc hacc => ?_⟩
  · rw [List.getElem?_map] at hx
    cases q : L[i]? with
    | none =>
      rw [q] at hx
      cases hx
    | some a =>
      rw [q] at hx
      cases hx
      refine h a (List.mem_of_getElem? q) _ ?_
      show acc ++ [r a] = (L.take (i + 1)).map r
      rw [hacc, List.take_succ, q, List.map_append]
      rfl
  · rw [hacc, List.length_map, List.take_length]
    exact hp
end Md
set_option Elab.async false
set_option linter.all false
set_option maxRecDepth 100000
set_option maxHeartbeats 2000000
namespace Md
open PySem L2 Evl
theorem inDK {X : Cx} {K : PySem.W.Frag} (hu : X.A.units + 65 < cLine) (h : X.K = K) : OpR X (compareOp .In) (rInD K) := h ▸ op_inD hu
section
variable {X : Cx} {K : PySem.W.Frag} {te ta tb : TE} {ts tk tr : TA} {da db de : DE} {dn dr dk : DN} {o e : Expr} {to : TE}
theorem pe_indexDK {apos cpos : Pos} (hu : X.A.units + 65 < cLine) (h : X.K = K) (ho : PE X o to) (ha : PA X [e] ts) (hbase : attributeBase o "index" X.env (eval o X.env) = eval o X.env := by rfl)
    (hfew : ((backTo cpos (starEach [e] X.env)).all (fun x => !x.1) && (backToKw cpos (keywordEach [] X.env)).all (fun x => x.1.isSome) && decide ([e].length + ([] : List Keyword).length + (if ([] : List Keyword).isEmpty then 0 else 1) < 30)) = true := by rfl)
    (hline : (apos.endLine == cpos.line) = true := by rfl) (hs : starEach [e] X.env = (false, eval e X.env) :: starEach [] X.env := by rfl) (hp : (backTo cpos (starEach [] X.env)).any (·.1) = false := by rfl) :
    PE X (.Call (.Attribute o "index" apos) [e] [] cpos) (tBM K "list" (rIndexD K) to ts) :=
  h ▸ pe_bm PySem.F.plainAttrs_list PySem.F.slot_list_index PySem.F.type_list_index (mt_indexD hu) ho ha hbase hfew hline hs hp
def dIndex (da db : DE) : DE := fun Γ P => da Γ fun x => onL x fun ds => db Γ fun y => SeqAt.shaped (.list ds) = true ∧ SeqAt.shaped y = true ∧ ∃ (j : Nat) (z : PyData), ds[j]? = some z ∧ PyData.eqv z y = true ∧ (∀ (m : Nat) (z' : PyData), m < j → ds[m]? = some z' → PyData.eqv z' y = false) ∧ P (.int (j : Int))
theorem z_index (x : SimE K ta da) (y : SimE K tb db) : SimE K (tBM K "list" (rIndexD K) ta (tCons tb tNil)) (dIndex da db) := fun σ Γ b r P hp h e Q q => x σ Γ b r _ hp h e _ fun v b2 h2 d g2 hp2 hv => by
  obtain ⟨ds, rfl, hp3⟩ := onL_is hp2
  obtain ⟨a, xs, rfl, k1, k2⟩ := hv.listI
  refine ⟨Or.inl ⟨rfl, _, sq_of (g2.gi _ _ k1)⟩, y σ Γ b2 (r.up g2.gb) _ hp3 h2 g2.gi _ fun w b3 h3 d' g3 hp4 hw => ?_⟩
  obtain ⟨s1, s2, j, z, hz, e1, e2, hp5⟩ := hp4
  exact ⟨a, w, d', ds, j, z, rfl, rfl, Dt.dp _ _ (((Dt.list k1 k2).up g3.gb).up g3.gi), Dt.dp _ _ (hw.up g3.gi), s1, s2, hz, e1, e2, q _ b3 h3 _ (g2.trans g3) hp5 (Dt.int _)⟩
def dTru (da : DE) : DT := fun Γ P => da Γ fun x => onSq x fun ds => P (!ds.isEmpty)
end
end Md
namespace Md
open PySem L2 Evl
section
variable {P : Program} {w : World} {K : PySem.W.Frag} {mg : Str → Option Value} {base : Heap} {k : Nat} {x : Str} {ps : List Str} {sp sp' : Sp}
theorem Has.to (h : Has P w K mg base k x ps sp) (i : ∀ vs H Q E, sp' vs H Q E → sp vs H Q E) : Has P w K mg base k x ps sp' := by
  obtain ⟨f, fd, F, a, b, c⟩ := h
  exact ⟨f, fd, ⟨fun vs H Q E x => F.len vs H Q E (i vs H Q E x), fun A outer s H args us vs Q E r1 r2 r3 r4 r5 => F.run A outer s H args us vs Q E r1 r2 r3 r4 (i vs H Q E r5)⟩, a, b, c⟩
theorem sim_law {t : TS} {dd : DS} {b h : Hp} {Γ : Gam} {σ : L2.St} {Q : VK} (S : SimS K t dd) (hr : RelD K b Γ σ) (eb : Ex b h) (ho : ∀ i ds, gat Γ i = some (.o ds) → False)
    (p : dd { nx := fun _ => False, rt := fun x => x = .bool true, ro := fun _ => False } Γ) (kQ : ∀ H', Q (.bl true) H') : t { nx := fun _ H' => Q .non H', rt := Q } σ h := by
  refine S b h b _ { nx := fun _ => False, rt := fun x => x = .bool true, ro := fun _ => False } ⟨fun b1 h1 Γ σ r p => p.elim, fun b1 h1 Γ σ r p => p, fun b1 h1 Γ σ r p => p, fun b1 h1 v x g hv p => ?_, fun b1 h1 q us es g nb n0 hq hA p => p.elim, fun b1 h1 t us sls g nb n0 ht hP p => p.elim⟩ b h Γ σ ⟨hr, Gr.refl eb, Ex.refl b, fun i es e => (ho i es e).elim, fun i j ds es p _ e => (ho i ds e).elim⟩ p
  subst p
  rw [hv.boolI]
  exact kQ h1
theorem sim_law2 {t : TS} {b h : Hp} {Γ : Gam} {σ : L2.St} {Q : VK} (hr : RelD K b Γ σ) (eb : Ex b h) (ho : ∀ i ds, gat Γ i = some (.o ds) → False) (kQ : ∀ H', Q (.bl true) H')
    (p : ∃ dd, SimS K t dd ∧ dd { nx := fun _ => False, rt := fun x => x = .bool true, ro := fun _ => False } Γ) : t { nx := fun _ H' => Q .non H', rt := Q } σ h := by
  obtain ⟨dd, S, p⟩ := p
  exact sim_law S hr eb ho p kQ
end
end Md
namespace Md
open PySem L2 Evl
section
variable {k : List PyData → Prop}
theorem onI_i {i : Int} {k : Int → Prop} : onI (.int i) k = k i := rfl
theorem onB_b {i : Bool} {k : Bool → Prop} : onB (.bool i) k = k i := rfl
theorem onL_l {l : List PyData} : onL (.list l) k = k l := rfl
theorem onT_t {l : List PyData} : onT (.tuple l) k = k l := rfl
theorem onSq_l {l : List PyData} : onSq (.list l) k = k l := rfl
theorem onSq_t {l : List PyData} : onSq (.tuple l) k = k l := rfl
theorem onT_nD {p : Int × Int} : onT (nD p) k = k [.int p.1, .int p.2] := rfl
theorem onT_nQ {r : Rat} : onT (nQ r) k = k [.int r.num, .int (r.den : Int)] := rfl
theorem onSq_nD {p : Int × Int} : onSq (nD p) k = k [.int p.1, .int p.2] := rfl
theorem onSq_nQ {r : Rat} : onSq (nQ r) k = k [.int r.num, .int (r.den : Int)] := rfl
theorem onL_nums {l : List (Int × Int)} : onL (numsD l) k = k (l.map nD) := rfl
theorem onSq_nums {l : List (Int × Int)} : onSq (numsD l) k = k (l.map nD) := rfl
theorem onL_gv {G : List PlV} : onL (gvD G) k = k (G.map PlV.D) := rfl
theorem onSq_gv {G : List PlV} : onSq (gvD G) k = k (G.map PlV.D) := rfl
theorem onL_listQ {n : Nat} {f : Nat → Rat} : onL (listQ n f) k = k ((List.range n).map fun i => nQ (f i)) := rfl
theorem onSq_listQ {n : Nat} {f : Nat → Rat} : onSq (listQ n f) k = k ((List.range n).map fun i => nQ (f i)) := rfl
theorem onL_nats {l : List Nat} : onL (natsD l) k = k (l.map fun x : Nat => PyData.int (x : Int)) := rfl
theorem onSq_nats {l : List Nat} : onSq (natsD l) k = k (l.map fun x : Nat => PyData.int (x : Int)) := rfl
theorem onL_ints {l : List Int} : onL (intsD l) k = k (l.map PyData.int) := rfl
theorem onSq_ints {l : List Int} : onSq (intsD l) k = k (l.map PyData.int) := rfl
theorem onL_rats {l : List Rat} : onL (ratsD l) k = k (l.map nQ) := rfl
theorem onT_D {p : PlV} : onT p.D k = k [nD p.g, .str (kdV p.k), .list p.el] := rfl
theorem scD_i {i : Int} : scD (.int i) = true := rfl
theorem scD_b {i : Bool} : scD (.bool i) = true := rfl
theorem scD_s {i : Str} : scD (.str i) = true := rfl
theorem scD_n : scD .none = true := rfl
theorem isNo_n : isNo .none = true := rfl
theorem isNo_i {i : Int} : isNo (.int i) = false := rfl
theorem isNo_l {l : List PyData} : isNo (.list l) = false := rfl
theorem isNo_t {l : List PyData} : isNo (.tuple l) = false := rfl
theorem eqS_i {i j : Int} : eqS (.int i) (.int j) = some (decide (i = j)) := rfl
theorem eqS_s {i j : Str} : eqS (.str i) (.str j) = some (decide (i = j)) := rfl
theorem eqS_n : eqS .none .none = some true := rfl
theorem eqS_in {i : Int} : eqS (.int i) .none = some false := rfl
end
section
variable {α : Type} {di : DN} {dg : DG} {dt : DT} {de : DE} {du : DS} {DD : DEnds} {vs : List Nat} {Γ : Gam} {P : List PyData → Prop}
theorem dlc_map (L : List α) (enc : α → PyData) (r : α → PyData) (hi : ∀ k : List PyData → Prop, k (L.map enc) → di Γ k) (hl : L.length ≤ 40000)
    (h : ∀ a ∈ L, ∀ k : PyData → Prop, k (r a) → dg (enc a) (wipeG Γ vs) fun Γ1 => de Γ1 k) (hp : P (L.map r)) : dLc di dg dYes de vs Γ P := hi _ (lc_map L enc r hl h hp)
theorem dfor_inv {ws : List Nat} (L : List α) (enc : α → PyData) (hi : ∀ k : List PyData → Prop, k (L.map enc) → di Γ k) (I : Nat → Gam → Prop) (h0 : I 0 (wipeG Γ ws))
    (hs : ∀ i a Γ', L[i]? = some a → I i Γ' → dg (enc a) Γ' fun Γ1 => du { DD with nx := fun Γ2 => I (i + 1) (wipeG Γ2 ws), ct := fun Γ2 => I (i + 1) (wipeG Γ2 ws), bk := DD.nx } Γ1) (he : ∀ Γ', I L.length Γ' → DD.nx Γ') : dFor ws di dg du DD Γ := by
  refine hi _ ⟨I, h0, fun i x Γ' hx hI => ?_, fun Γ' hI => he Γ' (by rw [List.length_map] at hI; exact hI)⟩
  rw [List.getElem?_map] at hx
  cases q : L[i]? with
  | none =>
    rw [q] at hx
    cases hx
  | some a =>
    rw [q] at hx
    cases hx
    exact hs i a Γ' q hI
end
theorem rangeD_map (lo : Int) (n : Nat) : rangeD lo n = (List.range n).map fun i : Nat => PyData.int (lo + (i : Int)) := rfl
theorem rangeD0 (n : Nat) : rangeD 0 n = (List.range n).map fun i : Nat => PyData.int (i : Int) := by
  unfold rangeD
  refine List.map_congr_left fun i _ => ?_
  rw [Int.zero_add]
theorem zipD_map {α β : Type} (L : List α) (M : List β) (f : α → PyData) (g : β → PyData) : zipD (L.map f) (M.map g) = (L.zip M).map fun p => .tuple [f p.1, g p.2] := by
  unfold zipD
  rw [List.zipWith_map]
  rw [List.zip, List.map_zipWith]
end Md
namespace Md
open PySem L2 Evl
theorem room65 {k : Nat} {A : Around} (r : Room k A) : A.units + 65 < cLine := by
  have := r.un
  omega
end Md
set_option Elab.async false
set_option linter.all false
set_option maxRecDepth 100000
set_option maxHeartbeats 2000000
namespace Md
open PySem L2 Evl
def kDen : Con := con1 fun x P => ∃ l : List (Int × Int), x = numsD l ∧ (∀ p ∈ l, 1 ≤ p.2) ∧ denL l < 2 ^ 13000 ∧ P (.int (denL l : Int))
def kWhA : Con := con2 fun x y P => ∃ (p : Int × Int) (M : Int), x = nD p ∧ y = .int M ∧ 1 ≤ p.2 ∧ p.1.natAbs < 2 ^ 13000 ∧ p.2.natAbs < 2 ^ 9000 ∧ M.natAbs < 2 ^ 13000 ∧ P (.int (p.1 * (M / p.2)))
def kLow : Con := con2 fun x y P => ∃ n d : Int, x = .int n ∧ y = .int d ∧ 0 < d ∧ d.natAbs < 2 ^ 8000 ∧ P (nD (num n d))
section
variable {K : PySem.W.Frag} {vs : List V} {h : Hp} {Q : VK} {E : XK}
end
def wS (G : List PlV) (d : Rat) (s : Nat → Rat) : Nat → Nat → Rat
  | 0, k => s k
  | t + 1, k => qN (vl G k).g + d * vW (vl G k) (wS G d s t)
theorem nb_wS {w U S dn dd B0 : Nat} {G : List PlV} {s : Nat → Rat} (hW : WfVG w G) (hU : ∀ p ∈ G, p.g.2.natAbs ∣ U) (hS : ∀ p ∈ G, p.k = none → ∀ q ∈ p.bs, q.1.2.natAbs ∣ S) (h1 : dn ≤ dd) (h2 : 1 ≤ dd) (h0 : ∀ k, k < G.length → NB U B0 (s k)) :
    ∀ t k, k < G.length → NB (U * (S * dd) ^ t) (B0 + 1000 * t) (wS G (natR dn / natR dd) s t k)
  | 0, k, hk => by
    rw [Nat.pow_zero, Nat.mul_one, Nat.mul_zero, Nat.add_zero]
    exact h0 k hk
  | t + 1, k, hk => by
    have hw := vl_wf hW hk
    have hm := vl_mem hk
    have ih := nb_wS hW hU hS h1 h2 h0 t
    have a := nb_vW (f := wS G (natR dn / natR dd) s t) hw (hS _ hm) fun q hq => ih q.2 (hw.t q hq)
    obtain ⟨d0, d1, dz⟩ := disc_le h1 h2
    have g := q_small hw.g
    have eM : U * (S * dd) ^ (t + 1) = dd * (U * (S * dd) ^ t * S) := by
      rw [Nat.pow_succ]
      simp [Nat.mul_comm, Nat.mul_left_comm, Nat.mul_assoc]
    have eB : natR (B0 + 1000 * (t + 1)) = natR (B0 + 1000 * t) + 1000 := by
      rw [Nat.mul_add, ← Nat.add_assoc, natR_add]
      rfl
    have n0 := natR_nonneg (B0 + 1000 * t)
    have lo := a.lo
    have hi := a.hi
    generalize hv : vW (vl G k) (wS G (natR dn / natR dd) s t) = v at *
    have dv : -natR (B0 + 1000 * t) ≤ natR dn / natR dd * v ∧ natR dn / natR dd * v ≤ natR (B0 + 1000 * t) := by
      generalize natR dn / natR dd = d at *
      have u1 := Rat.mul_le_mul_of_nonneg_left hi d0
      have u2 := Rat.mul_le_mul_of_nonneg_left lo d0
      have u3 := Rat.mul_le_mul_of_nonneg_right d1 n0
      constructor <;> grind
    show NB _ _ (qN (vl G k).g + natR dn / natR dd * vW (vl G k) (wS G (natR dn / natR dd) s t))
    rw [hv]
    refine ⟨Zt.add ((zt_den (red_small hw.g) (hU _ hm)).dvd (Nat.dvd_mul_right _ _)) (by rw [eM]; exact dz.mul a.zt), ?_, ?_⟩
    · rw [eB]; grind
    · rw [eB]; grind
def szS (G : List PlV) (d : Rat) (s : Nat → Rat) (M : Nat → Nat) (t k : Nat) : Int := (wS G d s t k * natR (M t)).num
theorem szS_cast {G : List PlV} {d : Rat} {s : Nat → Rat} {M : Nat → Nat} {t k : Nat} (h : Zt (M t) (wS G d s t k)) : ((szS G d s M t k : Int) : Rat) = wS G d s t k * natR (M t) := by
  obtain ⟨z, hz⟩ := h
  unfold szS
  have hz' : wS G d s t k * natR (M t) = (z : Rat) := hz
  rw [hz', num_cast]
def unitS (G : List PlV) (s : Nat → Rat) : Nat := denL (gainsV G ++ (List.range G.length).map fun k => canon (s k))
end Md
namespace Md
open PySem L2 Evl
section
variable {P : PyData → Prop}
theorem kDen_i {l : List (Int × Int)} (h1 : ∀ p ∈ l, 1 ≤ p.2) (h2 : denL l < 2 ^ 13000) (p : P (.int (denL l : Int))) : kDen [numsD l] P := ⟨l, rfl, h1, h2, p⟩
theorem kWhA_i {q : Int × Int} {M : Int} (h1 : 1 ≤ q.2) (h2 : q.1.natAbs < 2 ^ 13000) (h3 : q.2.natAbs < 2 ^ 9000) (h4 : M.natAbs < 2 ^ 13000) (p : P (.int (q.1 * (M / q.2)))) : kWhA [nD q, .int M] P := ⟨q, M, rfl, rfl, h1, h2, h3, h4, p⟩
theorem kLow_i {n d : Int} (h1 : 0 < d) (h2 : d.natAbs < 2 ^ 8000) (p : P (nD (num n d))) : kLow [.int n, .int d] P := ⟨n, d, rfl, rfl, h1, h2, p⟩
end
end Md
namespace Md
open PySem L2 Evl
structure StepW (G : List PlV) (w dn dd t B0 : Nat) (s : Nat → Rat) : Prop where
  w1 : 1 ≤ w
  w9 : w ≤ 999
  W : WfVG w G
  dl : dn ≤ dd
  d1 : 1 ≤ dd
  db : dd < 2 ^ 3000
  T : t ≤ 1000
  M : unitS G s * (denL (chancesV G) * dd) ^ t < 2 ^ 3000
  B : B0 ≤ 2 ^ 900
  sb : ∀ k, k < G.length → -natR B0 ≤ s k ∧ s k ≤ natR B0
section
variable {G : List PlV} {w dn dd t B0 : Nat} {s : Nat → Rat} (x : StepW G w dn dd t B0 s)
include x
theorem StepW.S : 0 < denL (chancesV G) ∧ denL (chancesV G) < 2 ^ 3000 := by
  have h := scaleV_ok x.w1 x.W
  exact ⟨h.1, Nat.lt_of_le_of_lt h.2 (Nat.lt_of_le_of_lt (Nat.pow_le_pow_left x.w9 _) (Nat.lt_of_le_of_lt (Nat.pow_le_pow_right (by decide) x.W.l12) (Nat.lt_of_lt_of_le (by decide : 999 ^ 12 < 2 ^ 120) (Nat.pow_le_pow_right (by decide) (by decide)))))⟩
theorem StepW.up : ∀ p ∈ gainsV G ++ (List.range G.length).map (fun k => canon (s k)), 1 ≤ p.2 := fun p hp => by
  rcases List.mem_append.mp hp with h | h
  · obtain ⟨q, hq, rfl⟩ := List.mem_map.mp h
    exact (x.W.p q hq).g.1
  · obtain ⟨k, _, rfl⟩ := List.mem_map.mp h
    exact (canon_red _).1
theorem StepW.mono {i : Nat} (h : i ≤ t) : unitS G s * (denL (chancesV G) * dd) ^ i < 2 ^ 3000 := Nat.lt_of_le_of_lt (Nat.mul_le_mul_left _ (Nat.pow_le_pow_right (Nat.mul_pos x.S.1 x.d1) h)) x.M
theorem StepW.U : 0 < unitS G s ∧ unitS G s < 2 ^ 3000 := by
  refine ⟨denL_pos x.up, ?_⟩
  have := x.mono (Nat.zero_le t)
  rwa [Nat.pow_zero, Nat.mul_one] at this
theorem StepW.gU : ∀ p ∈ G, p.g.2.natAbs ∣ unitS G s := fun p hp => denL_dvd (List.mem_append_left _ (List.mem_map.mpr ⟨p, hp, rfl⟩))
theorem StepW.sU {k : Nat} (hk : k < G.length) : (canon (s k)).2.natAbs ∣ unitS G s := denL_dvd (List.mem_append_right _ (List.mem_map.mpr ⟨k, List.mem_range.mpr hk, rfl⟩))
theorem StepW.cS : ∀ p ∈ G, p.k = none → ∀ q ∈ p.bs, q.1.2.natAbs ∣ denL (chancesV G) := fun p hp hk q hq => denL_dvd (chv_mem hp hk hq)
theorem StepW.nb0 {k : Nat} (hk : k < G.length) : NB (unitS G s) B0 (s k) := by
  have h := zt_den (canon_red (s k)) (x.sU hk)
  rw [q_canon] at h
  exact ⟨h, (x.sb k hk).1, (x.sb k hk).2⟩
theorem StepW.nb (i : Nat) {k : Nat} (hk : k < G.length) : NB (unitS G s * (denL (chancesV G) * dd) ^ i) (B0 + 1000 * i) (wS G (natR dn / natR dd) s i k) := nb_wS x.W x.gU x.cS x.dl x.d1 (fun k hk => x.nb0 hk) i k hk
theorem StepW.sz (i : Nat) {k : Nat} (hk : k < G.length) : ((szS G (natR dn / natR dd) s (fun i => unitS G s * (denL (chancesV G) * dd) ^ i) i k : Int) : Rat) = wS G (natR dn / natR dd) s i k * natR (unitS G s * (denL (chancesV G) * dd) ^ i) :=
  szS_cast (M := fun i => unitS G s * (denL (chancesV G) * dd) ^ i) (x.nb i hk).zt
end
end Md
namespace Md
open PySem L2 Evl
theorem natR_11 : natR 1 / natR 1 = 1 := by
  rw [natR_one]
  decide +kernel
def kWF : ConN := conN3 fun x y z P => ∃ (G : List PlV) (w t B0 : Nat) (s : Nat → Rat), x = gvD G ∧ y = listQ G.length s ∧ z = .int (t : Int) ∧ 1 ≤ w ∧ w ≤ 999 ∧ WfVG w G ∧ t ≤ 1000 ∧ unitS G s * denL (chancesV G) ^ t < 2 ^ 3000 ∧ B0 ≤ 2 ^ 900 ∧
  (∀ k, k < G.length → -natR B0 ≤ s k ∧ s k ≤ natR B0) ∧ P ((List.range G.length).map fun k => nQ (wS G 1 s t k))
theorem kWF_i {G : List PlV} {w t B0 : Nat} {s : Nat → Rat} {P : List PyData → Prop} (h1 : 1 ≤ w) (h2 : w ≤ 999) (h3 : WfVG w G) (h4 : t ≤ 1000) (h5 : unitS G s * denL (chancesV G) ^ t < 2 ^ 3000) (h6 : B0 ≤ 2 ^ 900)
    (h7 : ∀ k, k < G.length → -natR B0 ≤ s k ∧ s k ≤ natR B0) (p : P ((List.range G.length).map fun k => nQ (wS G 1 s t k))) : kWF [gvD G, listQ G.length s, .int (t : Int)] P := ⟨G, w, t, B0, s, rfl, rfl, rfl, h1, h2, h3, h4, h5, h6, h7, p⟩
end Md
set_option Elab.async false
set_option linter.all false
set_option maxRecDepth 100000
set_option maxHeartbeats 2000000
namespace Md
open PySem L2 Evl
theorem natR_zero : natR 0 = 0 := rfl
def Ok (r : Rat) : Prop := Big 4000 (canon r) ∧ r.den < 2 ^ 1998
theorem nb_ok {M B : Nat} {r : Rat} (h : NB M B r) (hM : 0 < M) (h1 : M < 2 ^ 1998) (hB : B ≤ 2 ^ 1000) : Ok r := ⟨nb_big4 h hM h1 hB, nb_den h hM h1⟩
def kPlusW : Con := con2 fun x y P => ∃ r s : Rat, x = nQ r ∧ y = nQ s ∧ Big 4000 (canon r) ∧ Big 4000 (canon s) ∧ (r + s).den < 2 ^ 1998 ∧ P (nQ (r + s))
def kTimesW : Con := con2 fun x y P => ∃ r s : Rat, x = nQ r ∧ y = nQ s ∧ Big 4000 (canon r) ∧ Big 4000 (canon s) ∧ (r * s).den < 2 ^ 1998 ∧ P (nQ (r * s))
section
variable {K : PySem.W.Frag} {vs : List V} {h : Hp} {Q : VK} {E : XK}
theorem c_plusW (x : spP K kPlusW vs h Q E) : spPlusW K vs h Q E := by
  obtain ⟨b, ds, P, e, hA, hR, k⟩ := x
  obtain ⟨a, c, rfl, r, s, rfl, rfl, h1, h2, h3, p⟩ := con2_is hR
  exact ⟨b, r, s, e, hA, h1, h2, h3, fun v b' h' g hv => k _ b' h' _ g p hv⟩
theorem c_timesW (x : spP K kTimesW vs h Q E) : spTimesW K vs h Q E := by
  obtain ⟨b, ds, P, e, hA, hR, k⟩ := x
  obtain ⟨a, c, rfl, r, s, rfl, rfl, h1, h2, h3, p⟩ := con2_is hR
  exact ⟨b, r, s, e, hA, h1, h2, h3, fun v b' h' g hv => k _ b' h' _ g p hv⟩
end
section
variable {P : PyData → Prop}
theorem kPlusW_i {r s : Rat} (h1 : Ok r) (h2 : Ok s) (h3 : Ok (r + s)) (p : P (nQ (r + s))) : kPlusW [nQ r, nQ s] P := ⟨r, s, rfl, rfl, h1.1, h2.1, h3.2, p⟩
theorem kTimesW_i {r s : Rat} (h1 : Ok r) (h2 : Ok s) (h3 : Ok (r * s)) (p : P (nQ (r * s))) : kTimesW [nQ r, nQ s] P := ⟨r, s, rfl, rfl, h1.1, h2.1, h3.2, p⟩
end
structure Beh (p : PlV) (w n M B S : Nat) (f : Nat → Rat) : Prop where
  W : WfV w n p
  c : p.k = none → ∀ q ∈ p.bs, q.1.2.natAbs ∣ S
  M0 : 0 < M
  S0 : 0 < S
  MS : M * S < 2 ^ 1998
  Bl : B ≤ 2 ^ 900
  hf : ∀ q ∈ p.bs, NB M B (f q.2)
theorem Beh.nb {p : PlV} {w n M B S : Nat} {f : Nat → Rat} (x : Beh p w n M B S f) : NB (M * S) B (vW p f) := nb_vW x.W x.c x.hf
theorem Beh.ok {p : PlV} {w n M B S : Nat} {f : Nat → Rat} (x : Beh p w n M B S f) : Ok (vW p f) := nb_ok x.nb (Nat.mul_pos x.M0 x.S0) x.MS (Nat.le_trans x.Bl (Nat.pow_le_pow_right (by decide) (by decide)))
theorem Beh.part {p : PlV} {w n M B S : Nat} {f : Nat → Rat} (x : Beh p w n M B S f) (hk : p.k = none) (j : Nat) : NB (M * S) B ((p.bs.map fun q => qN q.1 * f q.2).take j).sum := by
  rw [← List.map_take]
  have hcc := x.W.c hk
  have hp0 : ∀ q ∈ p.bs, 0 ≤ qN q.1 := fun q hq => qN_nonneg (red_small (hcc q hq).1) (hcc q hq).2
  have h1 := (wsum_take hp0 j).2
  have h2 : wsum p.bs (fun _ => 1) = 1 := by rw [wsum_one]; exact x.W.s hk
  rw [h2] at h1
  have bb := part_bd (bs := p.bs.take j) (f := f) (B := B) (fun q hq => hp0 q (List.mem_of_mem_take hq)) (fun q hq => ⟨(x.hf q (List.mem_of_mem_take hq)).lo, (x.hf q (List.mem_of_mem_take hq)).hi⟩) h1
  exact ⟨part_zt fun q hq => ⟨red_small (hcc q (List.mem_of_mem_take hq)).1, x.c hk q (List.mem_of_mem_take hq), (x.hf q (List.mem_of_mem_take hq)).zt⟩, bb.1, bb.2⟩
theorem Beh.term {p : PlV} {w n M B S : Nat} {f : Nat → Rat} (x : Beh p w n M B S f) (hk : p.k = none) {q : BrC} (hq : q ∈ p.bs) : NB (M * S) (1000 * B) (qN q.1 * f q.2) := by
  have h1 := (x.W.c hk q hq).1
  have h2 := q_small h1
  have h3 := x.hf q hq
  have m := mul_bd (a := 1000) h2.1 h2.2 h3.lo h3.hi
  have e : natR (1000 * B) = 1000 * natR B := by rw [natR_mul]; rfl
  refine ⟨by rw [Nat.mul_comm]; exact (zt_den (red_small h1) (x.c hk q hq)).mul h3.zt, ?_, ?_⟩
  · rw [e]; exact m.1
  · rw [e]; exact m.2
theorem Beh.t1000 {p : PlV} {w n M B S : Nat} {f : Nat → Rat} (x : Beh p w n M B S f) : 1000 * B ≤ 2 ^ 1000 := by
  have h1 : 1000 ≤ 2 ^ 10 := by decide
  have h2 := Nat.mul_le_mul h1 x.Bl
  rw [← Nat.pow_add] at h2
  exact Nat.le_trans h2 (Nat.pow_le_pow_right (by decide) (by decide))
theorem small_ok {c : Int × Int} (h : SmallN c) : Ok (qN c) := by
  have e := canon_red_self (red_small h)
  have u : (1000 : Nat) ≤ 2 ^ 10 := by decide
  refine ⟨⟨?_, ?_⟩, ?_⟩
  · rw [← e]
    exact Nat.lt_of_lt_of_le (Nat.lt_of_lt_of_le h.2.2.1 u) (Nat.pow_le_pow_right (by decide) (by decide))
  · rw [← e]
    exact Nat.lt_of_lt_of_le (Nat.lt_of_lt_of_le (show c.2.natAbs < 1000 by have := h.1; have := h.2.1; omega) u) (Nat.pow_le_pow_right (by decide) (by decide))
  · have h2 : (canon (qN c)).2.natAbs = (qN c).den := Int.natAbs_natCast _
    rw [← h2, ← e]
    exact Nat.lt_of_lt_of_le (Nat.lt_of_lt_of_le (show c.2.natAbs < 1000 by have := h.1; have := h.2.1; omega) u) (Nat.pow_le_pow_right (by decide) (by decide))
theorem nD_nQ {c : Int × Int} (h : Red c) : nD c = nQ (qN c) := by
  unfold nQ
  rw [← canon_red_self h]
theorem kd_eq (k : Option Bool) : decide (kdV k = ("draw" : Str)) = decide (k = none) := by
  cases k with
  | none => rfl
  | some o => cases o <;> rfl
theorem onT_br {q : BrC} {k : List PyData → Prop} : onT (brC q) k = k [nD q.1, .int (q.2 : Int)] := rfl
theorem eqS_b {i j : Bool} : eqS (.bool i) (.bool j) = some (decide (i = j)) := rfl
theorem sh_nQ (r : Rat) : SeqAt.shaped (nQ r) = true := rfl
theorem eqv_nQ (r s : Rat) : PyData.eqv (nQ r) (nQ s) = decide (r = s) := by
  show ((r.num == s.num) && (((r.den : Int) == (s.den : Int)) && true)) = _
  rw [Bool.and_true, Bool.eq_iff_iff, Bool.and_eq_true, beq_iff_eq, beq_iff_eq, decide_eq_true_iff]
  constructor
  · rintro ⟨h1, h2⟩
    exact Rat.ext h1 (by omega)
  · rintro rfl
    exact ⟨rfl, rfl⟩
theorem cutD_drop {xs : List PyData} {a : Nat} (h : a ≤ xs.length) : cutD xs (some (a : Int)) none = xs.drop a := by
  unfold cutD
  rw [HT.sIx_none, sIx_of _ h, List.take_of_length_le (by rw [List.length_drop]; exact Nat.le_refl _)]
structure StpOk (G : List PlV) (w M B S : Nat) (f : Nat → Rat) : Prop where
  W : WfVG w G
  gd : ∀ p ∈ G, p.g.2.natAbs ∣ M
  cS : ∀ p ∈ G, p.k = none → ∀ q ∈ p.bs, q.1.2.natAbs ∣ S
  M0 : 0 < M
  S0 : 0 < S
  MS : M * S < 2 ^ 1998
  Bl : B + 1000 ≤ 2 ^ 900
  hf : ∀ k, k < G.length → NB M B (f k)
def st1 (G : List PlV) (f : Nat → Rat) (k : Nat) : Rat := qN (vl G k).g + vW (vl G k) f
theorem StpOk.beh {G : List PlV} {w M B S : Nat} {f : Nat → Rat} (x : StpOk G w M B S f) {k : Nat} (hk : k < G.length) : Beh (vl G k) w G.length M B S f := ⟨vl_wf x.W hk, x.cS _ (vl_mem hk), x.M0, x.S0, x.MS, by have := x.Bl; omega, fun q hq => x.hf q.2 ((vl_wf x.W hk).t q hq)⟩
theorem StpOk.nb {G : List PlV} {w M B S : Nat} {f : Nat → Rat} (x : StpOk G w M B S f) {k : Nat} (hk : k < G.length) : NB (M * S) (B + 1000) (st1 G f k) := by
  have a := (x.beh hk).nb
  have hw := vl_wf x.W hk
  have g := q_small hw.g
  have e : natR (B + 1000) = natR B + 1000 := by rw [natR_add]; rfl
  have lo := a.lo
  have hi := a.hi
  refine ⟨Zt.add ((zt_den (red_small hw.g) (x.gd _ (vl_mem hk))).dvd (Nat.dvd_mul_right _ _)) a.zt, ?_, ?_⟩
  · show _ ≤ qN (vl G k).g + vW (vl G k) f
    rw [e]; grind
  · show qN (vl G k).g + vW (vl G k) f ≤ _
    rw [e]; grind
theorem StpOk.ok {G : List PlV} {w M B S : Nat} {f : Nat → Rat} (x : StpOk G w M B S f) {k : Nat} (hk : k < G.length) : Ok (st1 G f k) := nb_ok (x.nb hk) (Nat.mul_pos x.M0 x.S0) x.MS (Nat.le_trans x.Bl (Nat.pow_le_pow_right (by decide) (by decide)))
theorem fol_stp {G : List PlV} {w U S t : Nat} (hW : WfVG w G) (hg : ∀ p ∈ G, p.g.2.natAbs ∣ U) (hS : ∀ p ∈ G, p.k = none → ∀ q ∈ p.bs, q.1.2.natAbs ∣ S) (hU : 0 < U) (hS0 : 0 < S) (hM : U * S ^ (t + 1) < 2 ^ 1998) (ht : t ≤ 1000) : StpOk G w (U * S ^ t) (1000 * t) S (wG G 1 t) := by
  refine ⟨hW, fun p hp => Nat.dvd_trans (hg p hp) (Nat.dvd_mul_right _ _), hS, Nat.mul_pos hU (Nat.pow_pos hS0), hS0, by rw [Nat.mul_assoc, ← Nat.pow_succ]; exact hM, ?_, fun k hk => ?_⟩
  · have h5 : 1000 * t + 1000 ≤ 2 ^ 20 := Nat.le_trans (by omega : 1000 * t + 1000 ≤ 1001000) (by decide)
    exact Nat.le_trans h5 (Nat.pow_le_pow_right (by decide) (by decide))
  · have h := nb_wG (dn := 1) (dd := 1) hW hg hS (Nat.le_refl 1) (Nat.le_refl 1) t k hk
    rw [natR_11, Nat.mul_one] at h
    exact h
theorem laY_Qs {α : Type} (l : List α) (f : α → Rat) : LaY 2 (.list (l.map fun k => nQ (f k))) := laY_list fun d hd => by
  obtain ⟨k, _, rfl⟩ := List.mem_map.mp hd
  exact laY_nQ _
theorem sh_Qs {α : Type} (l : List α) (f : α → Rat) : SeqAt.shaped (.list (l.map fun k => nQ (f k))) = true := (laY_Qs l f).shaped (by decide)
theorem at_ds {ds : List Int} {i : Nat} (h : i < ds.length) : L2.atI (ds.map PyData.int) (i : Int) = some (.int (ds.getD i 0)) := atI_nat (by
  rw [List.getElem?_map, List.getElem?_eq_getElem h, List.getD_eq_getElem?_getD, List.getElem?_eq_getElem h]
  rfl)
theorem ds_bd {ds : List Int} (hd : ∀ d ∈ ds, 0 ≤ d ∧ d < 1000) (i : Nat) : 0 ≤ ds.getD i 0 ∧ ds.getD i 0 < 1000 := by
  rw [List.getD_eq_getElem?_getD]
  cases e : ds[i]? with
  | none => exact ⟨Int.le_refl 0, by decide⟩
  | some d => exact hd d (List.mem_of_getElem? e)
theorem g30_den {G : List PlV} (h : WfVG 30 G) {n : Nat} (hn : G.length ≤ n) : 0 < denL (chancesV G) ∧ denL (chancesV G) ≤ 30 ^ n := by
  have s := scaleV_ok (by decide) h
  exact ⟨s.1, Nat.le_trans s.2 (Nat.pow_le_pow_right (by decide) hn)⟩
end Md
set_option Elab.async false
set_option linter.all false
set_option maxRecDepth 100000
set_option maxHeartbeats 2000000
namespace Md
open PySem L2 Evl
def kNum : Con := con2 fun x y P => ∃ n d : Int, x = .int n ∧ y = .int d ∧ d ≠ 0 ∧ n.natAbs < 2 ^ 1900 ∧ d.natAbs < 2 ^ 1900 ∧ P (nD (num n d))
theorem kNum_i {n d : Int} {P : PyData → Prop} (h1 : d ≠ 0) (h2 : n.natAbs < 2 ^ 1900) (h3 : d.natAbs < 2 ^ 1900) (p : P (nD (num n d))) : kNum [.int n, .int d] P := ⟨n, d, rfl, rfl, h1, h2, h3, p⟩
theorem kNum_q {n d : Int} {P : PyData → Prop} (h1 : 0 < d) (h2 : n.natAbs < 10 ^ 9) (h3 : d.natAbs < 10 ^ 9) (p : P (nQ ((n : Rat) / (d : Rat)))) : kNum [.int n, .int d] P := by
  have u : (10 : Nat) ^ 9 ≤ 2 ^ 1900 := Nat.le_trans (by decide : 10 ^ 9 ≤ 2 ^ 30) (Nat.pow_le_pow_right (by decide) (by decide))
  refine kNum_i (by omega) (Nat.lt_of_lt_of_le h2 u) (Nat.lt_of_lt_of_le h3 u) ?_
  rw [num_canon h1]
  exact p
theorem c_num {K : PySem.W.Frag} {vs : List V} {h : Hp} {Q : VK} {E : XK} (x : spP K kNum vs h Q E) : spNumber K vs h Q E := by
  obtain ⟨b, ds, P, e, hA, hR, k⟩ := x
  obtain ⟨a, c, rfl, n, d, rfl, rfl, h1, h2, h3, p⟩ := con2_is hR
  refine ⟨b, _, e, hA, rfl, ⟨n, d, rfl, h1, h2, h3⟩, fun v b' h' d' g hf hv => k v b' h' d' g ?_ hv⟩
  rw [hf n d rfl]
  exact p
structure StartOk (n : Nat) (s : Nat → Rat) : Prop where
  nb : ∀ k, k < n → NB 12 20 (s k)
theorem unitS_dvd {G : List PlV} {s : Nat → Rat} {M : Nat} (hg : ∀ p ∈ G, p.g.2.natAbs ∣ M) (hs : ∀ k, k < G.length → Zt M (s k)) : unitS G s ∣ M := denL_to fun c hc => by
  rcases List.mem_append.mp hc with h | h
  · obtain ⟨p, hp, rfl⟩ := List.mem_map.mp h
    exact hg p hp
  · obtain ⟨k, hk, rfl⟩ := List.mem_map.mp h
    exact zt_dvd (canon_red _) (by rw [q_canon]; exact hs k (List.mem_range.mp hk))
theorem g30_size2 {G : List PlV} (h : WfVG 30 G) {t U : Nat} (hU : U ≤ 2 ^ 20) (hn : G.length ≤ 7) (ht : t ≤ 40) : U * denL (chancesV G) ^ t < 2 ^ 1500 := by
  have s := (g30_den h hn).2
  have s2 : denL (chancesV G) ≤ 2 ^ 35 := Nat.le_trans s (by decide)
  have e1 : denL (chancesV G) ^ t ≤ (2 ^ 35) ^ t := Nat.pow_le_pow_left s2 t
  rw [← Nat.pow_mul] at e1
  have e2 : 2 ^ (35 * t) ≤ 2 ^ 1400 := Nat.pow_le_pow_right (by decide) (by omega)
  have e3 : U * denL (chancesV G) ^ t ≤ 2 ^ 20 * 2 ^ 1400 := Nat.mul_le_mul hU (Nat.le_trans e1 e2)
  rw [← Nat.pow_add] at e3
  exact Nat.lt_of_le_of_lt e3 (Nat.pow_lt_pow_right (by decide) (by decide))
theorem stpS {G : List PlV} {w U S t B0 : Nat} {s : Nat → Rat} (hW : WfVG w G) (hg : ∀ p ∈ G, p.g.2.natAbs ∣ U) (hS : ∀ p ∈ G, p.k = none → ∀ q ∈ p.bs, q.1.2.natAbs ∣ S) (hU : 0 < U) (hS0 : 0 < S) (hM : U * S ^ (t + 1) < 2 ^ 1998) (ht : t ≤ 1000) (hB : B0 ≤ 2 ^ 800) (h0 : ∀ k, k < G.length → NB U B0 (s k)) :
    StpOk G w (U * S ^ t) (B0 + 1000 * t) S (wS G 1 s t) := by
  refine ⟨hW, fun p hp => Nat.dvd_trans (hg p hp) (Nat.dvd_mul_right _ _), hS, Nat.mul_pos hU (Nat.pow_pos hS0), hS0, by rw [Nat.mul_assoc, ← Nat.pow_succ]; exact hM, ?_, fun k hk => ?_⟩
  · have h5 : 1000 * t + 1000 ≤ 2 ^ 800 := Nat.le_trans (by omega : 1000 * t + 1000 ≤ 1001000) (Nat.le_trans (by decide : 1001000 ≤ 2 ^ 20) (Nat.pow_le_pow_right (by decide) (by decide)))
    have h6 : 2 ^ 800 + 2 ^ 800 ≤ 2 ^ 900 := by
      have : (2 : Nat) ^ 801 = 2 ^ 800 + 2 ^ 800 := by rw [Nat.pow_succ]; omega
      rw [← this]
      exact Nat.pow_le_pow_right (by decide) (by decide)
    omega
  · have h := nb_wS (dn := 1) (dd := 1) hW hg hS (Nat.le_refl 1) (Nat.le_refl 1) h0 t k hk
    rw [natR_11, Nat.mul_one] at h
    exact h
end Md
namespace Md
open PySem L2 Evl
end Md
namespace Md
open PySem L2 Evl
theorem nb_big3 {M B : Nat} {r : Rat} (h : NB M B r) (hM : 0 < M) (h1 : M < 2 ^ 1998) (hB : B ≤ 2 ^ 1000) : Big 3000 (canon r) := by
  have h2 : NB M (2 ^ 1000) r := h.mono (Nat.dvd_refl _) hB
  refine h2.big hM (Nat.one_le_two_pow) ?_
  have : 2 ^ 1000 * M < 2 ^ 1000 * 2 ^ 1998 := Nat.mul_lt_mul_of_pos_left h1 (Nat.two_pow_pos _)
  rw [← Nat.pow_add] at this
  exact Nat.lt_of_lt_of_le this (Nat.pow_le_pow_right (by decide) (by decide))
structure Wor (G : List PlV) (w U T : Nat) : Prop where
  w1 : 1 ≤ w
  w9 : w ≤ 999
  W : WfVG w G
  g : ∀ p ∈ G, p.g.2.natAbs ∣ U
  U0 : 0 < U
  Tl : T ≤ 100
  sz : U * denL (chancesV G) ^ (T + 1) < 2 ^ 1998
theorem Wor.cS {G : List PlV} {w U T : Nat} (x : Wor G w U T) : ∀ p ∈ G, p.k = none → ∀ q ∈ p.bs, q.1.2.natAbs ∣ denL (chancesV G) := fun p hp hk q hq => denL_dvd (chv_mem hp hk hq)
theorem Wor.S0 {G : List PlV} {w U T : Nat} (x : Wor G w U T) : 0 < denL (chancesV G) := (scaleV_ok x.w1 x.W).1
theorem Wor.le {G : List PlV} {w U T : Nat} (x : Wor G w U T) {j : Nat} (h : j ≤ T + 1) : U * denL (chancesV G) ^ j < 2 ^ 1998 := Nat.lt_of_le_of_lt (Nat.mul_le_mul_left U (Nat.pow_le_pow_right x.S0 h)) x.sz
theorem Wor.stp {G : List PlV} {w U T : Nat} (x : Wor G w U T) {j : Nat} (h : j ≤ T) : StpOk G w (U * denL (chancesV G) ^ j) (1000 * j) (denL (chancesV G)) (wG G 1 j) := fol_stp x.W x.g x.cS x.U0 x.S0 (x.le (by omega)) (by have := x.Tl; omega)
theorem Wor.nb {G : List PlV} {w U T : Nat} (x : Wor G w U T) {j k : Nat} (h : j ≤ T + 1) (hk : k < G.length) : NB (U * denL (chancesV G) ^ j) (1000 * j) (wG G 1 j k) := by
  have h := nb_wG (dn := 1) (dd := 1) x.W x.g x.cS (Nat.le_refl 1) (Nat.le_refl 1) j k hk
  rw [natR_11, Nat.mul_one] at h
  exact h
theorem Wor.b20 {G : List PlV} {w U T : Nat} (x : Wor G w U T) {j : Nat} (h : j ≤ T + 1) : 1000 * j ≤ 2 ^ 20 := by
  have := x.Tl
  exact Nat.le_trans (by omega : 1000 * j ≤ 101000) (by decide)
theorem Wor.ok {G : List PlV} {w U T : Nat} (x : Wor G w U T) {j k : Nat} (h : j ≤ T + 1) (hk : k < G.length) : Ok (wG G 1 j k) := nb_ok (x.nb h hk) (Nat.mul_pos x.U0 (Nat.pow_pos x.S0)) (x.le h) (Nat.le_trans (x.b20 h) (Nat.pow_le_pow_right (by decide) (by decide)))
theorem Wor.big {G : List PlV} {w U T : Nat} (x : Wor G w U T) {j k : Nat} (h : j ≤ T + 1) (hk : k < G.length) : Big 3000 (canon (wG G 1 j k)) := nb_big3 (x.nb h hk) (Nat.mul_pos x.U0 (Nat.pow_pos x.S0)) (x.le h) (Nat.le_trans (x.b20 h) (Nat.pow_le_pow_right (by decide) (by decide)))
theorem Wor.den {G : List PlV} {w U T : Nat} (x : Wor G w U T) {j : Nat} (h : j ≤ T + 1) : denL (gainsV G) * denL (chancesV G) ^ j < 2 ^ 3000 := by
  have d : denL (gainsV G) ∣ U := denL_to fun c hc => by
    obtain ⟨p, hp, rfl⟩ := List.mem_map.mp hc
    exact x.g p hp
  exact Nat.lt_of_le_of_lt (Nat.mul_le_mul_right _ (Nat.le_of_dvd x.U0 d)) (Nat.lt_of_lt_of_le (x.le h) (Nat.pow_le_pow_right (by decide) (by decide)))
theorem Wor.wf {G : List PlV} {w U T : Nat} (x : Wor G w U T) {j : Nat} {P : List PyData → Prop} (h : j ≤ T) (p : P ((List.range G.length).map fun k => nQ (wG G 1 (j + 1) k))) : kWF [gvD G, listQ G.length (wG G 1 j), .int 1] P := by
  have d : unitS G (wG G 1 j) ∣ U * denL (chancesV G) ^ j := unitS_dvd (fun p hp => Nat.dvd_trans (x.g p hp) (Nat.dvd_mul_right _ _)) fun k hk => (x.nb (by omega) hk).zt
  have e1 := Nat.mul_le_mul_right (denL (chancesV G) ^ 1) (Nat.le_of_dvd (Nat.mul_pos x.U0 (Nat.pow_pos x.S0)) d)
  rw [Nat.mul_assoc, ← Nat.pow_add] at e1
  have e2 : (List.range G.length).map (fun k => nQ (wS G 1 (wG G 1 j) 1 k)) = (List.range G.length).map fun k => nQ (wG G 1 (j + 1) k) := List.map_congr_left fun k hk => by rfl
  refine kWF_i (t := 1) (B0 := 1000 * j) x.w1 x.w9 x.W (by decide) (Nat.lt_of_le_of_lt e1 (Nat.lt_of_lt_of_le (x.le (by omega)) (Nat.pow_le_pow_right (by decide) (by decide)))) (Nat.le_trans (x.b20 (by omega)) (Nat.pow_le_pow_right (by decide) (by decide))) (fun k hk => ⟨(x.nb (by omega) hk).lo, (x.nb (by omega) hk).hi⟩) ?_
  rw [e2]
  exact p
end Md
set_option Elab.async false
set_option linter.all false
set_option maxRecDepth 100000
set_option maxHeartbeats 2000000
namespace Md
open PySem L2 Evl
section
variable {K : PySem.W.Frag} {vs : List V} {h : Hp} {Q : VK} {E : XK}
end
end Md
namespace Md
open PySem L2 Evl
theorem enumD_range {n : Nat} (g : Nat → PyData) : enumD ((List.range n).map g) = (List.range n).map fun k : Nat => .tuple [.int (k : Int), g k] := by
  unfold enumD zipD
  rw [List.length_map, List.length_range, List.zipWith_map, List.zipWith_self]
theorem enumD_map {β : Type} {L : List β} (d : β) (g : β → PyData) : enumD (L.map g) = (List.range L.length).map fun k : Nat => .tuple [.int (k : Int), g (L.getD k d)] := by
  have e : L.map g = (List.range L.length).map fun k => g (L.getD k d) := by
    rw [← map_getDn L d g]
  rw [e, enumD_range]
end Md
namespace Md
open PySem L2 Evl
theorem la_nats (l : List Nat) : LaY 1 (.list (l.map fun k : Nat => PyData.int (k : Int))) := laY_list (k := 0) fun d hd => by
  obtain ⟨k, _, rfl⟩ := List.mem_map.mp hd
  exact laY_int _
theorem sh_nats (l : List Nat) : SeqAt.shaped (.list (l.map fun k : Nat => PyData.int (k : Int))) = true := (la_nats l).shaped (by decide)
end Md
set_option Elab.async false
set_option linter.all false
set_option maxRecDepth 100000
set_option maxHeartbeats 2000000
namespace Md
open PySem L2 Evl
section
variable {K : PySem.W.Frag} {vs : List V} {h : Hp} {Q : VK} {E : XK}
end
end Md
namespace Md
open PySem L2 Evl
theorem HasK.to {P : Program} {w : World} {K : PySem.W.Frag} {mg : Str → Option Value} {base : Heap} {k : Nat} {x : Str} {ps ks : List Str} {n m : Nat} {sp sp' : Sp} (h : HasK P w K mg base k x ps ks n m sp) (i : ∀ vs H Q E, sp' vs H Q E → sp vs H Q E) : HasK P w K mg base k x ps ks n m sp' := by
  obtain ⟨f, fd, F, a, b, c⟩ := h
  exact ⟨f, fd, ⟨fun vs H Q E x => F.len vs H Q E (i vs H Q E x), fun A outer s H args us vs Q E r1 r2 r3 r4 r5 => F.run A outer s H args us vs Q E r1 r2 r3 r4 (i vs H Q E r5)⟩, a, b, c⟩
end Md
set_option Elab.async false
set_option linter.all false
set_option maxRecDepth 100000
set_option maxHeartbeats 2000000
namespace Md
open PySem L2 Evl
section
variable {w n : Nat} {p : PlV}
theorem vW_add (hw : WfV w n p) (f : Nat → Rat) (c : Rat) : vW p (fun j => f j + c) = vW p f + c := by
  unfold vW
  cases hk : p.k with
  | none =>
    have e := wsum_add p.bs f (fun _ => c)
    have e2 := wsum_mul p.bs c (fun _ => 1)
    rw [wsum_one, hw.s hk, Rat.mul_one] at e2
    show wsum p.bs (fun j => f j + c) = _
    rw [e, e2]
  | some o =>
    refine tk_is ?_ fun y hy => ?_
    · obtain ⟨q, hq, e⟩ := List.mem_map.mp (tk_mem (o := o) (l := p.bs.map fun q => f q.2) (by rw [List.length_map]; have := hw.l1; omega))
      refine List.mem_map.mpr ⟨q, hq, ?_⟩
      show f q.2 + c = tkQ o (p.bs.map fun q => f q.2) + c
      exact congrArg (· + c) e
    · obtain ⟨q, hq, rfl⟩ := List.mem_map.mp hy
      cases o with
      | true =>
        have := tk_hi (l := p.bs.map fun q => f q.2) (List.mem_map.mpr ⟨q, hq, rfl⟩)
        rw [if_pos rfl]
        show f q.2 + c ≤ tkQ true _ + c
        grind
      | false =>
        have := tk_lo (l := p.bs.map fun q => f q.2) (List.mem_map.mpr ⟨q, hq, rfl⟩)
        rw [if_neg (by decide)]
        show tkQ false _ + c ≤ f q.2 + c
        grind
end
section
variable {w : Nat} {G : List PlV} (hW : WfVG w G)
include hW
end
end Md
namespace Md
open PySem L2 Evl
def dKix (f : Str → Option Str) (da : DE) : DE := fun Γ P => da Γ fun x => ∃ z y, x = .str z ∧ f z = some y ∧ P (.str y)
end Md
namespace Md
open PySem L2 Evl
theorem own_cons (a : Str) (b : Nat) (l : List (Str × Nat)) : List.map (fun x => x.snd) ((a, b) :: l) = b :: List.map (fun x => x.snd) l := rfl
theorem own_nil : List.map (fun x : Str × Nat => x.snd) [] = [] := rfl
end Md
namespace Md
open PySem L2 Evl
end Md
namespace Md
open PySem L2 Evl
theorem atI_one {α : Type} {a b : α} {l : List α} : L2.atI (a :: b :: l) 1 = some b := by
  show L2.atI (a :: b :: l) ((1 : Nat) : Int) = _
  exact atI_nat rfl
end Md
namespace Md
open PySem L2 Evl
end Md
namespace Md
open PySem L2 Evl
end Md
namespace Md
open PySem L2 Evl
structure Sta (G : List PlV) (s : Nat → Rat) : Prop where
  W : WfVG 30 G
  n7 : G.length ≤ 7
  g : ∀ p ∈ G, p.g.2.natAbs ∣ 60
  s : ∀ k, k < G.length → NB 60 100 (s k)
section
variable {G : List PlV} {s : Nat → Rat} (x : Sta G s)
include x
theorem Sta.stp {j : Nat} (h : j ≤ 30) : StpOk G 30 (60 * denL (chancesV G) ^ j) (100 + 1000 * j) (denL (chancesV G)) (wS G 1 s j) :=
  stpS x.W x.g (fun p hp hk q hq => denL_dvd (chv_mem hp hk hq)) (by decide) (g30_den x.W x.n7).1 (Nat.lt_of_lt_of_le (g30_size2 x.W (by decide) x.n7 (by omega)) (Nat.pow_le_pow_right (by decide) (by decide))) (by omega) (Nat.le_trans (by decide : 100 ≤ 2 ^ 7) (Nat.pow_le_pow_right (by decide) (by decide))) x.s
theorem Sta.nb {j k : Nat} (h : j ≤ 30) (hk : k < G.length) : NB (60 * denL (chancesV G) ^ j) 40000 (wS G 1 s j k) := ((x.stp h).hf k hk).mono (Nat.dvd_refl _) (by omega)
theorem Sta.m {j : Nat} (h : j ≤ 30) : 0 < 60 * denL (chancesV G) ^ j ∧ 60 * denL (chancesV G) ^ j < 2 ^ 1998 := ⟨(x.stp h).M0, Nat.lt_of_lt_of_le (g30_size2 x.W (by decide) x.n7 (by omega)) (Nat.pow_le_pow_right (by decide) (by decide))⟩
theorem Sta.okB {j B : Nat} {r : Rat} (h : j ≤ 30) (hB : B ≤ 2 ^ 20) (z : NB (60 * denL (chancesV G) ^ j) B r) : Ok r := nb_ok z (x.m h).1 (x.m h).2 (Nat.le_trans hB (Nat.pow_le_pow_right (by decide) (by decide)))
theorem Sta.ok {j k : Nat} (h : j ≤ 30) (hk : k < G.length) : Ok (wS G 1 s j k) := x.okB h (by decide) (x.nb h hk)
theorem Sta.wf {t : Nat} {P : List PyData → Prop} (h : t ≤ 30) (p : P ((List.range G.length).map fun k => nQ (wS G 1 s t k))) : kWF [gvD G, listQ G.length s, .int (t : Int)] P := by
  have d : unitS G s ∣ 60 := unitS_dvd x.g fun k hk => (x.s k hk).zt
  have e1 := Nat.mul_le_mul_right (denL (chancesV G) ^ t) (Nat.le_of_dvd (by decide) d)
  exact kWF_i (B0 := 100) (by decide) (by decide) x.W (by omega) (Nat.lt_of_le_of_lt e1 (Nat.lt_of_lt_of_le (x.m h).2 (Nat.pow_le_pow_right (by decide) (by decide)))) (Nat.le_trans (by decide : 100 ≤ 2 ^ 7) (Nat.pow_le_pow_right (by decide) (by decide))) (fun k hk => ⟨(x.s k hk).lo, (x.s k hk).hi⟩) p
end
end Md
namespace Md
open PySem L2 Evl
end Md
set_option Elab.async false
set_option linter.all false
set_option maxRecDepth 100000
set_option maxHeartbeats 2000000
namespace Md
open PySem L2 Evl
structure IsMat (C : List PlC) (β : Rat) (a : Nat → Nat → Int) (c : Nat → Rat) : Prop where
  pos : ∀ x, x < C.length → 0 < c x
  row : ∀ (t : Nat → Rat) x, x < C.length → sumR C.length (fun y => qa a x y * t y) = c x * (t x - β * meanC C t x)
theorem sumR_low {n m : Nat} {f : Nat → Rat} (h : m ≤ n) (h0 : ∀ y, m ≤ y → y < n → f y = 0) : sumR n f = sumR m f := by
  obtain ⟨k, rfl⟩ : ∃ k, n = m + k := ⟨n - m, by omega⟩
  clear h
  induction k with
  | zero => rfl
  | succ k ih =>
    rw [← Nat.add_assoc, sumR_succ, ih fun y h1 h2 => h0 y h1 (by omega), h0 (m + k) (by omega) (by omega), Rat.add_zero]
theorem meanM_nonneg {C : List PlC} (h : WfM C) {k : Nat} (hk : k < C.length) {f : Nat → Rat} (hf : ∀ j, j < C.length → 0 ≤ f j) : 0 ≤ meanC C f k := by
  have a := meanM_mono h hk (f := fun _ => 0) (g := f) hf
  have b := wsum_mul (plC C k).bs 0 (fun _ => 1)
  have d : meanC C (fun _ => 0) k = 0 := by
    show wsum (plC C k).bs (fun _ => 0) = 0
    have h0 : (fun _ : Nat => (0 : Rat)) = fun j => 0 * (fun _ : Nat => (1 : Rat)) j := by
      funext _
      show (0 : Rat) = 0 * 1
      rw [Rat.zero_mul]
    rw [h0, b, Rat.zero_mul]
  rw [d] at a
  exact a
theorem piv_pos {C : List PlC} {β : Rat} {a : Nat → Nat → Int} {c : Nat → Rat} (hC : WfM C) (h0 : 0 ≤ β) (h1 : β < 1) (A : IsMat C β a c) {k : Nat} {T : Nat → Nat → Int} {d : Int} (h : Elim C.length a k T d) (hk : k < C.length) : 0 < T k k := by
  by_cases z : 0 < T k k
  · exact z
  exfalso
  have z : T k k ≤ 0 := by omega
  obtain ⟨p1, p2⟩ := elim_pivot h hk
  let w : Nat → Rat := fun j => if j = k then (d : Rat) else -qa T j k
  let t : Nat → Rat := fun y => if y < k + 1 then w y else 0
  have hs : ∀ x, sumR C.length (fun y => qa a x y * t y) = sumR (k + 1) (fun j => qa a x j * w j) := fun x => by
    rw [sumR_low (m := k + 1) (by omega) fun y h2 h3 => by
      show qa a x y * (if y < k + 1 then w y else 0) = 0
      rw [if_neg (by omega), Rat.mul_zero]]
    refine sumR_congr fun j hj => ?_
    show qa a x j * (if j < k + 1 then w j else 0) = _
    rw [if_pos hj]
  have hz : qa T k k ≤ 0 := by
    have := le_cast z
    exact this
  have ht : ∀ x, x ≤ k → t x ≤ β * meanC C t x := fun x hx => by
    have e := A.row t x (by omega)
    rw [hs x] at e
    have cp := A.pos x (by omega)
    have hv : c x * (t x - β * meanC C t x) ≤ 0 := by
      rw [← e]
      rcases Nat.lt_or_ge x k with q | q
      · rw [p1 x q]
        exact Rat.le_refl
      · have : x = k := by omega
        subst this
        rw [p2]
        exact hz
    by_cases q : t x ≤ β * meanC C t x
    · exact q
    · have : 0 < t x - β * meanC C t x := by grind
      have := Rat.mul_pos cp this
      grind
  let u : Nat → Rat := fun y => if 0 ≤ t y then t y else 0
  have ut : ∀ y, t y ≤ u y := fun y => by
    show t y ≤ if 0 ≤ t y then t y else 0
    split <;> grind
  have u0 : ∀ y, 0 ≤ u y := fun y => by
    show 0 ≤ if 0 ≤ t y then t y else 0
    split <;> grind
  have hu : ∀ x, x < C.length → u x ≤ β * meanC C u x := fun x hx => by
    have m0 : 0 ≤ β * meanC C u x := Rat.mul_nonneg h0 (meanM_nonneg hC hx fun j _ => u0 j)
    show (if 0 ≤ t x then t x else 0) ≤ _
    split
    · rcases Nat.lt_or_ge k x with q | q
      · have : t x = 0 := by
          show (if x < k + 1 then w x else 0) = 0
          rw [if_neg (by omega)]
        rw [this]
        exact m0
      · have a1 := ht x q
        have a2 : meanC C t x ≤ meanC C u x := meanM_mono hC hx fun j _ => ut j
        have a3 := Rat.mul_le_mul_of_nonneg_left a2 h0
        exact Rat.le_trans a1 a3
    · exact m0
  have hend := sub_le hC h0 h1 hu k hk
  have tk : t k = (d : Rat) := by
    show (if k < k + 1 then (if k = k then (d : Rat) else -qa T k k) else 0) = _
    rw [if_pos (by omega), if_pos rfl]
  have dp : (0 : Rat) < (d : Rat) := cast_pos h.pos
  have := ut k
  rw [tk] at this
  grind
theorem end_wor {C : List PlC} {β : Rat} {a : Nat → Nat → Int} {c e : Nat → Rat} {U : Rat} (A : IsMat C β a c) (hU : 0 < U) {T : Nat → Nat → Int} {d : Int} (h : Elim C.length a C.length T d) (hc : ∀ x, x < C.length → qa a x C.length = c x * e x * U) : IsWor C β e (fun j => qa T j C.length / ((d : Rat) * U)) := fun x hx => by
  have e1 := elim_end h x hx
  have d0 : (d : Rat) ≠ 0 := cast_ne (by have := h.pos; omega)
  have U0 : U ≠ 0 := by grind
  have e2 : sumR C.length (fun j => qa a x j * (qa T j C.length / (d : Rat))) = U * sumR C.length (fun j => qa a x j * (qa T j C.length / ((d : Rat) * U))) := by
    rw [← sumR_mul]
    exact sumR_congr fun j _ => by grind
  rw [e2, A.row _ x hx, hc x hx] at e1
  have cp := A.pos x hx
  have c0 : c x ≠ 0 := by grind
  have : c x * U ≠ 0 := fun z => by
    rcases Rat.mul_eq_zero.mp z with y | y
    · exact c0 y
    · exact U0 y
  show qa T x C.length / ((d : Rat) * U) = e x + β * meanC C (fun j => qa T j C.length / ((d : Rat) * U)) x
  generalize meanC C (fun j => qa T j C.length / ((d : Rat) * U)) x = m at *
  generalize qa T x C.length / ((d : Rat) * U) = v at *
  have e3 : (c x * U) * (v - β * m - e x) = 0 := by grind
  rcases Rat.mul_eq_zero.mp e3 with y | y
  · exact absurd y this
  · grind
end Md
namespace Md
open PySem L2 Evl
def kClr : Con := con3 fun x y z P => ∃ (n : Nat) (T : Nat → Nat → Int) (k : Nat) (d : Int), x = tabD n T ∧ y = .int (k : Int) ∧ z = .int d ∧ n ≤ 12 ∧ k < n ∧ 0 < d ∧ d.natAbs < 2 ^ 9000 ∧ (∀ j l, j < n → l ≤ n → (T j l).natAbs < 2 ^ 20000) ∧ P (tabD n (elimT k T d))
theorem kClr_i {n : Nat} {T : Nat → Nat → Int} {k : Nat} {d : Int} {P : PyData → Prop} (h1 : n ≤ 12) (h2 : k < n) (h3 : 0 < d) (h4 : d.natAbs < 2 ^ 9000) (h5 : ∀ j l, j < n → l ≤ n → (T j l).natAbs < 2 ^ 20000) (p : P (tabD n (elimT k T d))) : kClr [tabD n T, .int (k : Int), .int d] P := ⟨n, T, k, d, rfl, rfl, rfl, h1, h2, h3, h4, h5, p⟩
structure SolOk (n : Nat) (a : Nat → Nat → Int) (cs : Nat → Rat) (U : Nat) : Prop where
  n12 : n ≤ 12
  U0 : 0 < U
  eU : U = denL ((List.range n).map fun r => canon (cs r))
  col : ∀ r, r < n → a r n = (canon (cs r)).1 * ((U : Int) / (canon (cs r)).2)
  Ub : U < 2 ^ 1000
  cb : ∀ r, r < n → (canon (cs r)).1.natAbs < 2 ^ 1000 ∧ (canon (cs r)).2.natAbs < 2 ^ 1000
  ab : ∀ r l, r < n → l < n → (a r l).natAbs ≤ 2 ^ 540
  cb2 : ∀ r, r < n → (a r n).natAbs ≤ 2 ^ 1000
  piv : ∀ k T d, k < n → Elim n a k T d → 0 < T k k
theorem SolOk.bnd {n : Nat} {a : Nat → Nat → Int} {cs : Nat → Rat} {U : Nat} (x : SolOk n a cs U) {k : Nat} {T : Nat → Nat → Int} {d : Int} (hk : k ≤ n) (h : Elim n a k T d) : d.natAbs < 2 ^ 6600 ∧ ∀ j l, j < n → l ≤ n → (T j l).natAbs < 2 ^ 20000 := by
  have hd := elim_d h x.n12 hk (B := 2 ^ 540) Nat.one_le_two_pow x.ab
  have hp := h.pos
  have hd2 : d.natAbs ≤ (12 * 2 ^ 540) ^ 12 := by
    generalize (12 * 2 ^ 540) ^ 12 = z at hd ⊢
    omega
  refine ⟨Nat.lt_of_le_of_lt hd2 (by decide +kernel : (12 * 2 ^ 540) ^ 12 < 2 ^ 6600), fun j l hj hl => ?_⟩
  have := elim_bd h x.n12 hk (B := 2 ^ 1000) (Nat.one_le_two_pow) (fun r l hr hl => by
    rcases Nat.lt_or_ge l n with z | z
    · exact Nat.le_trans (x.ab r l hr z) (Nat.pow_le_pow_right (by decide) (by decide))
    · have : l = n := by omega
      subst this
      exact x.cb2 r hr) hj hl
  exact Nat.lt_of_le_of_lt this (by decide +kernel)
def matD (n : Nat) (a : Nat → Nat → Int) : PyData := .list ((List.range n).map fun r => .list ((List.range n).map fun l => PyData.int (a r l)))
def kSol : Con := con2 fun x y P => ∃ (n : Nat) (a : Nat → Nat → Int) (cs : Nat → Rat) (U : Nat), x = matD n a ∧ y = listQ n cs ∧ SolOk n a cs U ∧ ∀ T d, Elim n a n T d → P (listQ n fun j => qa T j n / ((d : Rat) * natR U))
end Md
namespace Md
open PySem L2 Evl
theorem onL_tab {n : Nat} {T : Nat → Nat → Int} {k : List PyData → Prop} : onL (tabD n T) k = k ((List.range n).map (rowD n T)) := rfl
theorem onL_row {n : Nat} {T : Nat → Nat → Int} {j : Nat} {k : List PyData → Prop} : onL (rowD n T j) k = k ((List.range (n + 1)).map fun l => PyData.int (T j l)) := rfl
theorem onL_mat {n : Nat} {a : Nat → Nat → Int} {k : List PyData → Prop} : onL (matD n a) k = k ((List.range n).map fun r => PyData.list ((List.range n).map fun l => PyData.int (a r l))) := rfl
theorem zip_rr {n : Nat} : (List.range n).zip (List.range n) = (List.range n).map fun k => (k, k) := by
  have e : ((List.range n).map fun k : Nat => k).zip ((List.range n).map fun k : Nat => k) = (List.range n).map fun k => (k, k) := List.zip_map'
  rwa [List.map_id'] at e
end Md
namespace Md
open PySem L2 Evl
def kSca : Con := con1 fun x P => ∃ p : PlC, x = p.D ∧ p.bs.length ≤ 6 ∧ (∀ q ∈ p.bs, 1 ≤ q.1.2) ∧ denL (p.bs.map (·.1)) < 2 ^ 13000 ∧ P (.int ((denL (p.bs.map (·.1)) : Nat) : Int))
def colZ (bs : List BrC) (S : Int) (y : Nat) : Int := (bs.map fun q => if q.2 = y then q.1.1 * (S / q.1.2) else 0).sum
def rowA (bs : List BrC) (S dn dd : Int) (x y : Nat) : Int := (if y = x then S * dd else 0) - dn * colZ bs S y
structure RowOk (C : List PlC) (x S dn dd : Nat) : Prop where
  xl : x < C.length
  n12 : C.length ≤ 12
  b6 : (plC C x).bs.length ≤ 6
  t : ∀ q ∈ (plC C x).bs, q.2 < C.length
  c : ∀ q ∈ (plC C x).bs, SmallN q.1
  Sb : S ≤ 1000
  db : dd ≤ 2 ^ 512
  dl : dn ≤ dd
def kRow : ConN := conN5 fun x1 x2 x3 x4 x5 P => ∃ (C : List PlC) (x S dn dd : Nat), x1 = chD C ∧ x2 = .int (x : Int) ∧ x3 = .list ((List.range C.length).map fun i : Nat => PyData.int (i : Int)) ∧ x4 = .int (S : Int) ∧ x5 = nD ((dn : Int), (dd : Int)) ∧ RowOk C x S dn dd ∧ P ((List.range C.length).map fun y => .int (rowA (plC C x).bs S dn dd x y))
end Md
namespace Md
open PySem L2 Evl
theorem atI_2 {α : Type} {a b c : α} {l : List α} : L2.atI (a :: b :: c :: l) 2 = some c := by
  show L2.atI (a :: b :: c :: l) ((2 : Nat) : Int) = _
  exact atI_nat rfl
theorem colZ_snoc (bs : List BrC) (q : BrC) (S : Int) (y : Nat) : colZ (bs ++ [q]) S y = colZ bs S y + if q.2 = y then q.1.1 * (S / q.1.2) else 0 := by
  unfold colZ
  rw [List.map_append, List.sum_append, List.map_cons, List.map_nil, List.sum_cons, List.sum_nil, Int.add_zero]
end Md
namespace Md
open PySem L2 Evl
theorem eqv_ii (i j : Int) : PyData.eqv (.int i) (.int j) = (i == j) := rfl
theorem set_range {n k : Nat} {f g : Nat → PyData} {v : PyData} (hv : g k = v) (h : ∀ y, y ≠ k → g y = f y) : ((List.range n).map f).set k v = (List.range n).map g := by
  refine List.ext_getElem (by rw [List.length_set, List.length_map, List.length_map]) fun i h1 h2 => ?_
  rw [List.getElem_set]
  split
  · rename_i e
    subst e
    rw [List.getElem_map, List.getElem_range]
    exact hv.symm
  · rename_i e
    rw [List.getElem_map, List.getElem_map, List.getElem_range]
    exact (h i (fun z => e z.symm)).symm
end Md
namespace Md
open PySem L2 Evl
theorem colZ_nil (S : Int) (y : Nat) : colZ [] S y = 0 := rfl
theorem colZ_cons (q : BrC) (bs : List BrC) (S : Int) (y : Nat) : colZ (q :: bs) S y = (if q.2 = y then q.1.1 * (S / q.1.2) else 0) + colZ bs S y := by
  unfold colZ
  rw [List.map_cons, List.sum_cons]
theorem col_sum {n S : Nat} (t : Nat → Rat) : ∀ {bs : List BrC}, (∀ q ∈ bs, q.2 < n ∧ Red q.1 ∧ q.1.2.natAbs ∣ S) → sumR n (fun y => ((colZ bs S y : Int) : Rat) * t y) = natR S * wsum bs t
  | [], _ => by
    rw [wsum_nil, Rat.mul_zero]
    exact sumR_zeros fun y _ => by
      rw [colZ_nil]
      exact Rat.zero_mul _
  | q :: bs, h => by
    obtain ⟨h1, h2, h3⟩ := h q List.mem_cons_self
    have ih := col_sum (n := n) (S := S) t (bs := bs) fun r hr => h r (List.mem_cons_of_mem _ hr)
    have e : sumR n (fun y => ((colZ (q :: bs) S y : Int) : Rat) * t y) = sumR n (fun y => (if q.2 = y then ((q.1.1 * ((S : Int) / q.1.2) : Int) : Rat) * t y else 0)) + sumR n (fun y => ((colZ bs S y : Int) : Rat) * t y) := by
      rw [← sumR_add]
      refine sumR_congr fun y _ => ?_
      rw [colZ_cons, Rat.intCast_add]
      split
      · grind
      · rw [Rat.intCast_zero]
        grind
    rw [e, ih, sumR_only h1 (fun y _ hy => if_neg fun z => hy z.symm), if_pos rfl, whole_q h2 h3, wsum_cons]
    show qN q.1 * natR S * t q.2 + natR S * wsum bs t = natR S * (qN q.1 * t q.2 + wsum bs t)
    clear e ih
    grind
theorem mat_is {C : List PlC} {dn dd : Nat} {Sx : Nat → Nat} (hd : 1 ≤ dd) (hS : ∀ x, x < C.length → 0 < Sx x ∧ ∀ q ∈ (plC C x).bs, q.2 < C.length ∧ Red q.1 ∧ q.1.2.natAbs ∣ Sx x) {a : Nat → Nat → Int} (ha : ∀ x y, x < C.length → y < C.length → a x y = rowA (plC C x).bs (Sx x) dn dd x y) :
    IsMat C (natR dn / natR dd) a fun x => natR (Sx x) * natR dd := by
  have d0 : (0 : Rat) < natR dd := cast_pos (by omega)
  refine ⟨fun x hx => Rat.mul_pos (cast_pos (by have := (hS x hx).1; omega)) d0, fun t x hx => ?_⟩
  have h2 := (hS x hx).2
  have e : sumR C.length (fun y => qa a x y * t y) = sumR C.length (fun y => if y = x then natR (Sx x) * natR dd * t y else 0) + (-natR dn) * sumR C.length (fun y => ((colZ (plC C x).bs (Sx x) y : Int) : Rat) * t y) := by
    rw [← sumR_mul, ← sumR_add]
    refine sumR_congr fun y hy => ?_
    unfold qa
    rw [ha x y hx hy]
    unfold rowA
    rw [Rat.intCast_sub, Rat.intCast_mul]
    have e1 : ((dn : Int) : Rat) = natR dn := rfl
    rw [e1]
    split
    · rw [Rat.intCast_mul]
      have e2 : (((Sx x : Nat) : Int) : Rat) = natR (Sx x) := rfl
      have e3 : ((dd : Int) : Rat) = natR dd := rfl
      rw [e2, e3]
      grind
    · rw [Rat.intCast_zero]
      grind
  rw [e, col_sum t h2, sumR_only hx (fun y _ hy => if_neg hy), if_pos rfl]
  show _ = natR (Sx x) * natR dd * (t x - natR dn / natR dd * wsum (plC C x).bs t)
  generalize wsum (plC C x).bs t = m
  grind
end Md
namespace Md
open PySem L2 Evl
def kPlu : Con := con2 fun x y P => ∃ r s : Rat, x = nQ r ∧ y = nQ s ∧ Big 3000 (canon r) ∧ Big 3000 (canon s) ∧ P (nQ (r + s))
theorem kPlu_i {r s : Rat} {P : PyData → Prop} (h1 : Big 3000 (canon r)) (h2 : Big 3000 (canon s)) (p : P (nQ (r + s))) : kPlu [nQ r, nQ s] P := ⟨r, s, rfl, rfl, h1, h2, p⟩
def kTim : Con := con2 fun x y P => ∃ r s : Rat, x = nQ r ∧ y = nQ s ∧ Big 3000 (canon r) ∧ Big 3000 (canon s) ∧ P (nQ (r * s))
theorem kTim_i {r s : Rat} {P : PyData → Prop} (h1 : Big 3000 (canon r)) (h2 : Big 3000 (canon s)) (p : P (nQ (r * s))) : kTim [nQ r, nQ s] P := ⟨r, s, rfl, rfl, h1, h2, p⟩
def kTotR : Con := con1 fun x P => ∃ l : List Rat, x = ratsD l ∧ l.length ≤ 1000 ∧ (∀ i, i ≤ l.length → Big 3000 (canon (l.take i).sum)) ∧ (∀ r ∈ l, Big 3000 (canon r)) ∧ P (nQ l.sum)
section
variable {K : PySem.W.Frag} {vs : List V} {h : Hp} {Q : VK} {E : XK}
end
def kMn0 : Con := con2 fun x y P => ∃ (p : PlC) (n : Nat), x = p.D ∧ y = listQ n (fun _ => 0) ∧ p.bs.length ≤ 6 ∧ (∀ q ∈ p.bs, q.2 < n ∧ SmallN q.1) ∧ P (nQ 0)
theorem big_zero {j : Nat} (h : 1 ≤ j) : Big j (canon 0) := by
  rw [canon_zero]
  exact ⟨Nat.two_pow_pos _, Nat.one_lt_two_pow (by omega)⟩
theorem small_big {p : Int × Int} (h : SmallN p) : Big 3000 (canon (qN p)) := by
  rw [← canon_red_self (red_small h)]
  have h1 := h.1
  have h2 := h.2.1
  have h3 := h.2.2.1
  have u : (1000 : Nat) ≤ 2 ^ 3000 := Nat.le_trans (by decide : 1000 ≤ 2 ^ 10) (Nat.pow_le_pow_right (by decide) (by decide))
  exact ⟨Nat.lt_of_lt_of_le h3 u, Nat.lt_of_lt_of_le (show p.2.natAbs < 1000 by omega) u⟩
end Md
namespace Md
open PySem L2 Evl
def scD2 (C : List PlC) (x : Nat) : Nat := denL ((plC C x).bs.map (·.1))
structure FilOk (C : List PlC) (dn dd M0 : Nat) : Prop where
  n12 : C.length ≤ 12
  M : WfM C
  b6 : ∀ x, x < C.length → (plC C x).bs.length ≤ 6
  c : ∀ x, x < C.length → ∀ q ∈ (plC C x).bs, SmallN q.1
  g : ∀ x, x < C.length → SmallN (plC C x).g ∧ (plC C x).g.2.natAbs ∣ M0
  S : ∀ x, x < C.length → scD2 C x ≤ 1000
  dl : dn < dd
  db : dd ≤ 2 ^ 512
  m0 : 0 < M0
  mb : M0 < 2 ^ 200
  red : Red ((dn : Int), (dd : Int))
def csF (C : List PlC) (dd : Nat) (x : Nat) : Rat := gainC C x * natR (scD2 C x * dd)
def unF (C : List PlC) (dd : Nat) : Nat := denL ((List.range C.length).map fun r => canon (csF C dd r))
def aF (C : List PlC) (dn dd : Nat) (x y : Nat) : Int := if y < C.length then rowA (plC C x).bs (scD2 C x) dn dd x y else (canon (csF C dd x)).1 * ((unF C dd : Int) / (canon (csF C dd x)).2)
section
variable {C : List PlC} {dn dd M0 : Nat} (x : FilOk C dn dd M0)
include x
theorem FilOk.S0 {k : Nat} (hk : k < C.length) : 0 < scD2 C k := denL_pos fun c hc => by
  obtain ⟨q, hq, rfl⟩ := List.mem_map.mp hc
  exact (x.c k hk q hq).1
theorem FilOk.Sd {k : Nat} (hk : k < C.length) : ∀ q ∈ (plC C k).bs, q.2 < C.length ∧ Red q.1 ∧ q.1.2.natAbs ∣ scD2 C k := fun q hq => ⟨(x.M.q k hk q hq).2, red_small (x.c k hk q hq), denL_dvd (List.mem_map.mpr ⟨q, hq, rfl⟩)⟩
theorem FilOk.csn {k : Nat} (hk : k < C.length) : NB M0 (2 ^ 550) (csF C dd k) := by
  have g := x.g k hk
  have b := q_small g.1
  have n1 : NB M0 1000 (gainC C k) := ⟨zt_den (red_small g.1) g.2, b.1, b.2⟩
  have n2 : NB 1 (scD2 C k * dd) (natR (scD2 C k * dd)) := ⟨⟨(scD2 C k * dd : Nat), by show natR (scD2 C k * dd) * natR 1 = natR (scD2 C k * dd); rw [natR_one, Rat.mul_one]⟩, by have := natR_nonneg (scD2 C k * dd); grind, Rat.le_refl⟩
  have n3 := nb_mul n1 n2
  rw [Nat.mul_one] at n3
  refine n3.mono (Nat.dvd_refl _) ?_
  have h1 : scD2 C k * dd ≤ 1000 * 2 ^ 512 := Nat.mul_le_mul (x.S k hk) x.db
  exact Nat.le_trans (Nat.mul_le_mul_left 1000 h1) (by decide +kernel)
theorem FilOk.cb {k : Nat} (hk : k < C.length) : Big 800 (canon (csF C dd k)) := (x.csn hk).big x.m0 Nat.one_le_two_pow (by
  have := x.mb
  have h : 2 ^ 550 * M0 < 2 ^ 550 * 2 ^ 200 := Nat.mul_lt_mul_of_pos_left this (Nat.two_pow_pos _)
  rw [← Nat.pow_add] at h
  exact Nat.lt_of_lt_of_le h (Nat.pow_le_pow_right (by decide) (by decide)))
theorem FilOk.U : 0 < unF C dd ∧ unF C dd < 2 ^ 200 := by
  refine ⟨denL_pos fun c hc => ?_, Nat.lt_of_le_of_lt (Nat.le_of_dvd x.m0 (denL_to fun c hc => ?_)) x.mb⟩
  · obtain ⟨r, _, rfl⟩ := List.mem_map.mp hc
    exact (canon_red _).1
  · obtain ⟨r, hr, rfl⟩ := List.mem_map.mp hc
    exact zt_dvd (canon_red _) (by rw [q_canon]; exact (x.csn (List.mem_range.mp hr)).zt)
theorem FilOk.U2 : unF C dd ≤ M0 := by
  refine Nat.le_of_dvd x.m0 (denL_to fun c hc => ?_)
  obtain ⟨r, hr, rfl⟩ := List.mem_map.mp hc
  exact zt_dvd (canon_red _) (by rw [q_canon]; exact (x.csn (List.mem_range.mp hr)).zt)
theorem FilOk.mat : IsMat C (natR dn / natR dd) (aF C dn dd) fun k => natR (scD2 C k) * natR dd :=
  mat_is (Sx := scD2 C) (by have := x.dl; omega) (fun k hk => ⟨x.S0 hk, x.Sd hk⟩) fun k y hk hy => if_pos hy
theorem FilOk.beta : 0 ≤ natR dn / natR dd ∧ natR dn / natR dd < 1 := by
  have d0 : (0 : Rat) < natR dd := cast_pos (by have := x.dl; omega)
  have h : natR dn < natR dd := Rat.intCast_lt_intCast.mpr (by have := x.dl; omega)
  refine ⟨le_div' d0 (by rw [Rat.zero_mul]; exact natR_nonneg dn), ?_⟩
  exact (Rat.div_lt_iff d0).mpr (by rw [Rat.one_mul]; exact h)
end
end Md
namespace Md
open PySem L2 Evl
theorem colZ_bd {bs : List BrC} {S : Nat} (h : ∀ q ∈ bs, SmallN q.1) (hS : S ≤ 1000) (y : Nat) : (colZ bs S y).natAbs ≤ bs.length * 1000000 := by
  induction bs with
  | nil => exact Nat.le_of_eq rfl
  | cons q bs ih =>
    have i := ih fun r hr => h r (List.mem_cons_of_mem _ hr)
    have sq := h q List.mem_cons_self
    rw [colZ_cons, List.length_cons]
    have g1 := sq.2.2.1
    have g2 : ((S : Int) / q.1.2).natAbs ≤ 1000 := Nat.le_trans (Int.natAbs_ediv_le_natAbs _ _) (by rw [Int.natAbs_natCast]; exact hS)
    have g3 : (q.1.1 * ((S : Int) / q.1.2)).natAbs ≤ 1000 * 1000 := by
      rw [Int.natAbs_mul]
      exact Nat.mul_le_mul (Nat.le_of_lt g1) g2
    have g4 : (if q.2 = y then q.1.1 * ((S : Int) / q.1.2) else 0).natAbs ≤ 1000000 := by
      split
      · exact g3
      · exact Nat.zero_le _
    omega
theorem row_bd {bs : List BrC} {S dn dd : Nat} (h : ∀ q ∈ bs, SmallN q.1) (h6 : bs.length ≤ 6) (hS : S ≤ 1000) (h1 : dn ≤ dd) (x y : Nat) : (rowA bs S dn dd x y).natAbs ≤ 7000000 * dd := by
  unfold rowA
  have b1 := colZ_bd h hS y
  have b2 : (colZ bs S y).natAbs ≤ 6000000 := by omega
  have b3 : ((dn : Int) * colZ bs S y).natAbs ≤ dd * 6000000 := by
    rw [Int.natAbs_mul, Int.natAbs_natCast]
    exact Nat.mul_le_mul h1 b2
  have b4 : (if y = x then (S : Int) * (dd : Int) else 0).natAbs ≤ 1000 * dd := by
    split
    · rw [Int.natAbs_mul, Int.natAbs_natCast, Int.natAbs_natCast]
      exact Nat.mul_le_mul_right _ hS
    · exact Nat.zero_le _
  omega
theorem row_bd2 {dd : Nat} (h : dd ≤ 2 ^ 512) : 7000000 * dd ≤ 2 ^ 540 := Nat.le_trans (Nat.mul_le_mul_left _ h) (by decide +kernel)
section
variable {C : List PlC} {dn dd M0 : Nat} (x : FilOk C dn dd M0)
include x
theorem FilOk.sol : SolOk C.length (aF C dn dd) (csF C dd) (unF C dd) := by
  have hU := x.U
  have up : ∀ {z : Nat}, z < 2 ^ 800 → z < 2 ^ 1000 := fun h => Nat.lt_of_lt_of_le h (Nat.pow_le_pow_right (by decide) (by decide))
  refine ⟨x.n12, hU.1, rfl, fun r _ => if_neg (Nat.lt_irrefl _), Nat.lt_of_lt_of_le hU.2 (Nat.pow_le_pow_right (by decide) (by decide)), fun r hr => ⟨up (x.cb hr).1, up (x.cb hr).2⟩, fun r l hr hl => ?_, fun r hr => ?_, fun k T d hk h => piv_pos x.M x.beta.1 x.beta.2 x.mat h hk⟩
  · have e : aF C dn dd r l = rowA (plC C r).bs (scD2 C r) dn dd r l := if_pos hl
    rw [e]
    exact Nat.le_trans (row_bd (x.c r hr) (x.b6 r hr) (x.S r hr) (Nat.le_of_lt x.dl) r l) (row_bd2 x.db)
  · have e : aF C dn dd r C.length = (canon (csF C dd r)).1 * ((unF C dd : Int) / (canon (csF C dd r)).2) := if_neg (Nat.lt_irrefl _)
    rw [e, Int.natAbs_mul]
    have g1 := (x.cb hr).1
    have g2 : ((unF C dd : Int) / (canon (csF C dd r)).2).natAbs ≤ 2 ^ 200 := Nat.le_trans (Int.natAbs_ediv_le_natAbs _ _) (by rw [Int.natAbs_natCast]; exact Nat.le_of_lt hU.2)
    have g3 := Nat.mul_le_mul (Nat.le_of_lt g1) g2
    rw [← Nat.pow_add] at g3
    exact Nat.le_trans g3 (Nat.pow_le_pow_right (by decide) (by decide))
theorem FilOk.fin {T : Nat → Nat → Int} {d : Int} (h : Elim C.length (aF C dn dd) C.length T d) :
    IsWor C (natR dn / natR dd) (gainC C) (fun j => qa T j C.length / ((d : Rat) * natR (unF C dd))) ∧ ∃ M, 0 < M ∧ M ≤ (2 ^ 27 * dd) ^ 12 * M0 ∧ ∀ j, j < C.length → NB M (1000 * dd) (qa T j C.length / ((d : Rat) * natR (unF C dd))) := by
  have hU := x.U
  have U0 : (0 : Rat) < natR (unF C dd) := cast_pos (by omega)
  have hw : IsWor C (natR dn / natR dd) (gainC C) (fun j => qa T j C.length / ((d : Rat) * natR (unF C dd))) := end_wor x.mat U0 h fun k hk => by
    unfold qa
    have e : aF C dn dd k C.length = (canon (csF C dd k)).1 * ((unF C dd : Int) / (canon (csF C dd k)).2) := if_neg (Nat.lt_irrefl _)
    have dv : (canon (csF C dd k)).2.natAbs ∣ unF C dd := denL_dvd (List.mem_map.mpr ⟨k, List.mem_range.mpr hk, rfl⟩)
    rw [e, whole_q (canon_red _) dv, q_canon]
    show csF C dd k * natR (unF C dd) = _
    unfold csF
    rw [natR_mul]
    grind
  refine ⟨hw, d.natAbs * unF C dd, Nat.mul_pos (by have := h.pos; omega) hU.1, ?_, fun j hj => ?_⟩
  · have hb := elim_d h x.n12 (Nat.le_refl _) (B := 7000000 * dd) (by have := x.dl; omega) fun r l hr hl => by
      have e : aF C dn dd r l = rowA (plC C r).bs (scD2 C r) dn dd r l := if_pos hl
      rw [e]
      exact row_bd (x.c r hr) (x.b6 r hr) (x.S r hr) (Nat.le_of_lt x.dl) r l
    have hb2 : d.natAbs ≤ (12 * (7000000 * dd)) ^ 12 := Int.ofNat_le.mp (by
      rw [Int.natAbs_of_nonneg (Int.le_of_lt h.pos)]
      exact hb)
    have hb3 : (12 * (7000000 * dd)) ^ 12 ≤ (2 ^ 27 * dd) ^ 12 := Nat.pow_le_pow_left (by omega) 12
    exact Nat.mul_le_mul (Nat.le_trans hb2 hb3) x.U2
  · have d0 : (0 : Rat) < (d : Rat) := cast_pos h.pos
    have eM : natR (d.natAbs * unF C dd) = (d : Rat) * natR (unF C dd) := by
      rw [natR_mul]
      have : natR d.natAbs = (d : Rat) := by
        show ((d.natAbs : Nat) : Int) = (d : Rat)
        congr 1
        have := h.pos
        omega
      rw [this]
    have D0 : (d : Rat) * natR (unF C dd) ≠ 0 := by
      have := Rat.mul_pos d0 U0
      grind
    have dd0 : (0 : Rat) < natR dd := cast_pos (by have := x.dl; omega)
    have key : natR dn + 1 ≤ natR dd := by
      have : natR (dn + 1) ≤ natR dd := natR_le x.dl
      rwa [natR_add, natR_one] at this
    have mc : ∀ (c : Rat) k, k < C.length → meanC C (fun _ => c) k = c := fun c k hk => by
      have b := wsum_mul (plC C k).bs c (fun _ => 1)
      have s := x.M.s k hk
      rw [s, Rat.mul_one] at b
      exact b
    have e1000 : natR (1000 * dd) = 1000 * natR dd := by rw [natR_mul]; rfl
    have bd : natR dn / natR dd * (1000 * natR dd) = 1000 * natR dn := by grind
    refine ⟨⟨T j C.length, ?_⟩, ?_, ?_⟩
    · show _ * natR (d.natAbs * unF C dd) = qa T j C.length
      rw [eM]
      grind
    · rw [e1000]
      have := wor_ge x.M x.beta.1 x.beta.2 (f := fun _ => -(1000 * natR dd)) (fun k hk => by
        have b := (q_small (x.g k hk).1).1
        rw [mc _ k hk]
        show -(1000 * natR dd) ≤ qN (plC C k).g + natR dn / natR dd * -(1000 * natR dd)
        grind) hw j hj
      exact this
    · rw [e1000]
      have := wor_le x.M x.beta.1 x.beta.2 (f := fun _ => 1000 * natR dd) (fun k hk => by
        have b := (q_small (x.g k hk).1).2
        rw [mc _ k hk]
        show qN (plC C k).g + natR dn / natR dd * (1000 * natR dd) ≤ 1000 * natR dd
        grind) hw j hj
      exact this
end
end Md
namespace Md
open PySem L2 Evl
theorem kSca_i {p : PlC} {P : PyData → Prop} (h1 : p.bs.length ≤ 6) (h2 : ∀ q ∈ p.bs, 1 ≤ q.1.2) (h3 : denL (p.bs.map (·.1)) < 2 ^ 13000) (k : P (.int ((denL (p.bs.map (·.1)) : Nat) : Int))) : kSca [p.D] P := ⟨p, rfl, h1, h2, h3, k⟩
theorem kMn0_i {p : PlC} {n : Nat} {P : PyData → Prop} (h1 : p.bs.length ≤ 6) (h2 : ∀ q ∈ p.bs, q.2 < n ∧ SmallN q.1) (k : P (nQ 0)) : kMn0 [p.D, listQ n (fun _ => 0)] P := ⟨p, n, rfl, rfl, h1, h2, k⟩
def kFil : ConN := conN5 fun x1 x2 x3 x4 x5 P => ∃ (C : List PlC) (dn dd M0 : Nat), x1 = chD C ∧ x2 = .list ((List.range C.length).map fun i : Nat => PyData.int (i : Int)) ∧ x3 = listQ C.length (gainC C) ∧ x4 = listQ C.length (fun _ => 0) ∧ x5 = nD ((dn : Int), (dd : Int)) ∧ FilOk C dn dd M0 ∧
  ∀ (v : Nat → Rat) (M : Nat), IsWor C (natR dn / natR dd) (gainC C) v → 0 < M → M ≤ (2 ^ 27 * dd) ^ 12 * M0 → (∀ j, j < C.length → NB M (1000 * dd) (v j)) → P ((List.range C.length).map fun j => nQ (v j))
end Md
namespace Md
open PySem L2 Evl
theorem dfor_via {ws : List Nat} {di : DN} {dg : DG} {du : DS} {DD : DEnds} {Γ : Gam} (h : di Γ fun xs => dFor ws (fun _ k => k xs) dg du DD Γ) : dFor ws di dg du DD Γ := h
theorem qN_nat (m : Nat) : qN ((m : Int), 1) = natR m := by
  show ((m : Int) : Rat) / ((1 : Int) : Rat) = ((m : Int) : Rat)
  have : ((1 : Int) : Rat) = 1 := rfl
  rw [this]
  grind
theorem nb_nat (m : Nat) : NB 1 m (natR m) := ⟨⟨(m : Nat), by show natR m * natR 1 = natR m; rw [natR_one, Rat.mul_one]⟩, by have := natR_nonneg m; grind, Rat.le_refl⟩
end Md
namespace Md
open PySem L2 Evl
def Says (G : List PlV) (o : Bool) (c : Nat → Nat) (ch : Nat → PyData) : Prop := ∀ k, k < G.length → (vl G k).k = some o → ch k = .int (c k : Int) ∧ c k < (vl G k).bs.length
theorem vl_range {n : Nat} {f : Nat → PlV} {k : Nat} (h : k < n) : vl ((List.range n).map f) k = f k := by
  have h1 := vl_get (G := (List.range n).map f) (k := k) (by rw [List.length_map, List.length_range]; exact h)
  rw [List.getElem?_map, List.getElem?_range h] at h1
  exact (Option.some.inj h1).symm
end Md
namespace Md
open PySem L2 Evl
end Md
namespace Md
open PySem L2 Evl
theorem one_small : SmallN (1, 1) := ⟨by decide, by decide, by decide, by decide⟩
theorem chV_fil {G : List PlV} {c : Nat → Nat} {w dn dd M0 : Nat} (hW : WfVG w G) (hw : w ≤ 999) (hc : OkC G c) (hg : ∀ p ∈ G, p.g.2.natAbs ∣ M0) (h1 : dn < dd) (h2 : dd ≤ 2 ^ 512) (h3 : 0 < M0) (h4 : M0 < 2 ^ 200) (h5 : Red ((dn : Int), (dd : Int))) : FilOk (chV G c) dn dd M0 := by
  have hl : (chV G c).length = G.length := chV_len
  refine ⟨by rw [hl]; exact hW.l12, chV_wf hW hc, fun x hx => ?_, fun x hx q hq => ?_, fun x hx => ?_, fun x hx => ?_, h1, h2, h3, h4, h5⟩ <;> rw [hl] at hx <;> have hp := vl_wf hW hx
  · rw [chV_at hx]
    split
    · exact hp.l6
    · exact (by decide : 1 ≤ 6)
  · rw [chV_at hx] at hq
    by_cases hk : (vl G x).k = none
    · rw [if_pos hk] at hq
      exact (hp.c hk q hq).1
    · rw [if_neg hk] at hq
      rw [List.mem_singleton.mp hq]
      exact one_small
  · rw [chV_at hx]
    split
    · exact ⟨hp.g, hg _ (vl_mem hx)⟩
    · exact ⟨hp.g, hg _ (vl_mem hx)⟩
  · unfold scD2
    rw [chV_at hx]
    by_cases hk : (vl G x).k = none
    · rw [if_pos hk]
      obtain ⟨W, w0, w1, w2⟩ := hp.w hk
      have d : denL ((vl G x).bs.map (·.1)) ∣ W := denL_to fun e he => by
        obtain ⟨q, hq, rfl⟩ := List.mem_map.mp he
        exact w2 q hq
      have := Nat.le_of_dvd w0 d
      show denL ((vl G x).bs.map (·.1)) ≤ 1000
      omega
    · rw [if_neg hk]
      exact (by decide : denL [((1 : Int), (1 : Int))] ≤ 1000)
theorem chV_gain {G : List PlV} {c : Nat → Nat} {x : Nat} (hx : x < G.length) : gainC (chV G c) x = qN (vl G x).g := by
  unfold gainC
  rw [chV_at hx]
  split <;> rfl
end Md
namespace Md
open PySem L2 Evl
structure GamOk (G : List PlV) (w dn dd M0 : Nat) : Prop where
  W : WfVG w G
  w9 : w ≤ 999
  g : ∀ p ∈ G, p.g.2.natAbs ∣ M0
  dl : dn < dd
  db : dd ≤ 2 ^ 512
  m0 : 0 < M0
  mb : M0 < 2 ^ 200
  red : Red ((dn : Int), (dd : Int))
def gnV (G : List PlV) (k : Nat) : Rat := qN (vl G k).g
structure WorOf (G : List PlV) (dn dd M0 : Nat) (c : Nat → Nat) (v : Nat → Rat) : Prop where
  eq : IsWor (chV G c) (natR dn / natR dd) (gnV G) v
  nb : ∃ M, 0 < M ∧ M ≤ (2 ^ 27 * dd) ^ 12 * M0 ∧ ∀ j, j < G.length → NB M (1000 * dd) (v j)
theorem wor_gain {G : List PlV} {c : Nat → Nat} {β : Rat} {v : Nat → Rat} (h : IsWor (chV G c) β (gainC (chV G c)) v) : IsWor (chV G c) β (gnV G) v := fun x hx => by
  rw [h x hx, chV_gain (by rw [chV_len] at hx; exact hx)]
  rfl
end Md
namespace Md
open PySem L2 Evl
end Md
set_option Elab.async false
set_option linter.all false
set_option maxRecDepth 100000
set_option maxHeartbeats 2000000
namespace Md
open PySem L2 Evl
def tgB (p : PlV) (i : Nat) : Nat := (p.bs.getD i ((1, 1), 0)).2
def bestI (p : PlV) (f : Nat → Rat) : Nat := (p.bs.map fun q => f q.2).findIdx fun r => decide (r = vW p f)
section
variable {w n : Nat} {p : PlV} {o : Bool} {f : Nat → Rat}
theorem tgB_map {i : Nat} (h : i < p.bs.length) : (p.bs.map fun q => f q.2)[i]? = some (f (tgB p i)) := by
  unfold tgB
  rw [List.getElem?_map, List.getElem?_eq_getElem h, List.getD_eq_getElem?_getD, List.getElem?_eq_getElem h]
  rfl
theorem tgB_lt (hw : WfV w n p) {i : Nat} (h : i < p.bs.length) : tgB p i < n := by
  unfold tgB
  rw [List.getD_eq_getElem?_getD, List.getElem?_eq_getElem h]
  exact hw.t _ (List.getElem_mem _)
theorem vW_side (hk : p.k = some o) : vW p f = tkQ o (p.bs.map fun q => f q.2) := by
  unfold vW
  rw [hk]
theorem best_lt (hw : WfV w n p) (hk : p.k = some o) : bestI p f < p.bs.length := by
  have h : bestI p f < (p.bs.map fun q => f q.2).length := List.findIdx_lt_length_of_exists ⟨_, tk_mem (o := o) (l := p.bs.map fun q => f q.2) (by rw [List.length_map]; exact hw.l1), by rw [vW_side hk]; exact decide_eq_true rfl⟩
  rwa [List.length_map] at h
theorem best_is (hw : WfV w n p) (hk : p.k = some o) : f (tgB p (bestI p f)) = vW p f := by
  have h := best_lt (f := f) hw hk
  have h2 : bestI p f < (p.bs.map fun q => f q.2).length := by rw [List.length_map]; exact h
  have h3 := List.findIdx_getElem (w := h2)
  have h4 := tgB_map (f := f) h
  rw [List.getElem?_eq_getElem h2] at h4
  have h5 := of_decide_eq_true h3
  rw [← Option.some.inj h4]
  exact h5
theorem vW_ge {i : Nat} (hk : p.k = some true) (h : i < p.bs.length) : f (tgB p i) ≤ vW p f := by
  rw [vW_side hk]
  exact tk_hi (List.mem_of_getElem? (tgB_map h))
theorem vW_le {i : Nat} (hk : p.k = some false) (h : i < p.bs.length) : vW p f ≤ f (tgB p i) := by
  rw [vW_side hk]
  exact tk_lo (List.mem_of_getElem? (tgB_map h))
end
def impC (G : List PlV) (o : Bool) (f : Nat → Rat) (c : Nat → Nat) (k : Nat) : Nat :=
  if (vl G k).k = some o ∧ f (tgB (vl G k) (bestI (vl G k) f)) ≠ f (tgB (vl G k) (c k)) then bestI (vl G k) f else c k
def Best (G : List PlV) (o : Bool) (c : Nat → Nat) (f : Nat → Rat) : Prop := ∀ x, x < G.length → (vl G x).k = some o → f (tgB (vl G x) (c x)) = vW (vl G x) f
section
variable {w : Nat} {G : List PlV} {o : Bool} {f : Nat → Rat} {c d : Nat → Nat}
theorem tgV_B {x : Nat} : tgV G c x = tgB (vl G x) (c x) := rfl
theorem imp_ok (hW : WfVG w G) (hc : OkC G c) : OkC G (impC G o f c) := fun x hx hk => by
  unfold impC
  split
  · rename_i h
    exact best_lt (vl_wf hW hx) h.1
  · exact hc x hx hk
theorem imp_fix (hW : WfVG w G) (h : ∀ x, x < G.length → (vl G x).k ≠ none → impC G o f c x = c x) : Best G o c f := fun x hx hk => by
  have hb := best_is (f := f) (vl_wf hW hx) hk
  have e := h x hx (by rw [hk]; intro z; cases z)
  unfold impC at e
  by_cases q : f (tgB (vl G x) (bestI (vl G x) f)) = f (tgB (vl G x) (c x))
  · rw [← q]
    exact hb
  · rw [if_pos ⟨hk, q⟩] at e
    rw [← e]
    exact hb
theorem imp_le (hW : WfVG w G) (hc : OkC G c) {x : Nat} (hx : x < G.length) (hk : (vl G x).k ≠ none) : f (tgV G (impC G false f c) x) ≤ f (tgV G c x) := by
  rw [tgV_B, tgV_B]
  unfold impC
  split
  · rename_i h
    rw [best_is (f := f) (vl_wf hW hx) h.1]
    exact vW_le h.1 (hc x hx hk)
  · exact Rat.le_refl
theorem imp_ge (hW : WfVG w G) (hc : OkC G c) {x : Nat} (hx : x < G.length) (hk : (vl G x).k ≠ none) : f (tgV G c x) ≤ f (tgV G (impC G true f c) x) := by
  rw [tgV_B, tgV_B]
  unfold impC
  split
  · rename_i h
    rw [best_is (f := f) (vl_wf hW hx) h.1]
    exact vW_ge h.1 (hc x hx hk)
  · exact Rat.le_refl
theorem imp_ne {x : Nat} (h : impC G o f c x ≠ c x) : (vl G x).k = some o ∧ f (tgV G (impC G o f c) x) ≠ f (tgV G c x) := by
  by_cases q : (vl G x).k = some o ∧ f (tgB (vl G x) (bestI (vl G x) f)) ≠ f (tgB (vl G x) (c x))
  · refine ⟨q.1, ?_⟩
    rw [tgV_B, tgV_B]
    have e : impC G o f c x = bestI (vl G x) f := by
      unfold impC
      rw [if_pos q]
    rw [e]
    exact q.2
  · unfold impC at h
    rw [if_neg q] at h
    exact absurd rfl h
end
section
variable {G : List PlV} {o : Bool} {c d : Nat → Nat}
end
end Md
namespace Md
open PySem L2 Evl
section
variable {w : Nat} {G : List PlV} {β : Rat}
theorem chV_congr {c d : Nat → Nat} (h : ∀ x, x < G.length → (vl G x).k ≠ none → c x = d x) : chV G c = chV G d := by
  unfold chV
  refine List.map_congr_left fun x hx => ?_
  by_cases hk : (vl G x).k = none
  · rw [if_pos hk, if_pos hk]
  · rw [if_neg hk, if_neg hk]
    unfold tgV
    rw [h x (List.mem_range.mp hx) hk]
open Classical in
noncomputable def wch (G : List PlV) (β : Rat) (c : Nat → Nat) : Nat → Rat := if h : ∃ v, IsWor (chV G c) β (gnV G) v then h.choose else fun _ => 0
theorem wch_is {c : Nat → Nat} (hW : WfVG w G) (hc : OkC G c) (h0 : 0 ≤ β) (h1 : β < 1) {v : Nat → Rat} (hv : IsWor (chV G c) β (gnV G) v) : ∀ x, x < G.length → wch G β c x = v x := fun x hx => by
  have h : ∃ v, IsWor (chV G c) β (gnV G) v := ⟨v, hv⟩
  unfold wch
  rw [dif_pos h]
  exact wor_unique (chV_wf hW hc) h0 h1 h.choose_spec hv x (by rw [chV_len]; exact hx)
theorem sumW_congr {n : Nat} {f g : Nat → Rat} (h : ∀ x, x < n → f x = g x) : sumW n f = sumW n g := by
  unfold sumW
  congr 1
  exact List.map_congr_left fun x hx => h x (List.mem_range.mp hx)
def lsC (G : List PlV) (c : Nat → Nat) : List Nat := (List.range G.length).map fun x => if (vl G x).k = none then 0 else c x
def cL (l : List Nat) (x : Nat) : Nat := l.getD x 0
noncomputable def scL (G : List PlV) (β : Rat) (l : List Nat) : Rat := sumW G.length (wch G β (cL l))
theorem cL_ls {c : Nat → Nat} {x : Nat} (hx : x < G.length) (hk : (vl G x).k ≠ none) : cL (lsC G c) x = c x := by
  unfold cL lsC
  rw [List.getD_eq_getElem?_getD, List.getElem?_map, List.getElem?_range hx]
  show (if (vl G x).k = none then 0 else c x) = c x
  rw [if_neg hk]
theorem wch_congr {c d : Nat → Nat} (h : ∀ x, x < G.length → (vl G x).k ≠ none → c x = d x) : wch G β c = wch G β d := by
  unfold wch
  rw [chV_congr h]
theorem scL_ls (c : Nat → Nat) : scL G β (lsC G c) = sumW G.length (wch G β c) := by
  unfold scL
  rw [wch_congr (d := c) fun x hx hk => cL_ls hx hk]
def allL (G : List PlV) : List (List Nat) := allC (G.map fun p => p.bs.length)
theorem ls_mem {c : Nat → Nat} (hW : WfVG w G) (hc : OkC G c) : lsC G c ∈ allL G := by
  refine mem_allC (by unfold lsC; rw [List.length_map, List.length_map, List.length_range]) fun i hi => ?_
  rw [List.length_map] at hi
  have e : (G.map fun p => p.bs.length).getD i 0 = (vl G i).bs.length := by
    rw [List.getD_eq_getElem?_getD, List.getElem?_map, vl_get hi]
    rfl
  rw [e]
  by_cases hk : (vl G i).k = none
  · unfold lsC
    rw [List.getD_eq_getElem?_getD, List.getElem?_map, List.getElem?_range hi]
    show (if (vl G i).k = none then 0 else c i) < _
    rw [if_pos hk]
    exact (vl_wf hW hi).l1
  · have := cL_ls (c := c) hi hk
    unfold cL at this
    rw [this]
    exact hc i hi hk
noncomputable def msL (G : List PlV) (β : Rat) (c : Nat → Nat) : Nat := ((allL G).filter fun l => decide (scL G β l < scL G β (lsC G c))).length
noncomputable def msG (G : List PlV) (β : Rat) (r : Rat) : Nat := ((allL G).filter fun l => decide (r < scL G β l)).length
theorem msL_lt {c d : Nat → Nat} (hW : WfVG w G) (hd : OkC G d) (h : sumW G.length (wch G β d) < sumW G.length (wch G β c)) : msL G β d < msL G β c := by
  have h2 : scL G β (lsC G d) < scL G β (lsC G c) := by
    rw [scL_ls, scL_ls]
    exact h
  exact count_lt (S := scL G β) (a := lsC G c) (b := lsC G d) h2 (ls_mem hW hd)
theorem msG_lt {r : Rat} {d : Nat → Nat} (hW : WfVG w G) (hd : OkC G d) (h : r < sumW G.length (wch G β d)) : msG G β (sumW G.length (wch G β d)) < msG G β r := by
  have hm := ls_mem hW hd
  have e := scL_ls (β := β) (G := G) d
  unfold msG
  rw [← e] at h ⊢
  generalize allL G = L at hm ⊢
  have le : ∀ l : List (List Nat), (l.filter fun y => decide (scL G β (lsC G d) < scL G β y)).length ≤ (l.filter fun y => decide (r < scL G β y)).length := fun l => by
    induction l with
    | nil => exact Nat.le_refl _
    | cons y l ih =>
      by_cases q : scL G β (lsC G d) < scL G β y
      · have z : r < scL G β y := by grind
        rw [List.filter_cons_of_pos (by exact decide_eq_true q), List.filter_cons_of_pos (by exact decide_eq_true z), List.length_cons, List.length_cons]
        omega
      · rw [List.filter_cons_of_neg (by rw [decide_eq_false q]; decide)]
        by_cases z : r < scL G β y
        · rw [List.filter_cons_of_pos (by exact decide_eq_true z), List.length_cons]
          omega
        · rw [List.filter_cons_of_neg (by rw [decide_eq_false z]; decide)]
          exact ih
  induction L with
  | nil => cases hm
  | cons y l ih =>
    have h0 : ¬ scL G β (lsC G d) < scL G β (lsC G d) := by grind
    rcases List.mem_cons.mp hm with rfl | hm
    · rw [List.filter_cons_of_neg (by rw [decide_eq_false h0]; decide), List.filter_cons_of_pos (by exact decide_eq_true h), List.length_cons]
      have := le l
      omega
    · have ih := ih hm
      by_cases q : scL G β (lsC G d) < scL G β y
      · have z : r < scL G β y := by grind
        rw [List.filter_cons_of_pos (by exact decide_eq_true q), List.filter_cons_of_pos (by exact decide_eq_true z), List.length_cons, List.length_cons]
        omega
      · rw [List.filter_cons_of_neg (by rw [decide_eq_false q]; decide)]
        by_cases z : r < scL G β y
        · rw [List.filter_cons_of_pos (by exact decide_eq_true z), List.length_cons]
          omega
        · rw [List.filter_cons_of_neg (by rw [decide_eq_false z]; decide)]
          exact ih
theorem turn_gt {c d : Nat → Nat} (h : WfVG w G) (hd : OkC G d) (h0 : 0 < β) (h1 : β < 1) {e u v : Nat → Rat} (hu : IsWor (chV G c) β e u) (hv : IsWor (chV G d) β e v)
    (hm : ∀ x, x < G.length → (vl G x).k ≠ none → u (tgV G c x) ≤ u (tgV G d x)) {y : Nat} (hy : y < G.length) (hk : (vl G y).k ≠ none) (hlt : u (tgV G c y) < u (tgV G d y)) : sumW G.length u < sumW G.length v := by
  have key := turn_more (c := c) h hd h0 h1 hu hv hm
  refine sumW_lt key hy ?_
  have a := hu y (by rw [chV_len]; exact hy)
  have b := hv y (by rw [chV_len]; exact hy)
  rw [mean_side hy hk] at a b
  have k := key _ (tgV_lt h hd hy hk)
  have e1 : β * u (tgV G c y) < β * u (tgV G d y) := Rat.mul_lt_mul_of_pos_left hlt h0
  have e2 : β * u (tgV G d y) ≤ β * v (tgV G d y) := Rat.mul_le_mul_of_nonneg_left k (Rat.le_of_lt h0)
  grind
end
end Md
namespace Md
open PySem L2 Evl
theorem GamOk.mb2 {G : List PlV} {w dn dd M0 : Nat} (x : GamOk G w dn dd M0) : 1000 * dd * ((2 ^ 27 * dd) ^ 12 * M0) < 2 ^ 7200 := by
  have h1 : 2 ^ 27 * dd ≤ 2 ^ 27 * 2 ^ 512 := Nat.mul_le_mul_left _ x.db
  have h2 : (2 ^ 27 * dd) ^ 12 ≤ (2 ^ 27 * 2 ^ 512) ^ 12 := Nat.pow_le_pow_left h1 12
  have h3 : (2 ^ 27 * dd) ^ 12 * M0 ≤ (2 ^ 27 * 2 ^ 512) ^ 12 * 2 ^ 200 := Nat.mul_le_mul h2 (Nat.le_of_lt x.mb)
  have h4 : 1000 * dd ≤ 1000 * 2 ^ 512 := Nat.mul_le_mul_left _ x.db
  exact Nat.lt_of_le_of_lt (Nat.mul_le_mul h4 h3) (by decide +kernel)
theorem WorOf.big {G : List PlV} {w dn dd M0 : Nat} {c : Nat → Nat} {v : Nat → Rat} (y : WorOf G dn dd M0 c v) (x : GamOk G w dn dd M0) {j : Nat} (hj : j < G.length) : Big 8000 (canon (v j)) := by
  obtain ⟨M, m0, mb, h⟩ := y.nb
  have hd := x.dl
  refine ((h j hj).big m0 (by omega) (Nat.lt_of_le_of_lt (Nat.mul_le_mul_left _ mb) x.mb2)).mono (by decide)
theorem GamOk.beta {G : List PlV} {w dn dd M0 : Nat} (x : GamOk G w dn dd M0) (h : 0 < dn) : 0 < natR dn / natR dd ∧ natR dn / natR dd < 1 := by
  have d0 : (0 : Rat) < natR dd := cast_pos (by have := x.dl; omega)
  have n0 : (0 : Rat) < natR dn := cast_pos (by omega)
  have hl : natR dn < natR dd := Rat.intCast_lt_intCast.mpr (by have := x.dl; omega)
  refine ⟨(Rat.lt_div_iff d0).mpr (by rw [Rat.zero_mul]; exact n0), ?_⟩
  exact (Rat.div_lt_iff d0).mpr (by rw [Rat.one_mul]; exact hl)
end Md
namespace Md
open PySem L2 Evl
theorem FilOk.ex {C : List PlC} {dn dd M0 : Nat} (x : FilOk C dn dd M0) : ∃ v, IsWor C (natR dn / natR dd) (gainC C) v := by
  have key : ∀ k, k ≤ C.length → ∃ T d, Elim C.length (aF C dn dd) k T d := fun k => by
    induction k with
    | zero => exact fun _ => ⟨_, 1, elim_start _ _⟩
    | succ k ih =>
      intro hk
      obtain ⟨T, d, h⟩ := ih (by omega)
      exact ⟨_, _, (elim_step h (by omega) (x.sol.piv k T d (by omega) h)).1⟩
  obtain ⟨T, d, h⟩ := key C.length (Nat.le_refl _)
  exact ⟨_, (x.fin h).1⟩
section
variable {G : List PlV} {w dn dd M0 : Nat} {c : Nat → Nat} {v : Nat → Rat}
theorem GamOk.ex (x : GamOk G w dn dd M0) (hc : OkC G c) : ∃ v, IsWor (chV G c) (natR dn / natR dd) (gnV G) v := by
  obtain ⟨v, hv⟩ := (chV_fil x.W x.w9 hc x.g x.dl x.db x.m0 x.mb x.red).ex
  exact ⟨v, wor_gain hv⟩
theorem GamOk.wch (x : GamOk G w dn dd M0) (h : 0 < dn) (hc : OkC G c) (hv : IsWor (chV G c) (natR dn / natR dd) (gnV G) v) : sumW G.length (wch G (natR dn / natR dd) c) = sumW G.length v :=
  sumW_congr (wch_is x.W hc (Rat.le_of_lt (x.beta h).1) (x.beta h).2 hv)
theorem imp_less (x : GamOk G w dn dd M0) (h : 0 < dn) (hc : OkC G c) (hv : IsWor (chV G c) (natR dn / natR dd) (gnV G) v) {y : Nat} (hy : y < G.length) (hne : impC G false v c y ≠ c y) : msL G (natR dn / natR dd) (impC G false v c) < msL G (natR dn / natR dd) c := by
  have hd := imp_ok (o := false) (f := v) x.W hc
  obtain ⟨u, hu⟩ := x.ex hd
  refine msL_lt x.W hd ?_
  rw [x.wch h hd hu, x.wch h hc hv]
  obtain ⟨hk, hn⟩ := imp_ne hne
  have hk2 : (vl G y).k ≠ none := by rw [hk]; intro z; cases z
  have hle := imp_le (f := v) x.W hc hy hk2
  exact turn_less x.W hd (x.beta h).1 (x.beta h).2 hv hu (fun z hz hkz => imp_le x.W hc hz hkz) hy hk2 (by grind)
theorem imp_more (x : GamOk G w dn dd M0) (h : 0 < dn) (hc : OkC G c) (hv : IsWor (chV G c) (natR dn / natR dd) (gnV G) v) (hB : Best G false c v) {y : Nat} (hy : y < G.length) (hne : impC G true v c y ≠ c y) {d : Nat → Nat} (hd : OkC G d) (ho : ∀ z, z < G.length → (vl G z).k = some true → d z = impC G true v c z) :
    sumW G.length (wch G (natR dn / natR dd) c) < sumW G.length (wch G (natR dn / natR dd) d) := by
  obtain ⟨u, hu⟩ := x.ex hd
  rw [x.wch h hd hu, x.wch h hc hv]
  obtain ⟨hk, hn⟩ := imp_ne hne
  have hk2 : (vl G y).k ≠ none := by rw [hk]; intro z; cases z
  have hle := imp_ge (f := v) x.W hc hy hk2
  have e : tgV G d y = tgV G (impC G true v c) y := by
    unfold tgV
    rw [ho y hy hk]
  refine turn_gt x.W hd (x.beta h).1 (x.beta h).2 hv hu (fun z hz hkz => ?_) hy hk2 (by rw [e]; grind)
  cases q : (vl G z).k with
  | none => exact absurd q hkz
  | some o =>
    cases o with
    | true =>
      have e : tgV G d z = tgV G (impC G true v c) z := by
        unfold tgV
        rw [ho z hz q]
      rw [e]
      exact imp_ge x.W hc hz hkz
    | false =>
      have := hB z hz q
      rw [tgV_B, this, tgV_B]
      exact vW_le q (hd z hz hkz)
end
end Md
set_option Elab.async false
set_option linter.all false
set_option maxRecDepth 100000
set_option maxHeartbeats 2000000
namespace Md
open PySem L2 Evl
end Md
namespace Md
open PySem PySem.Spec PyProof.Rows L2 Evl
def zipD3 (xs ys zs : List PyData) : List PyData := List.zipWith (fun x p => .tuple [x, p.1, p.2]) xs (ys.zip zs)
def diZ3 (da : DN) : DN := fun Γ P => da Γ fun ds => match ds with
  | [x, y, z] => onL x fun xs => onL y fun ys => onL z fun zs => P (zipD3 xs ys zs)
  | _ => False
end Md
set_option Elab.async false
set_option linter.all false
set_option maxRecDepth 100000
set_option maxHeartbeats 2000000
namespace Md
open PySem L2 Evl
def kMnA : Con := con2 fun x y P => ∃ (p : PlV) (w n M B S : Nat) (f : Nat → Rat), x = p.D ∧ y = listQ n f ∧ p.k = none ∧ Beh p w n M B S f ∧ P (nQ (vW p f))
def kMnU : Con := con2 fun x y P => kMn0 [x, y] P ∨ kMnA [x, y] P
theorem Beh.b3 {p : PlV} {w n M B S : Nat} {f : Nat → Rat} (x : Beh p w n M B S f) {q : BrC} (hq : q ∈ p.bs) : Big 3000 (canon (f q.2)) := nb_big3 (x.hf q hq) x.M0 (Nat.lt_of_le_of_lt (Nat.le_mul_of_pos_right _ x.S0) x.MS) (Nat.le_trans x.Bl (Nat.pow_le_pow_right (by decide) (by decide)))
theorem Beh.b3t {p : PlV} {w n M B S : Nat} {f : Nat → Rat} (x : Beh p w n M B S f) (hk : p.k = none) {q : BrC} (hq : q ∈ p.bs) : Big 3000 (canon (qN q.1 * f q.2)) := nb_big3 (x.term hk hq) (Nat.mul_pos x.M0 x.S0) x.MS x.t1000
theorem Beh.b3p {p : PlV} {w n M B S : Nat} {f : Nat → Rat} (x : Beh p w n M B S f) (hk : p.k = none) (j : Nat) : Big 3000 (canon ((p.bs.map fun q => qN q.1 * f q.2).take j).sum) := nb_big3 (x.part hk j) (Nat.mul_pos x.M0 x.S0) x.MS (Nat.le_trans x.Bl (Nat.pow_le_pow_right (by decide) (by decide)))
structure OnwOk (G : List PlV) (w dn dd U S M B n : Nat) (f : Nat → Rat) : Prop where
  W : WfVG w G
  d1 : 1 ≤ dn
  d2 : dn ≤ dd
  d3 : dd < 2 ^ 1000
  red : Red ((dn : Int), (dd : Int))
  gU : ∀ p ∈ G, p.g.2.natAbs ∣ U
  cS : ∀ p ∈ G, p.k = none → ∀ q ∈ p.bs, q.1.2.natAbs ∣ S
  UM : U ∣ M
  M0 : 0 < M
  S0 : 0 < S
  MS : M * (S * dd) < 2 ^ 1998
  Bl : B ≤ 2 ^ 800
  hf : ∀ k, k < G.length → NB M B (f k)
section
variable {G : List PlV} {w dn dd U S M B n : Nat} {f : Nat → Rat} (x : OnwOk G w dn dd U S M B n f)
include x
theorem OnwOk.ms : M * S < 2 ^ 1998 := Nat.lt_of_le_of_lt (Nat.mul_le_mul_left _ (Nat.le_mul_of_pos_right _ (by have := x.d1; have := x.d2; omega))) x.MS
theorem OnwOk.beh {p : PlV} (hp : p ∈ G) : Beh p w G.length M B S f := ⟨x.W.p p hp, x.cS p hp, x.M0, x.S0, x.ms, Nat.le_trans x.Bl (Nat.pow_le_pow_right (by decide) (by decide)), fun q hq => x.hf _ ((x.W.p p hp).t q hq)⟩
theorem OnwOk.nbt {k : Nat} (hk : k < G.length) : NB (M * S * dd) B (natR dn / natR dd * vW (vl G k) f) := by
  have hm := vl_mem hk
  have a := (x.beh hm).nb
  have d := disc_le x.d2 (by have := x.d1; have := x.d2; omega)
  have b : NB dd 1 (natR dn / natR dd) := ⟨d.2.2, by have := d.1; rw [natR_one]; grind, by have := d.2.1; rw [natR_one]; exact this⟩
  have c := nb_mul a b
  rw [Nat.mul_one, Rat.mul_comm] at c
  exact c
theorem OnwOk.nbg {k : Nat} (hk : k < G.length) : NB (M * S * dd) 1000 (qN (vl G k).g) := by
  have hm := vl_mem hk
  have hg := (x.W.p _ hm).g
  have b := q_small hg
  have n1 : NB U 1000 (qN (vl G k).g) := ⟨zt_den (red_small hg) (x.gU _ hm), b.1, b.2⟩
  exact n1.mono (Nat.dvd_trans x.UM (Nat.dvd_trans (Nat.dvd_mul_right _ _) (Nat.dvd_mul_right _ _))) (Nat.le_refl _)
theorem OnwOk.nbo {k : Nat} (hk : k < G.length) : NB (M * S * dd) (1000 + B) (onw G (natR dn / natR dd) f k) := nb_add (x.nbg hk) (x.nbt hk)
theorem OnwOk.pos : 0 < M * S * dd := Nat.mul_pos (Nat.mul_pos x.M0 x.S0) (by have := x.d1; have := x.d2; omega)
theorem OnwOk.lt : M * S * dd < 2 ^ 1998 := by
  rw [Nat.mul_assoc]
  exact x.MS
theorem OnwOk.le1 : 1000 + B ≤ 2 ^ 1000 := by
  have h1 : (1000 : Nat) ≤ 2 ^ 800 := Nat.le_trans (by decide : 1000 ≤ 2 ^ 10) (Nat.pow_le_pow_right (by decide) (by decide))
  have h2 := x.Bl
  have h3 : 2 ^ 800 + 2 ^ 800 = 2 ^ 801 := by rw [← Nat.two_mul, ← Nat.pow_succ']
  have h4 : (2 : Nat) ^ 801 ≤ 2 ^ 1000 := Nat.pow_le_pow_right (by decide) (by decide)
  exact Nat.le_trans (Nat.le_trans (Nat.add_le_add h1 h2) (Nat.le_of_eq h3)) h4
theorem OnwOk.ok {k : Nat} (hk : k < G.length) : Ok (onw G (natR dn / natR dd) f k) := nb_ok (x.nbo hk) x.pos x.lt x.le1
end
theorem eqv_QA {f g : Nat → Rat} : ∀ l : List Nat, (PyData.eqvAll (l.map fun k => nQ (f k)) (l.map fun k => nQ (g k)) = true ↔ ∀ k ∈ l, f k = g k)
  | [] => ⟨fun _ k hk => absurd hk (by simp), fun _ => rfl⟩
  | a :: l => by
    rw [List.map_cons, List.map_cons, PyData.eqvAll, Bool.and_eq_true, eqv_QA l, eqv_nQ, decide_eq_true_iff]
    constructor
    · rintro ⟨h1, h2⟩ k hk
      rcases List.mem_cons.mp hk with rfl | hk
      · exact h1
      · exact h2 k hk
    · exact fun h => ⟨h a List.mem_cons_self, fun k hk => h k (List.mem_cons_of_mem _ hk)⟩
theorem eqv_lQ {n : Nat} {f g : Nat → Rat} : PyData.eqv (listQ n f) (listQ n g) = decide (∀ k, k < n → f k = g k) := by
  unfold listQ
  rw [PyData.eqv, Bool.eq_iff_iff, eqv_QA, decide_eq_true_iff]
  exact ⟨fun h k hk => h k (List.mem_range.mpr hk), fun h k hk => h k (List.mem_range.mp hk)⟩
theorem sh_lQ {n : Nat} {f : Nat → Rat} : SeqAt.shaped (listQ n f) = true := sh_Qs (List.range n) f
section
variable {K : PySem.W.Frag} {vs : List V} {h : Hp} {Q : VK} {E : XK}
end
end Md
namespace Md
open PySem L2 Evl
def dPar3 (i j l : Nat) (da : DN) : DS := fun DD Γ => da Γ fun ds => match ds with
  | [x, y, z] => DD.nx (((Γ.set i (some (.d x))).set j (some (.d y))).set l (some (.d z)))
  | _ => False
def dPar3O (i j l : Nat) : DS := fun DD Γ => i < Γ.length ∧ j < Γ.length ∧ l < Γ.length ∧ DD.nx (((Γ.set i (some (.o []))).set j (some (.o []))).set l (some (.o [])))
end Md
namespace Md
open PySem L2 Evl
def ShG (G : List PlV) : Prop := ∀ p ∈ G, p.g.2.natAbs ∣ 6 ∧ p.g.1.natAbs ≤ 9
def gG (G : List PlV) (h : Nat → Rat) : List PlV := (List.range G.length).map fun k => ⟨canon (h k), (vl G k).k, (vl G k).bs⟩
section
variable {G : List PlV} {h : Nat → Rat} {w : Nat}
theorem gG_len : (gG G h).length = G.length := by
  unfold gG
  rw [List.length_map, List.length_range]
theorem gG_at {k : Nat} (hk : k < G.length) : vl (gG G h) k = ⟨canon (h k), (vl G k).k, (vl G k).bs⟩ := vl_range hk
theorem gG_gn {k : Nat} (hk : k < G.length) : gnV (gG G h) k = h k := by
  unfold gnV
  rw [gG_at hk]
  exact q_canon _
theorem gG_wf (hW : WfVG w G) (hs : ∀ k, k < G.length → SmallN (canon (h k))) : WfVG w (gG G h) := by
  refine ⟨by rw [gG_len]; exact hW.l1, by rw [gG_len]; exact hW.l12, fun p hp => ?_⟩
  rw [gG_len]
  obtain ⟨k, hk, rfl⟩ := List.mem_map.mp hp
  have hk := List.mem_range.mp hk
  have x := vl_wf hW hk
  exact ⟨hs k hk, x.l1, x.l6, x.t, x.c, x.w, x.s⟩
end
end Md
namespace Md
open PySem L2 Evl
section
variable {g m : Int × Int}
end
end Md
namespace Md
open PySem L2 Evl
def pD (G : List PlV) (h : Nat → Rat) (k : Nat) : PyData := .tuple [nQ (h k), .str (kdV (vl G k).k), .list (vl G k).el]
theorem gG_den {G : List PlV} {h : Nat → Rat} {M : Nat} (hd : ∀ k, k < G.length → (canon (h k)).2.natAbs ∣ M) : ∀ p ∈ gG G h, p.g.2.natAbs ∣ M := fun p hp => by
  obtain ⟨k, hk, rfl⟩ := List.mem_map.mp hp
  exact hd k (List.mem_range.mp hk)
end Md
namespace Md
open PySem L2 Evl
def IsDefE (K : PySem.W.Frag) (mg : Str → Option Value) (x : Str) (st : Stmt) (ps : List Str) : Prop := ∃ f fd u, FunD K x x (defArgs st) (defBody st) (defScope st) [u] [] f fd ∧ mg x = some (.ref f) ∧ Binds K fd ps []
theorem isDefE_of {K : PySem.W.Frag} {mg : Str → Option Value} {x : Str} {st : Stmt} {ps : List Str} {f : Addr} {fd : FuncData} {u : V} (F : FunD K x x (defArgs st) (defBody st) (defScope st) [u] [] f fd) (m : mg x = some (.ref f)) (h : ∃ ds, Vals ([u].drop 1) ds ∧ Binds K fd ps ds) : IsDefE K mg x st ps := by
  obtain ⟨ds, hv, hb⟩ := h
  have : ds = [] := by
    have hl := hv.length
    exact List.length_eq_zero_iff.mp hl.symm
  subst this
  exact ⟨f, fd, u, F, m, hb⟩
end Md
set_option Elab.async false
set_option linter.all false
set_option maxRecDepth 100000
set_option maxHeartbeats 2000000
namespace Md
open PySem L2 Evl
def dRevL (de : DE) : DN := fun Γ P => de Γ fun x => onL x fun ds => P ds.reverse
end Md
set_option Elab.async false
set_option linter.all false
set_option maxRecDepth 100000
set_option maxHeartbeats 2000000
namespace Md
open PySem L2 Evl
abbrev ConT := List PyData → (List Sl → Prop) → Prop
section
variable {K : PySem.W.Frag} {te : TE} {de : DE} {ts : TA} {dn : DN} {E : XK} {R : ConT}
def dRetT2 (de : DE) (i : Nat) : DS := fun DD Γ => match gat Γ i with
  | some (.o ds) => de Γ fun x => DD.rp [.d x, .o ds]
  | _ => False
def dAsgT2 (R : ConT) (da : DN) (i j : Nat) : DS := fun DD Γ => da Γ fun ds => R ds fun sls => ∃ x es, sls = [.d x, .o es] ∧ i < Γ.length ∧ j < Γ.length ∧ DD.nx ((Γ.set i (some (.d x))).set j (some (.o es)))
def dAsgOB (i : Nat) (dn : DN) : DS := fun DD Γ => dn (allD Γ) fun ds => (∀ d ∈ ds, scD d = true) ∧ i < Γ.length ∧ DD.nx (Γ.set i (some (.o ds)))
end
section
variable {K : PySem.W.Frag} {N : List Str} {t : TS} {dd : DS} {b h : Hp} {vs : List V} {ds : List PyData} {Q : VK} {R : ConT} {R' : Con} {E : XK}
end
end Md
namespace Md
open PySem L2 Evl
end Md
namespace Md
end Md
set_option Elab.async false
set_option linter.all false
set_option maxRecDepth 100000
set_option maxHeartbeats 2000000
namespace Md
open PySem L2 Evl
section
variable {G : List PlV} {w : Nat} {β : Rat}
end
end Md
namespace Md
open PySem L2 Evl
section
variable {K : PySem.W.Frag} {vs : List V} {h : Hp} {Q : VK} {E : XK}
end
end Md
namespace Md
open PySem L2 Evl
end Md
set_option Elab.async false
set_option linter.all false
set_option maxRecDepth 100000
set_option maxHeartbeats 2000000
namespace Md
def ev : List Int → Rat → Rat
  | [], _ => 0
  | c :: l, x => (c : Rat) + x * ev l x
def l1 : List Int → Nat
  | [] => 0
  | c :: l => c.natAbs + l1 l
def addP : List Int → List Int → List Int
  | [], m => m
  | c :: l, [] => c :: l
  | c :: l, d :: m => (c + d) :: addP l m
def mulC (a : Int) (l : List Int) : List Int := l.map fun c => a * c
def mulP : List Int → List Int → List Int
  | [], _ => []
  | c :: l, m => addP (mulC c m) (0 :: mulP l m)
theorem ev_add : ∀ (l m : List Int) (x : Rat), ev (addP l m) x = ev l x + ev m x
  | [], m, x => by
    show ev m x = 0 + ev m x
    grind
  | c :: l, [], x => by
    show ev (c :: l) x = ev (c :: l) x + 0
    grind
  | c :: l, d :: m, x => by
    show (((c + d : Int)) : Rat) + x * ev (addP l m) x = ((c : Rat) + x * ev l x) + ((d : Rat) + x * ev m x)
    rw [ev_add l m x, Rat.intCast_add]
    grind
theorem l1_add : ∀ (l m : List Int), l1 (addP l m) ≤ l1 l + l1 m
  | [], m => by
    show l1 m ≤ 0 + l1 m
    omega
  | c :: l, [] => by
    show l1 (c :: l) ≤ l1 (c :: l) + 0
    omega
  | c :: l, d :: m => by
    have := l1_add l m
    show (c + d).natAbs + l1 (addP l m) ≤ (c.natAbs + l1 l) + (d.natAbs + l1 m)
    omega
theorem ev_mulC (a : Int) : ∀ (l : List Int) (x : Rat), ev (mulC a l) x = (a : Rat) * ev l x
  | [], x => by
    show (0 : Rat) = (a : Rat) * 0
    grind
  | c :: l, x => by
    show ((a * c : Int) : Rat) + x * ev (mulC a l) x = (a : Rat) * ((c : Rat) + x * ev l x)
    rw [ev_mulC a l x, Rat.intCast_mul]
    grind
theorem l1_mulC (a : Int) : ∀ (l : List Int), l1 (mulC a l) = a.natAbs * l1 l
  | [] => rfl
  | c :: l => by
    show (a * c).natAbs + l1 (mulC a l) = a.natAbs * (c.natAbs + l1 l)
    rw [l1_mulC a l, Int.natAbs_mul, Nat.mul_add]
theorem ev_mul : ∀ (l m : List Int) (x : Rat), ev (mulP l m) x = ev l x * ev m x
  | [], m, x => by
    show (0 : Rat) = 0 * ev m x
    grind
  | c :: l, m, x => by
    show ev (addP (mulC c m) (0 :: mulP l m)) x = ((c : Rat) + x * ev l x) * ev m x
    rw [ev_add, ev_mulC]
    show (c : Rat) * ev m x + (((0 : Int) : Rat) + x * ev (mulP l m) x) = _
    rw [ev_mul l m x]
    have : ((0 : Int) : Rat) = 0 := rfl
    rw [this]
    grind
theorem l1_mul : ∀ (l m : List Int), l1 (mulP l m) ≤ l1 l * l1 m
  | [], m => Nat.zero_le _
  | c :: l, m => by
    have a := l1_add (mulC c m) (0 :: mulP l m)
    have b := l1_mul l m
    have e : l1 (0 :: mulP l m) = l1 (mulP l m) := by
      show (0 : Int).natAbs + _ = _
      simp
    rw [e, l1_mulC] at a
    show l1 (addP (mulC c m) (0 :: mulP l m)) ≤ (c.natAbs + l1 l) * l1 m
    rw [Nat.add_mul]
    omega
theorem ev_zero : ∀ {l : List Int} {p : Nat}, l1 l < p → ev l (natR p) = 0 → ∀ x, ev l x = 0
  | [], _, _, _, _ => rfl
  | c :: l, p, h, h0, x => by
    have hl : l1 (c :: l) = c.natAbs + l1 l := rfl
    rw [hl] at h
    have h0 : (c : Rat) + natR p * ev l (natR p) = 0 := h0
    obtain ⟨z, hz⟩ : ∃ z : Int, ev l (natR p) = (z : Rat) := by
      have : ∀ l : List Int, ∃ z : Int, ev l (natR p) = (z : Rat) := fun l => by
        induction l with
        | nil => exact ⟨0, rfl⟩
        | cons c l ih =>
          obtain ⟨z, hz⟩ := ih
          refine ⟨c + (p : Int) * z, ?_⟩
          show (c : Rat) + natR p * ev l (natR p) = _
          rw [hz, Rat.intCast_add, Rat.intCast_mul]
          rfl
      exact this l
    rw [hz] at h0
    have h1 : c + (p : Int) * z = 0 := by
      have h2 : ((c + (p : Int) * z : Int) : Rat) = ((0 : Int) : Rat) := by
        rw [Rat.intCast_add, Rat.intCast_mul]
        exact h0
      exact Rat.intCast_inj.mp h2
    have hz0 : z = 0 := by
      rcases Int.lt_trichotomy z 0 with q | q | q
      · have : (p : Int) * z ≤ (p : Int) * (-1) := Int.mul_le_mul_of_nonneg_left (by omega) (by omega)
        omega
      · exact q
      · have : (p : Int) * 1 ≤ (p : Int) * z := Int.mul_le_mul_of_nonneg_left (by omega) (by omega)
        omega
    have hc : c = 0 := by
      rw [hz0, Int.mul_zero] at h1
      omega
    have ih := ev_zero (l := l) (p := p) (by omega) (by rw [hz, hz0]; rfl) x
    show (c : Rat) + x * ev l x = 0
    rw [ih, hc]
    have : ((0 : Int) : Rat) = 0 := rfl
    rw [this]
    grind
theorem ev_sign : ∀ {l : List Int} {p q : Nat}, l1 l < p → l1 l < q → ev l (natR p) ≤ 0 → ev l (natR q) ≤ 0
  | [], _, _, _, _, _ => Rat.le_refl
  | c :: l, p, q, hp, hq, h0 => by
    have hl : l1 (c :: l) = c.natAbs + l1 l := rfl
    rw [hl] at hp hq
    have whole : ∀ (p : Nat) (l : List Int), ∃ z : Int, ev l (natR p) = (z : Rat) := fun p l => by
      induction l with
      | nil => exact ⟨0, rfl⟩
      | cons c l ih =>
        obtain ⟨z, hz⟩ := ih
        refine ⟨c + (p : Int) * z, ?_⟩
        show (c : Rat) + natR p * ev l (natR p) = _
        rw [hz, Rat.intCast_add, Rat.intCast_mul]
        rfl
    obtain ⟨z, hz⟩ := whole p l
    obtain ⟨y, hy⟩ := whole q l
    have h0 : (c : Rat) + natR p * ev l (natR p) ≤ 0 := h0
    rw [hz] at h0
    have h1 : c + (p : Int) * z ≤ 0 := by
      have h2 : ((c + (p : Int) * z : Int) : Rat) ≤ ((0 : Int) : Rat) := by
        rw [Rat.intCast_add, Rat.intCast_mul]
        exact h0
      exact Rat.intCast_le_intCast.mp h2
    have key : c + (q : Int) * y ≤ 0 := by
      rcases Int.lt_trichotomy z 0 with s | s | s
      · have s2 : ev l (natR p) ≤ 0 := by
          rw [hz]
          exact Rat.intCast_le_intCast.mpr (show z ≤ 0 by omega)
        have t := ev_sign (l := l) (p := p) (q := q) (by omega) (by omega) s2
        rw [hy] at t
        have t2 : y ≤ 0 := Rat.intCast_le_intCast.mp t
        have t3 : y ≠ 0 := fun e => by
          have := ev_zero (l := l) (p := q) (by omega) (by rw [hy, e]; rfl) (natR p)
          rw [hz] at this
          have : z = 0 := Rat.intCast_inj.mp this
          omega
        have : (q : Int) * y ≤ (q : Int) * (-1) := Int.mul_le_mul_of_nonneg_left (by omega) (by omega)
        omega
      · have t := ev_zero (l := l) (p := p) (by omega) (by rw [hz, s]; rfl) (natR q)
        rw [hy] at t
        have t2 : y = 0 := Rat.intCast_inj.mp t
        rw [t2, Int.mul_zero]
        rw [s, Int.mul_zero] at h1
        exact h1
      · have : (p : Int) * 1 ≤ (p : Int) * z := Int.mul_le_mul_of_nonneg_left (by omega) (by omega)
        omega
    show (c : Rat) + natR q * ev l (natR q) ≤ 0
    rw [hy]
    have : ((c + (q : Int) * y : Int) : Rat) ≤ ((0 : Int) : Rat) := Rat.intCast_le_intCast.mpr key
    rw [Rat.intCast_add, Rat.intCast_mul] at this
    exact this
def PolyE (B : Nat) (F : Nat → Rat) : Prop := ∃ l : List Int, l1 l ≤ B ∧ ∀ p, F p = ev l (natR p)
theorem PolyE.congr {B : Nat} {F G : Nat → Rat} (h : PolyE B F) (e : ∀ p, G p = F p) : PolyE B G := by
  obtain ⟨l, a, b⟩ := h
  exact ⟨l, a, fun p => (e p).trans (b p)⟩
theorem PolyE.mono {B B' : Nat} {F : Nat → Rat} (h : PolyE B F) (e : B ≤ B') : PolyE B' F := by
  obtain ⟨l, a, b⟩ := h
  exact ⟨l, Nat.le_trans a e, b⟩
theorem PolyE.lin (a b : Int) : PolyE (a.natAbs + b.natAbs) fun p => ((a + (p : Int) * b : Int) : Rat) := ⟨[a, b], Nat.le_of_eq (by simp [l1]), fun p => by
  show ((a + (p : Int) * b : Int) : Rat) = (a : Rat) + natR p * ((b : Rat) + natR p * 0)
  rw [Rat.intCast_add, Rat.intCast_mul]
  have : (((p : Nat) : Int) : Rat) = natR p := rfl
  rw [this]
  grind⟩
theorem PolyE.add {A B : Nat} {F G : Nat → Rat} (h : PolyE A F) (g : PolyE B G) : PolyE (A + B) fun p => F p + G p := by
  obtain ⟨l, a, b⟩ := h
  obtain ⟨m, c, d⟩ := g
  exact ⟨addP l m, Nat.le_trans (l1_add l m) (Nat.add_le_add a c), fun p => by
    show F p + G p = _
    rw [ev_add, b p, d p]⟩
theorem PolyE.mul {A B : Nat} {F G : Nat → Rat} (h : PolyE A F) (g : PolyE B G) : PolyE (A * B) fun p => F p * G p := by
  obtain ⟨l, a, b⟩ := h
  obtain ⟨m, c, d⟩ := g
  exact ⟨mulP l m, Nat.le_trans (l1_mul l m) (Nat.mul_le_mul a c), fun p => by
    show F p * G p = _
    rw [ev_mul, b p, d p]⟩
theorem PolyE.cst (z : Int) : PolyE z.natAbs fun _ => (z : Rat) := ⟨[z], Nat.le_of_eq (by simp [l1]), fun p => by
  show _ = (z : Rat) + natR p * 0
  grind⟩
theorem PolyE.sgn (n : Nat) : PolyE 1 fun _ => Md.sgn n := by
  unfold Md.sgn
  split
  · exact PolyE.cst 1
  · exact PolyE.cst (-1)
theorem PolyE.sum {B : Nat} {F : Nat → Nat → Rat} : ∀ n, (∀ i, i < n → PolyE B fun p => F p i) → PolyE (n * B) fun p => sumR n (F p)
  | 0, _ => ⟨[], Nat.zero_le _, fun p => rfl⟩
  | n + 1, h => by
    have a := PolyE.sum n fun i hi => h i (by omega)
    have b := a.add (h n (by omega))
    refine (b.mono (by rw [Nat.add_mul, Nat.one_mul]; exact Nat.le_refl _)).congr fun p => sumR_succ _ _
theorem PolyE.det {B : Nat} : ∀ (k : Nat) {c : Nat → Nat → Nat → Rat}, (∀ col r, col < k → r < k → PolyE B fun p => c p col r) → PolyE (fbN B k) fun p => Fd k (c p)
  | 0, _, _ => PolyE.cst 1
  | k + 1, c, h => by
    have a : PolyE ((k + 1) * (B * fbN B k)) fun p => sumR (k + 1) fun i => Md.sgn (i + k) * (c p k i * Fd k (fun col r => c p col (sk i r))) := PolyE.sum (k + 1) fun i hi => by
      have b := PolyE.det k (c := fun p col r => c p col (sk i r)) fun col r h1 h2 => h col (sk i r) (by omega) (sk_lt h2)
      have d := (h k i (by omega) hi).mul b
      exact ((PolyE.sgn (i + k)).mul d).mono (by rw [Nat.one_mul]; exact Nat.le_refl _)
    exact a
end Md
set_option Elab.async false
set_option linter.all false
set_option maxRecDepth 100000
set_option maxHeartbeats 2000000
namespace Md
theorem fill_ex {C : List PlC} (hW : WfC C) {L : List Nat} (hn : L.Nodup) (hL : ∀ x ∈ L, x < C.length) (hO : Out C L) (e kn : Nat → Rat) (hk : ∀ x ∈ L, kn x = 0) : ∃ f, IsFill C L e kn f := by
  let kr : Nat → Rat := fun r => (e (L.getD r 0) + meanC C kn (L.getD r 0)) * ((scaleC C (L.getD r 0) : Int) : Rat)
  let U := denL ((List.range L.length).map fun r => canon (kr r))
  have hU : 0 < U := denL_pos fun c hc => by
    obtain ⟨r, _, rfl⟩ := List.mem_map.mp hc
    exact (canon_red _).1
  obtain ⟨T, d, hE⟩ := elim_exists hW hn hL hO kr U L.length (Nat.le_refl _)
  exact ⟨_, fill_of hW hn hL hk hU (fun r hr => denL_dvd (List.mem_map.mpr ⟨r, List.mem_range.mpr hr, rfl⟩)) hE⟩
section
variable {C : List PlC} (h : WfC C)
include h
theorem lead_mean {x : Nat} (hx : x ∈ headsL C) {L : List Nat} (e : reachL C x = x :: L) (G : IsGrp C x L) : ∃ u, IsFill C L (leadC C) (fun _ => 0) u ∧ leadC C x + meanC C u x = 0 := by
  obtain ⟨s, m, _, hm, hf⟩ := (lead_ok h).grp x hx L e
  obtain ⟨s1, t, h1, h2, h3⟩ := hm.ex
  have hxl := G.lt x List.mem_cons_self
  have ht := (steps_nn h G h2).2 x hxl
  have hT : 1 + meanC C t x ≠ 0 := by grind
  refine ⟨fun y => s1 y - m * t y, ⟨fun y hy => ?_, fun y hy => ?_⟩, ?_⟩
  · rw [mean_sub, mean_mulC, hf y (List.mem_cons_of_mem x hy)]
    have a := h1.eq y hy
    have b := h2.eq y hy
    grind
  · show s1 y - m * t y = 0
    rw [h1.out y hy, h2.out y hy]
    grind
  · rw [mean_sub, mean_mulC, hf x List.mem_cons_self]
    have : m * (1 + meanC C t x) = s x + meanC C s1 x := by
      rw [h3]
      grind
    grind
open Classical in
theorem behind_ex : ∃ k : Nat → Rat, ∀ x, x < C.length → k x = meanC C k x - meanC C (leadC C) x := by
  have hu : ∀ x, ∃ u : Nat → Rat, x ∈ headsL C → ∀ L, reachL C x = x :: L → IsFill C L (leadC C) (fun _ => 0) u ∧ leadC C x + meanC C u x = 0 := fun x => by
    by_cases hx : x ∈ headsL C
    · obtain ⟨L, e, G⟩ := head_grp h hx
      obtain ⟨u, h1, h2⟩ := lead_mean h hx e G
      refine ⟨u, fun _ L' e' => ?_⟩
      rw [e] at e'
      have : L = L' := (List.cons.inj e').2
      subst this
      exact ⟨h1, h2⟩
    · exact ⟨fun _ => 0, fun z => absurd z hx⟩
  let u : Nat → Nat → Rat := fun x => (hu x).choose
  have us : ∀ x, x ∈ headsL C → ∀ L, reachL C x = x :: L → IsFill C L (leadC C) (fun _ => 0) (u x) ∧ leadC C x + meanC C (u x) x = 0 := fun x => (hu x).choose_spec
  have uniq : ∀ {x z y}, x ∈ headsL C → z ∈ headsL C → y ∈ reachL C x → y ∈ reachL C z → x = z := fun {x z y} hx hz h1 h2 => by
    obtain ⟨L, e, G⟩ := head_grp h hx
    obtain ⟨M, e', G'⟩ := head_grp h hz
    rw [e] at h1
    rw [e'] at h2
    have a := G.al y h1
    have b := G'.al y h2
    rw [a] at b
    exact (List.cons.inj b).1
  let kn : Nat → Rat := fun y => if q : ∃ x, x ∈ headsL C ∧ y ∈ reachL C x then u q.choose y else 0
  have kn_at : ∀ {x y}, x ∈ headsL C → y ∈ reachL C x → kn y = u x y := fun {x y} hx hy => by
    have q : ∃ x, x ∈ headsL C ∧ y ∈ reachL C x := ⟨x, hx, hy⟩
    show (if q : ∃ x, x ∈ headsL C ∧ y ∈ reachL C x then u q.choose y else 0) = _
    rw [dif_pos q]
    have := uniq q.choose_spec.1 hx q.choose_spec.2 hy
    rw [this]
  have kn0 : ∀ y ∈ passL C, kn y = 0 := fun y hy => by
    show (if q : ∃ x, x ∈ headsL C ∧ y ∈ reachL C x then u q.choose y else 0) = 0
    rw [dif_neg]
    rintro ⟨x, hx, hm⟩
    exact (mem_pass.mp hy).2 x hx hm
  obtain ⟨f, hf⟩ := fill_ex h pass_nodup pass_lt (out_pass h) (leadC C) kn kn0
  have fg : ∀ {x y}, x ∈ headsL C → y ∈ reachL C x → f y = u x y := fun {x y} hx hy => by
    obtain ⟨L, e, G⟩ := head_grp h hx
    rw [hf.out y (by rw [e] at hy; exact pass_out h hx e hy), kn_at hx hy]
  have key : ∀ x, x < C.length → f x = leadC C x + meanC C f x := fun y hy => by
    rcases pass_or hy with hp | ⟨x, hx, hm⟩
    · exact hf.eq y hp
    · obtain ⟨L, e, G⟩ := head_grp h hx
      obtain ⟨a1, a2⟩ := us x hx L e
      have hm2 := hm
      rw [e] at hm2
      have em : meanC C f y = meanC C (u x) y := mean_congr h fun q hq => fg hx (by rw [e]; exact grp_closed h G hm2 hq)
      rw [fg hx hm, em]
      rcases List.mem_cons.mp hm2 with rfl | hL
      · rw [a1.out y (List.nodup_cons.mp G.nd).1]
        exact a2.symm
      · exact a1.eq y hL
  refine ⟨fun y => leadC C y - f y, fun x hx => ?_⟩
  rw [mean_sub]
  have := key x hx
  grind
end
section
variable {C : List PlC}
theorem wor_bd (hM : WfM C) {β c R : Rat} (h0 : 0 ≤ β) (h1 : β < 1) (hR : R * (1 - β) = c) {e f : Nat → Rat} (he : ∀ x, x < C.length → -c ≤ e x ∧ e x ≤ c) (hf : IsWor C β e f) : ∀ x, x < C.length → -R ≤ f x ∧ f x ≤ R := by
  have mc : ∀ (c : Rat) k, k < C.length → meanC C (fun _ => c) k = c := fun c k hk => by
    have b := wsum_mul (plC C k).bs c (fun _ => 1)
    have s := hM.s k hk
    rw [s, Rat.mul_one] at b
    exact b
  intro x hx
  refine ⟨wor_ge hM h0 h1 (f := fun _ => -R) (fun k hk => ?_) hf x hx, wor_le hM h0 h1 (f := fun _ => R) (fun k hk => ?_) hf x hx⟩
  · rw [mc _ k hk]
    have := he k hk
    grind
  · rw [mc _ k hk]
    have := he k hk
    grind
theorem near_one (h : WfC C) : ∃ K : Rat, 0 ≤ K ∧ ∀ p : Nat, 2 ≤ p → ∀ w : Nat → Rat, IsWor C (natR (p - 1) / natR p) (gainC C) w → ∀ x, x < C.length → -(K / natR p) ≤ w x - (natR p * longC C x + leadC C x) ∧ w x - (natR p * longC C x + leadC C x) ≤ K / natR p := by
  obtain ⟨k, hk⟩ := behind_ex h
  have hM := WfC.toM h
  obtain ⟨K0, K00, hK0⟩ : ∃ K0 : Rat, 0 ≤ K0 ∧ ∀ x, x < C.length → -K0 ≤ k x ∧ k x ≤ K0 := by
    refine ⟨hiQ (fun x => if 0 ≤ k x then k x else -k x) C.length, ?_, fun x hx => ?_⟩
    · have h1 : 0 < C.length := by have := h.l1; omega
      have a := hi_ge (f := fun x => if 0 ≤ k x then k x else -k x) h1
      have b : 0 ≤ (if 0 ≤ k 0 then k 0 else -k 0) := by split <;> grind
      exact Rat.le_trans b a
    · have a := hi_ge (f := fun x => if 0 ≤ k x then k x else -k x) hx
      have a : (if 0 ≤ k x then k x else -k x) ≤ _ := a
      split at a <;> constructor <;> grind
  refine ⟨2 * K0, by grind, fun p hp w hw x hx => ?_⟩
  have p0 : (0 : Rat) < natR p := natR_pos (by omega)
  have pn : natR p ≠ 0 := by grind
  have e1 : natR (p - 1) + 1 = natR p := by
    have := natR_add (p - 1) 1
    rw [natR_one, show p - 1 + 1 = p by omega] at this
    exact this.symm
  have β0 : 0 ≤ natR (p - 1) / natR p := le_div' p0 (by rw [Rat.zero_mul]; exact natR_nonneg _)
  have β1 : natR (p - 1) / natR p < 1 := (Rat.div_lt_iff p0).mpr (by rw [Rat.one_mul]; grind)
  obtain ⟨ε, hε⟩ : ∃ ε : Rat, ε = 1 / natR p := ⟨_, rfl⟩
  have ε1 : ε * natR p = 1 := by rw [hε]; grind
  have ε0 : 0 ≤ ε := by
    rw [hε]
    exact le_div' p0 (by rw [Rat.zero_mul]; decide +kernel)
  have eβ : natR (p - 1) / natR p = 1 - ε := by
    rw [hε]
    grind
  have hu : IsWor C (natR (p - 1) / natR p) (fun y => -(ε * ε * meanC C k y)) (fun y => w y - (natR p * longC C y + leadC C y) - ε * k y) := fun y hy => by
    have a := hw y hy
    have b := long_mean h (long_ok h) hy
    have c := lead_eq h (long_ok h) (lead_ok h) hy
    have d := hk y hy
    have m1 : meanC C (fun y => w y - (natR p * longC C y + leadC C y) - ε * k y) y = meanC C w y - (natR p * meanC C (longC C) y + meanC C (leadC C) y) - ε * meanC C k y := by
      rw [mean_sub, mean_sub, mean_mulC]
      have : meanC C (fun y => natR p * longC C y + leadC C y) y = natR p * meanC C (longC C) y + meanC C (leadC C) y := by
        rw [← mean_mulC]
        exact wsum_add _ _ _
      rw [this]
    rw [m1, eβ]
    rw [eβ] at a
    show w y - (natR p * longC C y + leadC C y) - ε * k y = -(ε * ε * meanC C k y) + (1 - ε) * (meanC C w y - (natR p * meanC C (longC C) y + meanC C (leadC C) y) - ε * meanC C k y)
    generalize meanC C w y = mw at *
    generalize meanC C (longC C) y = mg at *
    generalize meanC C (leadC C) y = mh at *
    generalize meanC C k y = mk at *
    generalize gainC C y = gg at *
    generalize natR p = P at *
    grind
  have bd := wor_bd hM (c := ε * ε * K0) (R := ε * K0) β0 β1 (by rw [eβ]; grind) (e := fun y => -(ε * ε * meanC C k y)) (fun y hy => by
    have m1 : meanC C k y ≤ K0 := meanM_le hM hy fun j hj => (hK0 j hj).2
    have m2 : -K0 ≤ meanC C k y := by
      have := meanM_le hM hy (f := fun j => (-1) * k j) (c := K0) fun j hj => by
        have := (hK0 j hj).1
        grind
      rw [mean_mulC] at this
      grind
    have ε2 : 0 ≤ ε * ε := Rat.mul_nonneg ε0 ε0
    have a1 := Rat.mul_le_mul_of_nonneg_left m1 ε2
    have a2 := Rat.mul_le_mul_of_nonneg_left m2 ε2
    constructor <;> grind) hu x hx
  have kx := hK0 x hx
  have b1 := Rat.mul_le_mul_of_nonneg_left kx.1 ε0
  have b2 := Rat.mul_le_mul_of_nonneg_left kx.2 ε0
  have eK : 2 * K0 / natR p = 2 * (ε * K0) := by
    rw [hε]
    grind
  rw [eK]
  constructor <;> grind
end
end Md
set_option Elab.async false
set_option linter.all false
set_option maxRecDepth 100000
set_option maxHeartbeats 2000000
namespace Md
section
variable {C : List PlC} {dn dd M0 : Nat}
def gzP (C : List PlC) (M0 : Nat) (x : Nat) : Int := (plC C x).g.1 * ((M0 : Int) / (plC C x).g.2)
def aP (C : List PlC) (M0 p x y : Nat) : Int := if y < C.length then rowA (plC C x).bs (scD2 C x) ((p : Int) - 1) p x y else (p : Int) * ((scD2 C x : Int) * gzP C M0 x)
theorem mat_p (x : FilOk C dn dd M0) {p : Nat} (hp : 1 ≤ p) : IsMat C (natR (p - 1) / natR p) (aP C M0 p) fun k => natR (scD2 C k) * natR p :=
  mat_is (Sx := scD2 C) hp (fun k hk => ⟨x.S0 hk, x.Sd hk⟩) fun k y hk hy => by
    have e : aP C M0 p k y = rowA (plC C k).bs (scD2 C k) ((p : Int) - 1) p k y := if_pos hy
    have e2 : (((p - 1 : Nat)) : Int) = (p : Int) - 1 := by omega
    rw [e, e2]
theorem beta_p {p : Nat} (hp : 2 ≤ p) : 0 < natR (p - 1) / natR p ∧ natR (p - 1) / natR p < 1 := by
  have p0 : (0 : Rat) < natR p := natR_pos (by omega)
  have n0 : (0 : Rat) < natR (p - 1) := natR_pos (by omega)
  refine ⟨(Rat.lt_div_iff p0).mpr (by rw [Rat.zero_mul]; exact n0), (Rat.div_lt_iff p0).mpr ?_⟩
  rw [Rat.one_mul]
  exact Rat.intCast_lt_intCast.mpr (by omega)
theorem elim_p (x : FilOk C dn dd M0) {p : Nat} (hp : 2 ≤ p) : ∃ T d, Elim C.length (aP C M0 p) C.length T d := by
  have key : ∀ k, k ≤ C.length → ∃ T d, Elim C.length (aP C M0 p) k T d := fun k => by
    induction k with
    | zero => exact fun _ => ⟨_, 1, elim_start _ _⟩
    | succ k ih =>
      intro hk
      obtain ⟨T, d, h⟩ := ih (by omega)
      exact ⟨_, _, (elim_step h (by omega) (piv_pos x.M (Rat.le_of_lt (beta_p hp).1) (beta_p hp).2 (mat_p x (by omega)) h (by omega))).1⟩
  exact key _ (Nat.le_refl _)
def nuP (C : List PlC) (M0 j p : Nat) : Rat := Fd C.length (upc (fun col r => qa (aP C M0 p) r col) j fun r => qa (aP C M0 p) r C.length)
theorem wor_p (x : FilOk C dn dd M0) {p : Nat} (hp : 2 ≤ p) : ∃ D : Rat, 0 < D ∧ ∀ w, IsWor C (natR (p - 1) / natR p) (gainC C) w → ∀ j, j < C.length → w j = nuP C M0 j p / D := by
  obtain ⟨T, d, hE⟩ := elim_p x hp
  have U0 : (0 : Rat) < natR M0 := natR_pos x.m0
  have hw := end_wor (mat_p x (by omega)) U0 hE (e := gainC C) fun k hk => by
    have e : aP C M0 p k C.length = (p : Int) * ((scD2 C k : Int) * gzP C M0 k) := if_neg (Nat.lt_irrefl _)
    unfold qa
    rw [e, Rat.intCast_mul, Rat.intCast_mul]
    have g := (x.g k hk)
    have e2 : ((gzP C M0 k : Int) : Rat) = qN (plC C k).g * natR M0 := by
      unfold gzP
      exact whole_q (red_small g.1) g.2
    rw [e2]
    have e3 : ((p : Int) : Rat) = natR p := rfl
    have e4 : ((scD2 C k : Int) : Rat) = natR (scD2 C k) := rfl
    rw [e3, e4]
    show natR p * (natR (scD2 C k) * (qN (plC C k).g * natR M0)) = natR (scD2 C k) * natR p * qN (plC C k).g * natR M0
    grind
  have d0 : (0 : Rat) < (d : Rat) := cast_pos hE.pos
  refine ⟨(d : Rat) * natR M0, Rat.mul_pos d0 U0, fun w h j hj => ?_⟩
  rw [wor_unique x.M (Rat.le_of_lt (beta_p hp).1) (beta_p hp).2 h hw j hj]
  show qa T j C.length / _ = _
  rw [elim_col hE hj (Nat.le_refl _)]
  rfl
theorem poly_nu (x : FilOk C dn dd M0) (hM : M0 ≤ 2 ^ 17) {j : Nat} (hj : j < C.length) : PolyE (fbN (2 ^ 38) C.length) (nuP C M0 j) := by
  have lo : ∀ r col, r < C.length → col < C.length → PolyE (2 ^ 38) fun p => qa (aP C M0 p) r col := fun r col hr hc => by
    have hb := colZ_bd (fun q hq => x.c r hr q hq) (x.S r hr) col
    have h6 := x.b6 r hr
    have hS := x.S r hr
    have hb2 : (colZ (plC C r).bs (scD2 C r) col).natAbs ≤ 6000000 := by omega
    refine ((PolyE.lin (colZ (plC C r).bs (scD2 C r) col) ((if col = r then (scD2 C r : Int) else 0) - colZ (plC C r).bs (scD2 C r) col)).mono ?_).congr fun p => ?_
    · have : (if col = r then (scD2 C r : Int) else 0).natAbs ≤ 1000 := by split <;> omega
      have h38 : (2 : Nat) ^ 38 = 274877906944 := by decide
      omega
    · unfold qa
      congr 1
      have e : aP C M0 p r col = rowA (plC C r).bs (scD2 C r) ((p : Int) - 1) p r col := if_pos hc
      rw [e]
      unfold rowA
      generalize colZ (plC C r).bs (scD2 C r) col = z
      split
      · rw [Int.mul_sub, Int.sub_mul, Int.one_mul, Int.mul_comm (scD2 C r : Int) (p : Int)]
        omega
      · rw [Int.mul_sub, Int.sub_mul, Int.one_mul, Int.mul_zero]
        omega
  have hi : ∀ r, r < C.length → PolyE (2 ^ 38) fun p => qa (aP C M0 p) r C.length := fun r hr => by
    have g := x.g r hr
    have hS := x.S r hr
    refine ((PolyE.lin 0 ((scD2 C r : Int) * gzP C M0 r)).mono ?_).congr fun p => ?_
    · have a : (gzP C M0 r).natAbs ≤ 1000 * 2 ^ 17 := by
        unfold gzP
        rw [Int.natAbs_mul]
        refine Nat.mul_le_mul (Nat.le_of_lt g.1.2.2.1) (Nat.le_trans (Int.natAbs_ediv_le_natAbs _ _) ?_)
        rw [Int.natAbs_natCast]
        exact hM
      have b : ((scD2 C r : Int) * gzP C M0 r).natAbs ≤ 1000 * (1000 * 2 ^ 17) := by
        rw [Int.natAbs_mul, Int.natAbs_natCast]
        exact Nat.mul_le_mul hS a
      have c : (1000 * (1000 * 2 ^ 17) : Nat) ≤ 2 ^ 38 := by decide
      show (0 : Int).natAbs + _ ≤ _
      rw [Int.natAbs_zero, Nat.zero_add]
      exact Nat.le_trans b c
    · unfold qa
      congr 1
      have e : aP C M0 p r C.length = (p : Int) * ((scD2 C r : Int) * gzP C M0 r) := if_neg (Nat.lt_irrefl _)
      rw [e, Int.zero_add]
  refine PolyE.det (c := fun p => upc (fun col r => qa (aP C M0 p) r col) j fun r => qa (aP C M0 p) r C.length) C.length fun col r hc hr => ?_
  by_cases q : col = j
  · subst q
    refine (hi r hr).congr fun p => ?_
    rw [upc_same]
  · refine (lo r col hr hc).congr fun p => ?_
    rw [upc_ne q]
theorem order_stays (x : FilOk C dn dd M0) (hM : M0 ≤ 2 ^ 17) {p q y z : Nat} (hp : 2 * fbN (2 ^ 38) C.length < p) (hq : p ≤ q) (hy : y < C.length) (hz : z < C.length) {v w : Nat → Rat} (hv : IsWor C (natR (p - 1) / natR p) (gainC C) v) (hw : IsWor C (natR (q - 1) / natR q) (gainC C) w) (h : v y ≤ v z) : w y ≤ w z := by
  have fb : 1 ≤ fbN (2 ^ 38) C.length := by
    have : ∀ k, 1 ≤ fbN (2 ^ 38) k := fun k => by
      induction k with
      | zero => exact Nat.le_refl _
      | succ k ih => exact Nat.mul_pos (by omega) (Nat.mul_pos (by decide) ih)
    exact this _
  have p2 : 2 ≤ p := by omega
  obtain ⟨D, d0, hD⟩ := wor_p x p2
  obtain ⟨E, e0, hE⟩ := wor_p x (show 2 ≤ q by omega)
  have P : PolyE (2 * fbN (2 ^ 38) C.length) fun p => nuP C M0 y p + ((-1 : Int) : Rat) * nuP C M0 z p := by
    have a := (poly_nu x hM hy).add ((PolyE.cst (-1)).mul (poly_nu x hM hz))
    exact a.mono (by
      show _ + 1 * _ ≤ _
      omega)
  obtain ⟨l, l1b, hl⟩ := P
  have m1 : ((-1 : Int) : Rat) = -1 := rfl
  rw [hD v hv y hy, hD v hv z hz] at h
  rw [hE w hw y hy, hE w hw z hz]
  have a : nuP C M0 y p ≤ nuP C M0 z p := by
    have := Rat.mul_le_mul_of_nonneg_right h (Rat.le_of_lt d0)
    have dn : D ≠ 0 := by grind
    rwa [Rat.div_mul_cancel dn, Rat.div_mul_cancel dn] at this
  have b := ev_sign (l := l) (p := p) (q := q) (by omega) (by omega) (by
    rw [← hl p, m1]
    grind)
  rw [← hl q, m1] at b
  have c : nuP C M0 y q ≤ nuP C M0 z q := by grind
  have ei : 0 ≤ E⁻¹ := by
    have h : (0 : Rat) ≤ 1 / E := le_div' e0 (by rw [Rat.zero_mul]; decide +kernel)
    rwa [Rat.div_def, Rat.one_mul] at h
  rw [Rat.div_def, Rat.div_def]
  exact Rat.mul_le_mul_of_nonneg_right c ei
theorem arch (r : Rat) (n : Nat) : ∃ p : Nat, n ≤ p ∧ 1 ≤ p ∧ r < natR p := by
  refine ⟨n + r.num.natAbs + 1, by omega, by omega, ?_⟩
  have a : r ≤ natR r.num.natAbs := by
    have e : (r.num : Rat) / natR r.den = r := q_canon r
    have d0 : (0 : Rat) < natR r.den := natR_pos r.den_pos
    have h1 : (r.num : Rat) ≤ natR r.num.natAbs := Rat.intCast_le_intCast.mpr (by omega)
    have h2 : (1 : Rat) ≤ natR r.den := by
      have : natR 1 ≤ natR r.den := natR_le r.den_pos
      rwa [natR_one] at this
    have h3 := Rat.mul_le_mul_of_nonneg_left h2 (natR_nonneg r.num.natAbs)
    rw [Rat.mul_one] at h3
    have h4 : (r.num : Rat) / natR r.den ≤ natR r.num.natAbs := Md.div_le' d0 (Rat.le_trans h1 h3)
    rw [e] at h4
    exact h4
  have b : natR (n + r.num.natAbs + 1) = natR n + natR r.num.natAbs + 1 := by rw [natR_add, natR_add, natR_one]
  have c := natR_nonneg n
  rw [b]
  grind
theorem lex_of (h : WfC C) {p0 y z : Nat} (hy : y < C.length) (hz : z < C.length) (hex : ∀ p, 2 ≤ p → ∃ w, IsWor C (natR (p - 1) / natR p) (gainC C) w) (ho : ∀ p, p0 ≤ p → 2 ≤ p → ∀ w, IsWor C (natR (p - 1) / natR p) (gainC C) w → w y ≤ w z) :
    longC C y < longC C z ∨ longC C y = longC C z ∧ leadC C y ≤ leadC C z := by
  obtain ⟨K, K0, hK⟩ := near_one h
  have key : ∀ p, p0 ≤ p → 2 ≤ p → natR p * (longC C y - longC C z) + (leadC C y - leadC C z) ≤ 2 * (K / natR p) := fun p h1 h2 => by
    obtain ⟨w, hw⟩ := hex p h2
    have a := (hK p h2 w hw y hy).1
    have b := (hK p h2 w hw z hz).2
    have c := ho p h1 h2 w hw
    grind
  have small : ∀ p : Nat, 1 ≤ p → K / natR p ≤ K := fun p hp => by
    have p1 : (1 : Rat) ≤ natR p := by
      have : natR 1 ≤ natR p := natR_le hp
      rwa [natR_one] at this
    refine Md.div_le' (natR_pos hp) ?_
    have := Rat.mul_le_mul_of_nonneg_left p1 K0
    rwa [Rat.mul_one] at this
  have g1 : longC C y ≤ longC C z := by
    refine Classical.byContradiction fun hn => ?_
    have dp : 0 < longC C y - longC C z := by grind
    obtain ⟨p, q1, q2, q3⟩ := arch ((2 * K - (leadC C y - leadC C z)) / (longC C y - longC C z)) (p0 + 2)
    have a := key p (by omega) (by omega)
    have b := small p q2
    have c := (Rat.div_lt_iff dp).mp q3
    grind
  rcases Rat.le_iff_lt_or_eq.mp g1 with q | q
  · exact Or.inl q
  · refine Or.inr ⟨q, Classical.byContradiction fun hn => ?_⟩
    have dp : 0 < leadC C y - leadC C z := by grind
    obtain ⟨p, q1, q2, q3⟩ := arch (2 * K / (leadC C y - leadC C z)) (p0 + 2)
    have a := key p (by omega) (by omega)
    rw [q, Rat.sub_self, Rat.mul_zero, Rat.zero_add] at a
    have c := (Rat.div_lt_iff dp).mp q3
    have p0' : (0 : Rat) < natR p := natR_pos q2
    have d := Rat.mul_le_mul_of_nonneg_right a (Rat.le_of_lt p0')
    have e : 2 * (K / natR p) * natR p = 2 * K := by
      have : natR p ≠ 0 := by grind
      grind
    rw [e] at d
    grind
end
end Md
set_option Elab.async false
set_option linter.all false
set_option maxRecDepth 100000
set_option maxHeartbeats 2000000
namespace Md
open PySem L2 Evl
def nxQ (p : PlV) (f : Nat → Rat) (i : Nat) : Rat := if p.k = none then vW p f else f (tgB p i)
def shQ (G : List PlV) (g : Nat → Rat) (q : Nat × Nat) : Rat := nxQ (vl G q.1) g q.2 - g q.1
def boQ (G : List PlV) (g h : Nat → Rat) (q : Nat × Nat) : Rat := gnV G q.1 + nxQ (vl G q.1) h q.2 - (g q.1 + h q.1)
def ctP (G : List PlV) (o : Bool) (c : Nat → Nat) (x : Nat) : List (Nat × Nat) := if (vl G x).k = none then [(x, 0)] else if (vl G x).k = some o then [(x, c x)] else (List.range (vl G x).bs.length).map fun i => (x, i)
def ctL (G : List PlV) (o : Bool) (c : Nat → Nat) : List (Nat × Nat) := (List.range G.length).flatMap (ctP G o c)
def wnL (G : List PlV) (c : Nat → Nat) (g h : Nat → Rat) : List (Rat × Rat) := ((ctL G true c).map fun q => (shQ G g q, boQ G g h q)) ++ (ctL G false c).map fun q => (-shQ G g q, -boQ G g h q)
def BadS (s : Rat × Rat) : Prop := s.1 < 0 ∨ s.1 = 0 ∧ s.2 < 0
structure RightC (G : List PlV) (c : Nat → Nat) (g h : Nat → Rat) : Prop where
  ok : OkC G c
  s : ∀ s ∈ wnL G c g h, 0 ≤ s.1 ∧ 0 ≤ s.2
section
variable {G : List PlV} {c : Nat → Nat} {g h : Nat → Rat} {w : Nat}
theorem mem_ct {o : Bool} {q : Nat × Nat} : q ∈ ctL G o c ↔ q.1 < G.length ∧ q ∈ ctP G o c q.1 := by
  unfold ctL
  rw [List.mem_flatMap]
  constructor
  · rintro ⟨x, hx, hm⟩
    have e : q.1 = x := by
      unfold ctP at hm
      split at hm
      · rw [List.mem_singleton.mp hm]
      · split at hm
        · rw [List.mem_singleton.mp hm]
        · obtain ⟨i, _, rfl⟩ := List.mem_map.mp hm
          rfl
    rw [e]
    exact ⟨List.mem_range.mp hx, hm⟩
  · rintro ⟨hx, hm⟩
    exact ⟨q.1, List.mem_range.mpr hx, hm⟩
theorem ct_draw {o : Bool} {x : Nat} (hx : x < G.length) (hk : (vl G x).k = none) : (x, 0) ∈ ctL G o c := mem_ct.mpr ⟨hx, by
  unfold ctP
  rw [if_pos hk]
  exact List.mem_singleton.mpr rfl⟩
theorem ct_own {o : Bool} {x : Nat} (hx : x < G.length) (hk : (vl G x).k = some o) : (x, c x) ∈ ctL G o c := mem_ct.mpr ⟨hx, by
  unfold ctP
  rw [if_neg (by rw [hk]; intro z; cases z), if_pos hk]
  exact List.mem_singleton.mpr rfl⟩
theorem ct_all {o p : Bool} {x i : Nat} (hx : x < G.length) (hk : (vl G x).k = some p) (hop : p ≠ o) (hi : i < (vl G x).bs.length) : (x, i) ∈ ctL G o c := mem_ct.mpr ⟨hx, by
  unfold ctP
  rw [if_neg (by rw [hk]; intro z; cases z), if_neg (by rw [hk]; intro z; exact hop (Option.some.inj z))]
  exact List.mem_map.mpr ⟨i, List.mem_range.mpr hi, rfl⟩⟩
theorem ct_cases {o : Bool} {q : Nat × Nat} (hm : q ∈ ctL G o c) : q.1 < G.length ∧ ((vl G q.1).k = none ∧ q.2 = 0 ∨ (vl G q.1).k = some o ∧ q.2 = c q.1 ∨ (vl G q.1).k = some (!o) ∧ q.2 < (vl G q.1).bs.length) := by
  obtain ⟨hx, hm⟩ := mem_ct.mp hm
  refine ⟨hx, ?_⟩
  unfold ctP at hm
  split at hm
  · rename_i hk
    have := List.mem_singleton.mp hm
    exact Or.inl ⟨hk, by rw [this]⟩
  · rename_i hn
    split at hm
    · rename_i hk
      have := List.mem_singleton.mp hm
      exact Or.inr (Or.inl ⟨hk, by rw [this]⟩)
    · rename_i hk
      obtain ⟨i, hi, e⟩ := List.mem_map.mp hm
      refine Or.inr (Or.inr ⟨?_, by rw [← e]; exact List.mem_range.mp hi⟩)
      cases q2 : (vl G q.1).k with
      | none => exact absurd q2 hn
      | some p =>
        rw [q2] at hk
        cases p <;> cases o <;> simp_all
theorem nxQ_draw {x i : Nat} {f : Nat → Rat} (hk : (vl G x).k = none) : nxQ (vl G x) f i = vW (vl G x) f := if_pos hk
theorem nxQ_side {x i : Nat} {f : Nat → Rat} (hk : (vl G x).k ≠ none) : nxQ (vl G x) f i = f (tgB (vl G x) i) := if_neg hk
theorem nxQ_lin {p : PlV} {f e : Nat → Rat} {t : Rat} {i : Nat} : nxQ p (fun x => f x + t * e x) i = nxQ p f i + t * nxQ p e i ∨ p.k ≠ none ∧ True := by
  by_cases hk : p.k = none
  · refine Or.inl ?_
    unfold nxQ
    rw [if_pos hk, if_pos hk, if_pos hk]
    unfold vW
    rw [hk]
    show wsum _ _ = wsum _ _ + t * wsum _ _
    rw [← wsum_mul, ← wsum_add]
  · exact Or.inr ⟨hk, trivial⟩
theorem nx_lin {p : PlV} {f e : Nat → Rat} {t : Rat} {i : Nat} : nxQ p (fun x => f x + t * e x) i = nxQ p f i + t * nxQ p e i := by
  by_cases hk : p.k = none
  · rcases nxQ_lin (p := p) (f := f) (e := e) (t := t) (i := i) with z | z
    · exact z
    · exact absurd hk z.1
  · unfold nxQ
    rw [if_neg hk, if_neg hk, if_neg hk]
theorem bo_lift {t : Rat} {q : Nat × Nat} : boQ G g (fun x => h x + t * g x) q = boQ G g h q + t * shQ G g q := by
  unfold boQ shQ
  rw [nx_lin]
  grind
theorem right_lift {t : Rat} (hok : OkC G c) (hb : ∀ s ∈ wnL G c g h, ¬ BadS s) (ht : ∀ s ∈ wnL G c g h, 0 < s.1 → -s.2 / s.1 ≤ t) : RightC G c g fun x => h x + t * g x := by
  refine ⟨hok, fun s hs => ?_⟩
  have key : ∃ s0 ∈ wnL G c g h, s.1 = s0.1 ∧ s.2 = s0.2 + t * s0.1 := by
    unfold wnL at hs ⊢
    rcases List.mem_append.mp hs with hs | hs
    · obtain ⟨q, hq, rfl⟩ := List.mem_map.mp hs
      exact ⟨_, List.mem_append_left _ (List.mem_map.mpr ⟨q, hq, rfl⟩), rfl, bo_lift⟩
    · obtain ⟨q, hq, rfl⟩ := List.mem_map.mp hs
      refine ⟨_, List.mem_append_right _ (List.mem_map.mpr ⟨q, hq, rfl⟩), rfl, ?_⟩
      show -boQ G g _ q = -boQ G g h q + t * -shQ G g q
      rw [bo_lift]
      grind
  obtain ⟨s0, h0, e1, e2⟩ := key
  have nb := hb s0 h0
  unfold BadS at nb
  rw [e1, e2]
  have a : 0 ≤ s0.1 := by grind
  refine ⟨a, ?_⟩
  rcases Rat.le_iff_lt_or_eq.mp a with q | q
  · have b := ht s0 h0 q
    have c := Rat.mul_le_mul_of_nonneg_right b (Rat.le_of_lt q)
    have n0 : s0.1 ≠ 0 := by grind
    rw [Rat.div_mul_cancel n0] at c
    grind
  · rw [← q, Rat.mul_zero]
    grind
end
structure RigOk (G : List PlV) (M0 : Nat) : Prop where
  W : WfVG 360 G
  g : ∀ p ∈ G, p.g.2.natAbs ∣ M0
  m0 : 0 < M0
  mb : M0 ≤ 2 ^ 17
  pos : ∀ p ∈ G, p.k = none → ∀ q ∈ p.bs, 0 < q.1.1
theorem red_near {k : Nat} (h : 1 ≤ k) : Red (((2 ^ k - 1 : Nat) : Int), ((2 ^ k : Nat) : Int)) := by
  have p2 : 2 ^ 1 ≤ 2 ^ k := Nat.pow_le_pow_right (by decide) h
  generalize 2 ^ k = N at p2
  refine ⟨by show (0 : Int) < (N : Int); omega, ?_⟩
  show Nat.gcd (((N - 1 : Nat) : Int)).natAbs ((N : Int)).natAbs = 1
  rw [Int.natAbs_natCast, Int.natAbs_natCast]
  have e : N = (N - 1) + 1 := by omega
  generalize N - 1 = A at e
  subst e
  have := Nat.gcd_dvd_left A (A + 1)
  have b := Nat.gcd_dvd_right A (A + 1)
  exact Nat.dvd_one.mp ((Nat.dvd_add_right this).mp b)
section
variable {G : List PlV} {M0 N : Nat} {c : Nat → Nat} {v : Nat → Rat}
theorem RigOk.gam (x : RigOk G M0) {k : Nat} (h1 : 1 ≤ k) (h2 : k ≤ 512) : GamOk G 360 (2 ^ k - 1) (2 ^ k) M0 :=
  ⟨x.W, by decide, x.g, by have := Nat.two_pow_pos k; omega, Nat.pow_le_pow_right (by decide) h2, x.m0, Nat.lt_of_le_of_lt x.mb (by decide +kernel), red_near h1⟩
theorem RigOk.wfc (x : RigOk G M0) (hc : OkC G c) : WfC (chV G c) := by
  have hl : (chV G c).length = G.length := chV_len
  refine ⟨by rw [hl]; exact x.W.l1, by rw [hl]; exact x.W.l12, fun p hp => ?_⟩
  rw [hl]
  unfold chV at hp
  obtain ⟨k, hk, rfl⟩ := List.mem_map.mp hp
  have hk := List.mem_range.mp hk
  have hw := vl_wf x.W hk
  split
  · rename_i hd
    exact ⟨hw.g, hw.l1, hw.l6, fun q hq => ⟨(hw.c hd q hq).1, x.pos _ (vl_mem hk) hd q hq, hw.t q hq⟩, hw.w hd, hw.s hd⟩
  · rename_i hd
    exact wf_sure_one hw.g (tgV_lt x.W hc hk hd)
theorem fb_small {n N : Nat} (h : n ≤ 12) (hN : 2 ^ 512 ≤ N) : 2 * fbN (2 ^ 38) n < N := by
  have : ∀ n, n ≤ 12 → fbN (2 ^ 38) n ≤ fbN (2 ^ 38) 12 := by decide +kernel
  have b : 2 * fbN (2 ^ 38) 12 < 2 ^ 512 := by decide +kernel
  exact Nat.lt_of_le_of_lt (Nat.mul_le_mul_left _ (this n h)) (Nat.lt_of_lt_of_le b hN)
theorem RigOk.ex (x : RigOk G M0) (hc : OkC G c) {p : Nat} (hp : 2 ≤ p) : ∃ v, IsWor (chV G c) (natR (p - 1) / natR p) (gainC (chV G c)) v := by
  have y := chV_fil x.W (by decide) hc x.g (dn := 1) (dd := 2) (by decide) (by decide) x.m0 (Nat.lt_of_le_of_lt x.mb (by decide +kernel)) ⟨by decide, by decide⟩
  obtain ⟨T, d, hE⟩ := elim_p y hp
  have U0 : (0 : Rat) < natR M0 := natR_pos x.m0
  refine ⟨_, end_wor (mat_p y (by omega)) U0 hE fun k hk => ?_⟩
  have e : aP (chV G c) M0 p k (chV G c).length = (p : Int) * ((scD2 (chV G c) k : Int) * gzP (chV G c) M0 k) := if_neg (Nat.lt_irrefl _)
  unfold qa
  rw [e, Rat.intCast_mul, Rat.intCast_mul]
  have g := (y.g k hk)
  have e2 : ((gzP (chV G c) M0 k : Int) : Rat) = qN (plC (chV G c) k).g * natR M0 := by
    unfold gzP
    exact whole_q (red_small g.1) g.2
  rw [e2]
  have e3 : ((p : Int) : Rat) = natR p := rfl
  have e4 : ((scD2 (chV G c) k : Int) : Rat) = natR (scD2 (chV G c) k) := rfl
  rw [e3, e4]
  show natR p * (natR (scD2 (chV G c) k) * (qN (plC (chV G c) k).g * natR M0)) = natR (scD2 (chV G c) k) * natR p * qN (plC (chV G c) k).g * natR M0
  grind
theorem gnV_chV {β : Rat} (hv : IsWor (chV G c) β (gnV G) v) : IsWor (chV G c) β (gainC (chV G c)) v := fun k hk => by
  rw [chV_gain (by rw [chV_len] at hk; exact hk)]
  exact hv k hk
theorem lex_best (x : RigOk G M0) (hc : OkC G c) (hN : 2 ^ 512 ≤ N) (hv : IsWor (chV G c) (natR (N - 1) / natR N) (gnV G) v) {y z : Nat} (hy : y < G.length) (hz : z < G.length) (h : v y ≤ v z) :
    longC (chV G c) y < longC (chV G c) z ∨ longC (chV G c) y = longC (chV G c) z ∧ leadC (chV G c) y ≤ leadC (chV G c) z := by
  have hl : (chV G c).length = G.length := chV_len
  have hwf := x.wfc hc
  have h12 := x.W.l12
  have Y := chV_fil x.W (by decide) hc x.g (dn := 1) (dd := 2) (by decide) (by decide) x.m0 (Nat.lt_of_le_of_lt x.mb (by decide +kernel)) ⟨by decide, by decide⟩
  refine lex_of hwf (p0 := N) (by omega) (by omega) (fun p hp => x.ex hc hp) fun p hp hp2 w hw => ?_
  exact order_stays Y x.mb (p := N) (q := p) (by rw [hl]; exact fb_small h12 hN) hp (by omega) (by omega) (gnV_chV hv) hw h
theorem RigOk.own (x : RigOk G M0) (hc : OkC G c) {o : Bool} {q : Nat × Nat} (hx : q.1 < G.length) (hq : (vl G q.1).k = none ∨ (vl G q.1).k ≠ none ∧ q.2 = c q.1) : shQ G (longC (chV G c)) q = 0 ∧ boQ G (longC (chV G c)) (leadC (chV G c)) q = 0 := by
  have hwf := x.wfc hc
  have hl : (chV G c).length = G.length := chV_len
  have a := long_mean hwf (long_ok hwf) (x := q.1) (by omega)
  have b := lead_eq hwf (long_ok hwf) (lead_ok hwf) (x := q.1) (by omega)
  rw [chV_gain hx] at b
  have e : ∀ f : Nat → Rat, meanC (chV G c) f q.1 = nxQ (vl G q.1) f q.2 := fun f => by
    rcases hq with hk | ⟨hk, e⟩
    · rw [mean_draw hx hk, nxQ_draw hk]
      unfold vW
      rw [hk]
    · rw [mean_side hx hk, nxQ_side hk, tgV_B, e]
  rw [e] at a b
  unfold shQ boQ gnV
  constructor <;> grind
theorem best_good (x : RigOk G M0) (hc : OkC G c) (hN : 2 ^ 512 ≤ N) (hv : IsWor (chV G c) (natR (N - 1) / natR N) (gnV G) v) (h1 : Best G true c v) (h2 : Best G false c v) : ∀ s ∈ wnL G c (longC (chV G c)) (leadC (chV G c)), ¬ BadS s := fun s hs => by
  unfold wnL at hs
  have fin : ∀ {q : Nat × Nat} {o : Bool}, q ∈ ctL G o c → (shQ G (longC (chV G c)) q = 0 ∧ boQ G (longC (chV G c)) (leadC (chV G c)) q = 0) ∨ (q.1 < G.length ∧ (vl G q.1).k = some (!o) ∧ q.2 < (vl G q.1).bs.length) := fun {q o} hm => by
    obtain ⟨hx, hh⟩ := ct_cases hm
    rcases hh with ⟨hk, _⟩ | ⟨hk, e⟩ | ⟨hk, hi⟩
    · exact Or.inl (x.own (o := o) hc hx (Or.inl hk))
    · exact Or.inl (x.own (o := o) hc hx (Or.inr ⟨(by rw [hk]; intro z; cases z), e⟩))
    · exact Or.inr ⟨hx, hk, hi⟩
  have ow : ∀ {y : Nat}, y < G.length → (vl G y).k ≠ none → shQ G (longC (chV G c)) (y, c y) = 0 ∧ boQ G (longC (chV G c)) (leadC (chV G c)) (y, c y) = 0 := fun {y} hy hk => x.own (o := true) hc hy (Or.inr ⟨hk, rfl⟩)
  unfold BadS
  rcases List.mem_append.mp hs with hs | hs
  · obtain ⟨q, hq, rfl⟩ := List.mem_map.mp hs
    show ¬ (shQ _ _ _ < 0 ∨ shQ _ _ _ = 0 ∧ boQ _ _ _ _ < 0)
    rcases fin hq with ⟨e1, e2⟩ | ⟨hx, hk, hi⟩
    · rw [e1, e2]
      grind
    · have hk : (vl G q.1).k = some false := hk
      have hn : (vl G q.1).k ≠ none := by rw [hk]; intro z; cases z
      obtain ⟨o1, o2⟩ := ow hx hn
      have ht : tgB (vl G q.1) (c q.1) < G.length := tgB_lt (vl_wf x.W hx) (hc _ hx hn)
      have hb : v (tgB (vl G q.1) (c q.1)) ≤ v (tgB (vl G q.1) q.2) := by
        rw [h2 _ hx hk]
        exact vW_le hk hi
      have hl := lex_best x hc hN hv ht (tgB_lt (vl_wf x.W hx) hi) hb
      unfold shQ at o1 ⊢
      unfold boQ at o2 ⊢
      rw [nxQ_side hn] at o1 o2
      rw [nxQ_side hn, nxQ_side hn]
      grind
  · obtain ⟨q, hq, rfl⟩ := List.mem_map.mp hs
    show ¬ (-shQ _ _ _ < 0 ∨ -shQ _ _ _ = 0 ∧ -boQ _ _ _ _ < 0)
    rcases fin hq with ⟨e1, e2⟩ | ⟨hx, hk, hi⟩
    · rw [e1, e2]
      grind
    · have hk : (vl G q.1).k = some true := hk
      have hn : (vl G q.1).k ≠ none := by rw [hk]; intro z; cases z
      obtain ⟨o1, o2⟩ := ow hx hn
      have ht : tgB (vl G q.1) (c q.1) < G.length := tgB_lt (vl_wf x.W hx) (hc _ hx hn)
      have hb : v (tgB (vl G q.1) q.2) ≤ v (tgB (vl G q.1) (c q.1)) := by
        rw [h1 _ hx hk]
        exact vW_ge hk hi
      have hl := lex_best x hc hN hv (tgB_lt (vl_wf x.W hx) hi) ht hb
      unfold shQ at o1 ⊢
      unfold boQ at o2 ⊢
      rw [nxQ_side hn] at o1 o2
      rw [nxQ_side hn, nxQ_side hn]
      grind
end
end Md
set_option Elab.async false
set_option linter.all false
set_option maxRecDepth 100000
set_option maxHeartbeats 2000000
namespace Md
open PySem L2 Evl
section
variable {X : Cx} {K : PySem.W.Frag} {te : TE} {ts : TA} {de : DE} {e : Expr}
def dExt (i : Nat) (de : DE) : DS := fun DD Γ => match gat Γ i with
  | some (.o ds) => de Γ fun x => onL x fun es => ds.length + es.length ≤ 100000 ∧ DD.nx (Γ.set i (some (.o (ds ++ es))))
  | _ => False
end
section
variable {K : PySem.W.Frag} {vs : List V} {h : Hp} {Q : VK} {E : XK}
def kLong : Con := con1 fun x P => ∃ C : List PlC, x = chD C ∧ WfC C ∧ P (listQ C.length (longC C))
def kLead : Con := con1 fun x P => ∃ C : List PlC, x = chD C ∧ WfC C ∧ P (listQ C.length (leadC C))
theorem c_long (x : spP K kLong vs h Q E) : spLong K vs h Q E := by
  obtain ⟨b, ds, P, e, hA, hR, k⟩ := x
  obtain ⟨a1, rfl, C, rfl, h1, p⟩ := con1_is hR
  exact ⟨b, C, e, hA, h1, fun v b' h' g Z gr hl _ _ _ hv _ => k v b' h' _ gr p (by rw [long_is h1 hl] at hv; exact hv)⟩
theorem c_lead (x : spP K kLead vs h Q E) : spLead K vs h Q E := by
  obtain ⟨b, ds, P, e, hA, hR, k⟩ := x
  obtain ⟨a1, rfl, C, rfl, h1, p⟩ := con1_is hR
  exact ⟨b, C, e, hA, h1, fun v b' h' gr hv _ => k v b' h' _ gr p hv⟩
end
structure RwOk (G : List PlV) (w M B : Nat) (g h : Nat → Rat) : Prop where
  W : WfVG w G
  w9 : w ≤ 999
  M0 : 0 < M
  MS : M < 2 ^ 1900
  B1 : 1000 ≤ B
  B9 : B ≤ 2 ^ 900
  gd : ∀ p ∈ G, p.g.2.natAbs ∣ M
  g : ∀ x, x < G.length → NB M B (g x)
  h : ∀ x, x < G.length → NB M B (h x)
section
variable {G : List PlV} {w M B : Nat} {g h : Nat → Rat} {k : Nat}
theorem RwOk.beh (x : RwOk G w M B g h) (hk : k < G.length) : ∃ S, 0 < S ∧ S ≤ 999 ∧ Beh (vl G k) w G.length M B S g ∧ Beh (vl G k) w G.length M B S h := by
  have hw := vl_wf x.W hk
  have key : ∃ S, 0 < S ∧ S ≤ 999 ∧ ((vl G k).k = none → ∀ q ∈ (vl G k).bs, q.1.2.natAbs ∣ S) := by
    by_cases hd : (vl G k).k = none
    · obtain ⟨W, h1, h2, h3⟩ := hw.w hd
      exact ⟨W, h1, Nat.le_trans h2 x.w9, fun _ => h3⟩
    · exact ⟨1, by decide, by decide, fun z => absurd z hd⟩
  obtain ⟨S, s0, s1, hS⟩ := key
  have hms : M * S < 2 ^ 1998 := by
    have := Nat.mul_lt_mul_of_lt_of_le x.MS (Nat.le_trans s1 (by decide : 999 ≤ 2 ^ 10)) (by decide)
    rw [← Nat.pow_add] at this
    exact Nat.lt_of_lt_of_le this (Nat.pow_le_pow_right (by decide) (by decide))
  exact ⟨S, s0, s1, ⟨hw, hS, x.M0, s0, hms, x.B9, fun q hq => x.g _ (hw.t q hq)⟩, ⟨hw, hS, x.M0, s0, hms, x.B9, fun q hq => x.h _ (hw.t q hq)⟩⟩
theorem RwOk.gn (x : RwOk G w M B g h) (hk : k < G.length) : NB M 1000 (gnV G k) := by
  have hm := vl_mem hk
  have hg := (x.W.p _ hm).g
  have c := q_small hg
  exact ⟨zt_den (red_small hg) (x.gd _ hm), c.1, c.2⟩
theorem RwOk.big {r : Rat} {M B S A : Nat} (x : RwOk G w M B g h) (s0 : 0 < S) (s1 : S ≤ 999) (ha : A ≤ 4) (hr : NB (M * S) (A * B) r) : Big 2900 (canon r) := by
  have hms : M * S < 2 ^ 1910 := by
    have := Nat.mul_lt_mul_of_lt_of_le x.MS (Nat.le_trans s1 (by decide : 999 ≤ 2 ^ 10)) (by decide)
    rwa [← Nat.pow_add] at this
  have b : A * B ≤ 2 ^ 902 := by
    have := Nat.mul_le_mul ha x.B9
    exact Nat.le_trans this (by decide +kernel)
  exact nb_big (hr.mono (Nat.dvd_refl _) (Nat.le_max_left _ 1)) (Nat.mul_pos x.M0 s0) (Nat.le_max_right _ 1) (i := 902) (Nat.max_le.mpr ⟨b, Nat.one_le_two_pow⟩) hms (by decide)
theorem RwOk.bigM {r : Rat} {A : Nat} (x : RwOk G w M B g h) (ha : A ≤ 4) (hr : NB M (A * B) r) : Big 2900 (canon r) := x.big (S := 1) (by decide) (by decide) ha (by rw [Nat.mul_one]; exact hr)
theorem RwOk.nx (x : RwOk G w M B g h) {q : Nat × Nat} (hx : q.1 < G.length) (hq : (vl G q.1).k ≠ none → q.2 < (vl G q.1).bs.length) : ∃ S, 0 < S ∧ S ≤ 999 ∧ NB (M * S) B (nxQ (vl G q.1) g q.2) ∧ NB (M * S) B (nxQ (vl G q.1) h q.2) := by
  obtain ⟨S, s0, s1, b1, b2⟩ := x.beh hx
  refine ⟨S, s0, s1, ?_⟩
  by_cases hd : (vl G q.1).k = none
  · rw [nxQ_draw hd, nxQ_draw hd]
    exact ⟨b1.nb, b2.nb⟩
  · rw [nxQ_side hd, nxQ_side hd]
    have ht := tgB_lt (vl_wf x.W hx) (hq hd)
    exact ⟨(x.g _ ht).mono (Nat.dvd_mul_right _ _) (Nat.le_refl _), (x.h _ ht).mono (Nat.dvd_mul_right _ _) (Nat.le_refl _)⟩
theorem RwOk.sl (x : RwOk G w M B g h) {q : Nat × Nat} (hx : q.1 < G.length) (hq : (vl G q.1).k ≠ none → q.2 < (vl G q.1).bs.length) :
    Big 2900 (canon (nxQ (vl G q.1) g q.2)) ∧ Big 2900 (canon (nxQ (vl G q.1) h q.2)) ∧ Big 2900 (canon (gnV G q.1 + nxQ (vl G q.1) h q.2)) ∧ Big 2900 (canon (g q.1 + h q.1)) ∧ Big 2900 (canon (shQ G g q)) ∧ Big 2900 (canon (boQ G g h q)) := by
  obtain ⟨S, s0, s1, n1, n2⟩ := x.nx hx hq
  have b1 := x.B1
  have gS := (x.g _ hx).mono (Nat.dvd_mul_right M S) (Nat.le_refl _)
  have hS := (x.h _ hx).mono (Nat.dvd_mul_right M S) (Nat.le_refl _)
  have eS := (x.gn hx).mono (Nat.dvd_mul_right M S) b1
  have e1 := nb_add eS n2
  have e2 := nb_add gS hS
  refine ⟨x.big s0 s1 (A := 1) (by decide) (by rw [Nat.one_mul]; exact n1), x.big s0 s1 (A := 1) (by decide) (by rw [Nat.one_mul]; exact n2), x.big s0 s1 (A := 2) (by decide) (by rw [Nat.two_mul]; exact e1), x.big s0 s1 (A := 2) (by decide) (by rw [Nat.two_mul]; exact e2), x.big s0 s1 (A := 2) (by decide) (by rw [Nat.two_mul]; exact nb_sub n1 gS), x.big s0 s1 (A := 4) (by decide) ?_⟩
  have e3 := nb_sub e1 e2
  rw [show 4 * B = B + B + (B + B) by omega]
  exact e3
end
def stC (G : List PlV) (o : Bool) (c : Nat → Nat) (k : Nat) : PyData := if (vl G k).k = some o then .int (c k : Int) else .none
end Md
set_option Elab.async false
set_option linter.all false
set_option maxRecDepth 100000
set_option maxHeartbeats 2000000
namespace Md
open PySem L2 Evl
theorem lead_exists2 {C : List PlC} (h : WfC C) : ∃ f Z0 Z, (0 < Z0 ∧ Z0 ≤ 4320 ^ (2 * C.length) ∧ Z0 ∣ Z ∧ ∀ y, y < C.length → NB (denL (gainsC C) * Z0) 1000 (longC C y)) ∧ LeadOk C (longC C) f ∧ 0 < Z ∧ Z ≤ 4320 ^ (5 * C.length) ∧ ∀ y, y < C.length → NB (denL (gainsC C) * Z) (4000 * 4320 ^ (C.length + 1)) (f y) := by
  obtain ⟨Z0, z0, z1, hg⟩ := long_nb h
  obtain ⟨kn, W, inv⟩ := lead_ginv h z0 z1 hg _ (Nat.le_refl _)
  obtain ⟨ip, ig⟩ := ginv_pass inv
  have hsz := size_all h
  have h12 := h.l12
  have hpl := nodup_len (pass_nodup (C := C)) pass_lt
  have hW2 : W ≤ 4320 ^ (3 * C.length) := Nat.le_trans inv.z1 (Nat.pow_le_pow_right (by decide) (by omega))
  obtain ⟨f, D, hF, d0, d1, d2, _⟩ := fill_dataS h pass_nodup (by omega) pass_lt (out_pass h) (e := fun y => gainC C y - longC C y) (kn := kn) (M := denL (gainsC C) * Z0 * W) (B := 4000 * 4320 ^ (C.length - (passL C).length)) (Nat.mul_pos (Nat.mul_pos (unit_lt h).1 z0) inv.z0) (Nat.mul_pos (by decide) (Nat.pow_pos (by decide))) (sz_last h z1 hW2)
    (fun y hy => (ahead_nb h hg y (pass_lt y hy)).mono (Nat.dvd_mul_right _ _) (Nat.le_trans (by decide : 2000 ≤ 4000 * 1) (Nat.mul_le_mul_left 4000 (Nat.pow_pos (by decide))))) (fun y _ => inv.nb y) ip
  obtain ⟨c1, c2, c3, c4⟩ := lead_last h z0 z1 inv d0 d1.1 hF d2
  exact ⟨f, Z0, _, ⟨z0, z1, Nat.dvd_trans (Nat.dvd_mul_right Z0 W) (Nat.dvd_mul_right _ _), hg⟩, c1, c2, c3, c4⟩
theorem both_sizes {C : List PlC} (h : WfC C) : ∃ M1 M, 0 < M1 ∧ 0 < M ∧ M1 ∣ M ∧ M1 < 2 ^ 432 ∧ M < 2 ^ 846 ∧ (∀ y, y < C.length → NB M1 1000 (longC C y)) ∧ ∀ y, y < C.length → NB M (2 ^ 169) (leadC C y) := by
  obtain ⟨f, Z0, Z, ⟨z0, z1, dz, hg⟩, a, b, c, d⟩ := lead_exists2 h
  have h12 := h.l12
  refine ⟨_, _, Nat.mul_pos (unit_lt h).1 z0, Nat.mul_pos (unit_lt h).1 b, Nat.mul_dvd_mul_left _ dz, unit_lt13 (j := 0) h (Nat.le_trans z1 (pow288 (k := 2 * C.length) (a := 24) (by omega))), unit_lt13 (j := 0) h (Nat.le_trans c (pow288' (k := 5 * C.length) (by omega))), hg, fun y hy => ?_⟩
  rw [lead_unique h (lead_ok h) a y hy]
  refine (d y hy).mono (Nat.dvd_refl _) ?_
  have : 4320 ^ (C.length + 1) ≤ 4320 ^ 13 := Nat.pow_le_pow_right (by decide) (by omega)
  exact Nat.le_trans (Nat.mul_le_mul_left 4000 this) (by decide +kernel)
section
variable {G : List PlV} {M0 : Nat} {c : Nat → Nat}
theorem RigOk.gdv (x : RigOk G M0) {N : Nat} : ∀ p ∈ G, p.g.2.natAbs ∣ N * M0 := fun p hp => Nat.dvd_trans (x.g p hp) (Nat.dvd_mul_left _ _)
theorem RigOk.sizes (x : RigOk G M0) (hc : OkC G c) : ∃ M1 M, 0 < M1 ∧ 0 < M ∧ M1 < 2 ^ 432 ∧ M < 2 ^ 863 ∧ (∀ p ∈ G, p.g.2.natAbs ∣ M) ∧ (∀ k, k < G.length → NB M1 1000 (longC (chV G c) k)) ∧ (∀ k, k < G.length → NB M 1000 (longC (chV G c) k)) ∧ ∀ k, k < G.length → NB M (2 ^ 169) (leadC (chV G c) k) := by
  have hwf := x.wfc hc
  have hl : (chV G c).length = G.length := chV_len
  obtain ⟨M1, M, a0, b0, dv, a1, b1, a2, b2⟩ := both_sizes hwf
  rw [hl] at a2 b2
  refine ⟨M1, M * M0, a0, Nat.mul_pos b0 x.m0, a1, ?_, x.gdv, a2, fun k hk => (a2 k hk).mono (Nat.dvd_trans dv (Nat.dvd_mul_right _ _)) (Nat.le_refl _), fun k hk => (b2 k hk).mono (Nat.dvd_mul_right _ _) (Nat.le_refl _)⟩
  have m2 := Nat.mul_lt_mul_of_lt_of_le b1 x.mb (Nat.two_pow_pos 17)
  rw [← Nat.pow_add] at m2
  exact m2
theorem RigOk.rw (x : RigOk G M0) (hc : OkC G c) : ∃ M, RwOk G 360 M (2 ^ 169) (longC (chV G c)) (leadC (chV G c)) := by
  obtain ⟨M1, M, _, m0, _, m2, gd, _, g2, h2⟩ := x.sizes hc
  exact ⟨M, x.W, by decide, m0, Nat.lt_of_lt_of_le m2 (Nat.pow_le_pow_right (by decide) (by decide)), by decide +kernel, Nat.pow_le_pow_right (by decide) (by decide), gd, fun k hk => (g2 k hk).mono (Nat.dvd_refl _) (by decide +kernel), h2⟩
end
end Md
namespace Md
open PySem L2 Evl
section
variable {G : List PlV} {o : Bool} {c : Nat → Nat} {w : Nat}
end
end Md
namespace Md
open PySem L2 Evl
section
variable {G : List PlV} {c : Nat → Nat} {g h : Nat → Rat} {w M B : Nat}
end
end Md
set_option Elab.async false
set_option linter.all false
set_option maxRecDepth 100000
set_option maxHeartbeats 2000000
namespace Md
open PySem L2 Evl
def PosG (G : List PlV) : Prop := ∀ p ∈ G, p.k = none → ∀ q ∈ p.bs, 0 < q.1.1
section
variable {C : List PlC} {g k : Nat → Rat}
theorem abs_bd (f : Nat → Rat) (n : Nat) : ∃ H : Rat, 0 ≤ H ∧ ∀ x, x < n → -H ≤ f x ∧ f x ≤ H := by
  induction n with
  | zero => exact ⟨0, Rat.le_refl, fun x hx => absurd hx (Nat.not_lt_zero _)⟩
  | succ n ih =>
    obtain ⟨H, h0, h1⟩ := ih
    rcases Rat.le_total (a := 0) (b := f n) with q | q
    · refine ⟨H + f n, by grind, fun x hx => ?_⟩
      rcases Nat.lt_or_ge x n with z | z
      · have := h1 x z
        grind
      · have : x = n := by omega
        subst this
        grind
    · refine ⟨H - f n, by grind, fun x hx => ?_⟩
      rcases Nat.lt_or_ge x n with z | z
      · have := h1 x z
        grind
      · have : x = n := by omega
        subst this
        grind
theorem arch_le {a c : Rat} (n : Nat) (h : ∀ p : Nat, n ≤ p → 1 ≤ p → natR p * a ≤ c) : a ≤ 0 := by
  refine Classical.byContradiction fun hn => ?_
  have ha : 0 < a := by grind
  obtain ⟨p, q1, q2, q3⟩ := arch (c / a) n
  have := (Rat.div_lt_iff ha).mp q3
  have := h p q1 q2
  grind
theorem alg_sub {P ε gy mg ky mk gg H : Rat} (e : ε * P = 1) (a2 : gy + ky ≤ gg + mk) (a4 : (P - 1) * gy ≤ (P - 1) * mg) (a5 : ε * mk ≤ ε * H) : P * gy + ky - H ≤ gg + (1 - ε) * (P * mg + mk - H) := by
  have h : (1 - ε) * (P * mg + mk - H) = P * mg - (ε * P) * mg + mk - ε * mk - H + ε * H := by grind
  rw [h, e]
  grind
theorem alg_sup {P ε gy mg ky mk gg H : Rat} (e : ε * P = 1) (a2 : gg + mk ≤ gy + ky) (a4 : (P - 1) * mg ≤ (P - 1) * gy) (a5 : ε * -H ≤ ε * mk) : gg + (1 - ε) * (P * mg + mk - -H) ≤ P * gy + ky - -H := by
  have h : (1 - ε) * (P * mg + mk - -H) = P * mg - (ε * P) * mg + mk - ε * mk + H - ε * H := by grind
  rw [h, e]
  grind
theorem sub_long (h : WfC C) (hex : ∀ p, 2 ≤ p → ∃ w, IsWor C (natR (p - 1) / natR p) (gainC C) w) (h1 : ∀ x, x < C.length → g x ≤ meanC C g x) (h2 : ∀ x, x < C.length → g x + k x ≤ gainC C x + meanC C k x) : ∀ x, x < C.length → g x ≤ longC C x := fun x hx => by
  have hM := WfC.toM h
  obtain ⟨K, K0, hK⟩ := near_one h
  obtain ⟨H, H0, hH⟩ := abs_bd k C.length
  have key : ∀ p : Nat, 2 ≤ p → 1 ≤ p → natR p * (g x - longC C x) ≤ leadC C x - k x + H + K := fun p hp _ => by
    obtain ⟨w, hw⟩ := hex p hp
    have p0 : (0 : Rat) < natR p := natR_pos (by omega)
    have pn : natR p ≠ 0 := by grind
    have e1 : natR (p - 1) + 1 = natR p := by
      have := natR_add (p - 1) 1
      rw [natR_one, show p - 1 + 1 = p by omega] at this
      exact this.symm
    obtain ⟨b0, b1⟩ := beta_p hp
    obtain ⟨ε, hε⟩ : ∃ ε : Rat, ε = 1 / natR p := ⟨_, rfl⟩
    have ε1 : ε * natR p = 1 := by rw [hε]; grind
    have ε0 : 0 ≤ ε := by
      rw [hε]
      exact le_div' p0 (by rw [Rat.zero_mul]; decide +kernel)
    have eβ : natR (p - 1) / natR p = 1 - ε := by
      rw [hε]
      grind
    have ew : ∀ y, meanC C (fun y => natR p * g y + k y - H) y = natR p * meanC C g y + meanC C k y - meanC C (fun _ => H) y := fun y => by
      rw [mean_sub]
      have : meanC C (fun y => natR p * g y + k y) y = natR p * meanC C g y + meanC C k y := by
        rw [← mean_mulC]
        exact wsum_add _ _ _
      rw [this]
    have mc : ∀ y, y < C.length → meanC C (fun _ => H) y = H := fun y hy => by
      have b := wsum_mul (plC C y).bs H (fun _ => 1)
      have s := hM.s y hy
      rw [s, Rat.mul_one] at b
      exact b
    have hw2 := wor_ge hM (Rat.le_of_lt b0) b1 (f := fun y => natR p * g y + k y - H) (fun y hy => by
      rw [ew, mc y hy, eβ]
      have a1 := h1 y hy
      have a2 := h2 y hy
      have a3 : meanC C k y ≤ H := meanM_le hM hy fun j hj => (hH j hj).2
      have p1 : (0 : Rat) ≤ natR (p - 1) := natR_nonneg _
      have a4 := Rat.mul_le_mul_of_nonneg_left a1 p1
      have a5 := Rat.mul_le_mul_of_nonneg_left a3 ε0
      have e2 : natR (p - 1) = natR p - 1 := by grind
      rw [e2] at a4
      exact alg_sub ε1 a2 a4 a5) hw x hx
    have hw3 := (hK p hp w hw x hx).2
    have small : K / natR p ≤ K := by
      have p1 : (1 : Rat) ≤ natR p := by
        have : natR 1 ≤ natR p := natR_le (by omega)
        rwa [natR_one] at this
      refine Md.div_le' p0 ?_
      have := Rat.mul_le_mul_of_nonneg_left p1 K0
      rwa [Rat.mul_one] at this
    grind
  have := arch_le 2 key
  grind
theorem sup_long (h : WfC C) (hex : ∀ p, 2 ≤ p → ∃ w, IsWor C (natR (p - 1) / natR p) (gainC C) w) (h1 : ∀ x, x < C.length → meanC C g x ≤ g x) (h2 : ∀ x, x < C.length → gainC C x + meanC C k x ≤ g x + k x) : ∀ x, x < C.length → longC C x ≤ g x := fun x hx => by
  have hM := WfC.toM h
  obtain ⟨K, K0, hK⟩ := near_one h
  obtain ⟨H, H0, hH⟩ := abs_bd k C.length
  have key : ∀ p : Nat, 2 ≤ p → 1 ≤ p → natR p * (longC C x - g x) ≤ k x - leadC C x + H + K := fun p hp _ => by
    obtain ⟨w, hw⟩ := hex p hp
    have p0 : (0 : Rat) < natR p := natR_pos (by omega)
    have pn : natR p ≠ 0 := by grind
    have e1 : natR (p - 1) + 1 = natR p := by
      have := natR_add (p - 1) 1
      rw [natR_one, show p - 1 + 1 = p by omega] at this
      exact this.symm
    obtain ⟨b0, b1⟩ := beta_p hp
    obtain ⟨ε, hε⟩ : ∃ ε : Rat, ε = 1 / natR p := ⟨_, rfl⟩
    have ε1 : ε * natR p = 1 := by rw [hε]; grind
    have ε0 : 0 ≤ ε := by
      rw [hε]
      exact le_div' p0 (by rw [Rat.zero_mul]; decide +kernel)
    have eβ : natR (p - 1) / natR p = 1 - ε := by
      rw [hε]
      grind
    have ew : ∀ y, meanC C (fun y => natR p * g y + k y - (-H)) y = natR p * meanC C g y + meanC C k y - meanC C (fun _ => -H) y := fun y => by
      rw [mean_sub]
      have : meanC C (fun y => natR p * g y + k y) y = natR p * meanC C g y + meanC C k y := by
        rw [← mean_mulC]
        exact wsum_add _ _ _
      rw [this]
    have mc : ∀ y, y < C.length → meanC C (fun _ => -H) y = -H := fun y hy => by
      have b := wsum_mul (plC C y).bs (-H) (fun _ => 1)
      have s := hM.s y hy
      rw [s, Rat.mul_one] at b
      exact b
    have hw2 := wor_le hM (Rat.le_of_lt b0) b1 (f := fun y => natR p * g y + k y - (-H)) (fun y hy => by
      rw [ew, mc y hy, eβ]
      have a1 := h1 y hy
      have a2 := h2 y hy
      have a3 : -H ≤ meanC C k y := by
        have := meanM_le hM hy (f := fun j => (-1) * k j) (c := H) fun j hj => by
          have := (hH j hj).1
          grind
        rw [mean_mulC] at this
        grind
      have p1 : (0 : Rat) ≤ natR (p - 1) := natR_nonneg _
      have a4 := Rat.mul_le_mul_of_nonneg_left a1 p1
      have a5 := Rat.mul_le_mul_of_nonneg_left a3 ε0
      have e2 : natR (p - 1) = natR p - 1 := by grind
      rw [e2] at a4
      exact alg_sup ε1 a2 a4 a5) hw x hx
    have hw3 := (hK p hp w hw x hx).1
    have small : K / natR p ≤ K := by
      have p1 : (1 : Rat) ≤ natR p := by
        have : natR 1 ≤ natR p := natR_le (by omega)
        rwa [natR_one] at this
      refine Md.div_le' p0 ?_
      have := Rat.mul_le_mul_of_nonneg_left p1 K0
      rwa [Rat.mul_one] at this
    grind
  have := arch_le 2 key
  grind
end
section
variable {G : List PlV} {c d : Nat → Nat} {g h g' h' : Nat → Rat} {M0 : Nat}
theorem RightC.low (r : RightC G c g h) {q : Nat × Nat} (hq : q ∈ ctL G true c) : 0 ≤ shQ G g q ∧ 0 ≤ boQ G g h q := r.s _ (List.mem_append_left _ (List.mem_map.mpr ⟨q, hq, rfl⟩))
theorem RightC.upp (r : RightC G c g h) {q : Nat × Nat} (hq : q ∈ ctL G false c) : shQ G g q ≤ 0 ∧ boQ G g h q ≤ 0 := by
  obtain ⟨a, b⟩ := r.s _ (List.mem_append_right _ (List.mem_map.mpr ⟨q, hq, rfl⟩))
  have a : 0 ≤ -shQ G g q := a
  have b : 0 ≤ -boQ G g h q := b
  constructor <;> grind
theorem mean_nx {e : Nat → Nat} {f : Nat → Rat} {x : Nat} (hx : x < G.length) : meanC (chV G e) f x = nxQ (vl G x) f (e x) := by
  by_cases hk : (vl G x).k = none
  · rw [mean_draw hx hk, nxQ_draw hk]
    unfold vW
    rw [hk]
  · rw [mean_side hx hk, nxQ_side hk, tgV_B]
theorem nx_any {f : Nat → Rat} {x i j : Nat} (hk : (vl G x).k = none) : nxQ (vl G x) f i = nxQ (vl G x) f j := by rw [nxQ_draw hk, nxQ_draw hk]
end
end Md
set_option Elab.async false
set_option linter.all false
set_option maxRecDepth 100000
set_option maxHeartbeats 2000000
namespace Md
open PySem L2 Evl
def SgnOk (G : List PlV) (o : Bool) (c : Nat → Nat) (g h : Nat → Rat) : Prop := ∀ q ∈ ctL G o c, if o = true then 0 ≤ shQ G g q ∧ 0 ≤ boQ G g h q else shQ G g q ≤ 0 ∧ boQ G g h q ≤ 0
instance {G : List PlV} {o : Bool} {c : Nat → Nat} {g h : Nat → Rat} : Decidable (SgnOk G o c g h) := by
  unfold SgnOk
  exact inferInstance
def riL (G : List PlV) (t : Nat) : List Rat := (List.range G.length).map fun k => wG G 1 (t + 1) k - wG G 1 t k
end Md
set_option Elab.async false
set_option linter.all false
set_option maxRecDepth 100000
set_option maxHeartbeats 2000000
namespace Md
open PySem L2 Evl
end Md
namespace Md
open PySem L2 Evl
end Md
set_option Elab.async false
set_option linter.all false
set_option maxRecDepth 100000
set_option maxHeartbeats 2000000
namespace Md
open PySem L2 Evl
structure LowC (G : List PlV) (c : Nat → Nat) (g h : Nat → Rat) : Prop where
  ok : OkC G c
  s : ∀ q ∈ ctL G true c, 0 ≤ shQ G g q ∧ 0 ≤ boQ G g h q
structure UppC (G : List PlV) (c : Nat → Nat) (g h : Nat → Rat) : Prop where
  ok : OkC G c
  s : ∀ q ∈ ctL G false c, shQ G g q ≤ 0 ∧ boQ G g h q ≤ 0
section
variable {G : List PlV} {c d : Nat → Nat} {g h g' h' : Nat → Rat} {M0 : Nat}
theorem RightC.toLow (r : RightC G c g h) : LowC G c g h := ⟨r.ok, fun _ hq => r.low hq⟩
theorem RightC.toUpp (r : RightC G c g h) : UppC G c g h := ⟨r.ok, fun _ hq => r.upp hq⟩
end
structure Alike (G H : List PlV) : Prop where
  l : H.length = G.length
  k : ∀ x, x < G.length → (vl H x).k = (vl G x).k ∧ (vl H x).bs = (vl G x).bs
section
variable {G H : List PlV} {c : Nat → Nat} {g h : Nat → Rat} {o : Bool}
theorem Alike.nx (a : Alike G H) {x i : Nat} (hx : x < G.length) (f : Nat → Rat) : nxQ (vl H x) f i = nxQ (vl G x) f i := by
  obtain ⟨e1, e2⟩ := a.k x hx
  unfold nxQ vW tgB
  rw [e1, e2]
theorem Alike.ctP (a : Alike G H) {x : Nat} (hx : x < G.length) : ctP H o c x = ctP G o c x := by
  obtain ⟨e1, e2⟩ := a.k x hx
  unfold Md.ctP
  rw [e1, e2]
theorem Alike.ct (a : Alike G H) : ctL H o c = ctL G o c := by
  unfold ctL
  rw [a.l]
  have : ∀ l : List Nat, (∀ x ∈ l, x < G.length) → l.flatMap (Md.ctP H o c) = l.flatMap (Md.ctP G o c) := fun l => by
    induction l with
    | nil => exact fun _ => rfl
    | cons x l ih =>
      intro hl
      rw [List.flatMap_cons, List.flatMap_cons, a.ctP (hl x List.mem_cons_self), ih fun y hy => hl y (List.mem_cons_of_mem _ hy)]
  exact this _ fun x hx => List.mem_range.mp hx
theorem Alike.ok (a : Alike G H) (hc : OkC G c) : OkC H c := fun x hx hk => by
  rw [a.l] at hx
  obtain ⟨e1, e2⟩ := a.k x hx
  rw [e2]
  exact hc x hx (by rw [← e1]; exact hk)
theorem Alike.sh (a : Alike G H) {q : Nat × Nat} (hq : q.1 < G.length) : shQ H g q = shQ G g q := by
  unfold shQ
  rw [a.nx hq]
theorem Alike.bo (a : Alike G H) {q : Nat × Nat} (hq : q.1 < G.length) : boQ H g h q = boQ G g h q + (gnV H q.1 - gnV G q.1) := by
  unfold boQ
  rw [a.nx hq]
  grind
theorem nx_add {p : PlV} {w n : Nat} (hw : WfV w n p) {f : Nat → Rat} {t : Rat} {i : Nat} : nxQ p (fun x => f x + t) i = nxQ p f i + t := by
  unfold nxQ
  split
  · exact vW_add hw f t
  · rfl
theorem LowC.plus {w : Nat} (r : LowC G c g h) (hW : WfVG w G) (a : Alike G H) {t : Rat} (he : ∀ x, x < G.length → gnV H x = gnV G x + t) : LowC H c (fun x => g x + t) h := ⟨a.ok r.ok, fun q hq => by
  rw [a.ct] at hq
  have hx := (ct_cases hq).1
  obtain ⟨b1, b2⟩ := r.s q hq
  rw [a.sh hx, a.bo hx]
  have := he _ hx
  unfold shQ at b1 ⊢
  unfold boQ at b2 ⊢
  rw [nx_add (vl_wf hW hx)]
  constructor <;> grind⟩
theorem UppC.plus {w : Nat} (r : UppC G c g h) (hW : WfVG w G) (a : Alike G H) {t : Rat} (he : ∀ x, x < G.length → gnV H x = gnV G x + t) : UppC H c (fun x => g x + t) h := ⟨a.ok r.ok, fun q hq => by
  rw [a.ct] at hq
  have hx := (ct_cases hq).1
  obtain ⟨b1, b2⟩ := r.s q hq
  rw [a.sh hx, a.bo hx]
  have := he _ hx
  unfold shQ at b1 ⊢
  unfold boQ at b2 ⊢
  rw [nx_add (vl_wf hW hx)]
  constructor <;> grind⟩
end
section
variable {G H : List PlV} {c d : Nat → Nat} {g h g' h' : Nat → Rat} {M0 M1 : Nat}
end
end Md
namespace Md
open PySem L2 Evl
structure Swap (G H : List PlV) : Prop where
  l : H.length = G.length
  k : ∀ x, x < G.length → (vl H x).k = (vl G x).k.map (!·) ∧ (vl H x).bs = (vl G x).bs
section
variable {G H : List PlV} {c d : Nat → Nat} {g h g' h' : Nat → Rat} {o : Bool} {M0 M1 : Nat}
theorem Swap.none (a : Swap G H) {x : Nat} (hx : x < G.length) : (vl H x).k = none ↔ (vl G x).k = none := by
  rw [(a.k x hx).1]
  cases (vl G x).k <;> simp
theorem Swap.some (a : Swap G H) {x : Nat} (hx : x < G.length) : (vl H x).k = some (!o) ↔ (vl G x).k = some o := by
  rw [(a.k x hx).1]
  cases (vl G x).k with
  | none => simp
  | some p => cases p <;> cases o <;> simp
theorem Swap.nx (a : Swap G H) {x i : Nat} (hx : x < G.length) (f : Nat → Rat) : nxQ (vl H x) (fun y => -f y) i = -nxQ (vl G x) f i := by
  have e2 := (a.k x hx).2
  by_cases hk : (vl G x).k = Option.none
  · have hk2 := (a.none hx).mpr hk
    rw [nxQ_draw hk, nxQ_draw hk2]
    unfold vW
    rw [hk, hk2]
    show wsum _ _ = -wsum _ _
    rw [e2]
    have := wsum_mul (vl G x).bs (-1) f
    have e : wsum (vl G x).bs (fun y => -f y) = wsum (vl G x).bs (fun j => -1 * f j) := wsum_congr fun q _ => by grind
    rw [e, this]
    grind
  · have hk2 : (vl H x).k ≠ Option.none := fun z => hk ((a.none hx).mp z)
    rw [nxQ_side hk, nxQ_side hk2]
    unfold tgB
    rw [e2]
theorem Swap.ct (a : Swap G H) {q : Nat × Nat} : q ∈ ctL H (!o) c ↔ q ∈ ctL G o c := by
  rw [mem_ct, mem_ct, a.l]
  refine ⟨fun ⟨hx, hm⟩ => ⟨hx, ?_⟩, fun ⟨hx, hm⟩ => ⟨hx, ?_⟩⟩
  all_goals
    have e2 := (a.k q.1 hx).2
    have n := a.none hx
    have s := a.some (o := o) hx
    unfold ctP at hm ⊢
    by_cases hk : (vl G q.1).k = Option.none
    · have hk2 := n.mpr hk
      simp only [hk, hk2, if_true] at hm ⊢
      exact hm
    · have hk2 : ¬ (vl H q.1).k = Option.none := fun z => hk (n.mp z)
      by_cases ho : (vl G q.1).k = Option.some o
      · have ho2 := s.mpr ho
        rw [if_neg hk, if_pos ho] at *
        rw [if_neg hk2, if_pos ho2] at *
        exact hm
      · have ho2 : ¬ (vl H q.1).k = Option.some (!o) := fun z => ho (s.mp z)
        rw [if_neg hk, if_neg ho] at *
        rw [if_neg hk2, if_neg ho2] at *
        first
          | exact hm
          | (rw [e2] at hm; exact hm)
          | (rw [e2]; exact hm)
theorem Swap.ok (a : Swap G H) (hc : OkC G c) : OkC H c := fun x hx hk => by
  rw [a.l] at hx
  rw [(a.k x hx).2]
  exact hc x hx fun z => hk ((a.none hx).mpr z)
theorem Swap.sh (a : Swap G H) {q : Nat × Nat} (hq : q.1 < G.length) : shQ H (fun y => -g y) q = -shQ G g q := by
  unfold shQ
  rw [a.nx hq]
  grind
theorem Swap.bo (a : Swap G H) {q : Nat × Nat} (hq : q.1 < G.length) : boQ H (fun y => -g y) (fun y => -h y) q = -boQ G g h q + (gnV H q.1 + gnV G q.1) := by
  unfold boQ
  rw [a.nx hq]
  grind
end
section
variable {G H : List PlV} {c d : Nat → Nat} {g h g' h' : Nat → Rat} {M0 M1 : Nat}
theorem nx_mul {p : PlV} {w n : Nat} (hw : WfV w n p) {f : Nat → Rat} {t : Rat} (ht : 0 ≤ t) {i : Nat} : nxQ p (fun x => f x * t) i = nxQ p f i * t := by
  unfold nxQ
  split
  · exact vW_mul hw ht f
  · rfl
theorem LowC.times {w : Nat} (r : LowC G c g h) (hW : WfVG w G) (a : Alike G H) {t : Rat} (ht : 0 ≤ t) (he : ∀ x, x < G.length → gnV H x = gnV G x * t) : LowC H c (fun x => g x * t) (fun x => h x * t) := ⟨a.ok r.ok, fun q hq => by
  rw [a.ct] at hq
  have hx := (ct_cases hq).1
  obtain ⟨b1, b2⟩ := r.s q hq
  rw [a.sh hx, a.bo hx]
  have := he _ hx
  unfold shQ at b1 ⊢
  unfold boQ at b2 ⊢
  rw [nx_mul (vl_wf hW hx) ht, nx_mul (vl_wf hW hx) ht]
  have m1 := Rat.mul_nonneg b1 ht
  have m2 := Rat.mul_nonneg b2 ht
  constructor <;> grind⟩
theorem UppC.times {w : Nat} (r : UppC G c g h) (hW : WfVG w G) (a : Alike G H) {t : Rat} (ht : 0 ≤ t) (he : ∀ x, x < G.length → gnV H x = gnV G x * t) : UppC H c (fun x => g x * t) (fun x => h x * t) := ⟨a.ok r.ok, fun q hq => by
  rw [a.ct] at hq
  have hx := (ct_cases hq).1
  obtain ⟨b1, b2⟩ := r.s q hq
  rw [a.sh hx, a.bo hx]
  have := he _ hx
  unfold shQ at b1 ⊢
  unfold boQ at b2 ⊢
  rw [nx_mul (vl_wf hW hx) ht, nx_mul (vl_wf hW hx) ht]
  have m1 := Rat.mul_le_mul_of_nonneg_right b1 ht
  have m2 := Rat.mul_le_mul_of_nonneg_right b2 ht
  rw [Rat.zero_mul] at m1 m2
  constructor <;> grind⟩
end
end Md
set_option Elab.async false
set_option linter.all false
set_option maxRecDepth 100000
set_option maxHeartbeats 2000000
namespace Md
open PySem L2 Evl
end Md
namespace Md
open PySem L2 Evl
theorem vl_list (G : List PlV) : (List.range G.length).map (vl G) = G := by
  have := map_vl G fun p => p
  rwa [List.map_id'] at this
end Md
namespace Md
open PySem L2 Evl
theorem gG_like {G : List PlV} {e : Nat → Rat} : Alike G (gG G e) := ⟨gG_len, fun x hx => by
  rw [gG_at hx]
  exact ⟨rfl, rfl⟩⟩
end Md
set_option Elab.async false
set_option linter.all false
set_option maxRecDepth 100000
set_option maxHeartbeats 2000000
namespace Md
open PySem L2 Evl
def dSorted (da : DE) : DN := fun Γ P => da Γ fun x => ∃ ns : List Int, x = .list (ns.map PyData.int) ∧ ∀ ns' : List Int, ns'.Perm ns → ns'.Pairwise (· ≤ ·) → P (ns'.map PyData.int)
end Md
namespace Md
open PySem L2 Evl
def dForL (ws : List Nat) (i : Nat) (dg : DG) (du : DS) : DS := fun DD Γ => match gat Γ i with
  | some (.o ds) => ∃ I : Nat → Gam → Prop, I 0 (wipeG Γ ws) ∧ (∀ k x Γ', ds[k]? = some x → I k Γ' → dg x Γ' fun Γ1 => du { DD with nx := fun Γ2 => I (k + 1) (wipeG Γ2 ws), ct := fun Γ2 => I (k + 1) (wipeG Γ2 ws), bk := DD.nx } Γ1) ∧ ∀ Γ', I ds.length Γ' → DD.nx Γ'
  | _ => False
end Md
namespace Md
open PySem L2 Evl
inductive RchG (G : List PlV) (x : Nat) : Nat → Prop
  | refl : RchG G x x
  | step {y : Nat} {q : BrC} (h : RchG G x y) (hq : q ∈ (vl G y).bs) : RchG G x q.2
section
variable {G : List PlV} {w x y : Nat}
structure FndG (G : List PlV) (x : Nat) (l : List Nat) : Prop where
  nd : l.Nodup
  r : ∀ y ∈ l, RchG G x y
  m : x ∈ l
theorem FndG.add {l : List Nat} (f : FndG G x l) {y : Nat} (hy : y ∈ l) {q : BrC} (hq : q ∈ (vl G y).bs) : FndG G x (if q.2 ∈ l then l else l ++ [q.2]) := by
  split
  · exact f
  · rename_i h
    refine ⟨List.nodup_append.mpr ⟨f.nd, by simp, fun a ha b hb => ?_⟩, fun z hz => ?_, List.mem_append_left _ f.m⟩
    · rw [List.mem_singleton.mp hb]
      intro e
      rw [e] at ha
      exact h ha
    · rcases List.mem_append.mp hz with hz | hz
      · exact f.r z hz
      · rw [List.mem_singleton.mp hz]
        exact .step (f.r y hy) hq
end
end Md
namespace Md
open PySem L2 Evl
def alF (G : List PlV) (o : Bool) : Nat → List (List PyData)
  | 0 => [[]]
  | i + 1 => if (vl G i).k = some o then (alF G o i).flatMap fun row => (List.range (vl G i).bs.length).map fun b : Nat => row ++ [.int (b : Int)] else (alF G o i).map fun row => row ++ [.none]
theorem al_row {G : List PlV} {o : Bool} : ∀ {i : Nat} {row : List PyData}, row ∈ alF G o i → row.length = i
  | 0, row, h => by
    rw [List.mem_singleton.mp h]
    rfl
  | i + 1, row, h => by
    unfold alF at h
    split at h
    · obtain ⟨r, hr, h⟩ := List.mem_flatMap.mp h
      obtain ⟨b, _, rfl⟩ := List.mem_map.mp h
      rw [List.length_append, al_row hr]
      rfl
    · obtain ⟨r, hr, rfl⟩ := List.mem_map.mp h
      rw [List.length_append, al_row hr]
      rfl
end Md
namespace Md
open PySem L2 Evl
end Md
set_option Elab.async false
set_option linter.all false
set_option maxRecDepth 100000
set_option maxHeartbeats 2000000
namespace Md
open PySem L2 Evl
mutual
def nol : PyData → Bool
  | .none => true
  | .bool _ => true
  | .int _ => true
  | .str _ => true
  | .tuple ds => nolA ds
  | _ => false
def nolA : List PyData → Bool
  | [] => true
  | d :: ds => nol d && nolA ds
end
section
variable {K : PySem.W.Frag} {b0 h0 bf b h b' h' b1 b2 h2 : Hp} {Γ Γ' : Gam} {σ σ' : L2.St}
end
def dAsgX (de : DE) (dg : DG) : DS := fun DD Γ => de (allD Γ) fun x => nol x = true ∧ dg x Γ DD.nx
def dAsgXN (i : Nat) (dn : DN) : DS := fun DD Γ => dn (allD Γ) fun ds => nolA ds = true ∧ DD.nx (Γ.set i (some (.d (.list ds))))
def dAsgXO (i : Nat) (dn : DN) : DS := fun DD Γ => dn (allD Γ) fun ds => nolA ds = true ∧ i < Γ.length ∧ DD.nx (Γ.set i (some (.o ds)))
def dAppX (i : Nat) (de : DE) : DS := fun DD Γ => match gat Γ i with
  | some (.o ds) => de (allD Γ) fun x => nol x = true ∧ ds.length < 100000 ∧ DD.nx (Γ.set i (some (.o (ds ++ [x]))))
  | _ => False
def dAppXN (i : Nat) (dn : DN) : DS := fun DD Γ => match gat Γ i with
  | some (.o ds) => dn (allD Γ) fun es => nolA es = true ∧ ds.length < 100000 ∧ DD.nx (Γ.set i (some (.o (ds ++ [.list es]))))
  | _ => False
def dSetX (i : Nat) (dj de : DE) : DS := fun DD Γ => match gat Γ i with
  | some (.o ds) => de (allD Γ) fun x => nol x = true ∧ dj (allD Γ) fun k => onI k fun k => ∃ j, L2.ixN ds.length k = some j ∧ DD.nx (Γ.set i (some (.o (ds.set j x))))
  | _ => False
def dSetXN (i : Nat) (dj : DE) (dn : DN) : DS := fun DD Γ => match gat Γ i with
  | some (.o ds) => dn (allD Γ) fun es => nolA es = true ∧ dj (allD Γ) fun k => onI k fun k => ∃ j, L2.ixN ds.length k = some j ∧ DD.nx (Γ.set i (some (.o (ds.set j (.list es)))))
  | _ => False
def dAsgIx (m i : Nat) (dj : DE) : DS := fun DD Γ => match gat Γ i with
  | some (.o ds) => dj (allD Γ) fun k => onI k fun k => ∃ x, L2.atI ds k = some x ∧ m < Γ.length ∧ DD.nx (Γ.set m (some (.d x)))
  | _ => False
def dSetIx (i : Nat) (dj dl : DE) : DS := fun DD Γ => match gat Γ i with
  | some (.o ds) => dl (allD Γ) fun l => onI l fun l => ∃ x, L2.atI ds l = some x ∧ dj (allD Γ) fun k => onI k fun k => ∃ j, L2.ixN ds.length k = some j ∧ DD.nx (Γ.set i (some (.o (ds.set j x))))
  | _ => False
def dRetX (de : DE) : DS := fun DD Γ => de (allD Γ) fun x => nol x = true ∧ DD.rt x
def dRetXN (dn : DN) : DS := fun DD Γ => dn (allD Γ) fun ds => nolA ds = true ∧ DD.ro ds
section
variable {K : PySem.W.Frag} {te ta tb tj tl : TE} {ts tk tr : TA} {da db de dj dl : DE} {dn dr dk di : DN} {tt : TT} {dt : DT} {g : TG} {dg : DG} {js : List Nat} {t u w : TS} {dt1 du dw : DS} {wi : TI}
end
end Md
namespace Md
open PySem L2 Evl
section
variable {X : Cx} {K : PySem.W.Frag} {pos : Pos}
end
def dgL (n : Nat) (gs : DGs) : DG := fun x Γ P => onL x fun ds => ds.length = n ∧ gs ds Γ P
end Md
set_option Elab.async false
set_option linter.all false
set_option maxRecDepth 100000
set_option maxHeartbeats 2000000
namespace Md
open PySem L2 Evl
def KerR (n : Nat) (f : Nat → Nat → Rat) (z : Nat → Rat) : Prop := ∀ i, i < n → sumR (n + 1) (fun j => f i j * z j) = 0
def TrivR (n : Nat) (f : Nat → Nat → Rat) : Prop := ∀ z : Nat → Rat, z n = 0 → KerR n f z → ∀ j, j < n → z j = 0
def SolR (n : Nat) (f : Nat → Nat → Rat) (x : Nat → Rat) : Prop := ∀ i, i < n → sumR n (fun j => f i j * x j) = f i n
def RSz (B E V n : Nat) (r : Nat → Rat) : Prop := ∃ d : Nat, 0 < d ∧ d ≤ B ∧ (∀ j, j < n → NB 1 B (r j * natR d)) ∧ NB E V (r n * natR d)
def gjA (f : Nat → Nat → Rat) (c p : Nat) : Nat → Nat → Rat := fun i => if i = c then fun j => 1 / f p c * f p j else if i = p then f c else f i
def gjE (f : Nat → Nat → Rat) (c m : Nat) : Nat → Nat → Rat := fun i => if i < m ∧ i ≠ c then fun j => f i j - f i c * f c j else f i
theorem nb_up {M B d : Nat} {r : Rat} (h : NB M B (r * natR d)) (hd : 0 < d) : NB (M * d) B r := by
  obtain ⟨z, hz⟩ := h.zt
  have d1 : (1 : Rat) ≤ natR d := by
    have := natR_le (show 1 ≤ d from hd)
    rwa [natR_one] at this
  have lo := h.lo
  have hi := h.hi
  have B0 := natR_nonneg B
  refine ⟨⟨z, ?_⟩, ?_, ?_⟩
  · rw [← hz]
    have e : (((M * d : Nat) : Int) : Rat) = natR M * natR d := natR_mul M d
    rw [e]
    show _ = r * natR d * natR M
    grind
  · refine Classical.byContradiction fun hn => ?_
    have q : r < -natR B := by grind
    have d0 : (0 : Rat) ≤ natR d := natR_nonneg d
    have a := Rat.mul_le_mul_of_nonneg_right (Rat.le_of_lt q) d0
    have r0 : r ≤ 0 := by grind
    have b := Rat.mul_le_mul_of_nonneg_left (show (0:Rat) ≤ natR d - 1 by grind) (show (0:Rat) ≤ -r by grind)
    grind
  · refine Classical.byContradiction fun hn => ?_
    have q : natR B < r := by grind
    have r0 : 0 ≤ r := by grind
    have b := Rat.mul_le_mul_of_nonneg_left (show (0:Rat) ≤ natR d - 1 by grind) r0
    grind
theorem RSz.up {B E V n B' V' : Nat} {r : Nat → Rat} (x : RSz B E V n r) (h1 : B ≤ B') (h2 : V ≤ V') : RSz B' E V' n r := by
  obtain ⟨d, d0, d1, h, k⟩ := x
  exact ⟨d, d0, Nat.le_trans d1 h1, fun j hj => (h j hj).mono (Nat.dvd_refl _) h1, k.mono (Nat.dvd_refl _) h2⟩
theorem RSz.nb {B E V n : Nat} {r : Nat → Rat} (x : RSz B E V n r) (hV : B ≤ V) : ∃ d, 0 < d ∧ d ≤ B ∧ ∀ j, j < n + 1 → NB (E * d) V (r j) := by
  obtain ⟨d, d0, d1, h, k⟩ := x
  refine ⟨d, d0, d1, fun j hj => ?_⟩
  rcases Nat.lt_or_ge j n with q | q
  · exact (nb_up (h j q) d0).mono (by rw [Nat.one_mul]; exact Nat.dvd_mul_left _ _) hV
  · have e : j = n := by omega
    subst e
    exact nb_up k d0
theorem nb_int_of {B : Nat} {r : Rat} (h : NB 1 B r) : ∃ z : Int, r = (z : Rat) ∧ z.natAbs ≤ B := by
  obtain ⟨z, hz⟩ := h.zt
  have e : r = (z : Rat) := by
    rw [← hz]
    show r = r * natR 1
    rw [natR_one, Rat.mul_one]
  refine ⟨z, e, ?_⟩
  have := nb_abs h (z := z) (by rw [natR_one, Rat.mul_one]; exact e.symm)
  omega
theorem RSz.scale {B E V n c : Nat} {r : Nat → Rat} (x : RSz B E V n r) (hc : c < n) (h0 : r c ≠ 0) : RSz B E V n fun j => 1 / r c * r j := by
  obtain ⟨d, d0, d1, h, k⟩ := x
  obtain ⟨z, hz, hb⟩ := nb_int_of (h c hc)
  have dp : natR d ≠ 0 := by have := natR_pos d0; grind
  have z0 : z ≠ 0 := fun e => by
    rw [e] at hz
    have hz : r c * natR d = 0 := hz
    rcases Rat.mul_eq_zero.mp hz with q | q
    · exact h0 q
    · exact dp q
  have es : natR z.natAbs = (z : Rat) ∨ natR z.natAbs = -(z : Rat) := by
    have e : natR z.natAbs = ((z.natAbs : Int) : Rat) := rfl
    rw [e]
    rcases Int.natAbs_eq z with q | q
    · exact Or.inl (by rw [← q])
    · refine Or.inr ?_
      rw [← Rat.intCast_neg]
      congr 1
      omega
  have key : ∀ j, 1 / r c * r j * natR z.natAbs = r j * natR d ∨ 1 / r c * r j * natR z.natAbs = -(r j * natR d) := fun j => by
    rcases es with e | e
    · refine Or.inl ?_
      rw [e, ← hz]
      grind
    · refine Or.inr ?_
      rw [e, ← hz]
      grind
  have g : ∀ {M B : Nat} {j : Nat}, NB M B (r j * natR d) → NB M B (1 / r c * r j * natR z.natAbs) := fun {M B j} hh => by
    rcases key j with e | e
    · rw [e]; exact hh
    · rw [e]; exact nb_neg hh
  exact ⟨z.natAbs, by omega, hb, fun j hj => g (h j hj), g k⟩
theorem RSz.elim {B E V n c : Nat} {q s : Nat → Rat} (x : RSz B E V n q) (y : RSz B E V n s) (hc : c < n) : RSz (2 * (B * B)) E (2 * (B * V)) n fun j => q j - q c * s j := by
  obtain ⟨d, d0, d1, h, k⟩ := x
  obtain ⟨e, e0, e1, h', k'⟩ := y
  have B0 : 0 < B := by omega
  refine ⟨d * e, Nat.mul_pos d0 e0, Nat.le_trans (Nat.mul_le_mul d1 e1) (by omega), fun j hj => ?_, ?_⟩
  · have a := nb_mul (h j hj) ((nb_nat e).mono (Nat.dvd_refl _) e1)
    have b := nb_mul (h c hc) (h' j hj)
    have t := nb_sub a b
    have ee : (q j - q c * s j) * natR (d * e) = q j * natR d * natR e - q c * natR d * (s j * natR e) := by
      rw [natR_mul]
      grind
    rw [ee]
    exact t.mono (Nat.dvd_refl _) (by omega)
  · have a := nb_mul k ((nb_nat e).mono (Nat.dvd_refl _) e1)
    have b := nb_mul (h c hc) k'
    rw [Nat.mul_one] at a
    rw [Nat.one_mul] at b
    have t := nb_sub a b
    have ee : (q n - q c * s n) * natR (d * e) = q n * natR d * natR e - q c * natR d * (s n * natR e) := by
      rw [natR_mul]
      grind
    rw [ee]
    exact t.mono (Nat.dvd_refl _) (by rw [Nat.mul_comm V B]; omega)
def bG (B : Nat) : Nat → Nat
  | 0 => B
  | c + 1 => 2 * (bG B c * bG B c)
def vG (B V : Nat) : Nat → Nat
  | 0 => V
  | c + 1 => 2 * (bG B c * vG B V c)
structure GjI (n B E V : Nat) (f0 f : Nat → Nat → Rat) (c : Nat) : Prop where
  ker : ∀ z, KerR n f z → KerR n f0 z
  un : ∀ i j, i < n → j < c → f i j = if i = j then 1 else 0
  sz : ∀ i, i < n → RSz (bG B c) E (vG B V c) n (f i)
theorem sum_only {n c : Nat} {g : Nat → Rat} (h : c < n) (h0 : ∀ j, c < j → j < n → g j = 0) : sumR n g = sumR c g + g c := by
  rw [sumR_low (m := c + 1) h (fun y h1 h2 => h0 y h1 h2), sumR_succ]
theorem GjI.pivot {n B E V c : Nat} {f0 f : Nat → Nat → Rat} (x : GjI n B E V f0 f c) (ht : TrivR n f0) (hc : c < n) : ∃ k, c ≤ k ∧ k < n ∧ f k c ≠ 0 := by
  refine Classical.byContradiction fun hn => ?_
  have h0 : ∀ k, c ≤ k → k < n → f k c = 0 := fun k h1 h2 => Classical.byContradiction fun h => hn ⟨k, h1, h2, h⟩
  have z := ht (fun j => if j < c then -f j c else if j = c then 1 else 0) (by rw [if_neg (by omega), if_neg (by omega)]) (x.ker _ fun i hi => ?_) c hc
  · rw [if_neg (by omega), if_pos rfl] at z
    exact absurd z (by decide)
  · rw [sum_only (c := c) (by omega) (fun j h1 h2 => by rw [if_neg (by omega), if_neg (by omega), Rat.mul_zero])]
    rw [if_neg (Nat.lt_irrefl c), if_pos rfl, Rat.mul_one]
    have e : sumR c (fun j => f i j * if j < c then -f j c else if j = c then 1 else 0) = sumR c fun j => if j = i then -f i c else 0 := sumR_congr fun j hj => by
      rw [if_pos hj, x.un i j hi hj]
      by_cases q : j = i
      · subst q
        rw [if_pos rfl, if_pos rfl]
        grind
      · rw [if_neg (fun e => q e.symm), if_neg q, Rat.zero_mul]
    rw [e]
    rcases Nat.lt_or_ge i c with q | q
    · rw [sumR_one _ q]
      grind
    · rw [sumR_zeros (fun j hj => if_neg (by omega)), h0 i q hi]
      grind
theorem GjI.step {n B E V c p : Nat} {f0 f : Nat → Nat → Rat} (x : GjI n B E V f0 f c) (hc : c < n) (h1 : c ≤ p) (hp : p < n) (h0 : f p c ≠ 0) : GjI n B E V f0 (gjE (gjA f c p) c n) (c + 1) := by
  have hB : ∀ c, bG B c ≤ bG B (c + 1) := fun c => by
    show _ ≤ 2 * (bG B c * bG B c)
    rcases Nat.eq_zero_or_pos (bG B c) with q | q
    · rw [q]; exact Nat.zero_le _
    · have := Nat.le_mul_of_pos_left (bG B c) q
      omega
  have B1 : 0 < bG B c := by
    obtain ⟨d, d0, d1, _⟩ := x.sz c hc
    omega
  have hV : vG B V c ≤ vG B V (c + 1) := by
    show _ ≤ 2 * (bG B c * vG B V c)
    have := Nat.le_mul_of_pos_left (vG B V c) B1
    omega
  have eA : ∀ i, i < n → RSz (bG B c) E (vG B V c) n (gjA f c p i) := fun i hi => by
    unfold gjA
    split
    · exact (x.sz p hp).scale hc h0
    · split
      · exact x.sz c hc
      · exact x.sz i hi
  have ec : gjA f c p c = fun j => 1 / f p c * f p j := if_pos rfl
  have eu : ∀ i j, i < n → j < c → gjA f c p i j = if i = j then 1 else 0 := fun i j hi hj => by
    unfold gjA
    split
    · rename_i e
      show 1 / f p c * f p j = _
      rw [x.un p j hp hj, if_neg (by omega), if_neg (by omega), Rat.mul_zero]
    · split
      · rename_i e1 e2
        rw [x.un c j hc hj, if_neg (by omega), if_neg (by omega)]
      · exact x.un i j hi hj
  have e1 : gjA f c p c c = 1 := by
    rw [ec]
    show 1 / f p c * f p c = 1
    grind
  refine ⟨fun z hz => x.ker z fun i hi => ?_, fun i j hi hj => ?_, fun i hi => ?_⟩
  · -- the row c
    have kc : sumR (n + 1) (fun j => gjA f c p c j * z j) = 0 := by
      have := hz c hc
      unfold gjE at this
      rwa [if_neg (fun h => h.2 rfl)] at this
    have ki : ∀ i, i < n → i ≠ c → sumR (n + 1) (fun j => gjA f c p i j * z j) = 0 := fun i hi hic => by
      have a := hz i hi
      unfold gjE at a
      rw [if_pos ⟨hi, hic⟩] at a
      have e : sumR (n + 1) (fun j => (gjA f c p i j - gjA f c p i c * gjA f c p c j) * z j) = sumR (n + 1) (fun j => gjA f c p i j * z j) + -gjA f c p i c * sumR (n + 1) (fun j => gjA f c p c j * z j) := by
        rw [← sumR_mul, ← sumR_add]
        exact sumR_congr fun j _ => by grind
      rw [e, kc] at a
      grind
    have kp : sumR (n + 1) (fun j => f p j * z j) = 0 := by
      rw [ec] at kc
      have e : sumR (n + 1) (fun j => 1 / f p c * f p j * z j) = 1 / f p c * sumR (n + 1) (fun j => f p j * z j) := by
        rw [← sumR_mul]
        exact sumR_congr fun j _ => by grind
      rw [e] at kc
      rcases Rat.mul_eq_zero.mp kc with q | q
      · exfalso
        have : f p c * (1 / f p c) = 1 := by grind
        rw [q, Rat.mul_zero] at this
        exact absurd this (by decide)
      · exact q
    by_cases q : i = p
    · rw [q]; exact kp
    · by_cases q2 : i = c
      · rw [q2]
        have a := ki p hp (fun e => q (by omega))
        unfold gjA at a
        rw [if_neg (fun e => q (by omega)), if_pos rfl] at a
        exact a
      · have a := ki i hi q2
        unfold gjA at a
        rw [if_neg q2, if_neg q] at a
        exact a
  · unfold gjE
    split
    · rename_i h
      show gjA f c p i j - gjA f c p i c * gjA f c p c j = _
      rcases Nat.lt_or_ge j c with q | q
      · rw [eu c j hc q, if_neg (by omega), eu i j hi q]
        grind
      · have e : j = c := by omega
        rw [e, e1, if_neg h.2]
        grind
    · rename_i h
      have e : i = c := Classical.byContradiction fun q => h ⟨hi, q⟩
      subst e
      rcases Nat.lt_or_ge j i with q | q
      · exact eu i j hi q
      · have e : j = i := by omega
        rw [e, e1, if_pos rfl]
  · unfold gjE
    split
    · exact (eA i hi).elim (eA c hc) hc
    · exact (eA i hi).up (hB c) hV
theorem GjI.fin {n B E V : Nat} {f0 f : Nat → Nat → Rat} (x : GjI n B E V f0 f n) : SolR n f0 fun j => f j n := fun i hi => by
  have h := x.ker (fun j => if j < n then f j n else -1) (fun i hi => ?_) i hi
  · rw [sumR_succ] at h
    have ew : (fun j => if j < n then f j n else -1) n = (-1 : Rat) := if_neg (Nat.lt_irrefl n)
    rw [ew] at h
    have e : sumR n (fun j => f0 i j * if j < n then f j n else -1) = sumR n fun j => f0 i j * f j n := sumR_congr fun j hj => by rw [if_pos hj]
    rw [e] at h
    show sumR n (fun j => f0 i j * f j n) = _
    grind
  · rw [sumR_succ]
    have ew : (fun j => if j < n then f j n else -1) n = (-1 : Rat) := if_neg (Nat.lt_irrefl n)
    rw [ew]
    have e : sumR n (fun j => f i j * if j < n then f j n else -1) = sumR n fun j => if j = i then f i n else 0 := sumR_congr fun j hj => by
      rw [if_pos hj, x.un i j hi hj]
      by_cases q : i = j
      · subst q
        rw [if_pos rfl, if_pos rfl, Rat.one_mul]
      · rw [if_neg q, if_neg (fun e => q e.symm), Rat.zero_mul]
    rw [e, sumR_one _ hi]
    grind
end Md
namespace Md
open PySem L2 Evl
theorem dfor_rng {Γ : Gam} {DD : DEnds} {di : DN} {dg : DG} {du : DS} {ws : List Nat} (n : Nat) (enc : Nat → PyData) (hi : ∀ k : List PyData → Prop, k ((List.range n).map enc) → di Γ k) (I : Nat → Gam → Prop) (h0 : I 0 (wipeG Γ ws))
    (hs : ∀ i Γ', i < n → I i Γ' → dg (enc i) Γ' fun Γ1 => du { DD with nx := fun Γ2 => I (i + 1) (wipeG Γ2 ws), ct := fun Γ2 => I (i + 1) (wipeG Γ2 ws), bk := DD.nx } Γ1) (he : ∀ Γ', I n Γ' → DD.nx Γ') : dFor ws di dg du DD Γ :=
  dfor_inv (List.range n) enc hi I h0 (fun i a Γ' ha hI => by
    have hl := (List.getElem?_eq_some_iff.mp ha).1
    rw [List.length_range] at hl
    rw [List.getElem?_range hl] at ha
    cases ha
    exact hs i Γ' hl hI) fun Γ' h => he Γ' (by rwa [List.length_range] at h)
theorem dlc_rng {Γ : Gam} {di : DN} {dg : DG} {de : DE} {vs : List Nat} {P : List PyData → Prop} (n : Nat) (enc r : Nat → PyData) (hi : ∀ k : List PyData → Prop, k ((List.range n).map enc) → di Γ k) (hl : n ≤ 40000)
    (h : ∀ i, i < n → ∀ k : PyData → Prop, k (r i) → dg (enc i) (wipeG Γ vs) fun Γ1 => de Γ1 k) (hp : P ((List.range n).map r)) : dLc di dg dYes de vs Γ P :=
  dlc_map (List.range n) enc r hi (by rw [List.length_range]; exact hl) (fun a ha => h a (List.mem_range.mp ha)) hp
structure GjOk (n B E V : Nat) : Prop where
  n12 : n ≤ 12
  B1 : 1 ≤ B
  BV : B ≤ V
  E0 : 0 < E
  Eb : E ≤ 2 ^ 200
  bb : bG B n ≤ 2 ^ 895
  vb : vG B V n ≤ 2 ^ 1000
theorem bG_pos {B : Nat} (h : 1 ≤ B) : ∀ c, 1 ≤ bG B c
  | 0 => h
  | c + 1 => by
    have := bG_pos h c
    show 1 ≤ 2 * (bG B c * bG B c)
    have := Nat.mul_le_mul this this
    omega
theorem bG_succ {B : Nat} (h : 1 ≤ B) (c : Nat) : bG B c ≤ bG B (c + 1) := by
  have := Nat.le_mul_of_pos_left (bG B c) (bG_pos h c)
  show _ ≤ 2 * (bG B c * bG B c)
  omega
theorem vG_succ {B V : Nat} (h : 1 ≤ B) (c : Nat) : vG B V c ≤ vG B V (c + 1) := by
  have := Nat.le_mul_of_pos_left (vG B V c) (bG_pos h c)
  show _ ≤ 2 * (bG B c * vG B V c)
  omega
theorem bG_mono {B : Nat} (h : 1 ≤ B) {c : Nat} : ∀ {n : Nat}, c ≤ n → bG B c ≤ bG B n
  | 0, hc => by rw [Nat.le_zero.mp hc]; exact Nat.le_refl _
  | n + 1, hc => by
    rcases Nat.lt_or_ge n c with q | q
    · rw [show c = n + 1 by omega]; exact Nat.le_refl _
    · exact Nat.le_trans (bG_mono h q) (bG_succ h n)
theorem vG_mono {B V : Nat} (h : 1 ≤ B) {c : Nat} : ∀ {n : Nat}, c ≤ n → vG B V c ≤ vG B V n
  | 0, hc => by rw [Nat.le_zero.mp hc]; exact Nat.le_refl _
  | n + 1, hc => by
    rcases Nat.lt_or_ge n c with q | q
    · rw [show c = n + 1 by omega]; exact Nat.le_refl _
    · exact Nat.le_trans (vG_mono h q) (vG_succ h n)
theorem bG_le_vG {B V : Nat} (h : B ≤ V) : ∀ c, bG B c ≤ vG B V c
  | 0 => h
  | c + 1 => Nat.mul_le_mul_left 2 (Nat.mul_le_mul_left _ (bG_le_vG h c))
section
variable {n B E V c : Nat} {r q s : Nat → Rat}
theorem GjOk.ok (x : GjOk n B E V) (hc : c ≤ n) (h : RSz (bG B c) E (vG B V c) n r) {j : Nat} (hj : j < n + 1) : Ok (r j) := by
  obtain ⟨d, d0, d1, hn⟩ := h.nb (bG_le_vG x.BV c)
  have d2 := Nat.le_trans d1 (Nat.le_trans (bG_mono x.B1 hc) x.bb)
  refine nb_ok (hn j hj) (Nat.mul_pos x.E0 d0) (Nat.lt_of_le_of_lt (Nat.mul_le_mul x.Eb d2) ?_) (Nat.le_trans (vG_mono x.B1 hc) x.vb)
  rw [← Nat.pow_add]
  exact Nat.pow_lt_pow_right (by decide) (by decide)
end
end Md
namespace Md
open PySem L2 Evl
end Md
namespace Md
open PySem L2 Evl
end Md
namespace Md
open PySem L2 Evl
end Md
namespace Md
open PySem L2 Evl
end Md
namespace Md
open PySem L2 Evl
theorem onL_chD {C : List PlC} {k : List PyData → Prop} : onL (chD C) k = k (C.map PlC.D) := rfl
theorem onT_C {p : PlC} {k : List PyData → Prop} : onT p.D k = k [nD p.g, .str "draw", .list (p.bs.map brC)] := rfl
end Md
set_option Elab.async false
set_option linter.all false
set_option maxRecDepth 100000
set_option maxHeartbeats 2000000
namespace Md
open PySem L2 Evl
def indN (k : Nat) : Nat → Rat := fun z => if z = k then 1 else 0
section
variable {C : List PlC} {x : Nat} {L : List Nat}
end
end Md
namespace Md
open PySem L2 Evl
structure LcOk (C : List PlC) (D : Nat) : Prop where
  W : WfC C
  l5 : C.length ≤ 5
  D0 : 0 < D
  Db : D ≤ 2 ^ 26
  dv : ∀ p ∈ C, ∀ q ∈ p.bs, q.1.2.natAbs ∣ D
section
variable {C : List PlC} {D : Nat}
theorem LcOk.sc (x : LcOk C D) {k : Nat} (hk : k < C.length) : scaleC C k ∣ D := denL_to fun c hc => by
  obtain ⟨q, hq, rfl⟩ := List.mem_map.mp hc
  exact x.dv _ (List.mem_of_getElem? (plC_get hk)) q hq
theorem LcOk.mean (x : LcOk C D) {k : Nat} (hk : k < C.length) {f : Nat → Rat} {M B : Nat} (hf : ∀ y, y < C.length → NB M B (f y)) : NB (M * D) B (meanC C f k) := (nb_mean x.W hk hf).mono (Nat.mul_dvd_mul_left _ (x.sc hk)) (Nat.le_refl _)
theorem nb_ind {k y : Nat} : NB 1 1 (indN k y) := by
  unfold indN
  split
  · exact nb_one (Nat.le_refl _)
  · exact nb_zero _ _
theorem nb_01 {p : Prop} [Decidable p] : NB 1 1 (if p then (1 : Rat) else 0) := by
  split
  · exact nb_one (Nat.le_refl _)
  · exact nb_zero _ _
theorem LcOk.long (x : LcOk C D) : ∃ E, 0 < E ∧ E ≤ 2 ^ 200 ∧ ∀ y, y < C.length → NB E 1000 (longC C y) := by
  obtain ⟨Z, z0, z1, hn⟩ := long_nb x.W
  obtain ⟨U, u0, u1, hu⟩ := unit_le x.W.p
  have d1 : denL (gainsC C) ∣ U := denL_to hu
  refine ⟨U * Z, Nat.mul_pos u0 z0, ?_, fun y hy => (hn y hy).mono (Nat.mul_dvd_mul_right d1 _) (Nat.le_refl _)⟩
  have a : 999 ^ C.length ≤ 999 ^ 5 := Nat.pow_le_pow_right (by decide) x.l5
  have b : 4320 ^ (2 * C.length) ≤ 4320 ^ 10 := Nat.pow_le_pow_right (by decide) (by have := x.l5; omega)
  exact Nat.le_trans (Nat.mul_le_mul (Nat.le_trans u1 a) (Nat.le_trans z1 b)) (by decide +kernel)
end
noncomputable section
end
end Md
namespace Md
open PySem L2 Evl
def rsC (C : List PlC) (l : List Nat) (k a t b : Nat) : Rat := if b < l.length then (if l.getD b 0 = k then 1 else 0) - (if b < a then meanC C (indN k) (l.getD b 0) else if b = a then wsum ((plC C (l.getD b 0)).bs.take t) (indN k) else 0) else 0
section
variable {C : List PlC} {D : Nat} {l : List Nat} {k a t b : Nat}
theorem LcOk.part (x : LcOk C D) {y : Nat} (hy : y < C.length) {f : Nat → Rat} {M B : Nat} (hf : ∀ y, y < C.length → NB M B (f y)) (t : Nat) : NB (M * D) B (wsum ((plC C y).bs.take t) f) := by
  have hm := List.mem_of_getElem? (plC_get hy)
  exact (nb_part (x.W.p _ hm) (fun q hq => hf _ ((x.W.p _ hm).q q hq).2.2) t).mono (Nat.mul_dvd_mul_left _ (x.sc hy)) (Nat.le_refl _)
theorem LcOk.rs (x : LcOk C D) (hl : ∀ y ∈ l, y < C.length) : NB D 2 (rsC C l k a t b) := by
  unfold rsC
  split
  · rename_i hb
    have hy := hl _ (getD_mem hb)
    have a1 := (nb_01 (p := l.getD b 0 = k)).mono (Nat.one_dvd D) (Nat.le_refl 1)
    refine nb_sub (A := 1) (B := 1) a1 ?_
    split
    · have := x.mean hy (f := indN k) fun y _ => nb_ind
      rwa [Nat.one_mul] at this
    · split
      · have := x.part hy (f := indN k) (fun y _ => nb_ind) t
        rwa [Nat.one_mul] at this
      · exact nb_zero _ _
  · exact nb_zero _ _
end
end Md
namespace Md
open PySem L2 Evl
section
variable {C : List PlC} {x : Nat} {L : List Nat}
end
end Md
namespace Md
open PySem L2 Evl
section
variable {C : List PlC} {D : Nat} {g : Nat → Rat} {l : List Nat} {k t b : Nat}
end
end Md
namespace Md
open PySem L2 Evl
theorem onSq_chD {C : List PlC} {k : List PyData → Prop} : onSq (chD C) k = k (C.map PlC.D) := rfl
end Md
namespace Md
open PySem L2 Evl
end Md
set_option Elab.async false
set_option linter.all false
set_option maxRecDepth 100000
set_option maxHeartbeats 2000000
namespace Md
open PySem L2 Evl
section
variable {G : List PlV} {c d e : Nat → Nat} {g h : Nat → Rat} {M0 : Nat}
theorem LowC.chain (x : RigOk G M0) (r : LowC G c g h) (he : OkC G e) (hd : ∀ y, y < G.length → (vl G y).k = some true → e y = c y) : ∀ y, y < G.length → g y ≤ longC (chV G e) y := by
  have hl : (chV G e).length = G.length := chV_len
  have ll : ∀ y, y < G.length → 0 ≤ shQ G g (y, e y) ∧ 0 ≤ boQ G g h (y, e y) := fun y hy => by
    cases q : (vl G y).k with
    | none =>
      have := r.s _ (ct_draw hy q)
      unfold shQ boQ at this ⊢
      show 0 ≤ nxQ (vl G y) g (e y) - g y ∧ 0 ≤ gnV G y + nxQ (vl G y) h (e y) - (g y + h y)
      rw [nx_any (f := g) (j := 0) q, nx_any (f := h) (j := 0) q]
      exact this
    | some o =>
      cases o with
      | true =>
        rw [hd y hy q]
        exact r.s _ (ct_own hy q)
      | false => exact r.s _ (ct_all hy q (by decide) (he y hy (by rw [q]; intro z; cases z)))
  have A := sub_long (g := g) (k := h) (x.wfc he) (fun p hp => x.ex he hp) (fun y hy => by
    rw [hl] at hy
    rw [mean_nx hy]
    have := (ll y hy).1
    unfold shQ at this
    grind) (fun y hy => by
    rw [hl] at hy
    rw [mean_nx hy, chV_gain hy]
    have := (ll y hy).2
    unfold boQ gnV at this
    grind)
  exact fun y hy => A y (by rw [hl]; exact hy)
theorem UppC.chain (x : RigOk G M0) (r : UppC G c g h) (he : OkC G e) (hd : ∀ y, y < G.length → (vl G y).k = some false → e y = c y) : ∀ y, y < G.length → longC (chV G e) y ≤ g y := by
  have hl : (chV G e).length = G.length := chV_len
  have uu : ∀ y, y < G.length → shQ G g (y, e y) ≤ 0 ∧ boQ G g h (y, e y) ≤ 0 := fun y hy => by
    cases q : (vl G y).k with
    | none =>
      have := r.s _ (ct_draw hy q)
      unfold shQ boQ at this ⊢
      show nxQ (vl G y) g (e y) - g y ≤ 0 ∧ gnV G y + nxQ (vl G y) h (e y) - (g y + h y) ≤ 0
      rw [nx_any (f := g) (j := 0) q, nx_any (f := h) (j := 0) q]
      exact this
    | some o =>
      cases o with
      | false =>
        rw [hd y hy q]
        exact r.s _ (ct_own hy q)
      | true => exact r.s _ (ct_all hy q (by decide) (he y hy (by rw [q]; intro z; cases z)))
  have B := sup_long (g := g) (k := h) (x.wfc he) (fun p hp => x.ex he hp) (fun y hy => by
    rw [hl] at hy
    rw [mean_nx hy]
    have := (uu y hy).1
    unfold shQ at this
    grind) (fun y hy => by
    rw [hl] at hy
    rw [mean_nx hy, chV_gain hy]
    have := (uu y hy).2
    unfold boQ gnV at this
    grind)
  exact fun y hy => B y (by rw [hl]; exact hy)
end
def cR (row : List PyData) (k : Nat) : Nat := match row.getD k .none with
  | .int z => z.toNat
  | _ => 0
section
variable {G : List PlV} {o : Bool}
theorem al_at : ∀ {i : Nat} {row : List PyData}, row ∈ alF G o i → ∀ k, k < i → if (vl G k).k = some o then row.getD k .none = .int (cR row k : Int) ∧ cR row k < (vl G k).bs.length else row.getD k .none = .none
  | 0, row, h, k, hk => absurd hk (Nat.not_lt_zero _)
  | i + 1, row, h, k, hk => by
    unfold alF at h
    split at h
    · rename_i hi
      obtain ⟨r, hr, h⟩ := List.mem_flatMap.mp h
      obtain ⟨b, hb, rfl⟩ := List.mem_map.mp h
      have hb := List.mem_range.mp hb
      have hl := al_row hr
      rcases Nat.lt_or_ge k i with q | q
      · have ih := al_at hr k q
        have e : (r ++ [PyData.int (b : Int)]).getD k .none = r.getD k .none := by
          rw [List.getD_eq_getElem?_getD, List.getD_eq_getElem?_getD, List.getElem?_append_left (by omega)]
        have e2 : cR (r ++ [PyData.int (b : Int)]) k = cR r k := by unfold cR; rw [e]
        rw [e, e2]
        exact ih
      · have ek : k = i := by omega
        subst ek
        have e : (r ++ [PyData.int (b : Int)]).getD k .none = .int (b : Int) := by
          rw [List.getD_eq_getElem?_getD, List.getElem?_append_right (by omega), hl, Nat.sub_self]
          rfl
        have e2 : cR (r ++ [PyData.int (b : Int)]) k = b := by unfold cR; rw [e]; rfl
        rw [if_pos hi, e, e2]
        exact ⟨rfl, hb⟩
    · rename_i hi
      obtain ⟨r, hr, rfl⟩ := List.mem_map.mp h
      have hl := al_row hr
      rcases Nat.lt_or_ge k i with q | q
      · have ih := al_at hr k q
        have e : (r ++ [PyData.none]).getD k .none = r.getD k .none := by
          rw [List.getD_eq_getElem?_getD, List.getD_eq_getElem?_getD, List.getElem?_append_left (by omega)]
        have e2 : cR (r ++ [PyData.none]) k = cR r k := by unfold cR; rw [e]
        rw [e, e2]
        exact ih
      · have ek : k = i := by omega
        subst ek
        rw [if_neg hi, List.getD_eq_getElem?_getD, List.getElem?_append_right (by omega), hl, Nat.sub_self]
        rfl
theorem al_says {row : List PyData} (h : row ∈ alF G o G.length) : Says G o (cR row) fun k => row.getD k .none := fun k hk e => by
  have := al_at h k hk
  rw [if_pos e] at this
  exact this
theorem al_has {c : Nat → Nat} : ∀ {i : Nat}, (∀ k, k < i → (vl G k).k = some o → c k < (vl G k).bs.length) → ((List.range i).map (stC G o c)) ∈ alF G o i
  | 0, _ => List.mem_singleton.mpr rfl
  | i + 1, h => by
    have ih := al_has (i := i) fun k hk => h k (by omega)
    rw [List.range_succ, List.map_append]
    unfold alF
    split
    · rename_i hi
      refine List.mem_flatMap.mpr ⟨_, ih, List.mem_map.mpr ⟨c i, List.mem_range.mpr (h i (Nat.lt_succ_self i) hi), ?_⟩⟩
      rw [List.map_cons, List.map_nil]
      unfold stC
      rw [if_pos hi]
    · rename_i hi
      refine List.mem_map.mpr ⟨_, ih, ?_⟩
      rw [List.map_cons, List.map_nil]
      unfold stC
      rw [if_neg hi]
theorem cR_st {c : Nat → Nat} {n k : Nat} (hk : k < n) (e : (vl G k).k = some o) : cR ((List.range n).map (stC G o c)) k = c k := by
  unfold cR
  rw [List.getD_eq_getElem?_getD, List.getElem?_map, List.getElem?_range hk]
  show (match stC G o c k with | .int z => z.toNat | _ => 0) = c k
  unfold stC
  rw [if_pos e]
  rfl
end
def dR (G : List PlV) (r s : List PyData) (k : Nat) : Nat := if (vl G k).k = some true then cR r k else cR s k
section
variable {G : List PlV} {r s : List PyData}
theorem dR_ok (hr : r ∈ alF G true G.length) (hs : s ∈ alF G false G.length) : OkC G (dR G r s) := fun k hk hn => by
  unfold dR
  cases q : (vl G k).k with
  | none => exact absurd q hn
  | some o =>
    cases o with
    | true =>
      rw [if_pos rfl]
      exact (al_says hr k hk q).2
    | false =>
      rw [if_neg (by intro z; cases z)]
      exact (al_says hs k hk q).2
end
noncomputable def mnV (G : List PlV) (r : List PyData) (k : Nat) : Rat := tkQ false ((alF G false G.length).map fun s => longC (chV G (dR G r s)) k)
section
variable {G : List PlV} {c : Nat → Nat} {g h : Nat → Rat} {M0 : Nat}
theorem al_pos {o : Bool} : ∀ {i : Nat}, (∀ k, k < i → 1 ≤ (vl G k).bs.length) → 0 < (alF G o i).length
  | 0, _ => Nat.zero_lt_succ _
  | i + 1, h => by
    have ih := al_pos (o := o) (i := i) fun k hk => h k (by omega)
    obtain ⟨r, hr⟩ := List.exists_mem_of_length_pos ih
    have hb := h i (Nat.lt_succ_self i)
    unfold alF
    split
    · exact List.length_pos_of_mem (List.mem_flatMap.mpr ⟨r, hr, List.mem_map.mpr ⟨0, List.mem_range.mpr hb, rfl⟩⟩)
    · rw [List.length_map]
      exact ih
theorem wf_pos {w : Nat} (hW : WfVG w G) : ∀ k, k < G.length → 1 ≤ (vl G k).bs.length := fun k hk => (vl_wf hW hk).l1
theorem val_pairs (x : RigOk G M0) (r : RightC G c g h) {k : Nat} (hk : k < G.length) : tkQ true ((alF G true G.length).map fun a => mnV G a k) = g k := by
  have so : ((List.range G.length).map (stC G true c)) ∈ alF G true G.length := al_has fun k hk e => r.ok k hk (by rw [e]; intro z; cases z)
  have st : ((List.range G.length).map (stC G false c)) ∈ alF G false G.length := al_has fun k hk e => r.ok k hk (by rw [e]; intro z; cases z)
  have up : ∀ a ∈ alF G true G.length, mnV G a k ≤ g k := fun a ha => by
    unfold mnV
    have h1 := tk_lo (List.mem_map.mpr ⟨_, st, rfl⟩ : longC (chV G (dR G a ((List.range G.length).map (stC G false c)))) k ∈ (alF G false G.length).map fun s => longC (chV G (dR G a s)) k)
    have h2 := r.toUpp.chain x (dR_ok ha st) (fun y hy e => by
      unfold dR
      rw [if_neg (by rw [e]; intro z; cases z), cR_st hy e]) k hk
    exact Rat.le_trans h1 h2
  have lo : g k ≤ mnV G ((List.range G.length).map (stC G true c)) k := by
    unfold mnV
    have hm := tk_mem (o := false) (l := (alF G false G.length).map fun s => longC (chV G (dR G ((List.range G.length).map (stC G true c)) s)) k) (by rw [List.length_map]; exact al_pos (wf_pos x.W))
    obtain ⟨s, hs, e⟩ := List.mem_map.mp hm
    rw [← e]
    exact r.toLow.chain x (dR_ok so hs) (fun y hy e => by
      unfold dR
      rw [if_pos e, cR_st hy e]) k hk
  refine tk_is (List.mem_map.mpr ⟨_, so, Rat.le_antisymm (up _ so) lo⟩) fun y hy => ?_
  rw [if_pos rfl]
  obtain ⟨a, ha, rfl⟩ := List.mem_map.mp hy
  exact up a ha
structure LvOk (G : List PlV) (M0 D : Nat) : Prop where
  R : RigOk G M0
  l5 : G.length ≤ 5
  D0 : 0 < D
  Db : D ≤ 2 ^ 26
  dv : ∀ p ∈ G, p.k = none → ∀ q ∈ p.bs, q.1.2.natAbs ∣ D
  al : ∀ o i, i ≤ G.length → (alF G o i).length ≤ 1000
theorem LvOk.lc {D : Nat} (x : LvOk G M0 D) {d : Nat → Nat} (hd : OkC G d) : LcOk (chV G d) D := by
  refine ⟨x.R.wfc hd, by rw [chV_len]; exact x.l5, x.D0, x.Db, fun p hp q hq => ?_⟩
  unfold chV at hp
  obtain ⟨k, hk, rfl⟩ := List.mem_map.mp hp
  split at hq
  · rename_i hn
    exact x.dv _ (vl_mem (List.mem_range.mp hk)) hn q hq
  · rw [List.mem_singleton.mp hq]
    exact Nat.one_dvd _
theorem LvOk.ok {D : Nat} (x : LvOk G M0 D) {d : Nat → Nat} (hd : OkC G d) {k : Nat} (hk : k < G.length) : Ok (longC (chV G d) k) := by
  obtain ⟨E, E0, E2, hE⟩ := (x.lc hd).long
  exact nb_ok (hE k (by rw [chV_len]; exact hk)) E0 (Nat.lt_of_le_of_lt E2 (Nat.pow_lt_pow_right (by decide) (by decide))) (by decide +kernel)
end
noncomputable def lwV (G : List PlV) (k : Nat) : Rat := tkQ true ((alF G true G.length).map fun a => mnV G a k)
theorem lwV_is {G : List PlV} {M0 : Nat} {c : Nat → Nat} {g h : Nat → Rat} (x : RigOk G M0) (r : RightC G c g h) {k : Nat} (hk : k < G.length) : g k = lwV G k := (val_pairs x r hk).symm
end Md
namespace Md
open PySem L2 Evl
end Md
set_option Elab.async false
set_option linter.all false
set_option maxRecDepth 100000
set_option maxHeartbeats 2000000
namespace Md
open PySem L2 Evl
theorem mem_vl {G : List PlV} {p : PlV} (h : p ∈ G) : ∃ x, x < G.length ∧ p = vl G x := by
  obtain ⟨x, hx, e⟩ := List.mem_iff_getElem.mp h
  refine ⟨x, hx, ?_⟩
  have := vl_get hx
  rw [List.getElem?_eq_getElem hx, e] at this
  exact Option.some.inj this
theorem atI_last {α : Type} {l : List α} {a : α} : L2.atI (l ++ [a]) (-1) = some a := by
  have e : L2.ixN (l ++ [a]).length (-1) = some l.length := by
    unfold L2.ixN
    rw [List.length_append]
    simp
    omega
  unfold L2.atI
  rw [e]
  simp
def szP (p : PlV) : Nat := if p.k = none then 0 else p.bs.length
structure CutG (G H : List PlV) : Prop where
  l : H.length = G.length
  g : ∀ x, x < G.length → (vl H x).g = (vl G x).g
  k : ∀ x, x < G.length → (vl H x).k = (vl G x).k
  d : ∀ x, x < G.length → (vl G x).k = none → (vl H x).bs = (vl G x).bs
  b : ∀ x, x < G.length → (vl H x).bs <+: (vl G x).bs ∧ 1 ≤ (vl H x).bs.length
section
variable {G H : List PlV} {w : Nat}
theorem CutG.refl (hW : WfVG w G) : CutG G G := ⟨rfl, fun _ _ => rfl, fun _ _ => rfl, fun _ _ _ => rfl, fun x hx => ⟨List.prefix_refl _, (vl_wf hW hx).l1⟩⟩
theorem CutG.wf (c : CutG G H) (hW : WfVG w G) : WfVG w H := by
  refine ⟨by rw [c.l]; exact hW.l1, by rw [c.l]; exact hW.l12, fun p hp => ?_⟩
  obtain ⟨x, hx, rfl⟩ := mem_vl hp
  rw [c.l] at hx ⊢
  have v := vl_wf hW hx
  have hb := c.b x hx
  have hs := hb.1.subset
  refine ⟨by rw [c.g x hx]; exact v.g, hb.2, Nat.le_trans hb.1.length_le v.l6, fun q hq => v.t q (hs hq), fun hk q hq => ?_, fun hk => ?_, fun hk => ?_⟩
  · rw [c.k x hx] at hk
    exact v.c hk q (hs hq)
  · rw [c.k x hx] at hk
    rw [c.d x hx hk]
    exact v.w hk
  · rw [c.k x hx] at hk
    rw [c.d x hx hk]
    exact v.s hk
theorem CutG.sh (c : CutG G H) (h : ShG G) : ShG H := fun p hp => by
  obtain ⟨x, hx, rfl⟩ := mem_vl hp
  rw [c.l] at hx
  rw [c.g x hx]
  exact h _ (vl_mem hx)
theorem CutG.pos (c : CutG G H) (h : PosG G) : PosG H := fun p hp hk q hq => by
  obtain ⟨x, hx, rfl⟩ := mem_vl hp
  rw [c.l] at hx
  rw [c.k x hx] at hk
  exact h _ (vl_mem hx) hk q ((c.b x hx).1.subset hq)
def cutP (p : PlV) : PlV := ⟨p.g, p.k, p.bs.take (p.bs.length - 1)⟩
theorem vl_set {x y : Nat} {p : PlV} (hx : x < H.length) : vl (H.set x p) y = if y = x then p else vl H y := by
  unfold vl
  rw [List.getD_eq_getElem?_getD, List.getElem?_set]
  by_cases c : x = y
  · subst c
    rw [if_pos rfl, if_pos hx, if_pos rfl]
    rfl
  · rw [if_neg c, if_neg fun e => c e.symm, List.getD_eq_getElem?_getD]
theorem CutG.step (c : CutG G H) {x : Nat} (hx : x < G.length) (hk : (vl H x).k ≠ none) (h2 : 2 ≤ (vl H x).bs.length) : CutG G (H.set x (cutP (vl H x))) := by
  have hxl : x < H.length := by rw [c.l]; exact hx
  refine ⟨by rw [List.length_set, c.l], fun y hy => ?_, fun y hy => ?_, fun y hy e => ?_, fun y hy => ?_⟩ <;> rw [vl_set hxl]
  · split
    · rename_i e
      rw [e]
      exact c.g x hx
    · exact c.g y hy
  · split
    · rename_i e
      rw [e]
      exact c.k x hx
    · exact c.k y hy
  · split
    · rename_i e2
      rw [e2] at e
      exact absurd ((c.k x hx).trans e) hk
    · exact c.d y hy e
  · split
    · rename_i e
      rw [e]
      have b := c.b x hx
      refine ⟨(List.take_prefix _ _).trans b.1, ?_⟩
      show 1 ≤ ((vl H x).bs.take _).length
      rw [List.length_take]
      omega
    · exact c.b y hy
end
end Md
namespace Md
open PySem L2 Evl
section
variable {G H : List PlV} {w : Nat}
def szL (H : List PlV) (n : Nat) : List Int := (List.range n).map fun k => (szP (vl H k) : Int)
theorem small_mulW {a b : Int} (ha : a.natAbs < 2 ^ 64) (hb : b.natAbs < 2 ^ 64) : CMulW a b := wide_mul ha hb (by decide) (by decide) (by decide)
end
end Md
namespace Md
open PySem L2 Evl
section
variable {H : List PlV}
end
end Md
set_option Elab.async false
set_option linter.all false
set_option maxRecDepth 100000
set_option maxHeartbeats 2000000
namespace Md
open PySem L2 Evl
def gaQ (G : List PlV) (x : Nat) (t : Rat) (k : Nat) : Rat := if k = x then t else gnV G k
def AnsQ (G : List PlV) (a : Nat) (r : Rat) : Prop := ∃ c g h M, RightC G c g h ∧ RwOk G 360 M (2 ^ 620) g h ∧ M < 2 ^ 1740 ∧ (∀ k, k < G.length → NB M 1000 (g k)) ∧ r = g a
theorem gG_rig {G : List PlV} {e : Nat → Rat} {M0 : Nat} (x : WfVG 360 G) (hs : ∀ k, k < G.length → SmallN (canon (e k))) (hd : ∀ k, k < G.length → (canon (e k)).2.natAbs ∣ M0) (m0 : 0 < M0) (mb : M0 ≤ 2 ^ 17) (hp : PosG G) : RigOk (gG G e) M0 := by
  refine ⟨gG_wf x hs, gG_den hd, m0, mb, fun p hp2 hk q hq => ?_⟩
  obtain ⟨k, hk2, rfl⟩ := List.mem_map.mp hp2
  exact hp _ (vl_mem (List.mem_range.mp hk2)) hk q hq
end Md
namespace Md
open PySem L2 Evl
theorem nb_frac {a b : Int} {M B : Nat} (hb : 0 < b) (hd : b.natAbs ∣ M) (ha : a.natAbs ≤ B) : NB M B ((a : Rat) / (b : Rat)) := by
  have b0 : (b : Rat) ≠ 0 := cast_ne (by omega)
  have eb : natR b.natAbs = (b : Rat) := by
    show ((b.natAbs : Int) : Rat) = _
    congr 1
    omega
  have h : NB 1 B ((a : Rat) / (b : Rat) * natR b.natAbs) := by
    rw [eb, Rat.div_mul_cancel b0]
    exact nb_int ha
  exact (nb_up h (by omega)).mono (by rw [Nat.one_mul]; exact hd) (Nat.le_refl _)
section
variable {G H : List PlV} {w M0 M1 D : Nat} {e : Nat → Rat}
theorem al_like (a : Alike G H) {o : Bool} : ∀ {i : Nat}, i ≤ G.length → alF H o i = alF G o i
  | 0, _ => rfl
  | i + 1, h => by
    have ih := al_like a (o := o) (i := i) (by omega)
    have hk := a.k i (by omega)
    unfold alF
    rw [ih, hk.1, hk.2]
theorem LvOk.gains (x : LvOk G M0 D) (r : RigOk (gG G e) M1) : LvOk (gG G e) M1 D := by
  refine ⟨r, by rw [gG_len]; exact x.l5, x.D0, x.Db, fun p hp hk q hq => ?_, fun o i hi => ?_⟩
  · obtain ⟨k, hk2, rfl⟩ := List.mem_map.mp hp
    exact x.dv _ (vl_mem (List.mem_range.mp hk2)) hk q hq
  · rw [gG_len] at hi
    rw [al_like gG_like hi]
    exact x.al o i hi
end
end Md
namespace Md
open PySem L2 Evl
end Md
namespace Md
open PySem L2 Evl
theorem AnsQ.is {G : List PlV} {M0 a : Nat} {r : Rat} (x : RigOk G M0) (ha : a < G.length) (h : AnsQ G a r) : r = lwV G a := by
  obtain ⟨c, g, h', M, r1, _, _, _, rfl⟩ := h
  exact lwV_is x r1 ha
end Md
set_option Elab.async false
set_option linter.all false
set_option maxRecDepth 100000
set_option maxHeartbeats 2000000
namespace Md
open PySem L2 Evl
section
variable {G : List PlV} {w dn dd M0 : Nat}
theorem imp_all {o : Bool} {f : Nat → Rat} {c : Nat → Nat} (hW : WfVG w G) : Best G o c f ∨ ∃ y, y < G.length ∧ impC G o f c y ≠ c y := by
  rcases Classical.em (∃ y, y < G.length ∧ impC G o f c y ≠ c y) with z | z
  · exact Or.inr z
  · refine Or.inl (imp_fix hW fun x hx _ => ?_)
    rcases Classical.em (impC G o f c x = c x) with q | q
    · exact q
    · exact absurd ⟨x, hx, q⟩ z
theorem imp_othr {o p : Bool} {f : Nat → Rat} {c : Nat → Nat} {x : Nat} (h : (vl G x).k = some p) (hp : p ≠ o) : impC G o f c x = c x := by
  unfold impC
  rw [if_neg fun z => ?_]
  rw [h] at z
  exact hp (Option.some.inj z.1)
theorem reply_ex (x : GamOk G w dn dd M0) (h : 0 < dn) : ∀ (m : Nat) (c : Nat → Nat), OkC G c → msL G (natR dn / natR dd) c ≤ m → ∃ d v, OkC G d ∧ (∀ z, z < G.length → (vl G z).k = some true → d z = c z) ∧ IsWor (chV G d) (natR dn / natR dd) (gnV G) v ∧ Best G false d v
  | 0, c, hc, hm => by
    obtain ⟨v, hv⟩ := x.ex hc
    rcases imp_all (o := false) (f := v) (c := c) x.W with hb | ⟨y, hy, hne⟩
    · exact ⟨c, v, hc, fun _ _ _ => rfl, hv, hb⟩
    · have := imp_less x h hc hv hy hne
      omega
  | m + 1, c, hc, hm => by
    obtain ⟨v, hv⟩ := x.ex hc
    rcases imp_all (o := false) (f := v) (c := c) x.W with hb | ⟨y, hy, hne⟩
    · exact ⟨c, v, hc, fun _ _ _ => rfl, hv, hb⟩
    · have hl := imp_less x h hc hv hy hne
      obtain ⟨d, u, hd, ho, hu, hB⟩ := reply_ex x h m _ (imp_ok (o := false) (f := v) x.W hc) (by omega)
      exact ⟨d, u, hd, fun z hz hk => by rw [ho z hz hk, imp_othr hk (by decide)], hu, hB⟩
theorem both_ex (x : GamOk G w dn dd M0) (h : 0 < dn) : ∀ (m : Nat) (c : Nat → Nat) (v : Nat → Rat), OkC G c → IsWor (chV G c) (natR dn / natR dd) (gnV G) v → Best G false c v → msG G (natR dn / natR dd) (sumW G.length (wch G (natR dn / natR dd) c)) ≤ m → ∃ d u, OkC G d ∧ IsWor (chV G d) (natR dn / natR dd) (gnV G) u ∧ Best G true d u ∧ Best G false d u := by
  intro m
  induction m with
  | zero =>
    intro c v hc hv hB hm
    rcases imp_all (o := true) (f := v) (c := c) x.W with hb | ⟨y, hy, hne⟩
    · exact ⟨c, v, hc, hv, hb, hB⟩
    · obtain ⟨d, u, hd, ho, hu, hB2⟩ := reply_ex x h _ _ (imp_ok (o := true) (f := v) x.W hc) (Nat.le_refl _)
      have hl := imp_more x h hc hv hB hy hne hd ho
      have := msG_lt x.W hd hl
      omega
  | succ m ih =>
    intro c v hc hv hB hm
    rcases imp_all (o := true) (f := v) (c := c) x.W with hb | ⟨y, hy, hne⟩
    · exact ⟨c, v, hc, hv, hb, hB⟩
    · obtain ⟨d, u, hd, ho, hu, hB2⟩ := reply_ex x h _ _ (imp_ok (o := true) (f := v) x.W hc) (Nat.le_refl _)
      have hl := imp_more x h hc hv hB hy hne hd ho
      have := msG_lt x.W hd hl
      exact ih d u hd hu hB2 (by omega)
theorem lift_max {l : List (Rat × Rat)} (hb : ∀ s ∈ l, ¬ BadS s) : ∃ t, ∀ s ∈ l, 0 < s.1 → -s.2 / s.1 ≤ t := by
  induction l with
  | nil => exact ⟨0, fun s hs => by cases hs⟩
  | cons a l ih =>
    obtain ⟨t, ht⟩ := ih fun s hs => hb s (List.mem_cons_of_mem _ hs)
    rcases Rat.le_total (a := t) (b := -a.2 / a.1) with q | q
    · exact ⟨-a.2 / a.1, fun s hs h0 => by
        rcases List.mem_cons.mp hs with rfl | hs
        · exact Rat.le_refl
        · exact Rat.le_trans (ht s hs h0) q⟩
    · exact ⟨t, fun s hs h0 => by
        rcases List.mem_cons.mp hs with rfl | hs
        · exact q
        · exact ht s hs h0⟩
theorem RigOk.right (x : RigOk G M0) : ∃ c g h, RightC G c g h := by
  have y := x.gam (k := 512) (by decide) (by decide)
  have h0 : 0 < 2 ^ 512 - 1 := by decide +kernel
  have hc0 : OkC G fun _ => 0 := fun z hz hk => (vl_wf x.W hz).l1
  obtain ⟨d0, v0, hd0, _, hv0, hB0⟩ := reply_ex y h0 _ _ hc0 (Nat.le_refl _)
  obtain ⟨d, u, hd, hu, h1, h2⟩ := both_ex y h0 _ d0 v0 hd0 hv0 hB0 (Nat.le_refl _)
  have hg := best_good x hd (N := 2 ^ 512) (Nat.le_refl _) hu h1 h2
  obtain ⟨t, ht⟩ := lift_max hg
  exact ⟨d, _, _, right_lift hd hg ht⟩
end
end Md
namespace Md
open PySem L2 Evl
section
variable {G : List PlV} {w : Nat}
theorem Wor.ri {U T : Nat} (x : Wor G w U T) {t : Nat} (ht : t ≤ T) : ∀ r ∈ riL G t, Ok r := fun r hr => by
  obtain ⟨k, hk, rfl⟩ := List.mem_map.mp hr
  have hk := List.mem_range.mp hk
  have a := x.nb (j := t + 1) (by omega) hk
  have b := (x.nb (j := t) (by omega) hk).mono (M' := U * denL (chancesV G) ^ (t + 1)) (B' := 1000 * t) (Nat.mul_dvd_mul_left _ (Nat.pow_dvd_pow _ (Nat.le_succ t))) (Nat.le_refl _)
  have := x.Tl
  exact nb_ok (nb_sub a b) (Nat.mul_pos x.U0 (Nat.pow_pos x.S0)) (x.le (by omega)) (Nat.le_trans (by omega : 1000 * (t + 1) + 1000 * t ≤ 2 ^ 20) (Nat.pow_le_pow_right (by decide) (by decide)))
end
end Md
namespace Md
open PySem L2 Evl
section
variable {G : List PlV} {M0 : Nat}
end
end Md
namespace Md
open PySem L2 Evl
section
variable {G : List PlV} {c : Nat → Nat} {g h v : Nat → Rat} {w : Nat} {β P H L : Rat}
end
end Md
namespace Md
open PySem L2 Evl
end Md
set_option Elab.async false
set_option linter.all false
set_option maxRecDepth 100000
set_option maxHeartbeats 2000000
namespace Md
open PySem L2 Evl
def ValF (G : List PlV) (x a : Nat) (f : Rat → Rat) (t : Rat) : Prop := RigOk (gG G (gaQ G x t)) 6 ∧ ∀ r, AnsQ (gG G (gaQ G x t)) a r → r = f t
def kMri : Con := con5 fun u v z1 z2 y P => ∃ (G : List PlV) (x a : Nat) (s t : Rat) (w : Nat) (f : Rat → Rat), u = gvD G ∧ v = .int (x : Int) ∧ z1 = nQ s ∧ z2 = nQ t ∧ y = .int (a : Int) ∧ WfVG w G ∧ a < G.length ∧ s ≠ t ∧ ValF G x a f s ∧ ValF G x a f t ∧ Big 1000 (canon s) ∧ Big 1000 (canon t) ∧ Big 1000 (canon (s - t)) ∧ Big 1000 (canon (t - s)) ∧ Big 1000 (canon (f s)) ∧ Big 1000 (canon (f t)) ∧ Big 3000 (canon (f s - f t)) ∧ Big 3000 (canon (f t - f s)) ∧ P (nQ ((f t - f s) / (t - s)))
theorem kMri_i {G : List PlV} {x a : Nat} {s t : Rat} {w : Nat} {f : Rat → Rat} {P : PyData → Prop} (h1 : WfVG w G) (h2 : a < G.length) (h3 : s ≠ t) (h4 : ValF G x a f s) (h5 : ValF G x a f t) (b1 : Big 1000 (canon s)) (b2 : Big 1000 (canon t)) (b3 : Big 1000 (canon (s - t))) (b4 : Big 1000 (canon (t - s))) (b5 : Big 1000 (canon (f s))) (b6 : Big 1000 (canon (f t))) (b7 : Big 3000 (canon (f s - f t))) (b8 : Big 3000 (canon (f t - f s))) (p : P (nQ ((f t - f s) / (t - s)))) : kMri [gvD G, .int (x : Int), nQ s, nQ t, .int (a : Int)] P := ⟨G, x, a, s, t, w, f, rfl, rfl, rfl, rfl, rfl, h1, h2, h3, h4, h5, b1, b2, b3, b4, b5, b6, b7, b8, p⟩
structure RiOk (G : List PlV) (x a : Nat) (f : Rat → Rat) (s t : Rat) : Prop where
  lt : s < t
  vs : ValF G x a f s
  vt : ValF G x a f t
  b1 : Big 1000 (canon s)
  b2 : Big 1000 (canon t)
  b3 : Big 1000 (canon (s - t))
  b4 : Big 1000 (canon (t - s))
  b5 : Big 1000 (canon (f s))
  b6 : Big 1000 (canon (f t))
  b7 : Big 3000 (canon (f s - f t))
  b8 : Big 3000 (canon (f t - f s))
  b9 : Big 8000 (canon ((f t - f s) / (t - s)))
theorem RiOk.up {G : List PlV} {x a w : Nat} {f : Rat → Rat} {s t : Rat} {P : PyData → Prop} (r : RiOk G x a f s t) (hW : WfVG w G) (ha : a < G.length) (p : P (nQ ((f t - f s) / (t - s)))) : kMri [gvD G, .int (x : Int), nQ s, nQ t, .int (a : Int)] P := kMri_i hW ha (by have := r.lt; grind) r.vs r.vt r.b1 r.b2 r.b3 r.b4 r.b5 r.b6 r.b7 r.b8 p
theorem RiOk.dn {G : List PlV} {x a w : Nat} {f : Rat → Rat} {s t : Rat} {P : PyData → Prop} (r : RiOk G x a f s t) (hW : WfVG w G) (ha : a < G.length) (p : P (nQ ((f t - f s) / (t - s)))) : kMri [gvD G, .int (x : Int), nQ t, nQ s, .int (a : Int)] P := by
  have h := r.lt
  refine kMri_i hW ha (by grind) r.vt r.vs r.b2 r.b1 r.b4 r.b3 r.b6 r.b5 r.b8 r.b7 ?_
  have e : (f s - f t) / (s - t) = (f t - f s) / (t - s) := by
    have n1 : t - s ≠ 0 := by grind
    have n2 : s - t ≠ 0 := by grind
    have : (f s - f t) = ((f t - f s) / (t - s)) * (s - t) := by grind
    rw [this, Rat.div_def, Rat.mul_assoc, Rat.mul_inv_cancel _ n2, Rat.mul_one]
  rw [e]
  exact p
def wq (z : Int) : Rat := (z : Rat)
structure PriOk (G : List PlV) (x a : Nat) (f : Rat → Rat) : Prop where
  v : ∀ z : Int, -999 ≤ z → z ≤ 999 → ValF G x a f (wq z)
  mono : ∀ y z : Int, -999 ≤ y → y ≤ z → z ≤ 999 → f (wq y) ≤ f (wq z)
  b : ∀ z : Int, -999 ≤ z → z ≤ 999 → Big 3000 (canon (f (wq z)))
end Md
namespace Md
open PySem L2 Evl
noncomputable section
end
section
variable {G : List PlV} {x a : Nat}
end
end Md
namespace Md
end Md
namespace Md
open PySem L2 Evl
end Md
namespace Md
open PySem L2 Evl
end Md
namespace Md
open PySem L2 Evl
structure SidG (G H : List PlV) : Prop where
  l : H.length = G.length
  p : ∀ x, x < G.length → (vl H x).g = (vl G x).g ∧ (vl H x).bs = (vl G x).bs ∧ ((vl H x).k = none ↔ (vl G x).k = none)
section
variable {G H : List PlV} {w : Nat}
theorem SidG.refl : SidG G G := ⟨rfl, fun _ _ => ⟨rfl, rfl, Iff.rfl⟩⟩
theorem SidG.wf (s : SidG G H) (hW : WfVG w G) : WfVG w H := by
  refine ⟨by rw [s.l]; exact hW.l1, by rw [s.l]; exact hW.l12, fun p hp => ?_⟩
  obtain ⟨x, hx, rfl⟩ := mem_vl hp
  rw [s.l] at hx ⊢
  obtain ⟨e1, e2, e3⟩ := s.p x hx
  have v := vl_wf hW hx
  exact ⟨by rw [e1]; exact v.g, by rw [e2]; exact v.l1, by rw [e2]; exact v.l6, by rw [e2]; exact v.t, fun hk => by rw [e2]; exact v.c (e3.mp hk), fun hk => by rw [e2]; exact v.w (e3.mp hk), fun hk => by rw [e2]; exact v.s (e3.mp hk)⟩
theorem SidG.sh (s : SidG G H) (h : ShG G) : ShG H := fun p hp => by
  obtain ⟨x, hx, rfl⟩ := mem_vl hp
  rw [s.l] at hx
  rw [(s.p x hx).1]
  exact h _ (vl_mem hx)
theorem SidG.pos (s : SidG G H) (h : PosG G) : PosG H := fun p hp hk q hq => by
  obtain ⟨x, hx, rfl⟩ := mem_vl hp
  rw [s.l] at hx
  obtain ⟨_, e2, e3⟩ := s.p x hx
  rw [e2] at hq
  exact h _ (vl_mem hx) (e3.mp hk) q hq
end
end Md
namespace Md
open PySem L2 Evl
section
variable {G : List PlV} {e e1 e2 : Nat → Rat} {d : Nat → Nat} {M M1 M2 : Nat} {u v : Rat}
theorem gG_mean {k : Nat} (hk : k < G.length) (f : Nat → Rat) : meanC (chV (gG G e) d) f k = nxQ (vl G k) f (d k) := by
  rw [mean_nx (by rw [gG_len]; exact hk), gG_like.nx hk]
end
end Md
namespace Md
end Md
namespace Md
open PySem L2 Evl
section
variable {G : List PlV} {x a w : Nat} {s t r : Rat}
end
end Md
namespace Md
open PySem L2 Evl
end Md
set_option Elab.async false
set_option linter.all false
set_option maxRecDepth 100000
set_option maxHeartbeats 2000000
namespace Md
open PySem L2 Evl
def dNever : DS := fun _ _ => False
theorem z_never {K : PySem.W.Frag} : SimS K tNever dNever := fun b0 h0 bf D DD M b h Γ σ r p => p
section
variable {G H : List PlV} {C : List PlC} {c d : Nat → Nat} {g h f : Nat → Rat} {M0 M1 : Nat}
theorem toC_none {k : Nat} (hk : k < C.length) : (vl (C.map ofC) k).k = none := by
  rw [ofC_vl hk]
  rfl
theorem chV_toC : chV (C.map ofC) c = C := by
  unfold chV
  rw [List.length_map]
  have e : (List.range C.length).map (plC C) = C := map_getDn C _ id |>.trans (List.map_id C)
  conv => rhs; rw [← e]
  refine List.map_congr_left fun k hk => ?_
  have hk := List.mem_range.mp hk
  rw [if_pos (toC_none hk), ofC_vl hk]
  rfl
theorem toC_gn {k : Nat} (hk : k < C.length) : gnV (C.map ofC) k = gainC C k := by
  unfold gnV
  rw [ofC_vl hk]
  rfl
theorem toC_vW {k : Nat} (hk : k < C.length) : vW (vl (C.map ofC) k) f = meanC C f k := by
  rw [ofC_vl hk]
  rfl
theorem wfc_pos (W : WfVG 360 G) (hp : PosG G) (hc : OkC G c) : WfC (chV G c) := by
  have hl : (chV G c).length = G.length := chV_len
  refine ⟨by rw [hl]; exact W.l1, by rw [hl]; exact W.l12, fun p hp1 => ?_⟩
  rw [hl]
  unfold chV at hp1
  obtain ⟨k, hk, rfl⟩ := List.mem_map.mp hp1
  have hk := List.mem_range.mp hk
  have hw := vl_wf W hk
  split
  · rename_i hd
    exact ⟨hw.g, hw.l1, hw.l6, fun q hq => ⟨(hw.c hd q hq).1, hp _ (vl_mem hk) hd q hq, hw.t q hq⟩, hw.w hd, hw.s hd⟩
  · rename_i hd
    exact wf_sure_one hw.g (tgV_lt W hc hk hd)
theorem rol_none {k : Nat} (hk : k < C.length) {e : Nat → Rat} : (vl (gG (C.map ofC) e) k).k = none := by
  rw [gG_at (by rw [List.length_map]; exact hk)]
  exact toC_none hk
theorem rol_mean {k : Nat} (hk : k < C.length) {e u : Nat → Rat} : meanC (chV (gG (C.map ofC) e) c) u k = meanC C u k := by
  rw [gG_mean (by rw [List.length_map]; exact hk)]
  unfold nxQ
  rw [if_pos (toC_none hk), toC_vW hk]
theorem ex_ind (hW : WfC C) {i p : Nat} (hp : 2 ≤ p) : ∃ v, IsWor C (natR (p - 1) / natR p) (fun x => if x = i then 1 else 0) v := by
  have r : RigOk (gG (C.map ofC) fun x => if x = i then 1 else 0) 1 := gG_rig (ofC_wf hW) (fun k _ => by
    split
    · exact ⟨by decide +kernel, by decide +kernel, by decide +kernel, by decide +kernel⟩
    · exact ⟨by decide +kernel, by decide +kernel, by decide +kernel, by decide +kernel⟩) (fun k _ => by
    split
    · exact (by decide +kernel : (canon 1).2.natAbs ∣ 1)
    · exact (by decide +kernel : (canon 0).2.natAbs ∣ 1)) (by decide) (by decide) (fun p hp _ q hq => by
    obtain ⟨z, hz, rfl⟩ := List.mem_map.mp hp
    exact ((hW.p z hz).q q hq).2.1)
  obtain ⟨v, hv⟩ := r.ex (c := fun _ => 0) (fun x hx hn => by
    rw [gG_len, List.length_map] at hx
    exact absurd (rol_none hx) hn) hp
  refine ⟨v, fun x hx => ?_⟩
  have h := hv x (by rw [chV_len, gG_len, List.length_map]; exact hx)
  rw [rol_mean hx, chV_gain (by rw [gG_len, List.length_map]; exact hx)] at h
  have e := gG_gn (G := C.map ofC) (h := fun x => if x = i then (1 : Rat) else 0) (k := x) (by rw [List.length_map]; exact hx)
  unfold gnV at e
  rw [e] at h
  exact h
theorem ex_any (hW : WfC C) (e : Nat → Rat) {p : Nat} (hp : 2 ≤ p) : ∀ m, ∃ v, IsWor C (natR (p - 1) / natR p) (fun x => if x < m then e x else 0) v
  | 0 => ⟨fun _ => 0, fun x hx => by
    have : meanC C (fun _ => 0) x = 0 := by
      have h := wsum_mul (plC C x).bs 0 fun _ => (0 : Rat)
      rw [Rat.zero_mul] at h
      exact h.trans (Rat.zero_mul _)
    show (0 : Rat) = (if x < 0 then e x else 0) + natR (p - 1) / natR p * meanC C (fun _ => 0) x
    rw [this, if_neg (Nat.not_lt_zero _)]
    grind⟩
  | m + 1 => by
    obtain ⟨v, hv⟩ := ex_any hW e hp m
    obtain ⟨u, hu⟩ := ex_ind (i := m) hW hp
    refine ⟨fun x => v x + e m * u x, fun x hx => ?_⟩
    have h1 := hv x hx
    have h2 := hu x hx
    have h3 : meanC C (fun x => v x + e m * u x) x = meanC C v x + e m * meanC C u x := by
      unfold meanC
      rw [wsum_add _ v fun x => e m * u x, wsum_mul]
    show v x + e m * u x = _
    rw [h3, h1, h2]
    show (if x < m then e x else 0) + _ + e m * ((if x = m then 1 else 0) + _) = (if x < m + 1 then e x else 0) + _
    rcases Nat.lt_trichotomy x m with z | z | z
    · rw [if_pos z, if_neg (by omega), if_pos (by omega)]
      grind
    · subst z
      rw [if_neg (by omega), if_pos rfl, if_pos (by omega)]
      grind
    · rw [if_neg (by omega), if_neg (by omega), if_neg (by omega)]
      grind
end
end Md
namespace Md
open PySem L2 Evl
end Md
namespace Md
open PySem L2 Evl
end Md
namespace Md
open PySem L2 Evl
section
variable {G : List PlV} {e : Nat → Rat} {M0 B : Nat}
end
end Md
namespace Md
open PySem L2 Evl
section
variable {G : List PlV} {M0 : Nat}
end
end Md
set_option Elab.async false
set_option linter.all false
set_option maxRecDepth 100000
set_option maxHeartbeats 2000000
namespace Md
open PySem L2 Evl
section
variable {G : List PlV} {c d : Nat → Nat} {g h : Nat → Rat} {M0 : Nat}
end
end Md
namespace Md
open PySem L2 Evl
end Md
set_option Elab.async false
set_option linter.all false
set_option maxRecDepth 100000
set_option maxHeartbeats 2000000
namespace Md
open PySem L2 Evl
section
variable {C : List PlC} {e f g : Nat → Rat} {x : Nat}
end
end Md
namespace Md
open PySem L2 Evl
def WkP (p : PlC) : Prop := p.g.1.natAbs ≤ 8 ∧ ∃ W : Nat, 0 < W ∧ W ≤ 24 ∧ ∀ q ∈ p.bs, q.1.2.natAbs ∣ W
def spWalkS (K : PySem.W.Frag) : Sp := fun vs h Q _ => ∃ (b : Hp) (ds : List Int) (most : Int), Ex b h ∧ DtA K b vs [.list (ds.map PyData.int), .int most] ∧ 1 ≤ most ∧ most ≤ 12 ∧ 2 + 14 * most ≤ (ds.length : Int) ∧ (∀ d ∈ ds, 0 ≤ d ∧ d < 1000) ∧
  ∀ v b' h' C, Gr b h b' h' → WfC C → (∀ p ∈ C, WkP p) → (C.length : Int) ≤ most → Dt K b' v (chD C) → Q v h'
def kWlk : Con := con2 fun x y P => ∃ (ds : List Int) (most : Int), x = .list (ds.map PyData.int) ∧ y = .int most ∧ 1 ≤ most ∧ most ≤ 12 ∧ 2 + 14 * most ≤ (ds.length : Int) ∧ (∀ d ∈ ds, 0 ≤ d ∧ d < 1000) ∧ ∀ C, WfC C → (∀ p ∈ C, WkP p) → (C.length : Int) ≤ most → P (chD C)
theorem c_walkS {K : PySem.W.Frag} {vs : List V} {h : Hp} {Q : VK} {E : XK} (x : spP K kWlk vs h Q E) : spWalkS K vs h Q E := by
  obtain ⟨b, ds, P, e, hA, hR, k⟩ := x
  obtain ⟨a, c, rfl, l, most, rfl, rfl, h1, h2, h3, h4, p⟩ := con2_is hR
  exact ⟨b, l, most, e, hA, h1, h2, h3, h4, fun v b' h' C g w u hl hv => k v b' h' _ g (p C w u hl) hv⟩
theorem walk_wk {a x : Int} {ws : List Int} {tg : Nat → Nat} (ha : a.natAbs ≤ 8) (hx : x ≠ 0) (h1 : 1 ≤ ws.length) (h6 : ws.length ≤ 6) (hw : ∀ w ∈ ws, 1 ≤ w ∧ w ≤ 4) : WkP ⟨num a x, (List.range ws.length).map (walkBr ws tg)⟩ := by
  obtain ⟨s1, s2⟩ := sum4 hw
  refine ⟨Nat.le_trans (num_le hx).1 ha, ws.sum.natAbs, by omega, by omega, fun q hq => ?_⟩
  obtain ⟨j, hj, rfl⟩ := List.mem_map.mp hq
  exact num_dvd (by omega)
end Md
namespace Md
open PySem L2 Evl
end Md
set_option Elab.async false
set_option linter.all false
set_option maxRecDepth 100000
set_option maxHeartbeats 2000000
namespace Md
open PySem L2 Evl
def renB (ν : Nat → Nat) (q : BrC) : BrC := (q.1, ν q.2)
def renP (ν : Nat → Nat) (p : PlV) : PlV := ⟨p.g, p.k, p.bs.map (renB ν)⟩
def kRen : Con := con2 fun x y P => ∃ (p : PlV) (n : Nat) (ν : Nat → Nat), x = p.D ∧ y = natsD ((List.range n).map ν) ∧ p.bs.length ≤ 6 ∧ n ≤ 100 ∧ (∀ q ∈ p.bs, q.2 < n) ∧ P (renP ν p).D
def entN (n k x : Nat) : Nat := if 0 < k then n + k * x else x
def rstP (n k x j : Nat) : PlV := ⟨(0, 1), none, [((1, 1), if j + 1 = k then x else n + k * x + j + 1)]⟩
def slowV (G : List PlV) (k : Nat) : List PlV := G.map (renP (entN G.length k)) ++ (List.range G.length).flatMap fun x => (List.range k).map (rstP G.length k x)
def kSlw : ConN := conN2 fun x y P => ∃ (G : List PlV) (k w : Nat), x = gvD G ∧ y = .int (k : Int) ∧ WfVG w G ∧ G.length * (k + 1) ≤ 12 ∧ P ((slowV G k).map PlV.D)
def turnV (A B : List PlV) : List PlV := (List.range A.length).flatMap fun x => (List.range B.length).flatMap fun y => [renP (fun z => 2 * (B.length * z + y) + 1) (vl A x), renP (fun z => 2 * (B.length * x + z)) (vl B y)]
def kTur : ConN := conN2 fun x y P => ∃ (A B : List PlV) (w : Nat), x = gvD A ∧ y = gvD B ∧ WfVG w A ∧ WfVG w B ∧ 2 * A.length * B.length ≤ 12 ∧ P ((turnV A B).map PlV.D)
end Md
namespace Md
open PySem L2 Evl
theorem flat_len {α : Type} (k : Nat) (f : Nat → Nat → α) : ∀ i : Nat, ((List.range i).flatMap fun x => (List.range k).map (f x)).length = i * k
  | 0 => by rw [List.range_zero, List.flatMap_nil, Nat.zero_mul] <;> rfl
  | i + 1 => by
    rw [List.range_succ, List.flatMap_append, List.flatMap_cons, List.flatMap_nil, List.append_nil, List.length_append, flat_len k f i, List.length_map, List.length_range, Nat.succ_mul]
end Md
namespace Md
open PySem L2 Evl
theorem flat_len2 {α : Type} (f g : Nat → α) : ∀ i : Nat, ((List.range i).flatMap fun y => [f y, g y]).length = 2 * i
  | 0 => rfl
  | i + 1 => by
    rw [List.range_succ, List.flatMap_append, List.flatMap_cons, List.flatMap_nil, List.append_nil, List.length_append, flat_len2 f g i]
    show 2 * i + 2 = 2 * (i + 1)
    omega
theorem flat_len3 {α : Type} (m : Nat) (f g : Nat → Nat → α) : ∀ i : Nat, ((List.range i).flatMap fun x => (List.range m).flatMap fun y => [f x y, g x y]).length = i * (2 * m)
  | 0 => by rw [List.range_zero, List.flatMap_nil, Nat.zero_mul] <;> rfl
  | i + 1 => by
    rw [List.range_succ, List.flatMap_append, List.flatMap_cons, List.flatMap_nil, List.append_nil, List.length_append, flat_len3 m f g i, flat_len2, Nat.add_mul i 1, Nat.one_mul]
end Md
namespace Md
open PySem L2 Evl
theorem flat_rng {α : Type} (M : Nat) (f : Nat → Nat → α) (hM : 0 < M) : ∀ i : Nat, ((List.range i).flatMap fun x => (List.range M).map (f x)) = (List.range (i * M)).map fun t => f (t / M) (t % M)
  | 0 => by rw [List.range_zero, List.flatMap_nil, Nat.zero_mul] <;> rfl
  | i + 1 => by
    rw [List.range_succ, List.flatMap_append, List.flatMap_cons, List.flatMap_nil, List.append_nil, flat_rng M f hM i, Nat.add_mul, Nat.one_mul, List.range_add, List.map_append, List.map_map]
    congr 1
    refine List.map_congr_left fun j hj => ?_
    have hj := List.mem_range.mp hj
    show f i j = f ((i * M + j) / M) ((i * M + j) % M)
    rw [Nat.mul_comm i M, Nat.mul_add_div hM, Nat.mul_add_mod, Nat.div_eq_of_lt hj, Nat.mod_eq_of_lt hj, Nat.add_zero]
section
variable {A B G : List PlV} {n k w : Nat}
def turnP (A B : List PlV) (x y j : Nat) : PlV := if j = 0 then renP (fun z => 2 * (B.length * z + y) + 1) (vl A x) else renP (fun z => 2 * (B.length * x + z)) (vl B y)
theorem turn_rng (hB : 0 < B.length) : turnV A B = (List.range (A.length * (B.length * 2))).map fun t => turnP A B (t / (B.length * 2)) (t % (B.length * 2) / 2) (t % (B.length * 2) % 2) := by
  have e : ∀ x, ((List.range B.length).flatMap fun y => [renP (fun z => 2 * (B.length * z + y) + 1) (vl A x), renP (fun z => 2 * (B.length * x + z)) (vl B y)]) = (List.range (B.length * 2)).map fun t => turnP A B x (t / 2) (t % 2) := fun x => by
    rw [← flat_rng 2 (turnP A B x) (by decide)]
    rfl
  unfold turnV
  simp only [e]
  exact flat_rng (B.length * 2) (fun x t => turnP A B x (t / 2) (t % 2)) (by omega) A.length
theorem turn_len (hB : 0 < B.length) : (turnV A B).length = A.length * (B.length * 2) := by
  rw [turn_rng hB, List.length_map, List.length_range]
theorem turn_idx {x y j : Nat} (hx : x < A.length) (hy : y < B.length) (hj : j < 2) : 2 * (B.length * x + y) + j < A.length * (B.length * 2) ∧ vl (turnV A B) (2 * (B.length * x + y) + j) = turnP A B x y j := by
  have hB : 0 < B.length := by omega
  have e : 2 * (B.length * x + y) + j = (B.length * 2) * x + (2 * y + j) := by
    rw [Nat.mul_add, ← Nat.mul_assoc, Nat.mul_comm 2 B.length, Nat.add_assoc]
  have hlt : 2 * y + j < B.length * 2 := by omega
  have l : (B.length * 2) * x + (2 * y + j) < A.length * (B.length * 2) := by
    have h1 : (B.length * 2) * (x + 1) ≤ (B.length * 2) * A.length := Nat.mul_le_mul_left _ hx
    rw [Nat.mul_succ, Nat.mul_comm _ A.length] at h1
    omega
  rw [e]
  refine ⟨l, ?_⟩
  rw [turn_rng hB]
  have := vl_range (f := fun t => turnP A B (t / (B.length * 2)) (t % (B.length * 2) / 2) (t % (B.length * 2) % 2)) l
  rw [this, Nat.mul_add_div (by omega), Nat.mul_add_mod, Nat.div_eq_of_lt hlt, Nat.mod_eq_of_lt hlt, Nat.add_zero, Nat.mul_add_div (by decide), Nat.mul_add_mod, Nat.div_eq_of_lt hj, Nat.mod_eq_of_lt hj, Nat.add_zero]
theorem turn_all (hB : 0 < B.length) {i : Nat} (hi : i < A.length * (B.length * 2)) : ∃ x y j, x < A.length ∧ y < B.length ∧ j < 2 ∧ i = 2 * (B.length * x + y) + j := by
  refine ⟨i / (B.length * 2), i % (B.length * 2) / 2, i % (B.length * 2) % 2, ?_, ?_, Nat.mod_lt _ (by decide), ?_⟩
  · rw [Nat.div_lt_iff_lt_mul (by omega)]
    exact hi
  · have := Nat.mod_lt i (show 0 < B.length * 2 by omega)
    omega
  · have h1 := Nat.div_add_mod i (B.length * 2)
    have h2 := Nat.div_add_mod (i % (B.length * 2)) 2
    rw [Nat.mul_add, ← Nat.mul_assoc, Nat.mul_comm 2 B.length]
    omega
theorem slow_len : (slowV G k).length = G.length + G.length * k := by
  unfold slowV
  rw [List.length_append, List.length_map, flat_len]
theorem slow_vl {x : Nat} (hx : x < G.length) : vl (slowV G k) x = renP (entN G.length k) (vl G x) := by
  unfold slowV vl
  rw [List.getD_eq_getElem?_getD, List.getElem?_append_left (by rw [List.length_map]; exact hx), List.getElem?_map, vl_get hx]
  rfl
theorem slow_rst {x j : Nat} (hx : x < G.length) (hj : j < k) : G.length + k * x + j < G.length + G.length * k ∧ vl (slowV G k) (G.length + k * x + j) = rstP G.length k x j := by
  have hk : 0 < k := by omega
  have l : k * x + j < G.length * k := by
    have h1 : k * (x + 1) ≤ k * G.length := Nat.mul_le_mul_left _ hx
    rw [Nat.mul_succ, Nat.mul_comm _ G.length] at h1
    omega
  refine ⟨by omega, ?_⟩
  unfold slowV vl
  rw [flat_rng k (rstP G.length k) hk, List.getD_eq_getElem?_getD, List.getElem?_append_right (by rw [List.length_map]; omega), List.length_map, show G.length + k * x + j - G.length = k * x + j by omega, List.getElem?_map, List.getElem?_range l]
  show rstP G.length k ((k * x + j) / k) ((k * x + j) % k) = _
  rw [Nat.mul_add_div hk, Nat.mul_add_mod, Nat.div_eq_of_lt hj, Nat.mod_eq_of_lt hj, Nat.add_zero]
theorem slow_all {i : Nat} (hi : i < G.length + G.length * k) : i < G.length ∨ ∃ x j, x < G.length ∧ j < k ∧ i = G.length + k * x + j := by
  rcases Nat.lt_or_ge i G.length with z | z
  · exact .inl z
  · right
    have hk : 0 < k := by
      rcases Nat.eq_zero_or_pos k with e | e
      · subst e
        omega
      · exact e
    refine ⟨(i - G.length) / k, (i - G.length) % k, ?_, Nat.mod_lt _ hk, ?_⟩
    · rw [Nat.div_lt_iff_lt_mul hk]
      omega
    · have := Nat.div_add_mod (i - G.length) k
      omega
end
end Md
set_option Elab.async false
set_option linter.all false
set_option maxRecDepth 100000
set_option maxHeartbeats 2000000
namespace Md
open PySem L2 Evl
section
variable {G S : List PlV} {c d : Nat → Nat} {g h : Nat → Rat} {M : Nat}
theorem ren_nx {p : PlV} {ν : Nat → Nat} {f : Nat → Rat} {b : Nat} (hb : p.k ≠ none → b < p.bs.length) : nxQ (renP ν p) f b = nxQ p (fun z => f (ν z)) b := by
  unfold nxQ
  have hk : (renP ν p).k = p.k := rfl
  rw [hk]
  split
  · rename_i e
    unfold vW
    rw [hk, e]
    show wsum (p.bs.map (renB ν)) f = wsum p.bs fun z => f (ν z)
    unfold wsum
    rw [List.map_map]
    rfl
  · rename_i e
    unfold tgB
    show f ((p.bs.map (renB ν)).getD b ((1, 1), 0)).2 = f (ν (p.bs.getD b ((1, 1), 0)).2)
    rw [List.getD_eq_getElem?_getD, List.getD_eq_getElem?_getD, List.getElem?_map, List.getElem?_eq_getElem (hb e)]
    rfl
theorem nx_cong {p : PlV} {f f' : Nat → Rat} {b : Nat} (hf : ∀ q ∈ p.bs, f q.2 = f' q.2) (hb : p.k ≠ none → b < p.bs.length) : nxQ p f b = nxQ p f' b := by
  unfold nxQ
  split
  · exact vW_congr hf
  · rename_i e
    unfold tgB
    rw [List.getD_eq_getElem?_getD, List.getElem?_eq_getElem (hb e)]
    exact hf _ (List.getElem_mem _)
structure Lke (G S : List PlV) (g h g' h' : Nat → Rat) (c' : Nat → Nat) (c : Nat → Nat) (i z : Nat) : Prop where
  x : z < G.length
  k : (vl S i).k = (vl G z).k
  b : (vl S i).bs.length = (vl G z).bs.length
  cc : c' i = c z
  e : ∀ b, ((vl G z).k ≠ none → b < (vl G z).bs.length) → (∃ t : Rat, 0 ≤ t ∧ shQ S g' (i, b) = shQ G g (z, b) * t) ∧ boQ S g' h' (i, b) = boQ G g h (z, b)
def RstAt (S : List PlV) (g' h' : Nat → Rat) (i : Nat) : Prop := (vl S i).k = none ∧ shQ S g' (i, 0) = 0 ∧ boQ S g' h' (i, 0) = 0
end
section
variable {A B S : List PlV} {c cA cB : Nat → Nat} {g h gA hA gB hB : Nat → Rat}
end
end Md
namespace Md
open PySem L2 Evl
section
variable {G : List PlV} {c : Nat → Nat} {g h : Nat → Rat} {k w : Nat} {t : Rat}
def gSl (n k : Nat) (g : Nat → Rat) (t : Rat) (i : Nat) : Rat := (if i < n then g i else g ((i - n) / k)) * t
def hSl (n k : Nat) (g h : Nat → Rat) (t : Rat) (i : Nat) : Rat := if i < n then h i + natR k * (g i * t) else h ((i - n) / k) + natR ((i - n) % k) * (g ((i - n) / k) * t)
theorem gSl_ent {z n : Nat} (hk : 0 < k) (hz : z < n) : gSl n k g t (entN n k z) = g z * t ∧ hSl n k g h t (entN n k z) = h z := by
  unfold gSl hSl entN
  rw [if_pos hk, if_neg (by omega), if_neg (by omega), show n + k * z - n = k * z by omega, Nat.mul_div_cancel_left z hk, Nat.mul_mod_right, natR_zero]
  exact ⟨rfl, by grind⟩
theorem gSl_rst {x j n : Nat} (hj : j < k) : gSl n k g t (n + k * x + j) = g x * t ∧ hSl n k g h t (n + k * x + j) = h x + natR j * (g x * t) := by
  have hk : 0 < k := by omega
  unfold gSl hSl
  rw [if_neg (by omega), if_neg (by omega), show n + k * x + j - n = k * x + j by omega, Nat.mul_add_div hk, Nat.mul_add_mod, Nat.div_eq_of_lt hj, Nat.mod_eq_of_lt hj, Nat.add_zero]
  exact ⟨rfl, rfl⟩
theorem slow_lke (hW : WfVG w G) (hk : 0 < k) (ht : (natR k + 1) * t = 1) (t0 : 0 ≤ t) {i : Nat} (hi : i < (slowV G k).length) : (∃ x, Lke G (slowV G k) g h (gSl G.length k g t) (hSl G.length k g h t) c c i x) ∨ RstAt (slowV G k) (gSl G.length k g t) (hSl G.length k g h t) i := by
  rw [slow_len] at hi
  rcases slow_all hi with hx | ⟨x, j, hx, hj, rfl⟩
  · left
    have ev := slow_vl (k := k) hx
    have hw := vl_wf hW hx
    refine ⟨i, hx, by rw [ev]; rfl, by rw [ev]; exact List.length_map _, rfl, fun b hb => ?_⟩
    have n1 : nxQ (vl (slowV G k) i) (gSl G.length k g t) b = nxQ (vl G i) g b * t := by
      rw [ev, ren_nx hb, ← nx_mul hw t0]
      exact nx_cong (fun q hq => (gSl_ent (h := h) hk (hw.t q hq)).1) hb
    have n2 : nxQ (vl (slowV G k) i) (hSl G.length k g h t) b = nxQ (vl G i) h b := by
      rw [ev, ren_nx hb]
      exact nx_cong (fun q hq => (gSl_ent (g := g) (t := t) hk (hw.t q hq)).2) hb
    have g1 : gSl G.length k g t i = g i * t := by
      unfold gSl
      rw [if_pos hx]
    have h1 : hSl G.length k g h t i = h i + natR k * (g i * t) := by
      unfold hSl
      rw [if_pos hx]
    have gn : gnV (slowV G k) i = gnV G i := by
      unfold gnV
      rw [ev]
      rfl
    refine ⟨⟨t, t0, ?_⟩, ?_⟩
    · unfold shQ
      show nxQ (vl (slowV G k) i) (gSl G.length k g t) b - gSl G.length k g t i = (nxQ (vl G i) g b - g i) * t
      rw [n1, g1]
      grind
    · unfold boQ
      show gnV (slowV G k) i + nxQ (vl (slowV G k) i) (hSl G.length k g h t) b - (gSl G.length k g t i + hSl G.length k g h t i) = gnV G i + nxQ (vl G i) h b - (g i + h i)
      rw [n2, g1, h1, gn]
      have : g i * t + (h i + natR k * (g i * t)) = g i * ((natR k + 1) * t) + h i := by grind
      rw [this, ht]
      grind
  · right
    obtain ⟨l1, ev⟩ := slow_rst (G := G) hx hj
    have hkn : (vl (slowV G k) (G.length + k * x + j)).k = none := by rw [ev]; rfl
    have nx : ∀ f : Nat → Rat, nxQ (vl (slowV G k) (G.length + k * x + j)) f 0 = f (if j + 1 = k then x else G.length + k * x + j + 1) := fun f => by
      unfold nxQ
      rw [if_pos hkn, ev]
      exact wsum_ring _ _
    have gr := gSl_rst (n := G.length) (g := g) (h := h) (t := t) (x := x) hj
    have tg : gSl G.length k g t (if j + 1 = k then x else G.length + k * x + j + 1) = g x * t ∧ hSl G.length k g h t (if j + 1 = k then x else G.length + k * x + j + 1) = h x + natR (j + 1) * (g x * t) := by
      split
      · rename_i e
        unfold gSl hSl
        rw [if_pos hx, if_pos hx, e]
        exact ⟨rfl, rfl⟩
      · rename_i e
        exact gSl_rst (n := G.length) (g := g) (h := h) (t := t) (x := x) (j := j + 1) (by omega)
    refine ⟨hkn, ?_, ?_⟩
    · unfold shQ
      show nxQ (vl (slowV G k) (G.length + k * x + j)) _ 0 - _ = 0
      rw [nx, tg.1, gr.1]
      grind
    · unfold boQ
      show gnV (slowV G k) (G.length + k * x + j) + nxQ (vl (slowV G k) (G.length + k * x + j)) _ 0 - (_ + _) = 0
      have gn : gnV (slowV G k) (G.length + k * x + j) = 0 := by
        unfold gnV
        rw [ev]
        show qN (0, 1) = 0
        exact by decide +kernel
      rw [nx, tg.2, gr.1, gr.2, gn, natR_add, natR_one]
      grind
end
section
variable {A B : List PlV} {cA cB : Nat → Nat} {gA hA gB hB : Nat → Rat} {w m : Nat}
def gTu (m : Nat) (gA gB : Nat → Rat) (i : Nat) : Rat := (gA (i / (m * 2)) + gB (i % (m * 2) / 2)) * (1 / 2)
def hTu (m : Nat) (gA hA gB hB : Nat → Rat) (i : Nat) : Rat := hA (i / (m * 2)) + hB (i % (m * 2) / 2) + (if i % (m * 2) % 2 = 0 then gA (i / (m * 2)) else gB (i % (m * 2) / 2)) * (1 / 2)
def cTu (m : Nat) (cA cB : Nat → Nat) (i : Nat) : Nat := if i % (m * 2) % 2 = 0 then cA (i / (m * 2)) else cB (i % (m * 2) / 2)
theorem tu_idx {x y j : Nat} (hy : y < m) (hj : j < 2) : (2 * (m * x + y) + j) / (m * 2) = x ∧ (2 * (m * x + y) + j) % (m * 2) / 2 = y ∧ (2 * (m * x + y) + j) % (m * 2) % 2 = j := by
  have e : 2 * (m * x + y) + j = (m * 2) * x + (2 * y + j) := by
    rw [Nat.mul_add, ← Nat.mul_assoc, Nat.mul_comm 2 m, Nat.add_assoc]
  have hlt : 2 * y + j < m * 2 := by omega
  rw [e, Nat.mul_add_div (by omega), Nat.mul_add_mod, Nat.div_eq_of_lt hlt, Nat.mod_eq_of_lt hlt]
  omega
theorem turn_lke (wA : WfVG w A) (wB : WfVG w B) {i : Nat} (hi : i < (turnV A B).length) : (∃ x, Lke A (turnV A B) gA hA (gTu B.length gA gB) (hTu B.length gA hA gB hB) (cTu B.length cA cB) cA i x) ∨ (∃ y, Lke B (turnV A B) gB hB (gTu B.length gA gB) (hTu B.length gA hA gB hB) (cTu B.length cA cB) cB i y) ∨ RstAt (turnV A B) (gTu B.length gA gB) (hTu B.length gA hA gB hB) i := by
  have hB0 : 0 < B.length := wB.l1
  rw [turn_len hB0] at hi
  obtain ⟨x, y, j, hx, hy, hj, rfl⟩ := turn_all hB0 hi
  have ev := (turn_idx hx hy hj).2
  obtain ⟨i1, i2, i3⟩ := tu_idx (x := x) hy hj
  have gat : ∀ {x y j : Nat}, y < B.length → j < 2 → gTu B.length gA gB (2 * (B.length * x + y) + j) = (gA x + gB y) * (1 / 2) := fun {x y j} hy hj => by
    obtain ⟨i1, i2, i3⟩ := tu_idx (x := x) hy hj
    unfold gTu
    rw [i1, i2]
  have hat : ∀ {x y j : Nat}, y < B.length → j < 2 → hTu B.length gA hA gB hB (2 * (B.length * x + y) + j) = hA x + hB y + (if j = 0 then gA x else gB y) * (1 / 2) := fun {x y j} hy hj => by
    obtain ⟨i1, i2, i3⟩ := tu_idx (x := x) hy hj
    unfold hTu
    rw [i1, i2, i3]
  have h12 : (0 : Rat) ≤ 1 / 2 := by decide +kernel
  rcases (by omega : j = 0 ∨ j = 1) with rfl | rfl
  · left
    have hw := vl_wf wA hx
    have ev : vl (turnV A B) (2 * (B.length * x + y) + 0) = renP (fun z => 2 * (B.length * z + y) + 1) (vl A x) := ev
    refine ⟨x, hx, by rw [ev]; rfl, by rw [ev]; exact List.length_map _, by unfold cTu; rw [i1, i3, if_pos rfl], fun b hb => ?_⟩
    have n1 : nxQ (vl (turnV A B) (2 * (B.length * x + y) + 0)) (gTu B.length gA gB) b = (nxQ (vl A x) gA b + gB y) * (1 / 2) := by
      rw [ev, ren_nx hb, ← nx_add hw, ← nx_mul hw h12]
      exact nx_cong (fun q hq => gat hy (by decide)) hb
    have n2 : nxQ (vl (turnV A B) (2 * (B.length * x + y) + 0)) (hTu B.length gA hA gB hB) b = nxQ (vl A x) hA b + (hB y + gB y * (1 / 2)) := by
      rw [ev, ren_nx hb, ← nx_add hw]
      refine nx_cong (fun q hq => ?_) hb
      have := hat (x := q.2) hy (show 1 < 2 by decide)
      rw [if_neg (by decide)] at this
      rw [this]
      grind
    have gn : gnV (turnV A B) (2 * (B.length * x + y) + 0) = gnV A x := by
      unfold gnV
      rw [ev]
      rfl
    have g1 := gat (x := x) hy (show 0 < 2 by decide)
    have h1 := hat (x := x) hy (show 0 < 2 by decide)
    rw [if_pos rfl] at h1
    refine ⟨⟨1 / 2, h12, ?_⟩, ?_⟩
    · unfold shQ
      show nxQ (vl (turnV A B) (2 * (B.length * x + y) + 0)) _ b - gTu B.length gA gB (2 * (B.length * x + y) + 0) = (nxQ (vl A x) gA b - gA x) * (1 / 2)
      rw [n1, g1]
      grind
    · unfold boQ
      show gnV (turnV A B) (2 * (B.length * x + y) + 0) + nxQ (vl (turnV A B) (2 * (B.length * x + y) + 0)) _ b - (gTu B.length gA gB (2 * (B.length * x + y) + 0) + hTu B.length gA hA gB hB (2 * (B.length * x + y) + 0)) = gnV A x + nxQ (vl A x) hA b - (gA x + hA x)
      rw [n2, g1, h1, gn]
      grind
  · right
    left
    have hw := vl_wf wB hy
    have ev : vl (turnV A B) (2 * (B.length * x + y) + 1) = renP (fun z => 2 * (B.length * x + z)) (vl B y) := ev
    refine ⟨y, hy, by rw [ev]; rfl, by rw [ev]; exact List.length_map _, by unfold cTu; rw [i2, i3, if_neg (by decide)], fun b hb => ?_⟩
    have n1 : nxQ (vl (turnV A B) (2 * (B.length * x + y) + 1)) (gTu B.length gA gB) b = (nxQ (vl B y) gB b + gA x) * (1 / 2) := by
      rw [ev, ren_nx hb, ← nx_add hw, ← nx_mul hw h12]
      refine nx_cong (fun q hq => ?_) hb
      have := gat (x := x) (hw.t q hq) (show 0 < 2 by decide)
      rw [Nat.add_zero] at this
      rw [this]
      grind
    have n2 : nxQ (vl (turnV A B) (2 * (B.length * x + y) + 1)) (hTu B.length gA hA gB hB) b = nxQ (vl B y) hB b + (hA x + gA x * (1 / 2)) := by
      rw [ev, ren_nx hb, ← nx_add hw]
      refine nx_cong (fun q hq => ?_) hb
      have := hat (x := x) (hw.t q hq) (show 0 < 2 by decide)
      rw [if_pos rfl, Nat.add_zero] at this
      rw [this]
      grind
    have gn : gnV (turnV A B) (2 * (B.length * x + y) + 1) = gnV B y := by
      unfold gnV
      rw [ev]
      rfl
    have g1 := gat (x := x) hy (show 1 < 2 by decide)
    have h1 := hat (x := x) hy (show 1 < 2 by decide)
    rw [if_neg (by decide)] at h1
    refine ⟨⟨1 / 2, h12, ?_⟩, ?_⟩
    · unfold shQ
      show nxQ (vl (turnV A B) (2 * (B.length * x + y) + 1)) _ b - gTu B.length gA gB (2 * (B.length * x + y) + 1) = (nxQ (vl B y) gB b - gB y) * (1 / 2)
      rw [n1, g1]
      grind
    · unfold boQ
      show gnV (turnV A B) (2 * (B.length * x + y) + 1) + nxQ (vl (turnV A B) (2 * (B.length * x + y) + 1)) _ b - (gTu B.length gA gB (2 * (B.length * x + y) + 1) + hTu B.length gA hA gB hB (2 * (B.length * x + y) + 1)) = gnV B y + nxQ (vl B y) hB b - (gB y + hB y)
      rw [n2, g1, h1, gn]
      grind
end
end Md
namespace Md
open PySem L2 Evl
section
variable {A B G : List PlV} {k w n N M0 : Nat}
theorem ren_wf {p : PlV} {ν : Nat → Nat} (h : WfV w n p) (hν : ∀ z, z < n → ν z < N) : WfV w N (renP ν p) := by
  refine ⟨h.g, by show 1 ≤ (p.bs.map (renB ν)).length; rw [List.length_map]; exact h.l1, by show (p.bs.map (renB ν)).length ≤ 6; rw [List.length_map]; exact h.l6, fun q hq => ?_, fun hk q hq => ?_, fun hk => ?_, fun hk => ?_⟩
  · obtain ⟨r, hr, rfl⟩ := List.mem_map.mp hq
    exact hν _ (h.t r hr)
  · obtain ⟨r, hr, rfl⟩ := List.mem_map.mp hq
    exact h.c hk r hr
  · obtain ⟨W, w0, w1, w2⟩ := h.w hk
    refine ⟨W, w0, w1, fun q hq => ?_⟩
    obtain ⟨r, hr, rfl⟩ := List.mem_map.mp hq
    exact w2 r hr
  · show ((p.bs.map (renB ν)).map fun q => qN q.1).sum = 1
    rw [List.map_map]
    exact h.s hk
theorem ren_pos {p : PlV} {ν : Nat → Nat} (h : p.k = none → ∀ q ∈ p.bs, 0 < q.1.1) : (renP ν p).k = none → ∀ q ∈ (renP ν p).bs, 0 < q.1.1 := fun hk q hq => by
  obtain ⟨r, hr, rfl⟩ := List.mem_map.mp hq
  exact h hk r hr
theorem rst_wf {x j : Nat} (hx : x < G.length) (hj : j < k) (w1 : 1 ≤ w) : WfV w (G.length + G.length * k) (rstP G.length k x j) := by
  have l := (slow_rst (G := G) (k := k) hx hj).1
  have one : ∀ q ∈ (rstP G.length k x j).bs, q.1 = (1, 1) ∧ q.2 < G.length + G.length * k := fun q hq => by
    rw [List.mem_singleton.mp hq]
    refine ⟨rfl, ?_⟩
    show (if j + 1 = k then x else G.length + k * x + j + 1) < _
    split
    · omega
    · have := (slow_rst (G := G) (k := k) (j := j + 1) hx (by omega)).1
      omega
  refine ⟨(⟨by decide, by decide, by decide, by decide⟩ : SmallN (0, 1)), by show 1 ≤ 1; decide, by show 1 ≤ 6; decide, fun q hq => (one q hq).2, fun _ q hq => ?_, fun _ => ⟨1, by decide, w1, fun q hq => ?_⟩, fun _ => ?_⟩
  · rw [(one q hq).1]
    exact ⟨⟨by decide, by decide, by decide, by decide⟩, by decide⟩
  · rw [(one q hq).1]
    decide
  · show ([((1, 1), if j + 1 = k then x else G.length + k * x + j + 1)].map fun q : BrC => qN q.1).sum = 1
    show qN (1, 1) + 0 = 1
    decide +kernel
theorem slow_mem {p : PlV} (hp : p ∈ slowV G k) : (∃ q ∈ G, p = renP (entN G.length k) q) ∨ ∃ x j, x < G.length ∧ j < k ∧ p = rstP G.length k x j := by
  unfold slowV at hp
  rcases List.mem_append.mp hp with h | h
  · obtain ⟨q, hq, rfl⟩ := List.mem_map.mp h
    exact .inl ⟨q, hq, rfl⟩
  · obtain ⟨x, hx, h⟩ := List.mem_flatMap.mp h
    obtain ⟨j, hj, rfl⟩ := List.mem_map.mp h
    exact .inr ⟨x, j, List.mem_range.mp hx, List.mem_range.mp hj, rfl⟩
theorem turn_mem {p : PlV} (hp : p ∈ turnV A B) : ∃ x y j, x < A.length ∧ y < B.length ∧ j < 2 ∧ p = turnP A B x y j := by
  unfold turnV at hp
  obtain ⟨x, hx, h⟩ := List.mem_flatMap.mp hp
  obtain ⟨y, hy, h⟩ := List.mem_flatMap.mp h
  simp only [List.mem_cons, List.not_mem_nil, or_false] at h
  rcases h with rfl | rfl
  · exact ⟨x, y, 0, List.mem_range.mp hx, List.mem_range.mp hy, by decide, rfl⟩
  · exact ⟨x, y, 1, List.mem_range.mp hx, List.mem_range.mp hy, by decide, rfl⟩
end
end Md
namespace Md
open PySem L2 Evl
theorem seq_hide {a b : DS} {DD : DEnds} {Γ : Gam} (h : ∀ R : DS, R = b → dSeq a R DD Γ) : dSeq a b DD Γ := h b rfl
end Md
set_option Elab.async false
set_option linter.all false
set_option maxRecDepth 100000
set_option maxHeartbeats 2000000
namespace Md
open PySem L2 Evl
def kTwo : Con := con1 fun x P => ∃ ds : List Int, x = .list (ds.map PyData.int) ∧ ds.length = 2 ∧ (∀ d ∈ ds, 0 ≤ d ∧ d < 1000) ∧ ∀ a b : Int, -20 ≤ a → a ≤ 20 → -20 ≤ b → b ≤ 29 → a < b → P (.tuple [.int a, .int b])
def kRg2 : Con := con2 fun x y P => ∃ a b : Int, x = .int a ∧ y = .int b ∧ P (chD (ringC a b))
def kLMe : Con := con2 fun x y P => ∃ (C : List PlC) (f : Nat → Rat) (M B : Nat), x = chD C ∧ y = listQ C.length f ∧ WfC C ∧ (∀ k, k < C.length → NB M B (f k)) ∧ 0 < M ∧ 1 ≤ B ∧ M < 2 ^ 1900 ∧ B < 2 ^ 200 ∧ P (listQ C.length (meanC C f))
section
variable {K : PySem.W.Frag} {vs : List V} {h : Hp} {Q : VK} {E : XK}
theorem c_two (x : spP K kTwo vs h Q E) : spTwo K vs h Q E := by
  obtain ⟨b, ds, P, e, hA, hR, k⟩ := x
  obtain ⟨a, rfl, l, rfl, h1, h2, p⟩ := con1_is hR
  exact ⟨b, l, e, hA, h1, h2, fun v b' h' x y g c1 c2 c3 c4 c5 hv => k v b' h' _ g (p x y c1 c2 c3 c4 c5) hv⟩
theorem c_rg2 (x : spP K kRg2 vs h Q E) : spRing K vs h Q E := by
  obtain ⟨b, ds, P, e, hA, hR, k⟩ := x
  obtain ⟨a, c, rfl, u, v, rfl, rfl, p⟩ := con2_is hR
  exact ⟨b, u, v, e, hA, fun v b' h' g hv => k v b' h' _ g p hv⟩
theorem c_lme (x : spP K kLMe vs h Q E) : spMeansW K vs h Q E := by
  obtain ⟨b, ds, P, e, hA, hR, k⟩ := x
  obtain ⟨a, c, rfl, C, f, M, B, rfl, rfl, h1, h2, h3, h4, h5, h6, p⟩ := con2_is hR
  exact ⟨b, C, f, M, B, e, hA, h1, h2, h3, h4, h5, h6, fun v b' h' g hv => k v b' h' _ g p hv⟩
end
section
variable {S G A B : List PlV} {g h : Nat → Rat} {w k n : Nat}
theorem slow_wf (W : WfVG w G) (w1 : 1 ≤ w) (hn : G.length + G.length * k ≤ 12) : WfVG w (slowV G k) := by
  have hν : ∀ z, z < G.length → entN G.length k z < G.length + G.length * k := fun z hz => by
    unfold entN
    split
    · rename_i h
      exact (slow_rst (G := G) (k := k) (j := 0) hz h).1
    · omega
  refine ⟨by rw [slow_len]; have := W.l1; omega, by rw [slow_len]; exact hn, fun p hp => ?_⟩
  rw [slow_len]
  rcases slow_mem hp with ⟨q, hq, rfl⟩ | ⟨y, j, hy, hj, rfl⟩
  · exact ren_wf (W.p q hq) hν
  · exact rst_wf hy hj w1
theorem slow_pos (hp : PosG G) : PosG (slowV G k) := fun p hp2 => by
  rcases slow_mem hp2 with ⟨q, hq, rfl⟩ | ⟨y, j, hy, hj, rfl⟩
  · exact ren_pos (hp q hq)
  · intro _ q hq
    rw [List.mem_singleton.mp hq]
    exact (by decide : (0 : Int) < 1)
theorem slow_zero : slowV G 0 = G := by
  unfold slowV
  have e : (List.range G.length).flatMap (fun x => (List.range 0).map (rstP G.length 0 x)) = [] := by
    rw [List.flatMap_eq_nil_iff]
    intro x _
    rfl
  rw [e, List.append_nil]
  have : ∀ p : PlV, renP (entN G.length 0) p = p := fun p => by
    obtain ⟨g, k, bs⟩ := p
    unfold renP
    congr 1
    conv => rhs; rw [← List.map_id bs]
    refine List.map_congr_left fun q _ => ?_
    unfold renB entN
    rw [if_neg (Nat.lt_irrefl 0)]
    rfl
  conv => rhs; rw [← List.map_id G]
  exact List.map_congr_left fun p _ => this p
theorem turn_wf (wA : WfVG w A) (wB : WfVG w B) (hn : A.length * (B.length * 2) ≤ 12) : WfVG w (turnV A B) := by
  have hB : 0 < B.length := wB.l1
  have hA : 0 < A.length := wA.l1
  have ha : ∀ {y}, y < B.length → ∀ z, z < A.length → 2 * (B.length * z + y) + 1 < A.length * (B.length * 2) := fun hy z hz => (turn_idx (A := A) (B := B) hz hy (by decide)).1
  have hb : ∀ {x}, x < A.length → ∀ z, z < B.length → 2 * (B.length * x + z) < A.length * (B.length * 2) := fun hx z hz => by
    have := (turn_idx (A := A) (B := B) (j := 0) hx hz (by decide)).1
    omega
  refine ⟨by rw [turn_len hB]; have := Nat.mul_pos hA (show 0 < B.length * 2 by omega); omega, by rw [turn_len hB]; exact hn, fun p hp => ?_⟩
  rw [turn_len hB]
  obtain ⟨x, y, j, hx, hy, hj, rfl⟩ := turn_mem hp
  unfold turnP
  split
  · exact ren_wf (vl_wf wA hx) (ha hy)
  · exact ren_wf (vl_wf wB hy) (hb hx)
theorem turn_pos (pA : PosG A) (pB : PosG B) : PosG (turnV A B) := fun p hp => by
  obtain ⟨x, y, j, hx, hy, hj, rfl⟩ := turn_mem hp
  unfold turnP
  split
  · exact ren_pos (pA (vl A x) (vl_mem hx))
  · exact ren_pos (pB (vl B y) (vl_mem hy))
def AllN (S : List PlV) : Prop := ∀ p ∈ S, p.k = none
theorem slow_none (hG : AllN G) : AllN (slowV G k) := fun p hp => by
  rcases slow_mem hp with ⟨q, hq, rfl⟩ | ⟨y, j, hy, hj, rfl⟩
  · exact hG q hq
  · rfl
theorem turn_none (hA : AllN A) (hB : AllN B) : AllN (turnV A B) := fun p hp => by
  obtain ⟨x, y, j, hx, hy, hj, rfl⟩ := turn_mem hp
  unfold turnP
  split
  · exact hA (vl A x) (vl_mem hx)
  · exact hB (vl B y) (vl_mem hy)
theorem toC_all {C : List PlC} : AllN (C.map ofC) := fun p hp => by
  obtain ⟨q, hq, rfl⟩ := List.mem_map.mp hp
  rfl
theorem toC_pos {C : List PlC} (h : WfC C) : PosG (C.map ofC) := fun p hp _ q hq => by
  obtain ⟨r, hr, rfl⟩ := List.mem_map.mp hp
  exact ((h.p r hr).q q hq).2.1
def chZ (S : List PlV) : List PlC := chV S fun _ => 0
theorem chZ_len : (chZ S).length = S.length := chV_len
theorem chZ_wf (W : WfVG 360 S) (hp : PosG S) (hN : AllN S) : WfC (chZ S) := wfc_pos W hp fun x hx hn => absurd (hN _ (vl_mem hx)) hn
theorem chZ_data (hN : AllN S) : S.map PlV.D = (chZ S).map PlC.D := by
  conv => lhs; rw [← vl_list S]
  unfold chZ chV
  rw [List.map_map, List.map_map]
  refine List.map_congr_left fun k hk => ?_
  have hk := List.mem_range.mp hk
  have nk := hN _ (vl_mem hk)
  show (vl S k).D = (if (vl S k).k = none then _ else _ : PlC).D
  rw [if_pos nk]
  unfold PlV.D PlC.D PlV.el
  rw [nk]
  rfl
theorem chZ_long (W : WfVG 360 S) (hp : PosG S) (hN : AllN S) (h0 : ∀ i, i < S.length → shQ S g (i, 0) = 0 ∧ boQ S g h (i, 0) = 0) {i : Nat} (hi : i < S.length) : longC (chZ S) i = g i := by
  have hW := chZ_wf W hp hN
  have hex : ∀ p, 2 ≤ p → ∃ v, IsWor (chZ S) (natR (p - 1) / natR p) (gainC (chZ S)) v := fun p h2 => by
    obtain ⟨v, hv⟩ := ex_any hW (gainC (chZ S)) h2 (chZ S).length
    refine ⟨v, fun x hx => ?_⟩
    have e : v x = (if x < (chZ S).length then gainC (chZ S) x else 0) + natR (p - 1) / natR p * meanC (chZ S) v x := hv x hx
    rw [if_pos hx] at e
    exact e
  have e1 : ∀ x, x < (chZ S).length → meanC (chZ S) g x = g x := fun x hx => by
    rw [chZ_len] at hx
    have := (h0 x hx).1
    unfold shQ at this
    have e : meanC (chZ S) g x = nxQ (vl S x) g 0 := mean_nx hx
    rw [e]
    have this : nxQ (vl S x) g 0 - g x = 0 := this
    grind
  have e2 : ∀ x, x < (chZ S).length → gainC (chZ S) x + meanC (chZ S) h x = g x + h x := fun x hx => by
    rw [chZ_len] at hx
    have := (h0 x hx).2
    unfold boQ at this
    have e : meanC (chZ S) h x = nxQ (vl S x) h 0 := mean_nx hx
    have eg : gainC (chZ S) x = gnV S x := chV_gain hx
    rw [e, eg]
    have this : gnV S x + nxQ (vl S x) h 0 - (g x + h x) = 0 := this
    grind
  exact Rat.le_antisymm (sup_long (g := g) (k := h) hW hex (fun x hx => by rw [e1 x hx]; exact Rat.le_refl) (fun x hx => by rw [e2 x hx]; exact Rat.le_refl) i (by rw [chZ_len]; exact hi)) (sub_long (g := g) (k := h) hW hex (fun x hx => by rw [e1 x hx]; exact Rat.le_refl) (fun x hx => by rw [e2 x hx]; exact Rat.le_refl) i (by rw [chZ_len]; exact hi))
theorem toC_even {C : List PlC} (h : WfC C) {x : Nat} (hx : x < C.length) : shQ (C.map ofC) (longC C) (x, 0) = 0 ∧ boQ (C.map ofC) (longC C) (leadC C) (x, 0) = 0 := by
  have n : ∀ f : Nat → Rat, nxQ (vl (C.map ofC) x) f 0 = meanC C f x := fun f => by
    unfold nxQ
    rw [if_pos (toC_none hx), toC_vW hx]
  unfold shQ boQ
  constructor
  · show nxQ (vl (C.map ofC) x) (longC C) 0 - longC C x = 0
    rw [n, ← long_mean h (long_ok h) hx]
    grind
  · show gnV (C.map ofC) x + nxQ (vl (C.map ofC) x) (leadC C) 0 - (longC C x + leadC C x) = 0
    rw [n, toC_gn hx, lead_eq h (long_ok h) (lead_ok h) hx]
    grind
theorem slow_long {C : List PlC} (h : WfC C) (hk : 0 < k) (hn : C.length + C.length * k ≤ 12) {t : Rat} (ht : (natR k + 1) * t = 1) (t0 : 0 ≤ t) {i : Nat} (hi : i < C.length) : longC (chZ (slowV (C.map ofC) k)) i = longC C i * t := by
  have hl : (C.map ofC).length = C.length := List.length_map _
  have W := ofC_wf h
  rw [chZ_long (slow_wf W (by decide) (by rw [hl]; exact hn)) (slow_pos (toC_pos h)) (slow_none toC_all) (g := gSl (C.map ofC).length k (longC C) t) (h := hSl (C.map ofC).length k (longC C) (leadC C) t) (fun j hj => ?_) (by rw [slow_len, hl]; omega)]
  · unfold gSl
    rw [if_pos (by rw [hl]; exact hi)]
  · rcases slow_lke (c := fun _ => 0) (g := longC C) (h := leadC C) W hk ht t0 hj with ⟨x, l⟩ | l
    · have hx := l.x
      rw [hl] at hx
      obtain ⟨⟨s, s0, e1⟩, e2⟩ := l.e 0 (fun hn => absurd (toC_none hx) hn)
      have ev := toC_even h hx
      rw [e1, e2, ev.1, ev.2, Rat.zero_mul]
      exact ⟨rfl, rfl⟩
    · exact l.2
theorem turn_long {C D : List PlC} (hC : WfC C) (hD : WfC D) (hn : C.length * (D.length * 2) ≤ 12) {x y j : Nat} (hx : x < C.length) (hy : y < D.length) (hj : j < 2) : longC (chZ (turnV (C.map ofC) (D.map ofC))) (2 * (D.length * x + y) + j) = (longC C x + longC D y) * (1 / 2) := by
  have hl : (C.map ofC).length = C.length := List.length_map _
  have hm : (D.map ofC).length = D.length := List.length_map _
  have wC := ofC_wf hC
  have wD := ofC_wf hD
  have hi := (turn_idx (A := C.map ofC) (B := D.map ofC) (x := x) (y := y) (by rw [hl]; exact hx) (by rw [hm]; exact hy) hj).1
  rw [hm] at hi
  rw [chZ_long (turn_wf wC wD (by rw [hl, hm]; exact hn)) (turn_pos (toC_pos hC) (toC_pos hD)) (turn_none toC_all toC_all) (g := gTu (D.map ofC).length (longC C) (longC D)) (h := hTu (D.map ofC).length (longC C) (leadC C) (longC D) (leadC D)) (fun i hi => ?_) (by rw [turn_len wD.l1, hm]; exact hi)]
  · unfold gTu
    rw [hm]
    obtain ⟨i1, i2, i3⟩ := tu_idx (x := x) hy hj
    rw [i1, i2]
  · rcases turn_lke (cA := fun _ => 0) (cB := fun _ => 0) (gA := longC C) (hA := leadC C) (gB := longC D) (hB := leadC D) wC wD hi with ⟨x, l⟩ | ⟨x, l⟩ | l
    · have hx := l.x
      rw [hl] at hx
      obtain ⟨⟨s, s0, e1⟩, e2⟩ := l.e 0 (fun hn => absurd (toC_none hx) hn)
      have ev := toC_even hC hx
      rw [e1, e2, ev.1, ev.2, Rat.zero_mul]
      exact ⟨rfl, rfl⟩
    · have hx := l.x
      rw [hm] at hx
      obtain ⟨⟨s, s0, e1⟩, e2⟩ := l.e 0 (fun hn => absurd (toC_none hx) hn)
      have ev := toC_even hD hx
      rw [e1, e2, ev.1, ev.2, Rat.zero_mul]
      exact ⟨rfl, rfl⟩
    · exact l.2
end
end Md
namespace Md
open PySem L2 Evl
theorem slow_longs {C : List PlC} {k : Nat} (h : WfC C) (hk : 0 < k) (hn : C.length + C.length * k ≤ 12) {t : Rat} (ht : (natR k + 1) * t = 1) (t0 : 0 ≤ t) {i : Nat} (hi : i < C.length + C.length * k) : longC (chZ (slowV (C.map ofC) k)) i = (if i < C.length then longC C i else longC C ((i - C.length) / k)) * t := by
  have hl : (C.map ofC).length = C.length := List.length_map _
  have W := ofC_wf h
  rw [chZ_long (slow_wf W (by decide) (by rw [hl]; exact hn)) (slow_pos (toC_pos h)) (slow_none toC_all) (g := gSl (C.map ofC).length k (longC C) t) (h := hSl (C.map ofC).length k (longC C) (leadC C) t) (fun j hj => ?_) (by rw [slow_len, hl]; exact hi)]
  · unfold gSl
    rw [hl]
  · rcases slow_lke (c := fun _ => 0) (g := longC C) (h := leadC C) W hk ht t0 hj with ⟨x, l⟩ | l
    · have hx := l.x
      rw [hl] at hx
      obtain ⟨⟨s, s0, e1⟩, e2⟩ := l.e 0 (fun hn => absurd (toC_none hx) hn)
      have ev := toC_even h hx
      rw [e1, e2, ev.1, ev.2, Rat.zero_mul]
      exact ⟨rfl, rfl⟩
    · exact l.2
end Md
namespace Md
open PySem L2 Evl
theorem slow_times {C : List PlC} {k : Nat} (h : WfC C) (hn : C.length + C.length * k ≤ 12) {i : Nat} (hi : i < C.length) : (((k : Int) + 1 : Int) : Rat) * longC (chZ (slowV (C.map ofC) k)) i = longC C i := by
  rcases Nat.eq_zero_or_pos k with e | e
  · subst e
    rw [slow_zero]
    have e1 : chZ (C.map ofC) = C := chV_toC
    rw [e1]
    show ((1 : Int) : Rat) * _ = _
    exact Rat.one_mul _
  · have nz : (((k : Int) + 1 : Int) : Rat) ≠ 0 := cast_ne (by omega)
    have e1 : natR k + 1 = (((k : Int) + 1 : Int) : Rat) := by
      rw [Rat.intCast_add]
      rfl
    have p0 : (0 : Rat) < (((k : Int) + 1 : Int) : Rat) := Rat.intCast_lt_intCast.mpr (show (0 : Int) < _ by omega)
    have tt : (natR k + 1) * (((k : Int) + 1 : Int) : Rat)⁻¹ = 1 := by
      rw [e1]
      exact Rat.mul_inv_cancel _ nz
    rw [slow_long h e hn tt (Rat.le_of_lt (Rat.inv_pos.mpr p0)) hi, e1.symm, Rat.mul_comm, Rat.mul_assoc, Rat.mul_comm _ (natR k + 1), e1, Rat.mul_inv_cancel _ nz, Rat.mul_one]
end Md
set_option Elab.async false
set_option linter.all false
set_option maxRecDepth 100000
set_option maxHeartbeats 2000000
namespace Md
open PySem L2 Evl
section
variable {G : List PlV} {f : Nat → Rat} {M0 M1 : Nat}
end
end Md
namespace Md
open PySem L2 Evl
section
variable {G H : List PlV} {M0 M1 : Nat} {S : Nat → Prop}
end
end Md
set_option Elab.async false
set_option linter.all false
set_option maxRecDepth 100000
set_option maxHeartbeats 2000000
namespace Md
open PySem L2 Evl
local macro_rules | `(tactic| trivial) => `(tactic| try dsimp only [dVar, dC, dTup, dLst, dOfN, dNil, dCons, dII, dAdd, dSub, dMul, dMulW, dLt, dLe, dGt, dGe, dIxL, dIxT, dEqD, dNeD, dEqS, dNeS, dIsN, dNotN, dIf, dTest, dNot, dAnd, dOr, dYes, dAndV, dOrV, dNotV, dPNone, dPart, dSl, dCat, dRep, dLen, dListOf, dInt1, dAbs, dCall, dCallN, dCallK, dCallKN, dSum, dMax, dMin, dAll, dAny, dRepr, dIsi, dTupOf, dMax2, dMin2, dGcd, dLcm, dFdiv, dModI, dNeg, dInD, dNiD, dPow, dIsB, dNotB, dChain, cI, dgN, dgNil, dgCons, dgT, diL, diT, diR1, diR2, diZ, diE, dNext, dBreak, dCont, dSeq, dCut, dAsg, dAsgS, dAsgO, dPar, dAug, dApp, dAppS, dSet, dSetS, dAugL, dIfS, dRet, dRetS, dRetN, dRetO, dRetNone, dTell, tellG, dIndex, dTru, gat, allD, wipeG, List.set_cons_zero, List.set_cons_succ, List.length_cons, List.length_nil, List.map_cons, List.map_nil, onI_i, onB_b, onL_l, onT_t, onSq_l, onSq_t, scD_i, scD_b, scD_s, scD_n, onT_nD, onT_nQ, onL_nums, onL_gv, onL_listQ, onL_nats, onL_rats, onT_D, isNo_n, isNo_i, isNo_l, isNo_t, eqS_i, eqS_s, eqS_n, eqS_in, onSq_nums, onSq_gv, onSq_listQ, onSq_nats, onSq_nD, onSq_nQ, onL_ints, onSq_ints, onT_br, eqS_b, Bool.not_true, Bool.not_false, List.cons_append, List.nil_append, own_cons, own_nil, dKix, onL_tab, onL_row, onL_mat, diZ3, dPar3, dPar3O, dRevL, dRetT2, dAsgT2, dAsgOB, dExt, dForL, dSorted, dAsgX, dAsgXN, dAsgXO, dAppX, dAppXN, dSetX, dSetXN, dAsgIx, dSetIx, dRetX, dRetXN, dgL, onL_chD, onT_C, onSq_chD])
local macro_rules | `(tactic| and_intros) => `(tactic| try dsimp only [dVar, dC, dTup, dLst, dOfN, dNil, dCons, dII, dAdd, dSub, dMul, dMulW, dLt, dLe, dGt, dGe, dIxL, dIxT, dEqD, dNeD, dEqS, dNeS, dIsN, dNotN, dIf, dTest, dNot, dAnd, dOr, dYes, dAndV, dOrV, dNotV, dPNone, dPart, dSl, dCat, dRep, dLen, dListOf, dInt1, dAbs, dCall, dCallN, dCallK, dCallKN, dSum, dMax, dMin, dAll, dAny, dRepr, dIsi, dTupOf, dMax2, dMin2, dGcd, dLcm, dFdiv, dModI, dNeg, dInD, dNiD, dPow, dIsB, dNotB, dChain, cI, dgN, dgNil, dgCons, dgT, diL, diT, diR1, diR2, diZ, diE, dNext, dBreak, dCont, dSeq, dCut, dAsg, dAsgS, dAsgO, dPar, dAug, dApp, dAppS, dSet, dSetS, dAugL, dIfS, dRet, dRetS, dRetN, dRetO, dRetNone, dTell, tellG, dIndex, dTru, gat, allD, wipeG, List.set_cons_zero, List.set_cons_succ, List.length_cons, List.length_nil, List.map_cons, List.map_nil, onI_i, onB_b, onL_l, onT_t, onSq_l, onSq_t, scD_i, scD_b, scD_s, scD_n, onT_nD, onT_nQ, onL_nums, onL_gv, onL_listQ, onL_nats, onL_rats, onT_D, isNo_n, isNo_i, isNo_l, isNo_t, eqS_i, eqS_s, eqS_n, eqS_in, onSq_nums, onSq_gv, onSq_listQ, onSq_nats, onSq_nD, onSq_nQ, onL_ints, onSq_ints, onT_br, eqS_b, Bool.not_true, Bool.not_false, List.cons_append, List.nil_append, own_cons, own_nil, dKix, onL_tab, onL_row, onL_mat])
def top (i : Nat) : Stmt := PySem.Challenge.pw_meanhold_k18_whole_chains_in_turns.main.body.getD i (.Pass ⟨0, 0, 0, 0⟩)
section
variable {P : Program} {w : World} {K : PySem.W.Frag} {mg : Str → Option Value} {base : Heap}
abbrev s_lowest : Stmt := top 4
theorem sc_lowest : FnScope ["n", "d", "common"] ["n", "d"] (defScope s_lowest) := ⟨rfl, rfl, rfl, by decide +kernel, rfl, by decide +kernel, by decide +kernel⟩
theorem has_lowest (m_gcdB : mg "gcd" = some (.builtin "math.gcd")) (D : IsDef K mg "lowest" s_lowest ["n", "d"]) : Has P w K mg base 1 "lowest" ["n", "d"] (spLowest K) := by
  obtain ⟨f, fd, F, hm, hb⟩ := D
  have sc := sc_lowest
  refine ⟨f, fd, F.ok sc (fun vs H Q E x => ?_) (fun cdv A outer s h0 vs Q E hr hs => ?_), hm, F.kp, hb⟩
  · obtain ⟨b, n, d, _, hA, _⟩ := x
    exact hA.length
  obtain ⟨b, n, d, eb, hA, h0', h1', k⟩ := hs
  obtain rfl := hA.i2
  refine ⟨_, (pss_cons (ps_set (i := 2) sc.nd rfl (by first | exact Or.inl rfl | exact Or.inr rfl) (pe_callBfun cr_gcd rfl m_gcdB (pa_cons (pv 0) (pa_cons (pv 1) pa_nil)))) (pss_one (ps_ret (pe_tup (pa_cons (pe_op op_fdivW (pv 0) (pv 2)) (pa_cons (pe_op op_fdivW (pv 1) (pv 2)) pa_nil)))))), ?_⟩
  have hg : 0 < Nat.gcd n.natAbs d.natAbs := Nat.gcd_pos_of_pos_right _ (by omega)
  have hg2 : Nat.gcd n.natAbs d.natAbs < 2 ^ 8000 := Nat.lt_of_le_of_lt (Nat.gcd_le_right _ (by omega)) h1'
  have hw : ∀ z : Int, CDivW z ((Nat.gcd n.natAbs d.natAbs : Nat) : Int) := fun z => wide_div (b := 8000) (by omega) (by simpa using hg2) (by decide) (by decide)
  refine r_sc (rGcd_ev (ev_var rfl) (ev_var rfl)) eb fun h1 g1 => ?_
  refine r_ret (K := K) (d := .tuple [.int (n / ((Nat.gcd n.natAbs d.natAbs : Nat) : Int)), .int (d / ((Nat.gcd n.natAbs d.natAbs : Nat) : Int))]) (ed_tup (eda_cons (ed_int (ev_op (ev_var rfl) (ev_var rfl) (rv_I (hw _)))) (eda_cons (ed_int (ev_op (ev_var rfl) (ev_var rfl) (rv_I (hw _)))) eda_nil)) (by show 2 ≤ 100000; decide)) g1.gi fun v b' h' g hv => ?_
  refine k v b' h' (g1.trans g) ?_
  rw [num_pos h0']
  exact hv

abbrev s_common_denominator : Stmt := top 10
theorem sc_common_denominator : FnScope ["numbers", "found", "_", "d"] ["numbers"] (defScope s_common_denominator) := ⟨rfl, rfl, rfl, by decide +kernel, rfl, by decide +kernel, by decide +kernel⟩
theorem has_common_denominator (m_lcmB : mg "lcm" = some (.builtin "math.lcm")) (D : IsDef K mg "common_denominator" s_common_denominator ["numbers"]) : Has P w K mg base 1 "common_denominator" ["numbers"] (spDen K) := by
  obtain ⟨f, fd, F, hm, hb⟩ := D
  have sc := sc_common_denominator
  refine ⟨f, fd, F.ok sc (fun vs H Q E x => ?_) (fun cdv A outer s h0 vs Q E hr hs => ?_), hm, F.kp, hb⟩
  · obtain ⟨b, p, _, hA, _⟩ := x
    exact hA.length
  obtain ⟨b, l, eb, hA, hl, hbd, kQ⟩ := hs
  refine ⟨_, (pss_cons (ps_set (i := 1) sc.nd rfl (by first | exact Or.inl rfl | exact Or.inr rfl) pe_int) (pss_cons (ps_for PassesOwn.never rfl (pi_listK (K := K) rfl (pv 0)) (pg_tupK (K := K) (n := 2) rfl rfl (pgs_cons (pg_name (i := 2) sc.nd rfl (by first | exact Or.inl rfl | exact Or.inr rfl)) (pgs_cons (pg_name (i := 3) sc.nd rfl (by first | exact Or.inl rfl | exact Or.inr rfl)) pgs_nil))) (pss_one (ps_set (i := 1) sc.nd rfl (by first | exact Or.inl rfl | exact Or.inr rfl) (pe_callBfun cr_lcm rfl m_lcmB (pa_cons (pv 1) (pa_cons (pv 3) pa_nil)))))) (pss_one (ps_ret (pv 1))))), ?_⟩
  obtain ⟨vp, rfl, hv⟩ : ∃ vp, vs = [vp] ∧ Dt K b vp (.list (l.map nD)) := by
    cases hA with
    | cons h1 h2 =>
      cases h2
      exact ⟨_, rfl, h1⟩
  have hpos := denL_pos hl
  refine r_sc (b := b) (v := .int 1) ev_c eb fun h1 g1 => ?_
  refine r_forL (K := K) (ds := l.map nD) (ed_var rfl hv) g1.gi fun a xs b2 h2 g2 _ _ => ⟨fun i σ' h' => (∃ u v, σ' = [some vp, some (.int ((denL (l.take i) : Nat) : Int)), u, v]) ∧ Gr b2 h2 b2 h', ⟨⟨_, _, rfl⟩, Gr.refl g2.gi⟩, fun i σ' h' q => q.2.gi, ?_, ?_⟩
  · rintro i d xv σ' h' hd hx ⟨⟨u, v, rfl⟩, g3⟩
    rw [List.getElem?_map] at hd
    cases hz : l[i]? with
    | none => rw [hz] at hd; cases hd
    | some p =>
      rw [hz] at hd
      cases hd
      refine g_two (i := 2) (j := 3) hx g3.gi fun w1 w2 hw1 hw2 => ?_
      obtain rfl := hw1.intI
      obtain rfl := hw2.intI
      have d1 : denL (l.take i) ∣ denL l := denL_to fun q hq => denL_dvd (List.mem_of_mem_take hq)
      have d2 : p.2.natAbs ∣ denL l := denL_dvd (List.mem_of_getElem? hz)
      have l1 := Nat.lt_of_le_of_lt (Nat.le_of_dvd hpos d1) hbd
      have l2 := Nat.lt_of_le_of_lt (Nat.le_of_dvd hpos d2) hbd
      refine Evl.s_asg (H := h') (rLcm_ev (ev_var rfl) (ev_var rfl) (by rw [Int.natAbs_natCast]; exact l1) l2) fun h5 e5 => ?_
      refine ⟨⟨some (.int p.1), some (.int p.2), ?_⟩, g3.trans (Gr.stay g3.gi e5)⟩
      · rw [take_more1 hz, denL_snoc, Int.natAbs_natCast]
        rfl
  · rintro σ' h' ⟨⟨u, v, rfl⟩, g3⟩
    dsimp only
    rw [List.length_map, List.take_length]
    exact ⟨_, rfl, kQ h' ((g1.trans g2).trans g3).gh⟩
abbrev s_whole_at : Stmt := top 11
theorem sc_whole_at : FnScope ["number", "denominator", "n", "d"] ["number", "denominator"] (defScope s_whole_at) := ⟨rfl, rfl, rfl, by decide +kernel, rfl, by decide +kernel, by decide +kernel⟩
theorem has_whole_at (D : IsDef K mg "whole_at" s_whole_at ["number", "denominator"]) : Has P w K mg base 1 "whole_at" ["number", "denominator"] (spWhA K) := by
  obtain ⟨f, fd, F, hm, hb⟩ := D
  have sc := sc_whole_at
  refine ⟨f, fd, F.ok sc (fun vs H Q E x => ?_) (fun cdv A outer s h0 vs Q E hr hs => ?_), hm, F.kp, hb⟩
  · obtain ⟨b, p, M, _, hA, _⟩ := x
    exact hA.length
  obtain ⟨b, p, M, eb, hA, h1, h2, h3, h4, kQ⟩ := hs
  refine ⟨_, (pss_cons (ps_asg (pv 0) (pg_tupK (K := K) (n := 2) rfl rfl (pgs_cons (pg_name (i := 2) sc.nd rfl (by first | exact Or.inl rfl | exact Or.inr rfl)) (pgs_cons (pg_name (i := 3) sc.nd rfl (by first | exact Or.inl rfl | exact Or.inr rfl)) pgs_nil)))) (pss_one (ps_ret (pe_op op_mulW (pv 2) (pe_op op_fdivW (pv 1) (pv 3)))))), ?_⟩
  obtain ⟨vp, rfl, hv⟩ : ∃ vp, vs = [vp, .int M] ∧ Dt K b vp (nD p) := by
    cases hA with
    | cons h1 h2 => exact ⟨_, by rw [h2.i1], h1⟩
  refine r_asg (K := K) (ed_var rfl hv) eb fun v b1 h5 g1 hv1 => ?_
  refine g_two (i := 2) (j := 3) hv1 g1.gi fun w1 w2 hw1 hw2 => ?_
  obtain rfl := hw1.intI
  obtain rfl := hw2.intI
  have hq : (M / p.2).natAbs < 2 ^ 13000 := Nat.lt_of_le_of_lt (Int.natAbs_ediv_le_natAbs M p.2) h4
  refine Evl.s_ret (H := h5) (ev_op (ev_var rfl) (ev_op (ev_var rfl) (ev_var rfl) (rv_I (wide_div (b := 9000) (by omega) h3 (by decide) (by decide)))) (rv_I (wide_mul (a := 13000) (b := 13000) h2 hq (by decide) (by decide) (by decide)))) fun h6 e6 => ?_
  exact kQ h6 (g1.gh.trans e6)

abbrev s_gains_of : Stmt := top 16
theorem sc_gains_of : FnScope ["game", "gain", "_"] ["game"] (defScope s_gains_of) := ⟨rfl, rfl, rfl, by decide +kernel, rfl, by decide +kernel, by decide +kernel⟩
theorem has_gains_of_o (D : IsDef K mg "gains_of" s_gains_of ["game"]) : Has P w K mg base 1 "gains_of" ["game"] (spGains K) := by
  obtain ⟨f, fd, F, hm, hb⟩ := D
  have sc := sc_gains_of
  refine ⟨f, fd, F.ok sc (fun vs H Q E x => ?_) (fun cdv A outer s h0 vs Q E hr hs => ?_), hm, F.kp, hb⟩
  · obtain ⟨b, C, _, hA, _⟩ := x
    exact hA.length
  obtain ⟨b, C, eb, hA, hC, kQ⟩ := hs
  refine ⟨_, (pss_one (ps_ret (pe_lc (own := [("gain", 1), ("_", 2)]) (tt := tYes) rfl sc.nd (pi_listK (K := K) rfl (pv 0)) (blkOk_by (N := ["game", "gain", "_"]) (sc := defScope s_gains_of) (by decide +kernel)) (fun _ _ _ _ _ => (pg_tupK (K := K) (n := 3) rfl rfl (pgs_cons (pg_name (i := 1) sc.nd rfl (by first | exact Or.inl rfl | exact Or.inr rfl)) (pgs_cons (pg_name (i := 2) sc.nd rfl (by first | exact Or.inl rfl | exact Or.inr rfl)) (pgs_cons (pg_name (i := 2) sc.nd rfl (by first | exact Or.inl rfl | exact Or.inr rfl)) pgs_nil))))) (fun _ _ _ _ _ => pts_nil) (fun _ _ _ _ _ => (pv 1))))), ?_⟩
  obtain ⟨vp, rfl, hv⟩ : ∃ vp, vs = [vp] ∧ Dt K b vp (.list (C.map PlC.D)) := by
    cases hA with
    | cons h1 h2 =>
      cases h2
      exact ⟨_, rfl, h1⟩
  have e : numsD (gainsC C) = .list (C.map fun p => nD p.g) := by
    unfold numsD gainsC
    rw [List.map_map]
    rfl
  refine r_ret (K := K) (d := numsD (gainsC C)) ?_ eb fun v b' h' g hv => kQ v b' h' g hv
  rw [e]
  exact EN.ed (en_mapG (ed_var rfl hv) (by omega) fun p hp x b2 h2 e1 e2 hx Q k => g_three (i := 1) (j := 2) (l := 2) hx e2 fun v1 v2 v3 hv1 hv2 hv3 => k _ rfl (ed_var rfl hv1))

abbrev s_targets_of : Stmt := top 17
theorem sc_targets_of : FnScope ["place", "_", "kind", "branches", "target"] ["place"] (defScope s_targets_of) := ⟨rfl, rfl, rfl, by decide +kernel, rfl, by decide +kernel, by decide +kernel⟩
theorem has_targets_of (T : Bt mg) (D : IsDef K mg "targets_of" s_targets_of ["place"]) : Has P w K mg base 1 "targets_of" ["place"] (spTargets K) := by
  obtain ⟨f, fd, F, hm, hb⟩ := D
  have sc := sc_targets_of
  refine ⟨f, fd, F.ok sc (fun vs H Q E x => ?_) (fun cdv A outer s h0 vs Q E hr hs => ?_), hm, F.kp, hb⟩
  · obtain ⟨b, p, _, hA, _⟩ := x
    exact hA.length
  obtain ⟨b, p, eb, hA, hl, k⟩ := hs
  refine ⟨_, (pss_cons (ps_asg (pv 0) (pg_tupK (K := K) (n := 3) rfl rfl (pgs_cons (pg_name (i := 1) sc.nd rfl (by first | exact Or.inl rfl | exact Or.inr rfl)) (pgs_cons (pg_name (i := 2) sc.nd rfl (by first | exact Or.inl rfl | exact Or.inr rfl)) (pgs_cons (pg_name (i := 3) sc.nd rfl (by first | exact Or.inl rfl | exact Or.inr rfl)) pgs_nil))))) (pss_cons (ps_if (pt_cmpR op_eq (pv 2) pe_str (nomark _)) (pss_one (ps_ret (pe_lc (own := [("_", 1), ("target", 4)]) (tt := tYes) rfl sc.nd (pi_listK (K := K) rfl (pv 3)) (blkOk_by (N := ["place", "_", "kind", "branches", "target"]) (sc := defScope s_targets_of) (by decide +kernel)) (fun _ _ _ _ _ => (pg_tupK (K := K) (n := 2) rfl rfl (pgs_cons (pg_name (i := 1) sc.nd rfl (by first | exact Or.inl rfl | exact Or.inr rfl)) (pgs_cons (pg_name (i := 4) sc.nd rfl (by first | exact Or.inl rfl | exact Or.inr rfl)) pgs_nil)))) (fun _ _ _ _ _ => pts_nil) (fun _ _ _ _ _ => (pv 4))))) pss_nil) (pss_one (ps_ret (pe_callTy (list_K (K := K) rfl) (by rfl) T.list (by decide +kernel) (pa_cons (pv 3) pa_nil)))))), ?_⟩
  obtain ⟨vP, rfl, hP⟩ : ∃ vP, vs = [vP] ∧ Dt K b vP p.D := by
    cases hA with
    | cons h1 h2 =>
      cases h2
      exact ⟨_, rfl, h1⟩
  refine r_asg (K := K) (d := p.D) (ed_var rfl hP) eb fun vp b3 h3 g3 hvp => ?_
  refine g_three hvp g3.gi fun v1 v2 v3 k1 k2 k3 => ?_
  obtain rfl := k2.strI
  refine r_if (b := b3) (c := decide (V.str p.kind = V.str "draw")) (et_test (ev_op (ev_var rfl) ev_c (rv_eq rfl))) g3.gi (fun hc h4 g4 => ?_) (fun hc h4 g4 => ?_)
  · have hk : p.kind = "draw" := by
      have := of_decide_eq_true hc
      injection this
    obtain ⟨g, bs, rfl⟩ := kind_is_draw hk
    refine r_ret (K := K) (d := intsD (Pl.draw g bs).tg) ?_ g4.gi fun v b' h' g5 hv => k v b' h' ((g3.trans g4).trans g5) hv
    exact ed_lcTg (ed_var rfl k3) hl (fun _ _ => rfl)
  · have hk : ¬ p.kind = "draw" := fun z => of_decide_eq_false hc (by rw [z])
    have e : p.bd = p.tg.map PyData.int := not_draw hk
    refine r_ret (K := K) (d := .list p.bd) (EN.ed (en_list (ed_var rfl k3))) g4.gi fun v b' h' g5 hv => ?_
    rw [e] at hv
    exact k v b' h' ((g3.trans g4).trans g5) hv

abbrev s__cleared : Stmt := top 14
theorem sc__cleared : FnScope ["table", "k", "before", "chosen", "pivot", "cleared", "j", "row", "a", "b"] ["table", "k", "before"] (defScope s__cleared) := ⟨rfl, rfl, rfl, by decide +kernel, rfl, by decide +kernel, by decide +kernel⟩
theorem has_cleared (T : Bt mg) (D : IsDef K mg "_cleared" s__cleared ["table", "k", "before"]) : Has P w K mg base 1 "_cleared" ["table", "k", "before"] (spCleared K) := by
  obtain ⟨f, fd, F, hm, hb⟩ := D
  have sc := sc__cleared
  refine ⟨f, fd, F.ok sc (fun vs H Q E x => ?_) (fun cdv A outer s h0 vs Q E hr hs => ?_), hm, F.kp, hb⟩
  · obtain ⟨b, n, TT, k, d, _, hA, _⟩ := x
    exact hA.length
  obtain ⟨b, n, TT, k, d, eb, hA, hn, hk, hd, hd9, hT, kQ⟩ := hs
  refine ⟨_, (pss_cons (ps_set (i := 3) sc.nd rfl (by first | exact Or.inl rfl | exact Or.inr rfl) (pe_ix (ix_listK (K := K) rfl) (pv 0) (pv 1) (fun _ _ => rfl))) (pss_cons (ps_set (i := 4) sc.nd rfl (by first | exact Or.inl rfl | exact Or.inr rfl) (pe_ix (ix_listK (K := K) rfl) (pv 3) (pv 1) (fun _ _ => rfl))) (pss_cons (ps_set (i := 5) sc.nd rfl (by first | exact Or.inl rfl | exact Or.inr rfl) (pe_lst pa_nil)) (pss_cons (ps_for PassesOwn.never rfl (pi_enumK (K := K) rfl (by rfl) T.enumerate (pa_cons (pv 0) pa_nil)) (pg_tupK (K := K) (n := 2) rfl rfl (pgs_cons (pg_name (i := 6) sc.nd rfl (by first | exact Or.inl rfl | exact Or.inr rfl)) (pgs_cons (pg_name (i := 7) sc.nd rfl (by first | exact Or.inl rfl | exact Or.inr rfl)) pgs_nil))) (pss_one (ps_if (pt_cmpR op_eq (pv 6) (pv 1) (nomark _)) (pss_one (ps_expr (pe_appK (K := K) rfl (pv 5) (pa_cons (pv 3) pa_nil)))) (pss_one (ps_expr (pe_appK (K := K) rfl (pv 5) (pa_cons (pe_lc (own := [("a", 8), ("b", 9)]) (tt := tYes) rfl sc.nd (pi_zipK (K := K) rfl (by rfl) T.zip (pa_cons (pv 7) (pa_cons (pv 3) pa_nil))) (blkOk_by (N := ["table", "k", "before", "chosen", "pivot", "cleared", "j", "row", "a", "b"]) (sc := defScope s__cleared) (by decide +kernel)) (fun _ _ _ _ _ => (pg_tupK (K := K) (n := 2) rfl rfl (pgs_cons (pg_name (i := 8) sc.nd rfl (by first | exact Or.inl rfl | exact Or.inr rfl)) (pgs_cons (pg_name (i := 9) sc.nd rfl (by first | exact Or.inl rfl | exact Or.inr rfl)) pgs_nil)))) (fun _ _ _ _ _ => pts_nil) (fun _ _ _ _ _ => (pe_op op_fdivW (pe_op op_sub (pe_op op_mulW (pv 4) (pv 8)) (pe_op op_mulW (pe_ix (ix_listK (K := K) rfl) (pv 7) (pv 1) (fun _ _ => rfl)) (pv 9))) (pv 2)))) pa_nil))))))) (pss_one (ps_ret (pv 5))))))), ?_⟩
  obtain ⟨vT, rfl, hvT⟩ : ∃ vT, vs = [vT, .int (k : Int), .int d] ∧ Dt K b vT (.list ((List.range n).map (rowD n TT))) := by
    cases hA with
    | cons h1 hA => exact ⟨_, by rw [hA.i2], h1⟩
  refine r_set (K := K) (d := rowD n TT k) (ed_ixL (ed_var rfl hvT) (ev_var rfl) (tab_at hk)) eb fun v3 b1 h1 g1 hv3 => ?_
  replace hv3 : Dt K b1 v3 (.list ((List.range (n + 1)).map fun l => PyData.int (TT k l))) := hv3
  refine r_sc (b := b1) (v := .int (TT k k)) (ev_int (ed_ixL (ed_var rfl hv3) (ev_var rfl) (row_at (Nat.le_of_lt hk)))) g1.gi fun h2 g2 => ?_
  have G2 := g1.trans g2
  refine r_setN (K := K) (en_lst eda_nil (by decide)) G2.gi fun q us0 b3 h3 nq mq g3 hq hus0 => ?_
  cases hus0
  have G3 := G2.trans g3
  have oq : h0 q = none := fresh_back G2.gh nq
  have hv33 := hv3.up g3.gb
  refine r_forE (K := K) (ds := (List.range n).map (rowD n TT)) (ed_var rfl (hvT.up G3.gb)) G3.gi fun b4 h4 g4 => ⟨fun m σ' h' => ∃ (us : List V) (u6 u7 : Option V) (b' : Hp), σ' = [some vT, some (.int (k : Int)), some (.int d), some v3, some (.int (TT k k)), some (.ref q), u6, u7, none, none] ∧ Gr b h0 b' h' ∧ Ex b4 b' ∧ b' q = none ∧ h' q = some (.lst us) ∧ DtA K b' us ((List.range m).map (rowD n (elimT k TT d))),
    ⟨[], none, none, b4, rfl, G3.trans g4, Ex.refl _, g4.gf q mq (by rw [hq]; intro z; cases z), g4.gh _ _ hq, DtA.nil⟩, fun m σ' h' p => ?_, ?_, ?_⟩
  · obtain ⟨_, _, _, b', _, g, e, _⟩ := p
    exact e.trans g.gi
  · rintro m dd xv σ' h' h5 hd' hx ⟨us, u6, u7, b', rfl, gi, eB, nqb, hq', hus⟩ e5
    have hml : m < n := by
      have := (List.getElem?_eq_some_iff.mp hd').1
      rwa [List.length_map, List.length_range] at this
    rw [List.getElem?_map, List.getElem?_range hml] at hd'
    cases hd'
    have hul : us.length = m := by rw [hus.length, List.length_map, List.length_range]
    have GI := gi.trans (Gr.stay gi.gi e5)
    have hq5 := e5 _ _ hq'
    have hrow : Dt K b' xv (.list ((List.range (n + 1)).map fun l => PyData.int (TT m l))) := hx.up eB
    have hch : Dt K b' v3 (.list ((List.range (n + 1)).map fun l => PyData.int (TT k l))) := (hv33.up g4.gb).up eB
    refine r_if1 (b := b') (c := decide (V.int (m : Int) = V.int (k : Int))) (et_test (ev_op (ev_var rfl) (ev_var rfl) (rv_eq rfl))) GI.gi (fun hc h6 g6 => ?_) (fun hc h6 g6 => ?_)
    · have hmk : m = k := by
        have := of_decide_eq_true hc
        injection this with this
        omega
      have er : rowD n (elimT k TT d) m = .list ((List.range (n + 1)).map fun l => PyData.int (TT k l)) := by
        unfold rowD elimT
        rw [hmk]
        congr 1
        refine List.map_congr_left fun l _ => ?_
        rw [if_pos rfl]
      refine r_app1 (K := K) (d := rowD n (elimT k TT d) m) (g6.gh _ _ hq5) (ev_var rfl) (by rw [er]; exact ed_var rfl hch) (GI.trans g6).gi nqb (by omega) fun v b9 h9 g9 nq9 hq9 hv => ?_
      refine ⟨us ++ [v], _, _, b9, rfl, ((GI.trans g6).trans g9).mut oq nq9, eB.trans g9.gb, nq9, upd_same, ?_⟩
      rw [List.range_succ, List.map_append]
      exact (hus.up g9.gb).append (DtA.one hv)
    · have hmk : m ≠ k := fun z => of_decide_eq_false hc (by rw [z])
      have er : rowD n (elimT k TT d) m = .list (givenD (n + 1) (fun _ => true) (fun l => PyData.int ((TT k k * TT m l - TT m k * TT k l) / d))) := by
        unfold rowD elimT
        rw [givenD_all]
        congr 1
        refine List.map_congr_left fun l _ => ?_
        rw [if_neg hmk]
      refine r_app1 (K := K) (d := rowD n (elimT k TT d) m) (g6.gh _ _ hq5) (ev_var rfl) (by
        rw [er]
        refine EN.ed (en_lcZ (ed_var rfl hrow) (ed_var rfl hch) (by rw [List.length_map, List.length_map, List.length_range, Nat.min_self]) (by omega) _ _ (fun _ _ => rfl) fun l d1 d2 w1 w2 b8 e8 hd1 hd2 hw1 hw2 => ⟨et_yes, fun _ => ?_⟩)
        have hln : l < n + 1 := by
          have := (List.getElem?_eq_some_iff.mp hd1).1
          rwa [List.length_map, List.length_range] at this
        rw [List.getElem?_map, List.getElem?_range hln] at hd1 hd2
        cases hd1
        cases hd2
        obtain rfl := hw1.intI
        obtain rfl := hw2.intI
        have t1 := hT k k hk (by omega)
        have t2 := hT m l hml (by omega)
        have t3 := hT m k hml (by omega)
        have t4 := hT k l hk (by omega)
        exact ed_int (ev_op (ev_op (ev_op (ev_var rfl) (ev_var rfl) (rv_I (wide_mul (a := 20000) (b := 20000) t1 t2 (by decide) (by decide) (by decide)))) (ev_op (ev_int (ed_ixL (ed_var rfl (hrow.up e8)) (ev_var rfl) (row_at (Nat.le_of_lt hk)))) (ev_var rfl) (rv_I (wide_mul (a := 20000) (b := 20000) t3 t4 (by decide) (by decide) (by decide)))) rv_I0) (ev_var rfl) (rv_I (wide_div (b := 9000) hd hd9 (by decide) (by decide))))) (GI.trans g6).gi nqb (by omega) fun v b9 h9 g9 nq9 hq9 hv => ?_
      refine ⟨us ++ [v], _, _, b9, rfl, ((GI.trans g6).trans g9).mut oq nq9, eB.trans g9.gb, nq9, upd_same, ?_⟩
      rw [List.range_succ, List.map_append]
      exact (hus.up g9.gb).append (DtA.one hv)
  · rintro σ' h' ⟨us, u6, u7, b', rfl, gi, eB, nqb, hq', hus⟩
    rw [List.length_map, List.length_range] at hus
    exact ⟨_, rfl, kQ _ (upd b' q (.lst us)) h' (gi.tell oq nqb hq') (Dt.list upd_same (hus.up (Ex.new nqb)))⟩

abbrev s_plus : Stmt := top 5
theorem sc_plus : FnScope ["a", "b"] ["a", "b"] (defScope s_plus) := ⟨rfl, rfl, rfl, by decide +kernel, rfl, by decide +kernel, by decide +kernel⟩
theorem has_plus (D : IsDef K mg "plus" s_plus ["a", "b"]) (U : Has P w K mg base 1 "lowest" ["n", "d"] (spLowest K)) : Has P w K mg base 3 "plus" ["a", "b"] (spNum2B K 3000 plusN) := by
  obtain ⟨f, fd, F, hm, hb⟩ := D
  obtain ⟨f_lowest, fd_lowest, G_lowest, m_lowest, k_lowest, b_lowest⟩ := U
  have sc := sc_plus
  refine ⟨f, fd, F.ok sc (fun vs H Q E x => ?_) (fun cdv A outer s h0 vs Q E hr hs => ?_), hm, F.kp, hb⟩
  · obtain ⟨b, p, q, _, hA, _⟩ := x
    exact hA.length
  obtain ⟨b, p, q, eb, hA, rp, rq, bp, bq, k⟩ := hs
  refine ⟨_, (pss_one (ps_ret (pe_call G_lowest (hr.mono (by decide)) rfl m_lowest k_lowest b_lowest .nil pass0 (pa_cons (pe_op op_add (pe_op op_mulW (pe_ix (ix_tupK (K := K) rfl) (pv 0) pe_int (fun _ _ => rfl)) (pe_ix (ix_tupK (K := K) rfl) (pv 1) pe_int (fun _ _ => rfl))) (pe_op op_mulW (pe_ix (ix_tupK (K := K) rfl) (pv 1) pe_int (fun _ _ => rfl)) (pe_ix (ix_tupK (K := K) rfl) (pv 0) pe_int (fun _ _ => rfl)))) (pa_cons (pe_op op_mulW (pe_ix (ix_tupK (K := K) rfl) (pv 0) pe_int (fun _ _ => rfl)) (pe_ix (ix_tupK (K := K) rfl) (pv 1) pe_int (fun _ _ => rfl))) pa_nil))))), ?_⟩
  obtain ⟨va, vb, rfl, ha, hb2⟩ : ∃ va vb, vs = [va, vb] ∧ Dt K b va (nD p) ∧ Dt K b vb (nD q) := by
    cases hA with
    | cons h1 h2 =>
      cases h2 with
      | cons h3 h4 =>
        cases h4
        exact ⟨_, _, rfl, h1, h3⟩
  have A0 : ∀ {σ : L2.St}, σ[0]? = some (some va) → Ev (tOp (rIxT K) (tVar 0) (tC (V.int 0))) σ b (.int p.1) := fun s => ev_num0 (ed_var s ha)
  have A1 : ∀ {σ : L2.St}, σ[0]? = some (some va) → Ev (tOp (rIxT K) (tVar 0) (tC (V.int 1))) σ b (.int p.2) := fun s => ev_num1 (ed_var s ha)
  have B0 : ∀ {σ : L2.St}, σ[1]? = some (some vb) → Ev (tOp (rIxT K) (tVar 1) (tC (V.int 0))) σ b (.int q.1) := fun s => ev_num0 (ed_var s hb2)
  have B1 : ∀ {σ : L2.St}, σ[1]? = some (some vb) → Ev (tOp (rIxT K) (tVar 1) (tC (V.int 1))) σ b (.int q.2) := fun s => ev_num1 (ed_var s hb2)
  have w2000 : ∀ {z : Int}, z.natAbs < 2 ^ 3000 → z.natAbs < 2 ^ 4000 := fun h => Nat.lt_of_lt_of_le h (Nat.pow_le_pow_right (by decide) (by decide))
  have p1 := w2000 bp.1
  have p2 := w2000 bp.2
  have q1 := w2000 bq.1
  have q2 := w2000 bq.2
  have hpos := mul_pos' rp.1 rq.1
  have hr2 := big_plus_raw bp bq
  refine r_ret (K := K) (d := nD (plusN p q)) (ed_lowest (ev_op (ev_op (A0 rfl) (B1 rfl) (rv_I (cmulL p1 q2))) (ev_op (B0 rfl) (A1 rfl) (rv_I (cmulL q1 p2))) rv_I0) (ev_op (A1 rfl) (B1 rfl) (rv_I (cmulL p2 q2))) hpos (Nat.lt_of_lt_of_le hr2.2 (Nat.pow_le_pow_right (by decide) (by decide)))) eb fun v b' h' g hv => k v b' h' g hv

abbrev s_times : Stmt := top 7
theorem sc_times : FnScope ["a", "b", "left", "right"] ["a", "b"] (defScope s_times) := ⟨rfl, rfl, rfl, by decide +kernel, rfl, by decide +kernel, by decide +kernel⟩
theorem has_times (D : IsDef K mg "times" s_times ["a", "b"]) (m_gcdB : mg "gcd" = some (.builtin "math.gcd")) : Has P w K mg base 3 "times" ["a", "b"] (spNum2B K 3000 timesN) := by
  obtain ⟨f, fd, F, hm, hb⟩ := D
  have sc := sc_times
  refine ⟨f, fd, F.ok sc (fun vs H Q E x => ?_) (fun cdv A outer s h0 vs Q E hr hs => ?_), hm, F.kp, hb⟩
  · obtain ⟨b, p, q, _, hA, _⟩ := x
    exact hA.length
  obtain ⟨b, p, q, eb, hA, rp, rq, bp, bq, k⟩ := hs
  refine ⟨_, (pss_cons (ps_set (i := 2) sc.nd rfl (by first | exact Or.inl rfl | exact Or.inr rfl) (pe_callBfun cr_gcd rfl m_gcdB (pa_cons (pe_ix (ix_tupK (K := K) rfl) (pv 0) pe_int (fun _ _ => rfl)) (pa_cons (pe_ix (ix_tupK (K := K) rfl) (pv 1) pe_int (fun _ _ => rfl)) pa_nil)))) (pss_cons (ps_set (i := 3) sc.nd rfl (by first | exact Or.inl rfl | exact Or.inr rfl) (pe_callBfun cr_gcd rfl m_gcdB (pa_cons (pe_ix (ix_tupK (K := K) rfl) (pv 1) pe_int (fun _ _ => rfl)) (pa_cons (pe_ix (ix_tupK (K := K) rfl) (pv 0) pe_int (fun _ _ => rfl)) pa_nil)))) (pss_one (ps_ret (pe_tup (pa_cons (pe_op op_mulW (pe_op op_fdivW (pe_ix (ix_tupK (K := K) rfl) (pv 0) pe_int (fun _ _ => rfl)) (pv 2)) (pe_op op_fdivW (pe_ix (ix_tupK (K := K) rfl) (pv 1) pe_int (fun _ _ => rfl)) (pv 3))) (pa_cons (pe_op op_mulW (pe_op op_fdivW (pe_ix (ix_tupK (K := K) rfl) (pv 0) pe_int (fun _ _ => rfl)) (pv 3)) (pe_op op_fdivW (pe_ix (ix_tupK (K := K) rfl) (pv 1) pe_int (fun _ _ => rfl)) (pv 2))) pa_nil))))))), ?_⟩
  obtain ⟨va, vb, rfl, ha, hb2⟩ : ∃ va vb, vs = [va, vb] ∧ Dt K b va (nD p) ∧ Dt K b vb (nD q) := by
    cases hA with
    | cons h1 h2 =>
      cases h2 with
      | cons h3 h4 =>
        cases h4
        exact ⟨_, _, rfl, h1, h3⟩
  have A0 : ∀ {σ : L2.St}, σ[0]? = some (some va) → Ev (tOp (rIxT K) (tVar 0) (tC (V.int 0))) σ b (.int p.1) := fun s => ev_num0 (ed_var s ha)
  have A1 : ∀ {σ : L2.St}, σ[0]? = some (some va) → Ev (tOp (rIxT K) (tVar 0) (tC (V.int 1))) σ b (.int p.2) := fun s => ev_num1 (ed_var s ha)
  have B0 : ∀ {σ : L2.St}, σ[1]? = some (some vb) → Ev (tOp (rIxT K) (tVar 1) (tC (V.int 0))) σ b (.int q.1) := fun s => ev_num0 (ed_var s hb2)
  have B1 : ∀ {σ : L2.St}, σ[1]? = some (some vb) → Ev (tOp (rIxT K) (tVar 1) (tC (V.int 1))) σ b (.int q.2) := fun s => ev_num1 (ed_var s hb2)
  have w2000 : ∀ {z : Int}, z.natAbs < 2 ^ 3000 → z.natAbs < 2 ^ 4000 := fun h => Nat.lt_of_lt_of_le h (Nat.pow_le_pow_right (by decide) (by decide))
  have p1 := w2000 bp.1
  have p2 := w2000 bp.2
  have q1 := w2000 bq.1
  have q2 := w2000 bq.2
  have hpos := mul_pos' rp.1 rq.1
  have key := cross_eq rp rq
  have l0 : 0 < Nat.gcd p.1.natAbs q.2.natAbs := Nat.gcd_pos_of_pos_right _ (by have := rq.1; omega)
  have r0 : 0 < Nat.gcd q.1.natAbs p.2.natAbs := Nat.gcd_pos_of_pos_right _ (by have := rp.1; omega)
  have lb : Nat.gcd p.1.natAbs q.2.natAbs < 2 ^ 3000 := Nat.lt_of_le_of_lt (Nat.gcd_le_right _ (by have := rq.1; omega)) bq.2
  have rb : Nat.gcd q.1.natAbs p.2.natAbs < 2 ^ 3000 := Nat.lt_of_le_of_lt (Nat.gcd_le_right _ (by have := rp.1; omega)) bp.2
  have wl : ∀ z : Int, CDivW z ((Nat.gcd p.1.natAbs q.2.natAbs : Nat) : Int) := fun z => wide_div (b := 3000) (by omega) (by simpa using lb) (by decide) (by decide)
  have wr : ∀ z : Int, CDivW z ((Nat.gcd q.1.natAbs p.2.natAbs : Nat) : Int) := fun z => wide_div (b := 3000) (by omega) (by simpa using rb) (by decide) (by decide)
  have dv : ∀ (z : Int) (g : Nat), z.natAbs < 2 ^ 4000 → (z / (g : Int)).natAbs < 2 ^ 4000 := fun z g hz => Nat.lt_of_le_of_lt (Int.natAbs_ediv_le_natAbs z (g : Int)) hz
  refine r_sc (rGcd_ev (A0 rfl) (B1 rfl)) eb fun h1 g1 => ?_
  refine r_sc (rGcd_ev (B0 rfl) (A1 rfl)) g1.gi fun h2 g2 => ?_
  refine r_ret (K := K) (d := nD (crossN p q)) (ed_tup (eda_cons (ed_int (ev_op (ev_op (A0 rfl) (ev_var rfl) (rv_I (wl _))) (ev_op (B0 rfl) (ev_var rfl) (rv_I (wr _))) (rv_I (cmulL (dv _ _ p1) (dv _ _ q1))))) (eda_cons (ed_int (ev_op (ev_op (A1 rfl) (ev_var rfl) (rv_I (wr _))) (ev_op (B1 rfl) (ev_var rfl) (rv_I (wl _))) (rv_I (cmulL (dv _ _ p2) (dv _ _ q2))))) eda_nil)) (by show 2 ≤ 100000; decide)) g2.gi fun v b' h' g hv => ?_
  rw [key] at hv
  exact k v b' h' ((g1.trans g2).trans g) hv

abbrev s_total : Stmt := top 9
theorem sc_total : FnScope ["numbers", "found", "number"] ["numbers"] (defScope s_total) := ⟨rfl, rfl, rfl, by decide +kernel, rfl, by decide +kernel, by decide +kernel⟩
theorem has_totR_o (C1 : ConstT K mg "ZERO" (nD (0, 1))) (D : IsDef K mg "total" s_total ["numbers"]) (U : Has P w K mg base 3 "plus" ["a", "b"] (spNum2B K 3000 plusN)) : Has P w K mg base 4 "total" ["numbers"] (spTotR K) := by
  obtain ⟨f, fd, F, hm, hb⟩ := D
  obtain ⟨a_ZERO, m_ZERO, d_ZERO⟩ := C1
  obtain ⟨f_plus, fd_plus, G_plus, m_plus, k_plus, b_plus⟩ := U
  have sc := sc_total
  refine ⟨f, fd, F.ok sc (fun vs H Q E x => ?_) (fun cdv A outer s h0 vs Q E hr hs => ?_), hm, F.kp, hb⟩
  · obtain ⟨b, l, _, hA, _⟩ := x
    exact hA.length
  obtain ⟨b, l, eb, hA, hl, hp, hq, k⟩ := hs
  refine ⟨_, (pss_cons (ps_set (i := 1) sc.nd rfl (by first | exact Or.inl rfl | exact Or.inr rfl) (pe_glob (v := .ref a_ZERO) rfl m_ZERO rfl)) (pss_cons (ps_for PassesOwn.never rfl (pi_listK (K := K) rfl (pv 0)) (pg_name (i := 2) sc.nd rfl (by first | exact Or.inl rfl | exact Or.inr rfl)) (pss_one (ps_set (i := 1) sc.nd rfl (by first | exact Or.inl rfl | exact Or.inr rfl) (pe_call G_plus (hr.mono (by decide)) rfl m_plus k_plus b_plus .nil pass0 (pa_cons (pv 1) (pa_cons (pv 2) pa_nil)))))) (pss_one (ps_ret (pv 1))))), ?_⟩
  obtain ⟨vL, rfl, hL⟩ : ∃ vL, vs = [vL] ∧ Dt K b vL (.list (l.map nQ)) := by
    cases hA with
    | cons h1 h2 =>
      cases h2
      exact ⟨_, rfl, h1⟩
  refine r_set (K := K) (d := nD (0, 1)) (ed_val (d := nD (0, 1)) (d_ZERO _) ev_c) eb fun v1 b1 h1 g1 hv1 => ?_
  refine r_forL (K := K) (ds := l.map nQ) (ed_var rfl (hL.up g1.gb)) g1.gi fun a xs b2 h2 g2 _ _ => ⟨fun i σ' h' => ∃ (v : V) (u : Option V) (b' : Hp), σ' = [some vL, some v, u] ∧ Gr b2 h2 b' h' ∧ Dt K b' v (nQ (l.take i).sum), ⟨v1, none, b2, rfl, Gr.refl g2.gi, by
    rw [List.take_zero, List.sum_nil]
    unfold nQ
    rw [canon_zero]
    exact hv1.up g2.gb⟩, fun i σ' h' p => ?_, ?_, ?_⟩
  · obtain ⟨_, _, b', _, g, _⟩ := p
    exact g.gb.trans g.gi
  · rintro i d xv σ' h' hd hx ⟨v, u, b', rfl, g, hv⟩
    rw [List.getElem?_map] at hd
    cases hz : l[i]? with
    | none => rw [hz] at hd; cases hd
    | some r =>
      rw [hz] at hd
      cases hd
      have hil : i < l.length := (List.getElem?_eq_some_iff.mp hz).1
      refine r_set1 (K := K) (d := nQ ((l.take i).sum + r)) (ed_plusR (eda_cons (ed_var rfl hv) (eda_cons (ed_var rfl (hx.up g.gb)) eda_nil)) (hp i (Nat.le_of_lt hil)) (hq r (List.mem_of_getElem? hz))) g.gi fun v3 b3 h3 g3 hv3 => ?_
      refine ⟨v3, _, b3, rfl, g.trans g3, ?_⟩
      rw [take_more1 hz, sum_snoc]
      exact hv3
  · rintro σ' h' ⟨v, u, b', rfl, g, hv⟩
    rw [List.length_map, List.take_length] at hv
    exact ⟨_, rfl, k v b' h' ((g1.trans g2).trans g) hv⟩
abbrev s_mean_at : Stmt := top 18
theorem sc_mean_at : FnScope ["draw", "numbers", "chance", "target"] ["draw", "numbers"] (defScope s_mean_at) := ⟨rfl, rfl, rfl, by decide +kernel, rfl, by decide +kernel, by decide +kernel⟩
theorem has_mean_at_o (D : IsDef K mg "mean_at" s_mean_at ["draw", "numbers"]) (U1 : Has P w K mg base 4 "total" ["numbers"] (spTotR K)) (U2 : Has P w K mg base 3 "times" ["a", "b"] (spNum2B K 3000 timesN)) : Has P w K mg base 5 "mean_at" ["draw", "numbers"] (spMeanAt K) := by
  obtain ⟨f, fd, F, hm, hb⟩ := D
  obtain ⟨f_total, fd_total, G_total, m_total, k_total, b_total⟩ := U1
  obtain ⟨f_times, fd_times, G_times, m_times, k_times, b_times⟩ := U2
  have sc := sc_mean_at
  refine ⟨f, fd, F.ok sc (fun vs H Q E x => ?_) (fun cdv A outer s h0 vs Q E hr hs => ?_), hm, F.kp, hb⟩
  · obtain ⟨b, n, m, p, g, M, B, _, hA, _⟩ := x
    exact hA.length
  obtain ⟨b, n, m, p, g, M, B, eb, hA, hw, hmn, hM, hB, hMB, hf, kQ⟩ := hs
  refine ⟨_, (pss_one (ps_ret (pe_call G_total (hr.mono (by decide)) rfl m_total k_total b_total .nil pass0 (pa_cons (pe_lc (own := [("chance", 2), ("target", 3)]) (tt := tYes) rfl sc.nd (pi_listK (K := K) rfl (pe_ix (ix_tupK (K := K) rfl) (pv 0) pe_int (fun _ _ => rfl))) (blkOk_by (N := ["draw", "numbers", "chance", "target"]) (sc := defScope s_mean_at) (by decide +kernel)) (fun _ _ _ _ _ => (pg_tupK (K := K) (n := 2) rfl rfl (pgs_cons (pg_name (i := 2) sc.nd rfl (by first | exact Or.inl rfl | exact Or.inr rfl)) (pgs_cons (pg_name (i := 3) sc.nd rfl (by first | exact Or.inl rfl | exact Or.inr rfl)) pgs_nil)))) (fun _ _ _ _ _ => pts_nil) (fun _ _ _ _ _ => (pe_call G_times (hr.mono (by decide)) rfl m_times k_times b_times .nil pass0 (pa_cons (pv 2) (pa_cons (pe_ix (ix_listK (K := K) rfl) (pv 1) (pv 3) (fun _ _ => rfl)) pa_nil))))) pa_nil)))), ?_⟩
  obtain ⟨vp, vn, rfl, hp, hn⟩ : ∃ vp vn, vs = [vp, vn] ∧ Dt K b vp p.D ∧ Dt K b vn (.list ((List.range n).map fun k => nQ (g k))) := by
    cases hA with
    | cons h1 hA =>
      cases hA with
      | cons h2 hA =>
        cases hA
        exact ⟨_, _, rfl, h1, h2⟩
  have sw := scale_wf hw
  have hden : M * denL (p.bs.map (·.1)) ≤ M * 360 := Nat.mul_le_mul_left M sw.2
  have h0 : 0 < M * denL (p.bs.map (·.1)) := Nat.mul_pos hM sw.1
  have hl : (p.bs.map fun q => qN q.1 * g q.2).sum = wsum p.bs g := rfl
  have ht : ∀ i, ((p.bs.map fun q => qN q.1 * g q.2).take i).sum = wsum (p.bs.take i) g := fun i => by rw [← List.map_take]; rfl
  have le1 : ∀ {X : Nat}, X ≤ B * (M * 360) → X < 2 ^ 3000 := fun h => Nat.lt_of_le_of_lt h (Nat.lt_of_lt_of_le hMB (Nat.pow_le_pow_right (by decide) (by decide)))
  have big2 : ∀ {X : Nat}, X ≤ 1000 * (B * (M * 360)) → X < 2 ^ 3000 := fun h => Nat.lt_of_le_of_lt h (Nat.lt_of_lt_of_le (lt_pow_mul (i := 10) (Nat.le_refl _) (by decide) hMB) (Nat.pow_le_pow_right (by decide) (by decide)))
  refine r_ret (K := K) (d := nQ (wsum p.bs g)) ?_ eb fun v b' h' gg hv => kQ v b' h' gg hv
  rw [← hl]
  have hlen : (p.bs.map fun q => qN q.1 * g q.2).length ≤ 6 := by rw [List.length_map]; exact hw.l6
  refine ed_totR (eda_cons ?_ eda_nil) (by omega) (fun i hi => ?_) (fun r hr => ?_)
  · unfold ratsD
    rw [List.map_map]
    refine EN.ed (en_mapG (D := brC) (ed_ixT (ed_var rfl hp) ev_c (by rfl)) (by have := hw.l6; omega) fun q hq x b2 h2 e1 e2 hx Q k => g_two (i := 2) (j := 3) hx e2 fun w1 w2 hw1 hw2 => k _ rfl ?_)
    obtain rfl := hw2.intI
    have h := hw.q q hq
    have e1q : nD q.1 = nQ (qN q.1) := by
      unfold nQ
      rw [small_Q h.1]
    rw [e1q] at hw1
    refine ed_timesR (eda_cons (ed_var rfl hw1) (eda_cons (ed_ixL (ed_var rfl (hn.up e1)) (ev_var rfl) (listQ_at (by omega))) eda_nil)) ((big_canon_small h.1).mono (by decide)) ?_
    exact (hf q hq).big hM hB (le1 (Nat.mul_le_mul_left B (by omega)))
  · rw [ht i]
    exact (nb_part hw hf i).big h0 hB (le1 (Nat.mul_le_mul_left B hden))
  · obtain ⟨q, hq, rfl⟩ := List.mem_map.mp hr
    refine (nb_prod hw hq (hf q hq)).big h0 (by omega) (big2 ?_)
    rw [Nat.mul_assoc]
    exact Nat.mul_le_mul_left _ (Nat.mul_le_mul_left _ hden)
abbrev s__scale_of : Stmt := top 25
theorem sc__scale_of : FnScope ["draw", "chance", "_"] ["draw"] (defScope s__scale_of) := ⟨rfl, rfl, rfl, by decide +kernel, rfl, by decide +kernel, by decide +kernel⟩
theorem has_scale_of_o (D : IsDef K mg "_scale_of" s__scale_of ["draw"]) (U : Has P w K mg base 1 "common_denominator" ["numbers"] (spDen K)) : Has P w K mg base 2 "_scale_of" ["draw"] (spScale K) := by
  obtain ⟨f, fd, F, hm, hb⟩ := D
  obtain ⟨f_common_denominator, fd_common_denominator, G_common_denominator, m_common_denominator, k_common_denominator, b_common_denominator⟩ := U
  have sc := sc__scale_of
  refine ⟨f, fd, F.ok sc (fun vs H Q E x => ?_) (fun cdv A outer s h0 vs Q E hr hs => ?_), hm, F.kp, hb⟩
  · obtain ⟨b, m, p, _, hA, _⟩ := x
    exact hA.length
  obtain ⟨b, m, p, eb, hA, hw, kQ⟩ := hs
  refine ⟨_, (pss_one (ps_ret (pe_call G_common_denominator (hr.mono (by decide)) rfl m_common_denominator k_common_denominator b_common_denominator .nil pass0 (pa_cons (pe_lc (own := [("chance", 1), ("_", 2)]) (tt := tYes) rfl sc.nd (pi_listK (K := K) rfl (pe_ix (ix_tupK (K := K) rfl) (pv 0) pe_int (fun _ _ => rfl))) (blkOk_by (N := ["draw", "chance", "_"]) (sc := defScope s__scale_of) (by decide +kernel)) (fun _ _ _ _ _ => (pg_tupK (K := K) (n := 2) rfl rfl (pgs_cons (pg_name (i := 1) sc.nd rfl (by first | exact Or.inl rfl | exact Or.inr rfl)) (pgs_cons (pg_name (i := 2) sc.nd rfl (by first | exact Or.inl rfl | exact Or.inr rfl)) pgs_nil)))) (fun _ _ _ _ _ => pts_nil) (fun _ _ _ _ _ => (pv 1))) pa_nil)))), ?_⟩
  obtain ⟨vp, rfl, hp⟩ : ∃ vp, vs = [vp] ∧ Dt K b vp p.D := by
    cases hA with
    | cons h1 hA =>
      cases hA
      exact ⟨_, rfl, h1⟩
  have sw := scale_wf hw
  refine Evl.s_ret (H := h0) (v := .int ((denL (p.bs.map (·.1)) : Nat) : Int)) (Ev.mono eb (ev_den (eda_cons ?_ eda_nil) (fun c hc => ?_) (Nat.lt_of_le_of_lt sw.2 (Nat.lt_of_lt_of_le (by decide : 360 < 2 ^ 9) (Nat.pow_le_pow_right (by decide) (by decide)))))) fun h5 e5 => kQ h5 e5
  · have e : numsD (p.bs.map (·.1)) = .list (p.bs.map fun q => nD q.1) := by
      unfold numsD
      rw [List.map_map]
      rfl
    rw [e]
    exact EN.ed (en_mapG (D := brC) (ed_ixT (ed_var rfl hp) ev_c (by rfl)) (by have := hw.l6; omega) fun q hq x b2 h2 e1 e2 hx Q k => g_two (i := 1) (j := 2) hx e2 fun w1 w2 hw1 hw2 => k _ rfl (ed_var rfl hw1))
  · obtain ⟨q, hq, rfl⟩ := List.mem_map.mp hc
    exact (hw.q q hq).1.1

abbrev s_solved : Stmt := top 13
theorem sc_solved : FnScope ["rows", "constants", "unit", "table", "pivot", "k", "row", "number"] ["rows", "constants"] (defScope s_solved) := ⟨rfl, rfl, rfl, by decide +kernel, rfl, by decide +kernel, by decide +kernel⟩
theorem has_solved (D : IsDef K mg "solved" s_solved ["rows", "constants"]) (T : Bt mg) (U_common_denominator : Has P w K mg base (1) "common_denominator" ["numbers"] (spP K (kDen))) (U_whole_at : Has P w K mg base (1) "whole_at" ["number", "denominator"] (spP K (kWhA))) (U__cleared : Has P w K mg base (1) "_cleared" ["table", "k", "before"] (spP K (kClr))) (U_lowest : Has P w K mg base (1) "lowest" ["n", "d"] (spP K (kLow))) : Has P w K mg base (2) "solved" ["rows", "constants"] (spP K (kSol)) := by
  obtain ⟨f, fd, F, hm, hb⟩ := D
  obtain ⟨f_common_denominator, fd_common_denominator, G_common_denominator, m_common_denominator, k_common_denominator, b_common_denominator⟩ := U_common_denominator
  obtain ⟨f_whole_at, fd_whole_at, G_whole_at, m_whole_at, k_whole_at, b_whole_at⟩ := U_whole_at
  obtain ⟨f__cleared, fd__cleared, G__cleared, m__cleared, k__cleared, b__cleared⟩ := U__cleared
  obtain ⟨f_lowest, fd_lowest, G_lowest, m_lowest, k_lowest, b_lowest⟩ := U_lowest
  have sc := sc_solved
  refine ⟨f, fd, F.ok sc (fun vs H Q E x => ?_) (fun cdv A outer s h0 vs Q E hr hs => ?_), hm, F.kp, hb⟩
  · obtain ⟨b, ds, P, _, hA, hR, _⟩ := x
    obtain ⟨_, _, rfl, _⟩ := con2_is hR
    rw [hA.length]
    rfl
  obtain ⟨b, ds, Pq, eb, hA, hR, kQ⟩ := hs
  obtain ⟨x0, x1, rfl, hR⟩ := con2_is hR
  refine ⟨_, (pss_cons (ps_set (i := 2) sc.nd rfl (by first | exact Or.inl rfl | exact Or.inr rfl) (pe_call G_common_denominator (hr.mono (by decide)) rfl m_common_denominator k_common_denominator b_common_denominator .nil pass0 (pa_cons (pv 1) pa_nil))) (pss_cons (ps_setLc (i := 3) (own := [("row", 6), ("number", 7)]) (tt := tYes) rfl sc.nd rfl rfl (sw_true rfl rfl rfl (by decide +kernel)) (pi_zipK (K := K) rfl (by rfl) T.zip (pa_cons (pv 0) (pa_cons (pv 1) pa_nil))) (blkOk_by (N := ["rows", "constants", "unit", "table", "pivot", "k", "row", "number"]) (sc := defScope s_solved) (by decide +kernel)) (fun _ _ _ _ _ => (pg_tupK (K := K) (n := 2) rfl rfl (pgs_cons (pg_name (i := 6) sc.nd rfl (by first | exact Or.inl rfl | exact Or.inr rfl)) (pgs_cons (pg_name (i := 7) sc.nd rfl (by first | exact Or.inl rfl | exact Or.inr rfl)) pgs_nil)))) (fun _ _ _ _ _ => pts_nil) (fun _ _ _ _ _ => (pe_op op_cat (pv 6) (pe_lst (pa_cons (pe_call G_whole_at (hr.mono (by decide)) rfl m_whole_at k_whole_at b_whole_at .nil pass0 (pa_cons (pv 7) (pa_cons (pv 2) pa_nil))) pa_nil))))) (pss_cons (ps_set (i := 4) sc.nd rfl (by first | exact Or.inl rfl | exact Or.inr rfl) pe_int) (pss_cons (ps_for PassesOwn.never rfl (pi_range1 (by rfl) T.range (pa_cons (pe_callB (len_K (K := K) rfl) (by rfl) T.len PySem.boot_len (pa_cons (pv 0) pa_nil)) pa_nil)) (pg_name (i := 5) sc.nd rfl (by first | exact Or.inl rfl | exact Or.inr rfl)) (pss_cons (ps_set (i := 3) sc.nd rfl (by first | exact Or.inl rfl | exact Or.inr rfl) (pe_call G__cleared (hr.mono (by decide)) rfl m__cleared k__cleared b__cleared .nil pass0 (pa_cons (pv 3) (pa_cons (pv 5) (pa_cons (pv 4) pa_nil))))) (pss_one (ps_set (i := 4) sc.nd rfl (by first | exact Or.inl rfl | exact Or.inr rfl) (pe_ix (ix_listK (K := K) rfl) (pe_ix (ix_listK (K := K) rfl) (pv 3) (pv 5) (fun _ _ => rfl)) (pv 5) (fun _ _ => rfl)))))) (pss_one (ps_ret (pe_lc (own := [("row", 6)]) (tt := tYes) rfl sc.nd (pi_listK (K := K) rfl (pv 3)) (blkOk_by (N := ["rows", "constants", "unit", "table", "pivot", "k", "row", "number"]) (sc := defScope s_solved) (by decide +kernel)) (fun _ _ _ _ _ => (pg_name (i := 6) sc.nd rfl (by first | exact Or.inl rfl | exact Or.inr rfl))) (fun _ _ _ _ _ => pts_nil) (fun _ _ _ _ _ => (pe_call G_lowest (hr.mono (by decide)) rfl m_lowest k_lowest b_lowest .nil pass0 (pa_cons (pe_ix (ix_listK (K := K) rfl) (pv 6) (pe_un un_neg pe_int) (fun _ _ => rfl)) (pa_cons (pe_op op_mulW (pv 4) (pv 2)) pa_nil))))))))))), sim_P (Γ := [some (.d x0), some (.d x1), none, none, none, none, none, none]) (z_seq (z_asg (z_call (z_cons z_var z_nil)) g_name) (z_seq (z_asg (z_ofN (z_lc (by decide) (i_zip (z_cons z_var (z_cons z_var z_nil))) (g_tup (g_cons g_name (g_cons g_name g_nil))) z_yes (z_ofN (z_cat z_var (z_ofN (z_lst (z_cons (z_call (z_cons z_var (z_cons z_var z_nil))) z_nil))))))) g_name) (z_seq (z_asg z_i g_name) (z_seq (z_for (ws := [5]) (i_rng1 (z_cons (z_len z_var) z_nil)) g_name (z_seq (z_asg (z_call (z_cons z_var (z_cons z_var (z_cons z_var z_nil)))) g_name) (z_asg (z_ixL (z_ixL z_var z_var) z_var) g_name))) (z_retN (z_lc (by decide) (i_list z_var) g_name z_yes (z_call (z_cons (z_ixL z_var (z_neg z_i)) (z_cons (z_mulW z_var z_var) z_nil))))))))) eb hA (by show 2 ≤ 8; decide) rfl ?_ kQ⟩
  obtain ⟨n, a, cs, U, rfl, rfl, x, hP⟩ := hR
  clear hR
  have h12 := x.n12
  have hU13 : U < 2 ^ 13000 := Nat.lt_of_lt_of_le x.Ub (Nat.pow_le_pow_right (by decide) (by decide))
  have up : ∀ {z j : Nat}, z < 2 ^ 1000 → 1000 ≤ j → z < 2 ^ j := fun h hj => Nat.lt_of_lt_of_le h (Nat.pow_le_pow_right (by decide) hj)
  and_intros
  have hden : ∀ P : PyData → Prop, P (.int (U : Int)) → kDen [listQ n cs] P := fun P p => by
    have en : listQ n cs = numsD ((List.range n).map fun r => canon (cs r)) := by
      unfold listQ numsD
      rw [List.map_map]
      rfl
    rw [en]
    refine kDen_i (fun p hp => ?_) (by rw [← x.eU]; exact hU13) (by rw [← x.eU]; exact p)
    obtain ⟨r, _, rfl⟩ := List.mem_map.mp hp
    exact (canon_red _).1
  refine hden _ ?_
  refine dlc_map (List.range n) (fun r => .tuple [.list ((List.range n).map fun l => .int (a r l)), nQ (cs r)]) (rowD n a) (fun P hP => ?_) (by rw [List.length_range]; omega) (fun r hr P hP => ?_) ?_
  · and_intros
    rw [zipD_map, zip_rr, List.map_map]
    exact hP
  · have hr := List.mem_range.mp hr
    and_intros
    refine ⟨rfl, rfl, ?_⟩
    refine kWhA_i (q := canon (cs r)) (canon_red _).1 (up (x.cb r hr).1 (by decide)) (up (x.cb r hr).2 (by decide)) (by rw [Int.natAbs_natCast]; exact hU13) ?_
    and_intros
    refine ⟨by decide, by rw [List.length_map, List.length_range]; omega, ?_⟩
    have er : PyData.list ((List.range n).map (fun l => PyData.int (a r l)) ++ [PyData.int ((canon (cs r)).1 * ((U : Int) / (canon (cs r)).2))]) = rowD n a r := by
      unfold rowD
      rw [List.range_succ, List.map_append, ← x.col r hr]
      rfl
    rw [er]
    exact hP
  · refine dfor_inv (List.range n) (fun k => .int (k : Int)) (fun P hP => ?_) (fun k Γ' => ∃ (TT : Nat → Nat → Int) (d : Int), Elim n a k TT d ∧ Γ' = [some (.d (matD n a)), some (.d (listQ n cs)), some (.d (.int (U : Int))), some (.d (tabD n TT)), some (.d (.int d)), none, none, none]) ⟨a, 1, elim_start n a, rfl⟩ ?_ ?_
    · unfold matD
      and_intros
      rw [List.length_map, List.length_range, Int.toNat_natCast, rangeD0]
      exact ⟨by omega, by omega, hP⟩
    · rintro k k' Γ' ha ⟨TT, d, hE, rfl⟩
      obtain ⟨hk1, hk2⟩ := List.getElem?_eq_some_iff.mp ha
      rw [List.length_range] at hk1
      rw [List.getElem_range] at hk2
      subst hk2
      obtain ⟨b1, b2⟩ := x.bnd (Nat.le_of_lt hk1) hE
      and_intros
      refine kClr_i h12 hk1 hE.pos (Nat.lt_of_lt_of_le b1 (Nat.pow_le_pow_right (by decide) (by decide))) b2 ?_
      and_intros
      refine ⟨_, tab_at hk1, ?_⟩
      and_intros
      refine ⟨_, row_at (Nat.le_of_lt hk1), _, _, (elim_step hE hk1 (x.piv k TT d hk1 hE)).1, ?_⟩
      have hpk : elimT k TT d k k = TT k k := if_pos rfl
      rw [hpk]
    · rintro Γ' ⟨TT, d, hE, rfl⟩
      rw [List.length_range] at hE
      obtain ⟨b1, b2⟩ := x.bnd (Nat.le_refl _) hE
      have hdU : 0 < d * (U : Int) := Int.mul_pos hE.pos (by have := x.U0; omega)
      and_intros
      refine dlc_map (List.range n) (rowD n TT) (fun j => nQ (qa TT j n / ((d : Rat) * natR U))) (fun P hP => ?_) (by rw [List.length_range]; omega) (fun j hj P hP => ?_) (hP TT d hE)
      · and_intros
        exact hP
      · have hj := List.mem_range.mp hj
        and_intros
        have hU1 : ((U : Int)).natAbs < 2 ^ 1000 := by
          rw [Int.natAbs_natCast]
          exact x.Ub
        refine ⟨_, last_at, wide_mul (a := 9000) (b := 9000) (Nat.lt_of_lt_of_le b1 (Nat.pow_le_pow_right (by decide) (by decide))) (up hU1 (by decide)) (by decide) (by decide) (by decide), ?_⟩
        refine kLow_i hdU ?_ ?_
        · rw [Int.natAbs_mul]
          have h9 : d.natAbs * ((U : Int)).natAbs < 2 ^ 6600 * 2 ^ 1000 := Nat.mul_lt_mul_of_lt_of_lt b1 hU1
          rw [← Nat.pow_add] at h9
          exact Nat.lt_of_lt_of_le h9 (Nat.pow_le_pow_right (by decide) (by decide))
        · have e : nD (num (TT j n) (d * (U : Int))) = nQ (qa TT j n / ((d : Rat) * natR U)) := by
            show nD (num _ _) = nD (canon _)
            rw [num_canon hdU, Rat.intCast_mul]
            rfl
          rw [e]
          exact hP


theorem has__scale_of (D : IsDef K mg "_scale_of" s__scale_of ["draw"]) (U_common_denominator : Has P w K mg base (1) "common_denominator" ["numbers"] (spP K (kDen))) : Has P w K mg base (2) "_scale_of" ["draw"] (spP K (kSca)) := by
  obtain ⟨f, fd, F, hm, hb⟩ := D
  obtain ⟨f_common_denominator, fd_common_denominator, G_common_denominator, m_common_denominator, k_common_denominator, b_common_denominator⟩ := U_common_denominator
  have sc := sc__scale_of
  refine ⟨f, fd, F.ok sc (fun vs H Q E x => ?_) (fun cdv A outer s h0 vs Q E hr hs => ?_), hm, F.kp, hb⟩
  · obtain ⟨b, ds, P, _, hA, hR, _⟩ := x
    obtain ⟨_, rfl, _⟩ := con1_is hR
    rw [hA.length]
    rfl
  obtain ⟨b, ds, Pq, eb, hA, hR, kQ⟩ := hs
  obtain ⟨x0, rfl, hR⟩ := con1_is hR
  refine ⟨_, (pss_one (ps_ret (pe_call G_common_denominator (hr.mono (by decide)) rfl m_common_denominator k_common_denominator b_common_denominator .nil pass0 (pa_cons (pe_lc (own := [("chance", 1), ("_", 2)]) (tt := tYes) rfl sc.nd (pi_listK (K := K) rfl (pe_ix (ix_tupK (K := K) rfl) (pv 0) pe_int (fun _ _ => rfl))) (blkOk_by (N := ["draw", "chance", "_"]) (sc := defScope s__scale_of) (by decide +kernel)) (fun _ _ _ _ _ => (pg_tupK (K := K) (n := 2) rfl rfl (pgs_cons (pg_name (i := 1) sc.nd rfl (by first | exact Or.inl rfl | exact Or.inr rfl)) (pgs_cons (pg_name (i := 2) sc.nd rfl (by first | exact Or.inl rfl | exact Or.inr rfl)) pgs_nil)))) (fun _ _ _ _ _ => pts_nil) (fun _ _ _ _ _ => (pv 1))) pa_nil)))), sim_P (Γ := [some (.d x0), none, none]) (z_ret (z_call (z_cons (z_ofN (z_lc (by decide) (i_list (z_ixT z_var z_i)) (g_tup (g_cons g_name (g_cons g_name g_nil))) z_yes z_var)) z_nil))) eb hA (by show 1 ≤ 3; decide) rfl ?_ kQ⟩
  obtain ⟨p, rfl, h1, h2, h3, hP⟩ := hR
  clear hR
  and_intros
  refine dlc_map p.bs brC (fun q => nD q.1) (fun P hP => ?_) (by omega) (fun q hq P hP => ?_) ?_
  · unfold PlC.D
    and_intros
    exact ⟨_, atI_2, hP⟩
  · and_intros
    exact ⟨rfl, rfl, hP⟩
  have e : PyData.list (p.bs.map fun q => nD q.1) = numsD (p.bs.map (·.1)) := by
    unfold numsD
    rw [List.map_map]
    rfl
  rw [e]
  exact kDen_i (fun c hc => by
    obtain ⟨q, hq, rfl⟩ := List.mem_map.mp hc
    exact h2 q hq) h3 hP
abbrev s__row_of : Stmt := top 26
theorem sc__row_of : FnScope ["chain", "x", "places", "scale", "discount", "row", "n", "d", "chance", "target", "y"] ["chain", "x", "places", "scale", "discount"] (defScope s__row_of) := ⟨rfl, rfl, rfl, by decide +kernel, rfl, by decide +kernel, by decide +kernel⟩
theorem has__row_of (D : IsDef K mg "_row_of" s__row_of ["chain", "x", "places", "scale", "discount"]) (T : Bt mg) (U_whole_at : Has P w K mg base (1) "whole_at" ["number", "denominator"] (spP K (kWhA))) : Has P w K mg base (2) "_row_of" ["chain", "x", "places", "scale", "discount"] (spN K (kRow)) := by
  obtain ⟨f, fd, F, hm, hb⟩ := D
  obtain ⟨f_whole_at, fd_whole_at, G_whole_at, m_whole_at, k_whole_at, b_whole_at⟩ := U_whole_at
  have sc := sc__row_of
  refine ⟨f, fd, F.ok sc (fun vs H Q E x => ?_) (fun cdv A outer s h0 vs Q E hr hs => ?_), hm, F.kp, hb⟩
  · obtain ⟨b, ds, P, _, hA, hR, _⟩ := x
    obtain ⟨_, _, _, _, _, rfl, _⟩ := conN5_is hR
    rw [hA.length]
    rfl
  obtain ⟨b, ds, Pq, eb, hA, hR, kQ⟩ := hs
  obtain ⟨x0, x1, x2, x3, x4, rfl, hR⟩ := conN5_is hR
  refine ⟨_, (pss_cons (ps_asg (pv 4) (pg_tupK (K := K) (n := 2) rfl rfl (pgs_cons (pg_name (i := 6) sc.nd rfl (by first | exact Or.inl rfl | exact Or.inr rfl)) (pgs_cons (pg_name (i := 7) sc.nd rfl (by first | exact Or.inl rfl | exact Or.inr rfl)) pgs_nil)))) (pss_cons (ps_setLc (i := 5) (own := [("y", 10)]) (tt := tYes) rfl sc.nd rfl rfl (sw_true rfl rfl rfl (by decide +kernel)) (pi_listK (K := K) rfl (pv 2)) (blkOk_by (N := ["chain", "x", "places", "scale", "discount", "row", "n", "d", "chance", "target", "y"]) (sc := defScope s__row_of) (by decide +kernel)) (fun _ _ _ _ _ => (pg_name (i := 10) sc.nd rfl (by first | exact Or.inl rfl | exact Or.inr rfl))) (fun _ _ _ _ _ => pts_nil) (fun _ _ _ _ _ => (pe_ifExp (pt_cmpR op_eq (pv 10) (pv 1) (nomark _)) (pe_op op_mulW (pv 3) (pv 7)) pe_int))) (pss_cons (ps_for PassesOwn.never rfl (pi_listK (K := K) rfl (pe_ix (ix_tupK (K := K) rfl) (pe_ix (ix_listK (K := K) rfl) (pv 0) (pv 1) (fun _ _ => rfl)) pe_int (fun _ _ => rfl))) (pg_tupK (K := K) (n := 2) rfl rfl (pgs_cons (pg_name (i := 8) sc.nd rfl (by first | exact Or.inl rfl | exact Or.inr rfl)) (pgs_cons (pg_name (i := 9) sc.nd rfl (by first | exact Or.inl rfl | exact Or.inr rfl)) pgs_nil))) (pss_one (ps_if (pt_cmpR (inDK (K := K) (room65 hr) rfl) (pv 9) (pv 2) (by rfl)) (pss_one (ps_augS (pv 5) (pe_indexDK (K := K) (room65 hr) rfl (pv 2) (pa_cons (pv 9) pa_nil)) get_list (pe_op op_mulW (pv 6) (pe_call G_whole_at (hr.mono (by decide)) rfl m_whole_at k_whole_at b_whole_at .nil pass0 (pa_cons (pv 8) (pa_cons (pv 3) pa_nil)))) ip_sub set_list)) pss_nil))) (pss_one (ps_ret (pv 5)))))), sim_N (Γ := [some (.d x0), some (.d x1), some (.d x2), some (.d x3), some (.d x4), none, none, none, none, none, none]) (z_seq (z_asg z_var (g_tup (g_cons g_name (g_cons g_name g_nil)))) (z_seq (z_asgO (z_lc (by decide) (i_list z_var) g_name z_yes (z_if (z_test (z_eqS z_var z_var)) (z_mulW z_var z_var) z_i))) (z_seq (z_for (ws := [8, 9]) (i_list (z_ixT (z_ixL z_var z_var) z_i)) (g_tup (g_cons g_name (g_cons g_name g_nil))) (z_ifS (z_test (z_inD z_var z_var)) (z_augL (z_mulW z_var (z_call (z_cons z_var (z_cons z_var z_nil)))) (z_index z_var z_var)) z_next)) z_retO))) eb hA (by show 5 ≤ 11; decide) rfl ?_ kQ⟩
  obtain ⟨C, x, S, dn, dd, rfl, rfl, rfl, rfl, rfl, r, hP⟩ := hR
  clear hR
  have h12 := r.n12
  have b6 := r.b6
  have sm30 : ∀ {z : Nat}, z ≤ 2 ^ 512 → ((z : Nat) : Int).natAbs < 2 ^ 9000 := fun h => by
    rw [Int.natAbs_natCast]
    exact Nat.lt_of_le_of_lt h (Nat.pow_lt_pow_right (by decide) (by decide))
  and_intros
  refine ⟨rfl, rfl, ?_⟩
  refine dlc_map (List.range C.length) (fun i : Nat => .int (i : Int)) (fun y => .int (if y = x then (S : Int) * (dd : Int) else 0)) (fun P hP => ?_) (by rw [List.length_range]; omega) (fun y hy P hP => ?_) ?_
  · and_intros
    exact hP
  · and_intros
    refine ⟨_, rfl, ?_⟩
    by_cases c : y = x
    · rw [if_pos c] at hP
      rw [if_pos (by rw [decide_eq_true_iff]; omega)]
      exact ⟨wide_mul (a := 9000) (b := 9000) (sm30 (Nat.le_trans r.Sb (by decide +kernel))) (sm30 r.db) (by decide) (by decide) (by decide), hP⟩
    · rw [if_neg c] at hP
      rw [if_neg (by rw [decide_eq_true_iff]; omega)]
      exact hP
  and_intros
  refine ⟨by decide, ?_⟩
  refine dfor_inv (plC C x).bs brC (fun P hP => ?_) (fun i Γ' => Γ' = [some (.d (chD C)), some (.d (.int (x : Int))), some (.d (.list ((List.range C.length).map fun i : Nat => PyData.int (i : Int)))), some (.d (.int (S : Int))), some (.d (nD ((dn : Int), (dd : Int)))), some (.o ((List.range C.length).map fun y => PyData.int ((if y = x then (S : Int) * (dd : Int) else 0) - (dn : Int) * colZ ((plC C x).bs.take i) S y))), some (.d (.int (dn : Int))), some (.d (.int (dd : Int))), none, none, none]) ?_ ?_ ?_
  · unfold chD
    and_intros
    refine ⟨_, ch_at r.xl, ?_⟩
    unfold PlC.D
    and_intros
    exact ⟨_, atI_2, hP⟩
  · have e0 : (fun y : Nat => PyData.int ((if y = x then (S : Int) * (dd : Int) else 0) - (dn : Int) * colZ ((plC C x).bs.take 0) S y)) = fun y => PyData.int (if y = x then (S : Int) * (dd : Int) else 0) := by
      funext y
      have : colZ ((plC C x).bs.take 0) S y = 0 := rfl
      rw [this, Int.mul_zero, Int.sub_zero]
    rw [e0]
    rfl
  · rintro i q Γ' hq rfl
    have hqm : q ∈ (plC C x).bs := List.mem_of_getElem? hq
    have ht := r.t q hqm
    have e1 : (plC C x).bs.take (i + 1) = (plC C x).bs.take i ++ [q] := by
      rw [List.take_succ, hq, Option.toList_some]
    have hany : ((List.range C.length).map fun i : Nat => PyData.int (i : Int)).any (fun z => PyData.eqv z (.int (q.2 : Int))) = true := List.any_eq_true.mpr ⟨.int (q.2 : Int), List.mem_map.mpr ⟨q.2, List.mem_range.mpr ht, rfl⟩, by rw [eqv_ii, beq_self_eq_true]⟩
    have sq := r.c q hqm
    and_intros
    refine ⟨rfl, rfl, rfl, sh_nats _, ?_⟩
    rw [hany, if_pos rfl]
    refine ⟨sh_nats _, rfl, q.2, .int (q.2 : Int), by rw [List.getElem?_map, List.getElem?_range ht]; rfl, by rw [eqv_ii, beq_self_eq_true], fun m z' hm hz => ?_, q.2, _, rfl, by omega, by rw [List.getElem?_map, List.getElem?_range ht]; rfl, ?_⟩
    · rw [List.getElem?_map, List.getElem?_range (by omega)] at hz
      have hz := (Option.some.inj hz).symm
      subst hz
      rw [eqv_ii, beq_eq_false_iff_ne]
      omega
    refine kWhA_i (q := q.1) sq.1 (Nat.lt_of_lt_of_le (Nat.lt_trans sq.2.2.1 (by decide : 1000 < 2 ^ 10)) (Nat.pow_le_pow_right (by decide) (by decide))) (Nat.lt_of_lt_of_le (Nat.lt_trans (show q.1.2.natAbs < 1000 by have := sq.1; have := sq.2.1; omega) (by decide : 1000 < 2 ^ 10)) (Nat.pow_le_pow_right (by decide) (by decide))) (Nat.lt_of_lt_of_le (sm30 (Nat.le_trans r.Sb (by decide +kernel))) (Nat.pow_le_pow_right (by decide) (by decide))) ?_
    and_intros
    refine ⟨wide_mul (a := 9000) (b := 9000) (sm30 (Nat.le_trans r.dl r.db)) ?_ (by decide) (by decide) (by decide), ?_⟩
    · have g1 := sq.2.2.1
      have g2 : ((S : Int) / q.1.2).natAbs ≤ 1000 := Nat.le_trans (Int.natAbs_ediv_le_natAbs _ _) (by rw [Int.natAbs_natCast]; exact r.Sb)
      rw [Int.natAbs_mul]
      have g3 : q.1.1.natAbs * ((S : Int) / q.1.2).natAbs ≤ 1000 * 1000 := Nat.mul_le_mul (Nat.le_of_lt g1) g2
      exact Nat.lt_of_le_of_lt g3 (Nat.lt_of_lt_of_le (by decide : 1000 * 1000 < 2 ^ 20) (Nat.pow_le_pow_right (by decide) (by decide)))
    · rw [set_range (g := fun y => PyData.int ((if y = x then (S : Int) * (dd : Int) else 0) - (dn : Int) * colZ ((plC C x).bs.take (i + 1)) S y))]
      · show PyData.int _ = PyData.int _
        rw [e1, colZ_snoc, if_pos rfl, Int.mul_add]
        congr 1
        omega
      · intro y hy
        show PyData.int _ = PyData.int _
        have ez : (if q.2 = y then q.1.1 * ((S : Int) / q.1.2) else 0) = 0 := if_neg fun z => hy z.symm
        rw [e1, colZ_snoc, ez, Int.add_zero]
  · rintro Γ' rfl
    and_intros
    rw [List.take_length]
    exact hP


theorem has_mean_at (D : IsDef K mg "mean_at" s_mean_at ["draw", "numbers"]) (U_total : Has P w K mg base (4) "total" ["numbers"] (spP K (kTotR))) (U_times : Has P w K mg base (3) "times" ["a", "b"] (spP K (kTim))) : Has P w K mg base (5) "mean_at" ["draw", "numbers"] (spP K (kMnU)) := by
  obtain ⟨f, fd, F, hm, hb⟩ := D
  obtain ⟨f_total, fd_total, G_total, m_total, k_total, b_total⟩ := U_total
  obtain ⟨f_times, fd_times, G_times, m_times, k_times, b_times⟩ := U_times
  have sc := sc_mean_at
  refine ⟨f, fd, F.ok sc (fun vs H Q E x => ?_) (fun cdv A outer s h0 vs Q E hr hs => ?_), hm, F.kp, hb⟩
  · obtain ⟨b, ds, P, _, hA, hR, _⟩ := x
    obtain ⟨_, _, rfl, _⟩ := con2_is hR
    rw [hA.length]
    rfl
  obtain ⟨b, ds, Pq, eb, hA, hR, kQ⟩ := hs
  obtain ⟨x0, x1, rfl, hR⟩ := con2_is hR
  refine ⟨_, (pss_one (ps_ret (pe_call G_total (hr.mono (by decide)) rfl m_total k_total b_total .nil pass0 (pa_cons (pe_lc (own := [("chance", 2), ("target", 3)]) (tt := tYes) rfl sc.nd (pi_listK (K := K) rfl (pe_ix (ix_tupK (K := K) rfl) (pv 0) pe_int (fun _ _ => rfl))) (blkOk_by (N := ["draw", "numbers", "chance", "target"]) (sc := defScope s_mean_at) (by decide +kernel)) (fun _ _ _ _ _ => (pg_tupK (K := K) (n := 2) rfl rfl (pgs_cons (pg_name (i := 2) sc.nd rfl (by first | exact Or.inl rfl | exact Or.inr rfl)) (pgs_cons (pg_name (i := 3) sc.nd rfl (by first | exact Or.inl rfl | exact Or.inr rfl)) pgs_nil)))) (fun _ _ _ _ _ => pts_nil) (fun _ _ _ _ _ => (pe_call G_times (hr.mono (by decide)) rfl m_times k_times b_times .nil pass0 (pa_cons (pv 2) (pa_cons (pe_ix (ix_listK (K := K) rfl) (pv 1) (pv 3) (fun _ _ => rfl)) pa_nil))))) pa_nil)))), sim_P (Γ := [some (.d x0), some (.d x1), none, none]) (z_ret (z_call (z_cons (z_ofN (z_lc (by decide) (i_list (z_ixT z_var z_i)) (g_tup (g_cons g_name (g_cons g_name g_nil))) z_yes (z_call (z_cons z_var (z_cons (z_ixL z_var z_var) z_nil))))) z_nil))) eb hA (by show 2 ≤ 4; decide) rfl ?_ kQ⟩
  rcases hR with hR | hR
  · obtain ⟨p, n, rfl, rfl, h6, hq, hP⟩ := hR
    and_intros
    refine dlc_map p.bs brC (fun _ => nQ 0) (fun P hP => ?_) (by omega) (fun q hqm P hP => ?_) ?_
    · unfold PlC.D
      and_intros
      exact ⟨_, atI_2, hP⟩
    · obtain ⟨h1, h2⟩ := hq q hqm
      and_intros
      refine ⟨rfl, rfl, nQ 0, listQ_at (f := fun _ => 0) h1, ?_⟩
      rw [nD_nQ (red_small h2)]
      refine kTim_i (small_big h2) (big_zero (by decide)) ?_
      rw [Rat.mul_zero]
      exact hP
    have e : PyData.list (p.bs.map fun _ => nQ 0) = ratsD (p.bs.map fun _ => (0 : Rat)) := by
      unfold ratsD
      rw [List.map_map]
      rfl
    have ez : ∀ l : List BrC, (l.map fun _ => (0 : Rat)).sum = 0 := fun l => by
      induction l with
      | nil => rfl
      | cons a l ih =>
        rw [List.map_cons, List.sum_cons, ih, Rat.add_zero]
    rw [e]
    refine ⟨_, rfl, by rw [List.length_map]; omega, fun i _ => ?_, fun r hr => ?_, by rw [ez]; exact hP⟩
    · rw [← List.map_take, ez]
      exact big_zero (by decide)
    · obtain ⟨_, _, rfl⟩ := List.mem_map.mp hr
      exact big_zero (by decide)
  · obtain ⟨p, w, n, M, B, S, f, rfl, rfl, hk, x, hP⟩ := hR
    have h6 := x.W.l6
    have hcc := x.W.c hk
    and_intros
    refine dlc_map p.bs brC (fun q => nQ (qN q.1 * f q.2)) (fun P hP => ?_) (by omega) (fun q hq P hP => ?_) ?_
    · unfold PlV.D
      and_intros
      refine ⟨_, atI_2, ?_⟩
      rw [el_draw hk]
      and_intros
      exact hP
    · and_intros
      refine ⟨rfl, rfl, nQ (f q.2), listQ_at (x.W.t q hq), ?_⟩
      rw [nD_nQ (red_small (hcc q hq).1)]
      exact kTim_i (small_big (hcc q hq).1) (x.b3 hq) hP
    have e : PyData.list (p.bs.map fun q => nQ (qN q.1 * f q.2)) = ratsD (p.bs.map fun q => qN q.1 * f q.2) := by
      unfold ratsD
      rw [List.map_map]
      rfl
    rw [e]
    refine ⟨_, rfl, by rw [List.length_map]; omega, fun i _ => x.b3p hk i, fun r hr => ?_, ?_⟩
    · obtain ⟨q, hq, rfl⟩ := List.mem_map.mp hr
      exact x.b3t hk hq
    · unfold vW at hP
      rw [hk] at hP
      exact hP

abbrev s_filled_in : Stmt := top 23
theorem sc_filled_in : FnScope ["chain", "places", "extra", "known", "discount", "scales", "rows", "sums", "constants", "found", "x", "number", "scale"] ["chain", "places", "extra", "known", "discount"] (defScope s_filled_in) := ⟨rfl, rfl, rfl, by decide +kernel, rfl, by decide +kernel, by decide +kernel⟩
theorem has_filled_in (D : IsDefE K mg "filled_in" s_filled_in ["chain", "places", "extra", "known", "discount"]) (T : Bt mg) (U__scale_of : Has P w K mg base (2) "_scale_of" ["draw"] (spP K (kSca))) (U__row_of : Has P w K mg base (2) "_row_of" ["chain", "x", "places", "scale", "discount"] (spN K (kRow))) (U_plus : Has P w K mg base (3) "plus" ["a", "b"] (spP K (kPlu))) (U_times : Has P w K mg base (3) "times" ["a", "b"] (spP K (kTim))) (U_mean_at : Has P w K mg base (5) "mean_at" ["draw", "numbers"] (spP K (kMn0))) (U_solved : Has P w K mg base (2) "solved" ["rows", "constants"] (spP K (kSol))) : Has P w K mg base (6) "filled_in" ["chain", "places", "extra", "known", "discount"] (spN K (kFil)) := by
  obtain ⟨f, fd, u_, F, hm, hb⟩ := D
  obtain ⟨f__scale_of, fd__scale_of, G__scale_of, m__scale_of, k__scale_of, b__scale_of⟩ := U__scale_of
  obtain ⟨f__row_of, fd__row_of, G__row_of, m__row_of, k__row_of, b__row_of⟩ := U__row_of
  obtain ⟨f_plus, fd_plus, G_plus, m_plus, k_plus, b_plus⟩ := U_plus
  obtain ⟨f_times, fd_times, G_times, m_times, k_times, b_times⟩ := U_times
  obtain ⟨f_mean_at, fd_mean_at, G_mean_at, m_mean_at, k_mean_at, b_mean_at⟩ := U_mean_at
  obtain ⟨f_solved, fd_solved, G_solved, m_solved, k_solved, b_solved⟩ := U_solved
  have sc := sc_filled_in
  refine ⟨f, fd, okD F sc (fun vs H Q E x => ?_) (fun cdv A outer s h0 vs Q E hr hs => ?_), hm, F.kp, hb⟩
  · obtain ⟨b, ds, P, _, hA, hR, _⟩ := x
    obtain ⟨_, _, _, _, _, rfl, _⟩ := conN5_is hR
    rw [hA.length]
    rfl
  obtain ⟨b, ds, Pq, eb, hA, hR, kQ⟩ := hs
  obtain ⟨x0, x1, x2, x3, x4, rfl, hR⟩ := conN5_is hR
  refine ⟨_, (pss_cons (ps_setLc (i := 5) (own := [("x", 10)]) (tt := tYes) rfl sc.nd rfl rfl (sw_true rfl rfl rfl (by decide +kernel)) (pi_listK (K := K) rfl (pv 1)) (blkOk_by (N := ["chain", "places", "extra", "known", "discount", "scales", "rows", "sums", "constants", "found", "x", "number", "scale"]) (sc := defScope s_filled_in) (by decide +kernel)) (fun _ _ _ _ _ => (pg_name (i := 10) sc.nd rfl (by first | exact Or.inl rfl | exact Or.inr rfl))) (fun _ _ _ _ _ => pts_nil) (fun _ _ _ _ _ => (pe_call G__scale_of (hr.mono (by decide)) rfl m__scale_of k__scale_of b__scale_of .nil pass0 (pa_cons (pe_ix (ix_listK (K := K) rfl) (pv 0) (pv 10) (fun _ _ => rfl)) pa_nil)))) (pss_cons (ps_setLc (i := 6) (own := [("x", 10), ("scale", 12)]) (tt := tYes) rfl sc.nd rfl rfl (sw_true rfl rfl rfl (by decide +kernel)) (pi_zipK (K := K) rfl (by rfl) T.zip (pa_cons (pv 1) (pa_cons (pv 5) pa_nil))) (blkOk_by (N := ["chain", "places", "extra", "known", "discount", "scales", "rows", "sums", "constants", "found", "x", "number", "scale"]) (sc := defScope s_filled_in) (by decide +kernel)) (fun _ _ _ _ _ => (pg_tupK (K := K) (n := 2) rfl rfl (pgs_cons (pg_name (i := 10) sc.nd rfl (by first | exact Or.inl rfl | exact Or.inr rfl)) (pgs_cons (pg_name (i := 12) sc.nd rfl (by first | exact Or.inl rfl | exact Or.inr rfl)) pgs_nil)))) (fun _ _ _ _ _ => pts_nil) (fun _ _ _ _ _ => (pe_call G__row_of (hr.mono (by decide)) rfl m__row_of k__row_of b__row_of .nil pass0 (pa_cons (pv 0) (pa_cons (pv 10) (pa_cons (pv 1) (pa_cons (pv 12) (pa_cons (pv 4) pa_nil)))))))) (pss_cons (ps_setLc (i := 7) (own := [("x", 10)]) (tt := tYes) rfl sc.nd rfl rfl (sw_true rfl rfl rfl (by decide +kernel)) (pi_listK (K := K) rfl (pv 1)) (blkOk_by (N := ["chain", "places", "extra", "known", "discount", "scales", "rows", "sums", "constants", "found", "x", "number", "scale"]) (sc := defScope s_filled_in) (by decide +kernel)) (fun _ _ _ _ _ => (pg_name (i := 10) sc.nd rfl (by first | exact Or.inl rfl | exact Or.inr rfl))) (fun _ _ _ _ _ => pts_nil) (fun _ _ _ _ _ => (pe_call G_plus (hr.mono (by decide)) rfl m_plus k_plus b_plus .nil pass0 (pa_cons (pe_ix (ix_listK (K := K) rfl) (pv 2) (pv 10) (fun _ _ => rfl)) (pa_cons (pe_call G_times (hr.mono (by decide)) rfl m_times k_times b_times .nil pass0 (pa_cons (pv 4) (pa_cons (pe_call G_mean_at (hr.mono (by decide)) rfl m_mean_at k_mean_at b_mean_at .nil pass0 (pa_cons (pe_ix (ix_listK (K := K) rfl) (pv 0) (pv 10) (fun _ _ => rfl)) (pa_cons (pv 3) pa_nil))) pa_nil))) pa_nil))))) (pss_cons (ps_setLc (i := 8) (own := [("number", 11), ("scale", 12)]) (tt := tYes) rfl sc.nd rfl rfl (sw_true rfl rfl rfl (by decide +kernel)) (pi_zipK (K := K) rfl (by rfl) T.zip (pa_cons (pv 7) (pa_cons (pv 5) pa_nil))) (blkOk_by (N := ["chain", "places", "extra", "known", "discount", "scales", "rows", "sums", "constants", "found", "x", "number", "scale"]) (sc := defScope s_filled_in) (by decide +kernel)) (fun _ _ _ _ _ => (pg_tupK (K := K) (n := 2) rfl rfl (pgs_cons (pg_name (i := 11) sc.nd rfl (by first | exact Or.inl rfl | exact Or.inr rfl)) (pgs_cons (pg_name (i := 12) sc.nd rfl (by first | exact Or.inl rfl | exact Or.inr rfl)) pgs_nil)))) (fun _ _ _ _ _ => pts_nil) (fun _ _ _ _ _ => (pe_call G_times (hr.mono (by decide)) rfl m_times k_times b_times .nil pass0 (pa_cons (pv 11) (pa_cons (pe_tup (pa_cons (pe_op op_mulW (pv 12) (pe_ix (ix_tupK (K := K) rfl) (pv 4) pe_int (fun _ _ => rfl))) (pa_cons pe_int pa_nil))) pa_nil))))) (pss_cons (ps_set (i := 9) sc.nd rfl (by first | exact Or.inl rfl | exact Or.inr rfl) (pe_callTy (list_K (K := K) rfl) (by rfl) T.list (by decide +kernel) (pa_cons (pv 3) pa_nil))) (pss_cons (ps_for PassesOwn.never rfl (pi_zipK (K := K) rfl (by rfl) T.zip (pa_cons (pv 1) (pa_cons (pe_call G_solved (hr.mono (by decide)) rfl m_solved k_solved b_solved .nil pass0 (pa_cons (pv 6) (pa_cons (pv 8) pa_nil))) pa_nil))) (pg_tupK (K := K) (n := 2) rfl rfl (pgs_cons (pg_name (i := 10) sc.nd rfl (by first | exact Or.inl rfl | exact Or.inr rfl)) (pgs_cons (pg_name (i := 11) sc.nd rfl (by first | exact Or.inl rfl | exact Or.inr rfl)) pgs_nil))) (pss_one (ps_asg (pv 11) (pg_sub (pv 9) (pv 10) set_list)))) (pss_one (ps_ret (pv 9))))))))), sim_N (Γ := [some (.d x0), some (.d x1), some (.d x2), some (.d x3), some (.d x4), none, none, none, none, none, none, none, none]) (z_seq (z_asg (z_ofN (z_lc (by decide) (i_list z_var) g_name z_yes (z_call (z_cons (z_ixL z_var z_var) z_nil)))) g_name) (z_seq (z_asg (z_ofN (z_lc (by decide) (i_zip (z_cons z_var (z_cons z_var z_nil))) (g_tup (g_cons g_name (g_cons g_name g_nil))) z_yes (z_ofN (z_callN (z_cons z_var (z_cons z_var (z_cons z_var (z_cons z_var (z_cons z_var z_nil))))))))) g_name) (z_seq (z_asg (z_ofN (z_lc (by decide) (i_list z_var) g_name z_yes (z_call (z_cons (z_ixL z_var z_var) (z_cons (z_call (z_cons z_var (z_cons (z_call (z_cons (z_ixL z_var z_var) (z_cons z_var z_nil))) z_nil))) z_nil))))) g_name) (z_seq (z_asg (z_ofN (z_lc (by decide) (i_zip (z_cons z_var (z_cons z_var z_nil))) (g_tup (g_cons g_name (g_cons g_name g_nil))) z_yes (z_call (z_cons z_var (z_cons (z_tup (z_cons (z_mulW z_var (z_ixT z_var z_i)) (z_cons z_i z_nil))) z_nil))))) g_name) (z_seq (z_asgO (z_list z_var)) (z_seq (z_for (ws := [10, 11]) (i_zip (z_cons z_var (z_cons (z_call (z_cons z_var (z_cons z_var z_nil))) z_nil))) (g_tup (g_cons g_name (g_cons g_name g_nil))) (z_set z_var z_var)) z_retO)))))) eb hA (by show 5 ≤ 13; decide) rfl ?_ kQ⟩
  obtain ⟨C, dn, dd, M0, rfl, rfl, rfl, rfl, rfl, x, hP⟩ := hR
  clear hR
  have h12 := x.n12
  have at_ch : ∀ {k : Nat}, k < C.length → L2.atI (C.map PlC.D) (k : Int) = some (plC C k).D := fun hk => ch_at hk
  have s13 : ∀ {k : Nat}, k < C.length → scD2 C k < 2 ^ 13000 := fun hk => Nat.lt_of_le_of_lt (x.S _ hk) (Nat.lt_of_lt_of_le (by decide : 1000 < 2 ^ 10) (Nat.pow_le_pow_right (by decide) (by decide)))
  unfold chD
  and_intros
  refine dlc_map (List.range C.length) (fun k : Nat => .int (k : Int)) (fun k => .int ((scD2 C k : Nat) : Int)) (fun P hP => ?_) (by rw [List.length_range]; omega) (fun k hk P hP => ?_) ?_
  · and_intros
    exact hP
  · have hk := List.mem_range.mp hk
    and_intros
    exact ⟨_, at_ch hk, kSca_i (x.b6 k hk) (fun q hq => (x.c k hk q hq).1) (s13 hk) hP⟩
  refine dlc_map (List.range C.length) (fun k => .tuple [.int (k : Int), .int ((scD2 C k : Nat) : Int)]) (fun k => .list ((List.range C.length).map fun y => .int (rowA (plC C k).bs (scD2 C k) dn dd k y))) (fun P hP => ?_) (by rw [List.length_range]; omega) (fun k hk P hP => ?_) ?_
  · and_intros
    rw [zipD_map, zip_rr, List.map_map]
    exact hP
  · have hk := List.mem_range.mp hk
    and_intros
    exact ⟨rfl, rfl, C, k, scD2 C k, dn, dd, rfl, rfl, rfl, rfl, rfl, ⟨hk, h12, x.b6 k hk, fun q hq => (x.M.q k hk q hq).2, x.c k hk, x.S k hk, x.db, Nat.le_of_lt x.dl⟩, hP⟩
  refine dlc_map (List.range C.length) (fun k : Nat => .int (k : Int)) (fun k => nQ (gainC C k)) (fun P hP => ?_) (by rw [List.length_range]; omega) (fun k hk P hP => ?_) ?_
  · and_intros
    exact hP
  · have hk := List.mem_range.mp hk
    and_intros
    refine ⟨_, listQ_at hk, _, at_ch hk, kMn0_i (x.b6 k hk) (fun q hq => ⟨(x.M.q k hk q hq).2, x.c k hk q hq⟩) ?_⟩
    rw [nD_nQ x.red]
    refine kTim_i ?_ (big_zero (by decide)) ?_
    · rw [← canon_red_self x.red]
      have hd := x.dl
      have hb := x.db
      have u : 2 ^ 512 < 2 ^ 3000 := Nat.pow_lt_pow_right (by decide) (by decide)
      exact ⟨Nat.lt_of_le_of_lt (show ((dn : Int)).natAbs ≤ 2 ^ 512 by rw [Int.natAbs_natCast]; omega) u, Nat.lt_of_le_of_lt (show ((dd : Int)).natAbs ≤ 2 ^ 512 by rw [Int.natAbs_natCast]; omega) u⟩
    · rw [Rat.mul_zero]
      refine kPlu_i (small_big (x.g k hk).1) (big_zero (by decide)) ?_
      rw [Rat.add_zero]
      exact hP
  refine dlc_map (List.range C.length) (fun k => .tuple [nQ (gainC C k), .int ((scD2 C k : Nat) : Int)]) (fun k => nQ (csF C dd k)) (fun P hP => ?_) (by rw [List.length_range]; omega) (fun k hk P hP => ?_) ?_
  · and_intros
    rw [zipD_map, zip_rr, List.map_map]
    exact hP
  · have hk := List.mem_range.mp hk
    and_intros
    refine ⟨rfl, rfl, _, atI_one, ?_⟩
    and_intros
    have hb : scD2 C k * dd ≤ 1000 * 2 ^ 512 := Nat.mul_le_mul (x.S k hk) x.db
    refine ⟨wide_mul (a := 9000) (b := 9000) (by rw [Int.natAbs_natCast]; exact Nat.lt_of_le_of_lt (x.S k hk) (Nat.lt_of_lt_of_le (by decide : 1000 < 2 ^ 10) (Nat.pow_le_pow_right (by decide) (by decide)))) (by rw [Int.natAbs_natCast]; exact Nat.lt_of_le_of_lt x.db (Nat.pow_lt_pow_right (by decide) (by decide))) (by decide) (by decide) (by decide), by decide, ?_⟩
    have q1 : PyData.tuple [.int (((scD2 C k : Nat) : Int) * (dd : Int)), .int 1] = nQ (natR (scD2 C k * dd)) := by
      rw [← qN_nat, Int.natCast_mul]
      exact nD_nQ (c := (((scD2 C k : Nat) : Int) * (dd : Int), 1)) ⟨Int.le_refl 1, Nat.gcd_one_right _⟩
    rw [q1]
    refine kTim_i (small_big (x.g k hk).1) ?_ hP
    have n1 : NB 1 (1000 * 2 ^ 512) (natR (scD2 C k * dd)) := (nb_nat _).mono (Nat.dvd_refl _) hb
    exact n1.big (by decide) (Nat.mul_pos (by decide) (Nat.two_pow_pos _)) (Nat.lt_of_lt_of_le (by decide +kernel : 1000 * 2 ^ 512 * 1 < 2 ^ 550) (Nat.pow_le_pow_right (by decide) (by decide)))
  and_intros
  refine ⟨by decide, ?_⟩
  refine dfor_via ?_
  and_intros
  refine ⟨C.length, aF C dn dd, csF C dd, unF C dd, ?_, rfl, x.sol, fun T d hE => ?_⟩
  · unfold matD
    congr 1
    refine List.map_congr_left fun k hk => ?_
    congr 1
    refine List.map_congr_left fun y hy => ?_
    show PyData.int _ = PyData.int _
    have e : aF C dn dd k y = rowA (plC C k).bs (scD2 C k) dn dd k y := if_pos (List.mem_range.mp hy)
    rw [e]
  obtain ⟨hw, M, m0, mb, hv⟩ := x.fin hE
  obtain ⟨v, ev⟩ : ∃ v : Nat → Rat, ∀ j, v j = qa T j C.length / ((d : Rat) * natR (unF C dd)) := ⟨_, fun _ => rfl⟩
  have e0 : (fun j => qa T j C.length / ((d : Rat) * natR (unF C dd))) = v := funext fun j => (ev j).symm
  rw [e0] at hw
  rw [e0]
  have hPv := hP v M hw m0 mb fun j hj => by
    rw [ev]
    exact hv j hj
  clear hP hv hw
  and_intros
  refine dfor_inv (List.range C.length) (fun k => .tuple [.int (k : Int), nQ (v k)]) (fun P hP => ?_) (fun i Γ' => Γ' = [some (.d (chD C)), some (.d (.list ((List.range C.length).map fun i : Nat => PyData.int (i : Int)))), some (.d (listQ C.length (gainC C))), some (.d (listQ C.length fun _ => 0)), some (.d (nD ((dn : Int), (dd : Int)))), some (.d (.list ((List.range C.length).map fun k => PyData.int ((scD2 C k : Nat) : Int)))), some (.d (.list ((List.range C.length).map fun k => PyData.list ((List.range C.length).map fun y => PyData.int (rowA (plC C k).bs (scD2 C k) dn dd k y))))), some (.d (.list ((List.range C.length).map fun k => nQ (gainC C k)))), some (.d (.list ((List.range C.length).map fun k => nQ (csF C dd k)))), some (.o ((List.range C.length).map fun y => if y < i then nQ (v y) else nQ 0)), none, none, none]) ?_ ?_ ?_
  · rw [zipD_map, zip_rr, List.map_map]
    exact hP
  · rfl
  · rintro i k Γ' hi rfl
    obtain ⟨hi1, hi2⟩ := List.getElem?_eq_some_iff.mp hi
    rw [List.length_range] at hi1
    rw [List.getElem_range] at hi2
    subst hi2
    and_intros
    refine ⟨rfl, rfl, i, ixN_nat (by rw [List.length_map, List.length_range]; exact hi1), ?_⟩
    rw [set_range (g := fun y => if y < i + 1 then nQ (v y) else nQ 0) (if_pos (by omega)) fun y hy => by
      by_cases c : y < i
      · rw [if_pos c, if_pos (by omega)]
      · rw [if_neg c, if_neg (by omega)]]
  · rintro Γ' rfl
    rw [List.length_range]
    and_intros
    have e : (List.range C.length).map (fun y => if y < C.length then nQ (v y) else nQ 0) = (List.range C.length).map fun y => nQ (v y) := List.map_congr_left fun y hy => if_pos (List.mem_range.mp hy)
    rw [e]
    exact hPv

abbrev s_reached_from : Stmt := top 20
theorem sc_reached_from : FnScope ["game", "start", "found", "at", "here", "target"] ["game", "start"] (defScope s_reached_from) := ⟨rfl, rfl, rfl, by decide +kernel, rfl, by decide +kernel, by decide +kernel⟩
theorem has_reached_from (T : Bt mg) (m_sorted : mg "sorted" = none) (D : IsDef K mg "reached_from" s_reached_from ["game", "start"]) (U : Has P w K mg base 1 "targets_of" ["place"] (spTargets K)) : Has P w K mg base 2 "reached_from" ["game", "start"] (spReach K) := by
  obtain ⟨f, fd, F, hm, hb⟩ := D
  obtain ⟨f_targets_of, fd_targets_of, G_targets_of, m_targets_of, k_targets_of, b_targets_of⟩ := U
  have sc := sc_reached_from
  refine ⟨f, fd, F.ok sc (fun vs H Q E x => ?_) (fun cdv A outer s h0 vs Q E hr hs => ?_), hm, F.kp, hb⟩
  · obtain ⟨b, C, x, _, hA, _⟩ := x
    exact hA.length
  obtain ⟨b, C, x, eb, hA, hW, hx, kQ⟩ := hs
  refine ⟨_, (pss_cons (ps_set (i := 2) sc.nd rfl (by first | exact Or.inl rfl | exact Or.inr rfl) (pe_lst (pa_cons (pv 1) pa_nil))) (pss_cons (ps_set (i := 3) sc.nd rfl (by first | exact Or.inl rfl | exact Or.inr rfl) pe_int) (pss_cons (ps_while PassesOwn.never (pt_cmpR op_lt (pv 3) (pe_callB (len_K (K := K) rfl) (by rfl) T.len PySem.boot_len (pa_cons (pv 2) pa_nil)) (nomark _)) (pss_cons (ps_set (i := 4) sc.nd rfl (by first | exact Or.inl rfl | exact Or.inr rfl) (pe_ix (ix_listK (K := K) rfl) (pv 2) (pv 3) (fun _ _ => rfl))) (pss_cons (ps_for PassesOwn.never rfl (pi_listK (K := K) rfl (pe_call G_targets_of (hr.mono (by decide)) rfl m_targets_of k_targets_of b_targets_of .nil pass0 (pa_cons (pe_ix (ix_listK (K := K) rfl) (pv 0) (pv 4) (fun _ _ => rfl)) pa_nil))) (pg_name (i := 5) sc.nd rfl (by first | exact Or.inl rfl | exact Or.inr rfl)) (pss_one (ps_if (pt_cmpR (niS_K (K := K) rfl) (pv 5) (pv 2) (by rfl)) (pss_one (ps_expr (pe_appK (K := K) rfl (pv 2) (pa_cons (pv 5) pa_nil)))) pss_nil))) (pss_one (ps_aug (i := 3) sc.nd rfl (by first | exact Or.inl rfl | exact Or.inr rfl) pe_int ip_add))))) (pss_one (ps_ret (pe_callB (sortedI_K (K := K) rfl) (by rfl) m_sorted (by decide +kernel) (pa_cons (pv 2) pa_nil))))))), ?_⟩
  obtain ⟨vC, rfl, hC⟩ : ∃ vC, vs = [vC, .int (x : Int)] ∧ Dt K b vC (.list (C.map PlC.D)) := by
    cases hA with
    | cons h1 hA => exact ⟨_, by rw [hA.i1], h1⟩
  have hC12 := hW.l12
  refine r_setN (K := K) (ds := [PyData.int (x : Int)]) (en_lst (eda_cons (ed_int (ev_var rfl)) eda_nil) (by show 1 ≤ 100000; decide)) eb fun q us0 b1 h1 nq mq g1 hq hus0 => ?_
  have hus := hus0.i1
  subst hus
  refine r_sc (b := b1) (v := .int 0) ev_c g1.gi fun h2 g2 => ?_
  have G2 := g1.trans g2
  have hq2 := g2.gh _ _ hq
  have hC2 := hC.up g1.gb
  have getA : ∀ {l : List Nat} {z j : Nat}, j < l.length → (l ++ [z]).getD j 0 = l.getD j 0 := fun {l z j} h => by
    rw [List.getD_eq_getElem?_getD, List.getD_eq_getElem?_getD, List.getElem?_append_left h]
  refine q_while (H := h2) (fun mm σ' h' => ∃ (fl : List Nat) (at' : Nat) (u4 u5 : Option V) (b' : Hp), σ' = [some vC, some (.int (x : Int)), some (.ref q), some (.int (at' : Int)), u4, u5] ∧ Gr b h0 b' h' ∧ Ex b1 b' ∧ b' q = none ∧ h' q = some (.lst (fl.map fun y : Nat => V.int (y : Int))) ∧ fl.Nodup ∧ x ∈ fl ∧ (∀ y ∈ fl, Reach C x y) ∧ at' ≤ fl.length ∧
    (∀ i, i < at' → ∀ bq ∈ (plC C (fl.getD i 0)).bs, bq.2 ∈ fl) ∧ mm = C.length - at') C.length ?_ ?_
  · exact ⟨[x], 0, none, none, b1, rfl, G2, Ex.refl _, mq, hq2, by simp, List.mem_singleton.mpr rfl, fun y hy => by rw [List.mem_singleton.mp hy]; exact .refl, Nat.zero_le _, fun i hi => absurd hi (Nat.not_lt_zero _), rfl⟩
  · rintro mm σ' h' ⟨fl, at', u4, u5, b', rfl, gi, eB, nqb, hq', hnd, hxf, hre, hal, hcl, rfl⟩
    have hfl : fl.length ≤ C.length := nodup_len hnd fun y hy => (hre y hy).lt hW hx
    have hlen : Ev (tCB (rLenS K) (tCons (tVar 2) tNil)) [some vC, some (.int (x : Int)), some (.ref q), some (.int (at' : Int)), u4, u5] h' (.int (fl.length : Int)) := by
      have := ev_lenM (K := K) hq' (ta := tVar 2) (σ := [some vC, some (.int (x : Int)), some (.ref q), some (.int (at' : Int)), u4, u5]) (ev_var rfl)
      rwa [List.length_map] at this
    refine ⟨decide ((at' : Int) < (fl.length : Int)), et_test (ev_op (ev_var rfl) hlen rv_I0), fun hc h3 e3 => ?_, fun hc h3 e3 => ?_⟩
    · have hat : at' < fl.length := by
        have := of_decide_eq_true hc
        omega
      have g3 := gi.trans (Gr.stay gi.gi e3)
      have hq3 := e3 _ _ hq'
      have hyf := getD_mem hat
      have hyr := hre _ hyf
      have hyl := hyr.lt hW hx
      have hw := plC_wf hW hyl
      generalize hye : fl.getD at' 0 = y at *
      have hxv : (fl.map fun y : Nat => V.int (y : Int))[at']? = some (V.int (y : Int)) := by
        rw [List.getElem?_map, nats_get hat, hye]
        rfl
      refine ⟨fun σ' h' => ∃ (fl : List Nat) (u4 u5 : Option V) (b' : Hp), σ' = [some vC, some (.int (x : Int)), some (.ref q), some (.int ((at' + 1 : Nat) : Int)), u4, u5] ∧ Gr b h0 b' h' ∧ Ex b1 b' ∧ b' q = none ∧ h' q = some (.lst (fl.map fun y : Nat => V.int (y : Int))) ∧ fl.Nodup ∧ x ∈ fl ∧ (∀ y ∈ fl, Reach C x y) ∧ at' + 1 ≤ fl.length ∧
        (∀ i, i < at' + 1 → ∀ bq ∈ (plC C (fl.getD i 0)).bs, bq.2 ∈ fl), ?_, ?_⟩
      · rintro σ2 H2 ⟨fl, u4, u5, b', p1, p2, p3, p4, p5, p6, p7, p8, p9, p10⟩
        exact ⟨C.length - (at' + 1), by omega, fl, at' + 1, u4, u5, b', p1, p2, p3, p4, p5, p6, p7, p8, p9, p10, rfl⟩
      · refine q_asg (H := h3) (v := .int (y : Int)) (ev_op (ev_var rfl) (ev_var rfl) (rv_ixL (sq_of hq3) (atI_nat hxv))) fun h4 e4 => ?_
        have g4 := g3.trans (Gr.stay g3.gi e4)
        have hC4 := hC2.up eB
        refine r_forL (K := K) (ds := ((plC C y).bs.map (·.2)).map fun z : Nat => PyData.int (z : Int)) (ed_targetsC (eda_cons (ed_ixL (ed_var rfl hC4) (ev_var rfl) (ch_at hyl)) eda_nil) hw.l6) g4.gi fun aT xsT b5 h5 g5 _ _ => ⟨fun i σ' h' => ∃ (fl : List Nat) (u5 : Option V) (b' : Hp), σ' = [some vC, some (.int (x : Int)), some (.ref q), some (.int (at' : Int)), some (.int (y : Int)), u5] ∧ Gr b h0 b' h' ∧ Ex b5 b' ∧ b' q = none ∧ h' q = some (.lst (fl.map fun y : Nat => V.int (y : Int))) ∧ fl.Nodup ∧ x ∈ fl ∧ (∀ y ∈ fl, Reach C x y) ∧ at' < fl.length ∧ fl.getD at' 0 = y ∧
          (∀ i, i < at' → ∀ bq ∈ (plC C (fl.getD i 0)).bs, bq.2 ∈ fl) ∧ (∀ j, j < i → ∀ bq, (plC C y).bs[j]? = some bq → bq.2 ∈ fl),
          ⟨fl, u5, b5, rfl, g4.trans g5, Ex.refl _, g5.gf q nqb (by rw [e4 _ _ hq3]; intro z; cases z), g5.gh _ _ (e4 _ _ hq3), hnd, hxf, hre, hat, hye, hcl, fun j hj => absurd hj (Nat.not_lt_zero _)⟩, fun i σ' h' p => ?_, ?_, ?_⟩
        · obtain ⟨_, _, b', _, g, e, _⟩ := p
          exact e.trans g.gi
        · rintro i d xv σ' h6 hd hxv ⟨fl, u5, b', rfl, gi, eB, nqb, hq', hnd, hxf, hre, hat, hye, hcl, hbr⟩
          rw [List.getElem?_map, List.getElem?_map] at hd
          cases hz : (plC C y).bs[i]? with
          | none => rw [hz] at hd; cases hd
          | some bq =>
            rw [hz] at hd
            cases hd
            obtain rfl := hxv.intI
            have hbm := List.mem_of_getElem? hz
            have hbr' : Reach C x bq.2 := (hre _ (by rw [← hye]; exact getD_mem hat)).step hbm
            have T := gi.tell nq nqb hq'
            have dq : Dt K (upd b' q (.lst (fl.map fun y : Nat => V.int (y : Int)))) (.ref q) (natsD fl) := Dt.list upd_same (DtA.nats fl)
            refine r_if1 (b := upd b' q (.lst (fl.map fun y : Nat => V.int (y : Int)))) (c := !decide (bq.2 ∈ fl)) (et_test (ev_inN (neg := true) (l := fl) (x := bq.2) (ev_var rfl) (ed_var rfl dq))) T.gi (fun hc h7 g7 => ?_) (fun hc h7 g7 => ?_)
            · have hno : ¬ bq.2 ∈ fl := by
                intro z
                rw [decide_eq_true z] at hc
                cases hc
              have g7' := gi.trans (Gr.stay gi.gi g7.gh)
              refine Evl.s_app (H := h7) (v := .int (bq.2 : Int)) (g7.gh _ _ hq') (ev_var rfl) (ev_var rfl) (by rw [List.length_map]; have := nodup_len hnd fun y hy => (hre y hy).lt hW hx; omega) fun h8 e8 => ?_
              refine ⟨fl ++ [bq.2], _, b', rfl, (g7'.trans (Gr.stay g7'.gi e8)).mut nq nqb, eB, nqb, by rw [upd_same, List.map_append]; rfl, ?_, List.mem_append_left _ hxf, fun z hz => ?_, by rw [List.length_append]; show at' < _ + 1; omega, by rw [getA hat]; exact hye, fun j hj bq' hb => ?_, fun j hj bq' hb => ?_⟩
              · rw [List.nodup_append]
                refine ⟨hnd, by simp, fun a ha c hc' => ?_⟩
                rw [List.mem_singleton.mp hc']
                intro e
                exact hno (by rw [← e]; exact ha)
              · rcases List.mem_append.mp hz with z | z
                · exact hre _ z
                · rw [List.mem_singleton.mp z]
                  exact hbr'
              · rw [getA (by omega)] at hb
                exact List.mem_append_left _ (hcl j hj bq' hb)
              · rcases Nat.lt_or_ge j i with z | z
                · exact List.mem_append_left _ (hbr j z bq' hb)
                · obtain rfl : j = i := by omega
                  rw [hz] at hb
                  cases hb
                  exact List.mem_append_right _ (List.mem_singleton.mpr rfl)
            · have hin : bq.2 ∈ fl := by
                by_cases z : bq.2 ∈ fl
                · exact z
                · rw [decide_eq_false z] at hc
                  cases hc
              refine ⟨fl, _, b', rfl, gi.trans (Gr.stay gi.gi g7.gh), eB, nqb, g7.gh _ _ hq', hnd, hxf, hre, hat, hye, hcl, fun j hj bq' hb => ?_⟩
              rcases Nat.lt_or_ge j i with z | z
              · exact hbr j z bq' hb
              · obtain rfl : j = i := by omega
                rw [hz] at hb
                cases hb
                exact hin
        · rintro σ' h6 ⟨fl, u5, b', rfl, gi, eB', nqb, hq', hnd, hxf, hre, hat, hye, hcl, hbr⟩
          rw [List.length_map, List.length_map] at hbr
          refine ⟨_, rfl, ⟨_, _, rfl, rfl, ?_⟩⟩
          refine ⟨fl, _, _, b', rfl, gi, (eB.trans g5.gb).trans eB', nqb, hq', hnd, hxf, hre, hat, fun j hj bq hb => ?_⟩
          rcases Nat.lt_or_ge j at' with z | z
          · exact hcl j z bq hb
          · obtain rfl : j = at' := by omega
            rw [hye] at hb
            obtain ⟨i, hi, e⟩ := List.mem_iff_getElem.mp hb
            exact hbr i hi bq (by rw [List.getElem?_eq_getElem hi, e])
    · have hat : at' = fl.length := by
        have := of_decide_eq_false hc
        omega
      subst hat
      have g3 := gi.trans (Gr.stay gi.gi e3)
      have hq3 := e3 _ _ hq'
      have hall : ∀ y, y ∈ fl ↔ Reach C x y := fun y => ⟨hre y, fun hy => by
        induction hy with
        | refl => exact hxf
        | step _ hqb ih =>
          obtain ⟨i, hi, e⟩ := List.mem_iff_getElem.mp ih
          refine hcl i hi _ ?_
          rw [List.getD_eq_getElem?_getD, List.getElem?_eq_getElem hi]
          show _ ∈ (plC C fl[i]).bs
          rw [e]
          exact hqb⟩
      have e1 : (fl.map fun y : Nat => V.int (y : Int)) = (fl.map fun y : Nat => (y : Int)).map V.int := by
        rw [List.map_map]
        rfl
      rw [e1] at hq3
      refine ⟨_, rfl, q, fl.map fun y : Nat => (y : Int), rfl, sq_of hq3, fun ns' p hp hs np => ?_⟩
      have hns := found_sorted hW hx hnd hall hp hs
      subst hns
      have gN := g3.trans (Gr.new (o := .lst (((reachL C x).map fun y : Nat => (y : Int)).map V.int)) g3.gi np)
      refine kQ _ _ _ gN ?_
      have e2 : ((reachL C x).map fun y : Nat => (y : Int)).map V.int = (reachL C x).map fun y : Nat => V.int (y : Int) := by
        rw [List.map_map]
        rfl
      rw [e2]
      exact Dt.list upd_same (DtA.nats _)

abbrev s_groups_of : Stmt := top 21
theorem sc_groups_of : FnScope ["chain", "reached", "groups", "x", "places", "y"] ["chain"] (defScope s_groups_of) := ⟨rfl, rfl, rfl, by decide +kernel, rfl, by decide +kernel, by decide +kernel⟩
theorem has_groups_of (T : Bt mg) (D : IsDef K mg "groups_of" s_groups_of ["chain"]) (U : Has P w K mg base 2 "reached_from" ["game", "start"] (spReach K)) : Has P w K mg base 3 "groups_of" ["chain"] (spGroups K) := by
  obtain ⟨f, fd, F, hm, hb⟩ := D
  obtain ⟨f_reached_from, fd_reached_from, G_reached_from, m_reached_from, k_reached_from, b_reached_from⟩ := U
  have sc := sc_groups_of
  refine ⟨f, fd, F.ok sc (fun vs H Q E x => ?_) (fun cdv A outer s h0 vs Q E hr hs => ?_), hm, F.kp, hb⟩
  · obtain ⟨b, C, _, hA, _⟩ := x
    exact hA.length
  obtain ⟨b, C, eb, hA, hW, kQ⟩ := hs
  refine ⟨_, (pss_cons (ps_set (i := 1) sc.nd rfl (by first | exact Or.inl rfl | exact Or.inr rfl) (pe_lc (own := [("x", 3)]) (tt := tYes) rfl sc.nd (pi_range1 (by rfl) T.range (pa_cons (pe_callB (len_K (K := K) rfl) (by rfl) T.len PySem.boot_len (pa_cons (pv 0) pa_nil)) pa_nil)) (blkOk_by (N := ["chain", "reached", "groups", "x", "places", "y"]) (sc := defScope s_groups_of) (by decide +kernel)) (fun _ _ _ _ _ => (pg_name (i := 3) sc.nd rfl (by first | exact Or.inl rfl | exact Or.inr rfl))) (fun _ _ _ _ _ => pts_nil) (fun _ _ _ _ _ => (pe_call G_reached_from (hr.mono (by decide)) rfl m_reached_from k_reached_from b_reached_from .nil pass0 (pa_cons (pv 0) (pa_cons (pv 3) pa_nil)))))) (pss_cons (ps_set (i := 2) sc.nd rfl (by first | exact Or.inl rfl | exact Or.inr rfl) (pe_lst pa_nil)) (pss_cons (ps_for PassesOwn.never rfl (pi_enumK (K := K) rfl (by rfl) T.enumerate (pa_cons (pv 1) pa_nil)) (pg_tupK (K := K) (n := 2) rfl rfl (pgs_cons (pg_name (i := 3) sc.nd rfl (by first | exact Or.inl rfl | exact Or.inr rfl)) (pgs_cons (pg_name (i := 4) sc.nd rfl (by first | exact Or.inl rfl | exact Or.inr rfl)) pgs_nil))) (pss_one (ps_if (PW.pt (pw_and (pt_cmpR op_eq (pe_ix (ix_listK (K := K) rfl) (pv 4) pe_int (fun _ _ => rfl)) (pv 3) (nomark _)) (pw_and1 (pt_val (pe_callB (all_K (K := K) rfl rfl) (by rfl) T.all (by decide +kernel) (pa_cons (pe_lc (own := [("y", 5)]) (tt := tYes) rfl sc.nd (pi_listK (K := K) rfl (pv 4)) (blkOk_by (N := ["chain", "reached", "groups", "x", "places", "y"]) (sc := defScope s_groups_of) (by decide +kernel)) (fun _ _ _ _ _ => (pg_name (i := 5) sc.nd rfl (by first | exact Or.inl rfl | exact Or.inr rfl))) (fun _ _ _ _ _ => pts_nil) (fun _ _ _ _ _ => (pe_cmpR (eqD_K (K := K) hr.units rfl) (pe_ix (ix_listK (K := K) rfl) (pv 1) (pv 5) (fun _ _ => rfl)) (pv 4) (nomark _)))) pa_nil)))))) (pss_one (ps_expr (pe_appK (K := K) rfl (pv 2) (pa_cons (pv 4) pa_nil)))) pss_nil))) (pss_one (ps_ret (pv 2)))))), ?_⟩
  obtain ⟨vC, rfl, hC⟩ : ∃ vC, vs = [vC] ∧ Dt K b vC (.list (C.map PlC.D)) := by
    cases hA with
    | cons h1 hA =>
      cases hA
      exact ⟨_, rfl, h1⟩
  have hC12 := hW.l12
  have hlen : ∀ {σ : L2.St} {b' : Hp}, Ex b b' → σ[0]? = some (some vC) → Ev (tCB (rLenS K) (tCons (tVar 0) tNil)) σ b' (.int (C.length : Int)) := fun {σ b'} e s => by
    have := ev_lenL (K := K) (ed_var (σ := σ) (k := 0) s (hC.up e))
    rwa [List.length_map] at this
  have hrl : ((List.range C.length).map fun y => natsD (reachL C y)) = givenD (C.length : Int).toNat (fun _ => true) (fun y => natsD (reachL C y)) := by rw [givenD_all, Int.toNat_natCast]
  refine r_set (K := K) (d := .list ((List.range C.length).map fun y => natsD (reachL C y))) (by
    rw [hrl]
    refine EN.ed (en_lcR (n := (C.length : Int)) (ea_cons (hlen (Ex.refl _) rfl) ea_nil) (by omega) _ _ (fun _ => rfl) fun y b4 e4 hy => ⟨et_yes, fun _ => ?_⟩)
    exact ed_reach (eda_cons (ed_var rfl (hC.up e4)) (eda_cons (ed_int (ev_var rfl)) eda_nil)) hW (by omega)) eb fun v1 b1 h1 g1 hv1 => ?_
  refine r_setN (K := K) (en_lst eda_nil (by decide)) g1.gi fun q us0 b3 h3 nq mq g3 hq hus0 => ?_
  cases hus0
  have G3 := g1.trans g3
  have oq : h0 q = none := fresh_back g1.gh nq
  have hrat : ∀ {y : Nat}, y < C.length → L2.atI ((List.range C.length).map fun y => natsD (reachL C y)) (y : Int) = some (natsD (reachL C y)) := fun {y} hy => atI_nat (by rw [List.getElem?_map, List.getElem?_range hy] <;> rfl)
  refine r_forE (K := K) (ds := (List.range C.length).map fun y => natsD (reachL C y)) (ed_var rfl (hv1.up g3.gb)) G3.gi fun b4 h4 g4 => ⟨fun m σ' h' => ∃ (us : List V) (u3 u4 : Option V) (b' : Hp), σ' = [some vC, some v1, some (.ref q), u3, u4, none] ∧ Gr b h0 b' h' ∧ Ex b4 b' ∧ b' q = none ∧ h' q = some (.lst us) ∧ DtA K b' us ((((List.range m).filter (isHead C (reachL C))).map (reachL C)).map natsD),
    ⟨[], none, none, b4, rfl, G3.trans g4, Ex.refl _, g4.gf q mq (by rw [hq]; intro z; cases z), g4.gh _ _ hq, DtA.nil⟩, fun m σ' h' p => ?_, ?_, ?_⟩
  · obtain ⟨_, _, _, b', _, g, e, _⟩ := p
    exact e.trans g.gi
  · rintro m dd xv σ' h' h5 hd' hx ⟨us, u6, u7, b', rfl, gi, eB, nqb, hq', hus⟩ e5
    have hml : m < C.length := by
      have := (List.getElem?_eq_some_iff.mp hd').1
      rwa [List.length_map, List.length_range] at this
    rw [List.getElem?_map, List.getElem?_range hml] at hd'
    cases hd'
    have hul : us.length ≤ m := by
      rw [hus.length, List.length_map, List.length_map]
      have := List.length_filter_le (isHead C (reachL C)) (List.range m)
      rwa [List.length_range] at this
    have GI := gi.trans (Gr.stay gi.gi e5)
    have hq5 := e5 _ _ hq'
    have hrow : Dt K b' xv (natsD (reachL C m)) := hx.up eB
    have hvR : Dt K b' v1 (.list ((List.range C.length).map fun y => natsD (reachL C y))) := ((hv1.up g3.gb).up g4.gb).up eB
    have hself := self_mem hW hml
    have hhead : L2.atI ((reachL C m).map fun y : Nat => PyData.int (y : Int)) 0 = some (.int (((reachL C m).getD 0 0 : Nat) : Int)) := by
      cases e : reachL C m with
      | nil => rw [e] at hself; cases hself
      | cons z L =>
        show L2.atI _ ((0 : Nat) : Int) = _
        exact atI_nat rfl
    have hrl2 : (reachL C m).length ≤ 40000 := by
      have h1 : (reachL C m).length ≤ (List.range C.length).length := List.length_filter_le _ _
      rw [List.length_range] at h1
      omega
    refine r_if1 (b := b') (c := isHead C (reachL C) m) (et_and (a := (reachL C m).getD 0 0 == m) (b := (reachL C m).all fun y => reachL C y == reachL C m) (et_is (et_test (ev_op (ev_int (ed_ixL (K := K) (ds := (reachL C m).map fun y : Nat => PyData.int (y : Int)) (ed_var rfl hrow) ev_c hhead)) (ev_var rfl) (rv_eq rfl))) ?_) fun _ => ?_) GI.gi (fun hc h6 g6 => ?_) (fun hc h6 g6 => ?_)
    · rw [Bool.eq_iff_iff, decide_eq_true_iff, beq_iff_eq]
      exact ⟨fun z => by injection z with z; omega, fun z => by rw [z]⟩
    · have hall : ((reachL C m).all fun y => reachL C y == reachL C m) = (((reachL C m).map fun y => decide (reachL C y = reachL C m)).all id) := by
        rw [List.all_map]
        refine congrArg (fun p => List.all (reachL C m) p) ?_
        funext y
        show (reachL C y == reachL C m) = decide _
        rw [Bool.eq_iff_iff, decide_eq_true_iff, beq_iff_eq]
      rw [hall]
      refine et_B (ev_all ?_)
      rw [List.map_map]
      refine EN.ed (en_mapD (D := fun y : Nat => PyData.int (y : Int)) (ed_var rfl hrow) hrl2 (fun _ => rfl) fun y hy v' b6 e6 hv' => ?_)
      obtain rfl := hv'.intI
      exact ed_bool (ev_eqNats (ed_ixL (ed_var rfl (hvR.up e6)) (ev_var rfl) (hrat (reach_lt hy))) (ed_var rfl (hrow.up e6)))
    · refine r_app1 (K := K) (d := natsD (reachL C m)) (g6.gh _ _ hq5) (ev_var rfl) (ed_var rfl hrow) (GI.trans g6).gi nqb (by omega) fun v b9 h9 g9 nq9 hq9 hv => ?_
      refine ⟨us ++ [v], _, _, b9, rfl, ((GI.trans g6).trans g9).mut oq nq9, eB.trans g9.gb, nq9, upd_same, ?_⟩
      rw [List.range_succ, List.filter_append, List.map_append, List.map_append]
      have : [m].filter (isHead C (reachL C)) = [m] := by
        rw [List.filter_cons, if_pos hc]
        rfl
      rw [this]
      exact (hus.up g9.gb).append (DtA.one hv)
    · refine ⟨us, _, _, b', rfl, GI.trans g6, eB, nqb, g6.gh _ _ hq5, ?_⟩
      rw [List.range_succ, List.filter_append]
      have : [m].filter (isHead C (reachL C)) = [] := by
        rw [List.filter_cons, if_neg (by rw [hc]; decide)]
        rfl
      rw [this, List.append_nil]
      exact hus
  · rintro σ' h' ⟨us, u6, u7, b', rfl, gi, eB, nqb, hq', hus⟩
    rw [List.length_map, List.length_range] at hus
    exact ⟨_, rfl, kQ _ (upd b' q (.lst us)) h' (gi.tell oq nqb hq') (Dt.list upd_same (hus.up (Ex.new nqb)))⟩
abbrev s_passing_places : Stmt := top 22
theorem sc_passing_places : FnScope ["chain", "staying", "group", "x"] ["chain"] (defScope s_passing_places) := ⟨rfl, rfl, rfl, by decide +kernel, rfl, by decide +kernel, by decide +kernel⟩
theorem has_passing_places (T : Bt mg) (D : IsDef K mg "passing_places" s_passing_places ["chain"]) (U : Has P w K mg base 3 "groups_of" ["chain"] (spGroups K)) : Has P w K mg base 4 "passing_places" ["chain"] (spPass K) := by
  obtain ⟨f, fd, F, hm, hb⟩ := D
  obtain ⟨f_groups_of, fd_groups_of, G_groups_of, m_groups_of, k_groups_of, b_groups_of⟩ := U
  have sc := sc_passing_places
  refine ⟨f, fd, F.ok sc (fun vs H Q E x => ?_) (fun cdv A outer s h0 vs Q E hr hs => ?_), hm, F.kp, hb⟩
  · obtain ⟨b, C, _, hA, _⟩ := x
    exact hA.length
  obtain ⟨b, C, eb, hA, hW, kQ⟩ := hs
  refine ⟨_, (pss_cons (ps_set (i := 1) sc.nd rfl (by first | exact Or.inl rfl | exact Or.inr rfl) (pe_lc2 (own := [("group", 2), ("x", 3)]) (vs1 := [3]) (tt := tYes) (tt1 := tYes) rfl sc.nd (pi_listK (K := K) rfl (pe_call G_groups_of (hr.mono (by decide)) rfl m_groups_of k_groups_of b_groups_of .nil pass0 (pa_cons (pv 0) pa_nil))) (blkOk_by (N := ["chain", "staying", "group", "x"]) (sc := defScope s_passing_places) (by decide +kernel)) (by decide) (fun _ _ _ _ _ => (pg_name (i := 2) sc.nd rfl (by first | exact Or.inl rfl | exact Or.inr rfl))) (fun _ _ _ _ _ => pts_nil) (fun _ _ _ _ _ => (pi_listK (K := K) rfl (pv 2))) (fun _ _ _ _ _ => (pg_name (i := 3) sc.nd rfl (by first | exact Or.inl rfl | exact Or.inr rfl))) (fun _ _ _ _ _ => pts_nil) (fun _ _ _ _ _ => (pv 3)))) (pss_one (ps_ret (pe_lc (own := [("x", 3)]) (tt := _) rfl sc.nd (pi_range1 (by rfl) T.range (pa_cons (pe_callB (len_K (K := K) rfl) (by rfl) T.len PySem.boot_len (pa_cons (pv 0) pa_nil)) pa_nil)) (blkOk_by (N := ["chain", "staying", "group", "x"]) (sc := defScope s_passing_places) (by decide +kernel)) (fun _ _ _ _ _ => (pg_name (i := 3) sc.nd rfl (by first | exact Or.inl rfl | exact Or.inr rfl))) (fun _ _ _ _ _ => (pts_one (pt_cmpR (niS_K (K := K) rfl) (pv 3) (pv 1) (by rfl)))) (fun _ _ _ _ _ => (pv 3)))))), ?_⟩
  obtain ⟨vC, rfl, hC⟩ : ∃ vC, vs = [vC] ∧ Dt K b vC (.list (C.map PlC.D)) := by
    cases hA with
    | cons h1 hA =>
      cases hA
      exact ⟨_, rfl, h1⟩
  have hC12 := hW.l12
  have hgl : (groupsL C).length ≤ 100 := by
    unfold groupsL headsL
    rw [List.length_map]
    have := List.length_filter_le (isHead C (reachL C)) (List.range C.length)
    rw [List.length_range] at this
    omega
  have hgm : ∀ i, ((groupsL C).getD i []).length ≤ 100 := fun i => by
    rcases Nat.lt_or_ge i (groupsL C).length with z | z
    · have hm : (groupsL C).getD i [] ∈ groupsL C := by
        rw [List.getD_eq_getElem?_getD, List.getElem?_eq_getElem z]
        exact List.getElem_mem z
      obtain ⟨x, _, e⟩ := List.mem_map.mp hm
      rw [← e]
      have h1 : (reachL C x).length ≤ (List.range C.length).length := List.length_filter_le _ _
      rw [List.length_range] at h1
      omega
    · rw [List.getD_eq_getElem?_getD, List.getElem?_eq_none z]
      exact Nat.zero_le _
  have hfl : natsD (groupsL C).flatten = .list ((List.range ((groupsL C).map natsD).length).map fun i => (((groupsL C).getD i []).map fun y : Nat => PyData.int (y : Int)).map id).flatten := by
    unfold natsD
    rw [List.length_map, map_getDn (groupsL C) [] (fun l => (l.map fun y : Nat => PyData.int (y : Int)).map id), List.map_flatten]
    congr 2
    refine List.map_congr_left fun l _ => ?_
    rw [List.map_id]
  refine r_set (K := K) (d := natsD (groupsL C).flatten) (by
    rw [hfl]
    refine EN.ed (en_lc2 (K := K) (ds := (groupsL C).map natsD) (ed_groups (eda_cons (ed_var rfl hC) eda_nil) hW) (by rw [List.length_map]; exact hgl) (fun i => ((groupsL C).getD i []).map fun y : Nat => PyData.int (y : Int)) id (fun i => by rw [List.length_map]; exact hgm i) fun i d x b2 h2 e1 e2 hd hx Q k => ?_)
    have hi : i < (groupsL C).length := by
      have := (List.getElem?_eq_some_iff.mp hd).1
      rwa [List.length_map] at this
    have hgi : (groupsL C)[i]? = some ((groupsL C).getD i []) := by
      rw [List.getD_eq_getElem?_getD, List.getElem?_eq_getElem hi]
      rfl
    rw [List.getElem?_map, hgi] at hd
    cases hd
    exact k _ rfl (ed_var rfl hx) fun j e y b3 h3 e3 e4 he hy Q1 k1 => k1 _ rfl (ed_var rfl hy)) eb fun v1 b1 h1 g1 hv1 => ?_
  have hlen : Ev (tCB (rLenS K) (tCons (tVar 0) tNil)) [some vC, some v1, none, none] b1 (.int (C.length : Int)) := by
    have := ev_lenL (K := K) (ed_var (σ := [some vC, some v1, none, none]) (k := 0) rfl (hC.up g1.gb))
    rwa [List.length_map] at this
  have hpd : natsD (passL C) = .list (givenD (C.length : Int).toNat (fun x => !decide (x ∈ (groupsL C).flatten)) (fun i => PyData.int (i : Int))) := by
    rw [Int.toNat_natCast]
    unfold natsD passL givenD
    rfl
  refine r_ret (K := K) (d := natsD (passL C)) ?_ g1.gi fun v b' h' g hv => kQ v b' h' (g1.trans g) hv
  rw [hpd]
  refine EN.ed (en_lcR (n := (C.length : Int)) (ea_cons hlen ea_nil) (by omega) _ _ (fun _ => rfl) fun y b4 e4 hy => ⟨?_, fun _ => ed_int (ev_var rfl)⟩)
  exact et_test (ev_inN (neg := true) (l := (groupsL C).flatten) (x := y) (ev_var rfl) (ed_var rfl (hv1.up e4)))

abbrev s_divided : Stmt := top 8
theorem sc_divided : FnScope ["a", "b"] ["a", "b"] (defScope s_divided) := ⟨rfl, rfl, rfl, by decide +kernel, rfl, by decide +kernel, by decide +kernel⟩
theorem has_divided (D : IsDef K mg "divided" s_divided ["a", "b"]) (U : Has P w K mg base 1 "lowest" ["n", "d"] (spLowest K)) : Has P w K mg base 2 "divided" ["a", "b"] (spDivB K) := by
  obtain ⟨f, fd, F, hm, hb⟩ := D
  obtain ⟨f_lowest, fd_lowest, G_lowest, m_lowest, k_lowest, b_lowest⟩ := U
  have sc := sc_divided
  refine ⟨f, fd, F.ok sc (fun vs H Q E x => ?_) (fun cdv A outer s h0 vs Q E hr hs => ?_), hm, F.kp, hb⟩
  · obtain ⟨b, p, q, _, hA, _⟩ := x
    exact hA.length
  obtain ⟨b, p, q, eb, hA, rp, rq, q0, bp, bq, k⟩ := hs
  refine ⟨_, (pss_one (ps_ret (pe_call G_lowest (hr.mono (by decide)) rfl m_lowest k_lowest b_lowest .nil pass0 (pa_cons (pe_op op_mulW (pe_ix (ix_tupK (K := K) rfl) (pv 0) pe_int (fun _ _ => rfl)) (pe_ix (ix_tupK (K := K) rfl) (pv 1) pe_int (fun _ _ => rfl))) (pa_cons (pe_op op_mulW (pe_ix (ix_tupK (K := K) rfl) (pv 0) pe_int (fun _ _ => rfl)) (pe_ix (ix_tupK (K := K) rfl) (pv 1) pe_int (fun _ _ => rfl))) pa_nil))))), ?_⟩
  obtain ⟨va, vb, rfl, ha, hb2⟩ : ∃ va vb, vs = [va, vb] ∧ Dt K b va (nD p) ∧ Dt K b vb (nD q) := by
    cases hA with
    | cons h1 h2 =>
      cases h2 with
      | cons h3 h4 =>
        cases h4
        exact ⟨_, _, rfl, h1, h3⟩
  have A0 : ∀ {σ : L2.St}, σ[0]? = some (some va) → Ev (tOp (rIxT K) (tVar 0) (tC (V.int 0))) σ b (.int p.1) := fun s => ev_num0 (ed_var s ha)
  have A1 : ∀ {σ : L2.St}, σ[0]? = some (some va) → Ev (tOp (rIxT K) (tVar 0) (tC (V.int 1))) σ b (.int p.2) := fun s => ev_num1 (ed_var s ha)
  have B0 : ∀ {σ : L2.St}, σ[1]? = some (some vb) → Ev (tOp (rIxT K) (tVar 1) (tC (V.int 0))) σ b (.int q.1) := fun s => ev_num0 (ed_var s hb2)
  have B1 : ∀ {σ : L2.St}, σ[1]? = some (some vb) → Ev (tOp (rIxT K) (tVar 1) (tC (V.int 1))) σ b (.int q.2) := fun s => ev_num1 (ed_var s hb2)
  have w2000 : ∀ {z : Int}, z.natAbs < 2 ^ 3000 → z.natAbs < 2 ^ 4000 := fun h => Nat.lt_of_lt_of_le h (Nat.pow_le_pow_right (by decide) (by decide))
  have hpos : 0 < p.2 * q.1 := Int.mul_pos (by have := rp.1; omega) q0
  have hlt : (p.2 * q.1).natAbs < 2 ^ (3000 + 3000) := by rw [Int.natAbs_mul]; exact pow_mul_lt bp.2 bq.1
  refine r_ret (K := K) (d := nD (divN p q)) (ed_lowest (ev_op (A0 rfl) (B1 rfl) (rv_I (cmulL (w2000 bp.1) (w2000 bq.2)))) (ev_op (A1 rfl) (B0 rfl) (rv_I (cmulL (w2000 bp.2) (w2000 bq.1)))) hpos (Nat.lt_of_lt_of_le hlt (Nat.pow_le_pow_right (by decide) (by decide)))) eb fun v b' h' g hv => k v b' h' g hv

abbrev s_minus : Stmt := top 6
theorem sc_minus : FnScope ["a", "b"] ["a", "b"] (defScope s_minus) := ⟨rfl, rfl, rfl, by decide +kernel, rfl, by decide +kernel, by decide +kernel⟩
theorem has_minusR (D : IsDef K mg "minus" s_minus ["a", "b"]) (U : Has P w K mg base 1 "lowest" ["n", "d"] (spLowest K)) : Has P w K mg base 2 "minus" ["a", "b"] (spMinusR K) := by
  obtain ⟨f, fd, F, hm, hb⟩ := D
  obtain ⟨f_lowest, fd_lowest, G_lowest, m_lowest, k_lowest, b_lowest⟩ := U
  have sc := sc_minus
  refine ⟨f, fd, F.ok sc (fun vs H Q E x => ?_) (fun cdv A outer s h0 vs Q E hr hs => ?_), hm, F.kp, hb⟩
  · obtain ⟨b, r, s, _, hA, _⟩ := x
    exact hA.length
  obtain ⟨b, r, s, eb, hA, h1, h2, kQ⟩ := hs
  refine ⟨_, (pss_one (ps_ret (pe_call G_lowest (hr.mono (by decide)) rfl m_lowest k_lowest b_lowest .nil pass0 (pa_cons (pe_op op_sub (pe_op op_mulW (pe_ix (ix_tupK (K := K) rfl) (pv 0) pe_int (fun _ _ => rfl)) (pe_ix (ix_tupK (K := K) rfl) (pv 1) pe_int (fun _ _ => rfl))) (pe_op op_mulW (pe_ix (ix_tupK (K := K) rfl) (pv 1) pe_int (fun _ _ => rfl)) (pe_ix (ix_tupK (K := K) rfl) (pv 0) pe_int (fun _ _ => rfl)))) (pa_cons (pe_op op_mulW (pe_ix (ix_tupK (K := K) rfl) (pv 0) pe_int (fun _ _ => rfl)) (pe_ix (ix_tupK (K := K) rfl) (pv 1) pe_int (fun _ _ => rfl))) pa_nil))))), ?_⟩
  obtain ⟨va, vb, rfl, ha, hb2⟩ : ∃ va vb, vs = [va, vb] ∧ Dt K b va (nD (canon r)) ∧ Dt K b vb (nD (canon s)) := by
    cases hA with
    | cons h1 h2 =>
      cases h2 with
      | cons h3 h4 =>
        cases h4
        exact ⟨_, _, rfl, h1, h3⟩
  have A0 : ∀ {σ : L2.St}, σ[0]? = some (some va) → Ev (tOp (rIxT K) (tVar 0) (tC (V.int 0))) σ b (.int (canon r).1) := fun s => ev_num0 (ed_var s ha)
  have A1 : ∀ {σ : L2.St}, σ[0]? = some (some va) → Ev (tOp (rIxT K) (tVar 0) (tC (V.int 1))) σ b (.int (canon r).2) := fun s => ev_num1 (ed_var s ha)
  have B0 : ∀ {σ : L2.St}, σ[1]? = some (some vb) → Ev (tOp (rIxT K) (tVar 1) (tC (V.int 0))) σ b (.int (canon s).1) := fun s => ev_num0 (ed_var s hb2)
  have B1 : ∀ {σ : L2.St}, σ[1]? = some (some vb) → Ev (tOp (rIxT K) (tVar 1) (tC (V.int 1))) σ b (.int (canon s).2) := fun s => ev_num1 (ed_var s hb2)
  have w4 : ∀ {z : Int}, z.natAbs < 2 ^ 3000 → z.natAbs < 2 ^ 4000 := fun h => Nat.lt_of_lt_of_le h (Nat.pow_le_pow_right (by decide) (by decide))
  have p1 := (canon_red r).1
  have p2 := (canon_red s).1
  have hpos : 0 < (canon r).2 * (canon s).2 := Int.mul_pos (by omega) (by omega)
  have hlt : ((canon r).2 * (canon s).2).natAbs < 2 ^ (3000 + 3000) := by rw [Int.natAbs_mul]; exact pow_mul_lt h1.2 h2.2
  have e : nD (num ((canon r).1 * (canon s).2 - (canon s).1 * (canon r).2) ((canon r).2 * (canon s).2)) = nQ (r - s) := by
    show nD (num _ _) = nD (canon _)
    rw [num_canon hpos, Rat.intCast_sub, Rat.intCast_mul, Rat.intCast_mul, Rat.intCast_mul]
    congr 2
    have a := q_canon r
    have c := q_canon s
    unfold qN at a c
    have n1 : (((canon r).2 : Int) : Rat) ≠ 0 := cast_ne (by omega)
    have n2 : (((canon s).2 : Int) : Rat) ≠ 0 := cast_ne (by omega)
    generalize (((canon r).1 : Int) : Rat) = A at *
    generalize (((canon r).2 : Int) : Rat) = A2 at *
    generalize (((canon s).1 : Int) : Rat) = S at *
    generalize (((canon s).2 : Int) : Rat) = S2 at *
    rw [← a, ← c]
    grind
  refine r_ret (K := K) (d := nQ (r - s)) (by
    rw [← e]
    exact ed_lowest (ev_op (ev_op (A0 rfl) (B1 rfl) (rv_I (cmulL (w4 h1.1) (w4 h2.2)))) (ev_op (B0 rfl) (A1 rfl) (rv_I (cmulL (w4 h2.1) (w4 h1.2)))) rv_I0) (ev_op (A1 rfl) (B1 rfl) (rv_I (cmulL (w4 h1.2) (w4 h2.2)))) hpos (Nat.lt_of_lt_of_le hlt (Nat.pow_le_pow_right (by decide) (by decide)))) eb fun v b' h' g hv => kQ v b' h' g hv

theorem has_solvedS (T : Bt mg) (D : IsDef K mg "solved" s_solved ["rows", "constants"]) (U1 : Has P w K mg base 1 "common_denominator" ["numbers"] (spDen K)) (U2 : Has P w K mg base 1 "whole_at" ["number", "denominator"] (spWhA K)) (U3 : Has P w K mg base 1 "_cleared" ["table", "k", "before"] (spCleared K)) (U4 : Has P w K mg base 1 "lowest" ["n", "d"] (spLowest K)) :
    Has P w K mg base 2 "solved" ["rows", "constants"] (spSolvedS K) := by
  obtain ⟨f, fd, F, hm, hb⟩ := D
  obtain ⟨f_common_denominator, fd_common_denominator, G_common_denominator, m_common_denominator, k_common_denominator, b_common_denominator⟩ := U1
  obtain ⟨f_whole_at, fd_whole_at, G_whole_at, m_whole_at, k_whole_at, b_whole_at⟩ := U2
  obtain ⟨f__cleared, fd__cleared, G__cleared, m__cleared, k__cleared, b__cleared⟩ := U3
  obtain ⟨f_lowest, fd_lowest, G_lowest, m_lowest, k_lowest, b_lowest⟩ := U4
  have sc := sc_solved
  refine ⟨f, fd, F.ok sc (fun vs H Q E x => ?_) (fun cdv A outer s h0 vs Q E hr hs => ?_), hm, F.kp, hb⟩
  · obtain ⟨b, C, L, kx, M, B, _, hA, _⟩ := x
    exact hA.length
  obtain ⟨b, C, L, kx, M, B, eb, hA, hW, hLn, hL12, hL, hO, hM, hB, hMB, hk, kQ⟩ := hs
  refine ⟨_, (pss_cons (ps_set (i := 2) sc.nd rfl (by first | exact Or.inl rfl | exact Or.inr rfl) (pe_call G_common_denominator (hr.mono (by decide)) rfl m_common_denominator k_common_denominator b_common_denominator .nil pass0 (pa_cons (pv 1) pa_nil))) (pss_cons (ps_setLc (i := 3) (own := [("row", 6), ("number", 7)]) (tt := tYes) rfl sc.nd rfl rfl (sw_true rfl rfl rfl (by decide +kernel)) (pi_zipK (K := K) rfl (by rfl) T.zip (pa_cons (pv 0) (pa_cons (pv 1) pa_nil))) (blkOk_by (N := ["rows", "constants", "unit", "table", "pivot", "k", "row", "number"]) (sc := defScope s_solved) (by decide +kernel)) (fun _ _ _ _ _ => (pg_tupK (K := K) (n := 2) rfl rfl (pgs_cons (pg_name (i := 6) sc.nd rfl (by first | exact Or.inl rfl | exact Or.inr rfl)) (pgs_cons (pg_name (i := 7) sc.nd rfl (by first | exact Or.inl rfl | exact Or.inr rfl)) pgs_nil)))) (fun _ _ _ _ _ => pts_nil) (fun _ _ _ _ _ => (pe_op op_cat (pv 6) (pe_lst (pa_cons (pe_call G_whole_at (hr.mono (by decide)) rfl m_whole_at k_whole_at b_whole_at .nil pass0 (pa_cons (pv 7) (pa_cons (pv 2) pa_nil))) pa_nil))))) (pss_cons (ps_set (i := 4) sc.nd rfl (by first | exact Or.inl rfl | exact Or.inr rfl) pe_int) (pss_cons (ps_for PassesOwn.never rfl (pi_range1 (by rfl) T.range (pa_cons (pe_callB (len_K (K := K) rfl) (by rfl) T.len PySem.boot_len (pa_cons (pv 0) pa_nil)) pa_nil)) (pg_name (i := 5) sc.nd rfl (by first | exact Or.inl rfl | exact Or.inr rfl)) (pss_cons (ps_set (i := 3) sc.nd rfl (by first | exact Or.inl rfl | exact Or.inr rfl) (pe_call G__cleared (hr.mono (by decide)) rfl m__cleared k__cleared b__cleared .nil pass0 (pa_cons (pv 3) (pa_cons (pv 5) (pa_cons (pv 4) pa_nil))))) (pss_one (ps_set (i := 4) sc.nd rfl (by first | exact Or.inl rfl | exact Or.inr rfl) (pe_ix (ix_listK (K := K) rfl) (pe_ix (ix_listK (K := K) rfl) (pv 3) (pv 5) (fun _ _ => rfl)) (pv 5) (fun _ _ => rfl)))))) (pss_one (ps_ret (pe_lc (own := [("row", 6)]) (tt := tYes) rfl sc.nd (pi_listK (K := K) rfl (pv 3)) (blkOk_by (N := ["rows", "constants", "unit", "table", "pivot", "k", "row", "number"]) (sc := defScope s_solved) (by decide +kernel)) (fun _ _ _ _ _ => (pg_name (i := 6) sc.nd rfl (by first | exact Or.inl rfl | exact Or.inr rfl))) (fun _ _ _ _ _ => pts_nil) (fun _ _ _ _ _ => (pe_call G_lowest (hr.mono (by decide)) rfl m_lowest k_lowest b_lowest .nil pass0 (pa_cons (pe_ix (ix_listK (K := K) rfl) (pv 6) (pe_un un_neg pe_int) (fun _ _ => rfl)) (pa_cons (pe_op op_mulW (pv 4) (pv 2)) pa_nil))))))))))), ?_⟩
  obtain ⟨vR, vC, rfl, hR, hC⟩ : ∃ vR vC, vs = [vR, vC] ∧ Dt K b vR (.list (L.map fun x => intsD (L.map (rowZ C L x)))) ∧ Dt K b vC (numsD (L.map fun x => canon (kx x))) := by
    cases hA with
    | cons h1 hA =>
      cases hA with
      | cons h2 hA =>
        cases hA
        refine ⟨_, _, rfl, h1, ?_⟩
        have e : ratsD (L.map kx) = numsD (L.map fun x => canon (kx x)) := by
          unfold ratsD numsD
          rw [List.map_map, List.map_map]
          rfl
        rw [← e]
        exact h2
  obtain ⟨u1, u2, u3, u4⟩ := matA_bdS hW hL hk hM hB hMB
  have hM1500 : M < 2 ^ 1500 := Nat.lt_of_le_of_lt (Nat.le_mul_of_pos_left M hB) hMB
  have hU1500 : unitK L kx < 2 ^ 1500 := Nat.lt_of_le_of_lt (Nat.le_of_dvd hM u1) hM1500
  have up : ∀ {z j : Nat}, z < 2 ^ 1500 → 1500 ≤ j → z < 2 ^ j := fun h hj => Nat.lt_of_lt_of_le h (Nat.pow_le_pow_right (by decide) hj)
  refine r_sc (b := b) (v := .int ((unitK L kx : Nat) : Int)) (ev_den (eda_cons (ed_var rfl hC) eda_nil) (fun c hc => by
    obtain ⟨x, hx, rfl⟩ := List.mem_map.mp hc
    exact (canon_red _).1) (up hU1500 (by decide))) eb fun h1 g1 => ?_
  generalize hUe : unitK L kx = U at *
  have hcan : ∀ x ∈ L, (canon (kx x)).1.natAbs < 2 ^ 1500 ∧ (canon (kx x)).2.natAbs < 2 ^ 1500 := fun x hx => (hk x hx).big hM hB hMB
  have htab : givenD L.length (fun _ => true) (rowD L.length (matA C L (placeK L kx) U)) = (List.range L.length).map (rowD L.length (matA C L (placeK L kx) U)) := givenD_all _ _
  refine r_set (K := K) (d := tabD L.length (matA C L (placeK L kx) U)) (by
    unfold tabD
    rw [← htab]
    refine EN.ed (en_lcZ (ed_var rfl hR) (ed_var rfl hC) (by rw [List.length_map, List.length_map, List.length_map, Nat.min_self]) (by omega) _ _ (fun _ _ => rfl) fun r d1 d2 w1 w2 b8 e8 hd1 hd2 hw1 hw2 => ⟨et_yes, fun _ => ?_⟩)
    have hr : r < L.length := by
      have := (List.getElem?_eq_some_iff.mp hd1).1
      rwa [List.length_map] at this
    have hLr : L[r]? = some (L.getD r 0) := by
      rw [List.getD_eq_getElem?_getD, List.getElem?_eq_getElem hr]
      rfl
    rw [List.getElem?_map, hLr] at hd1
    rw [List.getElem?_map, List.getElem?_map, hLr] at hd2
    cases hd1
    cases hd2
    have hx := getD_mem hr
    obtain ⟨c1, c2⟩ := hcan _ hx
    have er : rowD L.length (matA C L (placeK L kx) U) r = .list ((L.map (rowZ C L (L.getD r 0))).map PyData.int ++ [PyData.int ((canon (kx (L.getD r 0))).1 * ((U : Int) / (canon (kx (L.getD r 0))).2))]) := by
      unfold rowD
      rw [← mat_row hr]
      rfl
    rw [er]
    exact EN.ed (en_cat (ed_var rfl hw1) (EN.ed (en_lst (eda_cons (ed_int (ev_whA (eda_cons (ed_var rfl hw2) (eda_cons (ed_int (ev_var rfl)) eda_nil)) (canon_red _).1 (up c1 (by decide)) (up c2 (by decide)) (by rw [Int.natAbs_natCast]; exact up hU1500 (by decide)))) eda_nil) (by show 1 ≤ 100000; decide))) (by rw [List.length_map, List.length_map]; show _ + 1 ≤ 100000; omega))) g1.gi fun v3 b2 h2 g2 hv3 => ?_
  have G2 := g1.trans g2
  refine r_sc (b := b2) (v := .int 1) ev_c G2.gi fun h3 g3 => ?_
  have G3 := G2.trans g3
  have hlenR : ∀ {σ : L2.St} {b' : Hp}, Ex b b' → σ[0]? = some (some vR) → Ev (tCB (rLenS K) (tCons (tVar 0) tNil)) σ b' (.int (L.length : Int)) := fun {σ b'} e s => by
    have := ev_lenL (K := K) (ed_var (σ := σ) (k := 0) s (hR.up e))
    rwa [List.length_map] at this
  have bnd : ∀ {k : Nat} {TT : Nat → Nat → Int} {d : Int}, k ≤ L.length → Elim L.length (matA C L (placeK L kx) U) k TT d → d.natAbs < 2 ^ 9000 ∧ d ≤ ((4320 ^ 12 : Nat) : Int) ∧ ∀ j l, j < L.length → l ≤ L.length → (TT j l).natAbs < 2 ^ 20000 := fun {k TT d} hk' hE => by
    have hd := elim_d hE hL12 hk' (B := 360) (by decide) fun r l h1 h2 => by
      rw [matA_lo h2]
      exact rowZ_bd hW L (hL _ (getD_mem h1)) _
    have e288 : (12 * 360) ^ 12 = 4320 ^ 12 := by decide
    rw [e288] at hd
    have hp := hE.pos
    refine ⟨Nat.lt_of_le_of_lt (show d.natAbs ≤ 4320 ^ 12 by omega) (Nat.lt_of_lt_of_le (by decide : 4320 ^ 12 < 2 ^ 146) (Nat.pow_le_pow_right (by decide) (by decide))), hd, fun j l hj hl => ?_⟩
    have := elim_bd hE hL12 hk' (B := 2 ^ 1500) (Nat.two_pow_pos _) u4 hj hl
    exact Nat.lt_of_le_of_lt this (by decide +kernel)
  refine s_forR1 (H := h3) (n := (L.length : Int)) (ea_cons (Ev.mono g3.gi (hlenR (g2.gb) rfl)) ea_nil) (by omega) (fun k σ' h' => ∃ (TT : Nat → Nat → Int) (d : Int) (v3 : V) (u5 : Option V) (b' : Hp), σ' = [some vR, some vC, some (.int (U : Int)), some v3, some (.int d), u5, none, none] ∧ Gr b h0 b' h' ∧ Dt K b' v3 (tabD L.length TT) ∧ Elim L.length (matA C L (placeK L kx) U) k TT d)
    (fun h e => ⟨_, 1, v3, none, b2, rfl, G3.trans (Gr.stay G3.gi e), hv3, elim_start _ _⟩) ?_ ?_
  · rintro k σ' h' hk' ⟨TT, d, v3, u5, b', rfl, gi, hv3, hE⟩
    have hkn : k < L.length := by omega
    have hp := pivot_pos hW hLn hL hO hE hkn
    obtain ⟨hE2, hdv⟩ := elim_step hE hkn hp
    obtain ⟨b1', b2', b3'⟩ := bnd (Nat.le_of_lt hkn) hE
    refine r_set (K := K) (ed_cleared (eda_cons (ed_var rfl hv3) (eda_cons (ed_int (ev_var rfl)) (eda_cons (ed_int (ev_var rfl)) eda_nil))) hL12 hkn hE.pos b1' b3') gi.gi fun v4 b4 h4 g4 hv4 => ?_
    have hpk : elimT k TT d k k = TT k k := if_pos rfl
    refine Evl.s_asg (H := h4) (v := .int (TT k k)) (by
      rw [← hpk]
      exact Ev.mono g4.gi (ev_int (ed_ixL (K := K) (b := b4) (ds := (List.range (L.length + 1)).map fun l => PyData.int (elimT k TT d k l)) (ed_ixL (ed_var rfl hv4) (ev_var rfl) (tab_at hkn)) (ev_var rfl) (row_at (Nat.le_of_lt hkn))))) fun h5 e5 => ?_
    exact ⟨_, _, v4, _, b4, rfl, (gi.trans g4).trans (Gr.stay (gi.trans g4).gi e5), hv4, hE2⟩
  · rintro σ' h' ⟨TT, d, v3, u5, b', rfl, gi, hv3, hE⟩
    rw [Int.toNat_natCast] at hE
    refine L2.st_next ?_
    dsimp only
    obtain ⟨b1', b2', b3'⟩ := bnd (Nat.le_refl _) hE
    have hdU : 0 < d * (U : Int) := Int.mul_pos hE.pos (by omega)
    have hfl : ((List.range L.length).map fun j => nD (num (TT j L.length) (d * (U : Int)))) = ((List.range L.length).map fun j => qa TT j L.length / ((d : Rat) * natR U)).map nQ := by
      rw [List.map_map]
      refine List.map_congr_left fun j _ => ?_
      show nD (num _ _) = nD (canon _)
      rw [num_canon hdU, Rat.intCast_mul]
      rfl
    refine r_ret (K := K) (d := ratsD ((List.range L.length).map fun j => qa TT j L.length / ((d : Rat) * natR U))) (by
      unfold ratsD
      rw [← hfl]
      refine EN.ed (en_mapD (D := rowD L.length TT) (l := List.range L.length) (ed_var rfl hv3) (by rw [List.length_range]; omega) (fun _ => rfl) fun j hj v b8 e8 hv => ?_)
      refine ed_lowest (ev_int (ed_ixL (ed_var rfl hv) (ev_un ev_c ru_neg) last_at)) (ev_op (ev_var rfl) (ev_var rfl) (rv_I (wide_mul (a := 9000) (b := 9000) b1' (by rw [Int.natAbs_natCast]; exact up hU1500 (by decide)) (by decide) (by decide) (by decide)))) hdU ?_
      rw [Int.natAbs_mul, Int.natAbs_natCast]
      have hdn : d.natAbs ≤ 2 ^ 146 := by
        have : 4320 ^ 12 ≤ 2 ^ 146 := by decide
        have := hE.pos
        omega
      exact Nat.lt_of_lt_of_le (lt_pow_mul (Nat.le_refl _) hdn hU1500) (Nat.pow_le_pow_right (by decide) (by decide))) gi.gi fun v b8 h8 g8 hv => ?_
    exact kQ v b8 h8 TT d (gi.trans g8) hE hv


theorem has_row_of_o (T : Bt mg) (D : IsDef K mg "_row_of" s__row_of ["chain", "x", "places", "scale", "discount"]) (U : Has P w K mg base 1 "whole_at" ["number", "denominator"] (spWhA K)) : Has P w K mg base 2 "_row_of" ["chain", "x", "places", "scale", "discount"] (spRow K) := by
  obtain ⟨f, fd, F, hm, hb⟩ := D
  obtain ⟨f_whole_at, fd_whole_at, G_whole_at, m_whole_at, k_whole_at, b_whole_at⟩ := U
  have sc := sc__row_of
  refine ⟨f, fd, F.ok sc (fun vs H Q E x => ?_) (fun cdv A outer s h0 vs Q E hr hs => ?_), hm, F.kp, hb⟩
  · obtain ⟨b, C, x, L, _, hA, _⟩ := x
    exact hA.length
  obtain ⟨b, C, x, L, eb, hA, hW, hx, hLn, hL12, kQ⟩ := hs
  refine ⟨_, (pss_cons (ps_asg (pv 4) (pg_tupK (K := K) (n := 2) rfl rfl (pgs_cons (pg_name (i := 6) sc.nd rfl (by first | exact Or.inl rfl | exact Or.inr rfl)) (pgs_cons (pg_name (i := 7) sc.nd rfl (by first | exact Or.inl rfl | exact Or.inr rfl)) pgs_nil)))) (pss_cons (ps_setLc (i := 5) (own := [("y", 10)]) (tt := tYes) rfl sc.nd rfl rfl (sw_true rfl rfl rfl (by decide +kernel)) (pi_listK (K := K) rfl (pv 2)) (blkOk_by (N := ["chain", "x", "places", "scale", "discount", "row", "n", "d", "chance", "target", "y"]) (sc := defScope s__row_of) (by decide +kernel)) (fun _ _ _ _ _ => (pg_name (i := 10) sc.nd rfl (by first | exact Or.inl rfl | exact Or.inr rfl))) (fun _ _ _ _ _ => pts_nil) (fun _ _ _ _ _ => (pe_ifExp (pt_cmpR op_eq (pv 10) (pv 1) (nomark _)) (pe_op op_mul (pv 3) (pv 7)) pe_int))) (pss_cons (ps_for PassesOwn.never rfl (pi_listK (K := K) rfl (pe_ix (ix_tupK (K := K) rfl) (pe_ix (ix_listK (K := K) rfl) (pv 0) (pv 1) (fun _ _ => rfl)) pe_int (fun _ _ => rfl))) (pg_tupK (K := K) (n := 2) rfl rfl (pgs_cons (pg_name (i := 8) sc.nd rfl (by first | exact Or.inl rfl | exact Or.inr rfl)) (pgs_cons (pg_name (i := 9) sc.nd rfl (by first | exact Or.inl rfl | exact Or.inr rfl)) pgs_nil))) (pss_one (ps_if (pt_cmpR (inS_K (K := K) rfl) (pv 9) (pv 2) (by rfl)) (pss_one (ps_augS (pv 5) (pe_indexK (K := K) rfl (pv 2) (pa_cons (pv 9) pa_nil)) get_list (pe_op op_mul (pv 6) (pe_call G_whole_at (hr.mono (by decide)) rfl m_whole_at k_whole_at b_whole_at .nil pass0 (pa_cons (pv 8) (pa_cons (pv 3) pa_nil)))) ip_sub set_list)) pss_nil))) (pss_one (ps_ret (pv 5)))))), ?_⟩
  obtain ⟨vC, vP, vD, rfl, hC, hP, hD⟩ : ∃ vC vP vD, vs = [vC, .int (x : Int), vP, .int (scaleC C x : Int), vD] ∧ Dt K b vC (chD C) ∧ Dt K b vP (.list (L.map fun y : Nat => PyData.int (y : Int))) ∧ Dt K b vD (.tuple [.int 1, .int 1]) := by
    cases hA with
    | cons h1 hA =>
      cases hA with
      | cons h2 hA =>
        cases hA with
        | cons h3 hA =>
          cases hA with
          | cons h4 hA =>
            cases hA with
            | cons h5 hA =>
              cases hA
              exact ⟨_, _, _, by rw [h2.intI, h4.intI], h1, h3, h5⟩
  obtain ⟨s0, s1, s2⟩ := scaleC_ok hW hx
  have hw := plC_wf hW hx
  generalize hse : scaleC C x = s at *
  have h0e : ((L.map fun y => rowP s x [] y).map PyData.int) = L.map fun y : Nat => PyData.int (if y = x then (s : Int) else 0) := by
    rw [List.map_map]
    refine List.map_congr_left fun y _ => ?_
    show PyData.int ((if y = x then (s : Int) else 0) - 0) = _
    rw [Int.sub_zero]
  refine r_asg (K := K) (d := .tuple [.int 1, .int 1]) (ed_var rfl hD) eb fun vd2 bD hD2 gD hvd => ?_
  refine g_two (d1 := .int 1) (d2 := .int 1) hvd gD.gi fun w1 w2 q1 q2 => ?_
  obtain rfl := q1.intI
  obtain rfl := q2.intI
  replace hP := hP.up gD.gb
  replace hC := hC.up gD.gb
  refine r_setN (K := K) (b := bD) (ds := (L.map fun y => rowP s x [] y).map PyData.int) (by
    rw [h0e]
    refine en_mapD (D := fun y : Nat => PyData.int (y : Int)) (ed_var rfl hP) (by omega) (fun _ => rfl) fun y hy v b2 e2 hv => ed_int ?_
    obtain rfl := hv.intI
    refine ev_if (c := decide (V.int (y : Int) = V.int (x : Int))) (et_test (ev_op (ev_var rfl) (ev_var rfl) (rv_eq rfl))) (fun hc => ?_) (fun hc => ?_)
    · have hyx : y = x := by
        have := of_decide_eq_true hc
        injection this with this
        omega
      rw [if_pos hyx]
      exact ev_is (ev_op (ev_var rfl) (ev_var rfl) (rv_I (.inr ⟨by decide, by decide⟩))) (by rw [Int.mul_one])
    · rw [if_neg fun z => of_decide_eq_false hc (by rw [z])]
      exact ev_c) gD.gi fun q us0 b1 h1 nq mq g1 hq hus0 => ?_
  have hus := hus0.intsI
  subst hus
  clear hus0
  have hC1 := hC.up g1.gb
  refine r_forL (K := K) (ds := (plC C x).bs.map brC) (ed_ixT (ed_ixL (ed_var rfl hC1) (ev_var rfl) (ch_at hx)) ev_c (by rfl)) g1.gi fun aB xsB b2 h2 g2 _ _ => ⟨fun i σ' h' => ∃ (u5 u6 : Option V) (b' : Hp), σ' = [some vC, some (.int (x : Int)), some vP, some (.int (s : Int)), some vD, some (.ref q), some (.int 1), some (.int 1), u5, u6, none] ∧ Gr bD hD2 b' h' ∧ Ex b2 b' ∧ b' q = none ∧ h' q = some (.lst ((L.map fun y => rowP s x ((plC C x).bs.take i) y).map V.int)),
    ⟨none, none, b2, rfl, g1.trans g2, Ex.refl _, g2.gf q mq (by rw [hq]; intro z; cases z), by rw [List.take_zero]; exact g2.gh _ _ hq⟩, fun i σ' h' p => ?_, ?_, ?_⟩
  · obtain ⟨_, _, b', _, g, e, _⟩ := p
    exact e.trans g.gi
  · rintro i d xv σ' h' hd hxv ⟨u5, u6, b', rfl, gi, eB, nqb, hq'⟩
    rw [List.getElem?_map] at hd
    cases hz : (plC C x).bs[i]? with
    | none => rw [hz] at hd; cases hd
    | some bq =>
      rw [hz] at hd
      cases hd
      have hbm := List.mem_of_getElem? hz
      obtain ⟨q1, q2, q3⟩ := hw.q bq hbm
      have hP' := hP.up ((g1.gb.trans g2.gb).trans eB)
      refine g_two (i := 8) (j := 9) hxv (eB.trans gi.gi) fun w1 w2 hw1 hw2 => ?_
      obtain rfl := hw2.intI
      have htm := take_more1 hz
      refine r_if1 (b := b') (c := decide (bq.2 ∈ L)) (et_test (ev_inN (neg := false) (l := L) (x := bq.2) (ev_var rfl) (ed_var rfl hP'))) gi.gi (fun hc h3 g3 => ?_) (fun hc h3 g3 => ?_)
      · have hmem := of_decide_eq_true hc
        obtain ⟨j, hj, _, hjL⟩ := take_getD (m := L.length) (by rw [List.take_length]; exact hmem)
        have hq3 := g3.gh _ _ hq'
        refine ⟨_, rfl, ?_⟩
        refine (ev_indexN (j := j) (x := bq.2) (l := L) (ed_var rfl hP') (ev_var rfl) (by rw [nats_get hj, hjL]) (fun m hm e => ?_)) h3 (gi.trans g3).gi _ fun h4 e4 => ?_
        · rw [nats_get (by omega)] at e
          have := nodup_getD hLn (by omega) hj ((Option.some.inj e).trans hjL.symm)
          omega
        refine ⟨q, _, j, V.int (rowP s x ((plC C x).bs.take i) bq.2), rfl, rfl, e4 _ _ hq3, ?_, by omega, ?_⟩
        · rw [List.getElem?_map, List.getElem?_map, nats_get hj, hjL]
          rfl
        have up9 : ∀ {z : Int}, z.natAbs < 1000 → z.natAbs < 2 ^ 9000 := fun h => Nat.lt_of_lt_of_le (Nat.lt_trans h (by decide : 1000 < 2 ^ 10)) (Nat.pow_le_pow_right (by decide) (by decide))
        have G3 := (gi.trans g3)
        refine (ev_is (ev_op (ev_var rfl) (ev_whA (b := b') (p := bq.1) (M := (s : Int)) (eda_cons (ed_var rfl (hw1.up eB)) (eda_cons (ed_int (ev_var rfl)) eda_nil)) q1.1 (Nat.lt_of_lt_of_le (up9 q1.2.2.1) (Nat.pow_le_pow_right (by decide) (by decide))) (up9 (by have := q1.1; have := q1.2.1; omega)) (Nat.lt_of_lt_of_le (up9 (by omega)) (Nat.pow_le_pow_right (by decide) (by decide)))) (rv_I (.inl ⟨by decide, by decide⟩))) (by rw [Int.one_mul])) h4 (G3.gi.trans e4) _ fun h5 e5 => ?_
        refine ⟨_, _, rfl, rfl, ?_⟩
        refine ⟨q, _, (j : Int), j, rfl, rfl, e5 _ _ (e4 _ _ hq3), ixN_nat (by rw [List.length_map, List.length_map]; exact hj), ?_⟩
        refine ⟨_, _, b', rfl, (G3.trans (Gr.stay G3.gi (e4.trans e5))).mut nq nqb, eB, nqb, ?_⟩
        rw [upd_same, htm]
        congr 2
        refine map_set_nodup hLn hj ?_ ?_
        · rw [hjL, rowP_snoc, if_pos rfl]
          rfl
        · intro y hy hne
          rw [rowP_snoc, if_neg (fun e => hne (by rw [hjL]; exact e.symm)), Int.sub_zero]
      · have hmem := of_decide_eq_false hc
        have G3 := gi.trans g3
        refine ⟨_, _, b', rfl, G3, eB, nqb, ?_⟩
        rw [g3.gh _ _ hq', htm]
        congr 2
        congr 1
        refine List.map_congr_left fun y hy => ?_
        rw [rowP_snoc, if_neg (fun e => hmem (by rw [e]; exact hy)), Int.sub_zero]
  · rintro σ' h' ⟨u5, u6, b', rfl, gi, eB, nqb, hq'⟩
    rw [List.length_map, List.take_length] at hq'
    exact ⟨_, rfl, kQ _ (upd b' q (.lst ((L.map fun y => rowP s x (plC C x).bs y).map V.int))) h' (gD.trans (gi.tell nq nqb hq')) (by
      have e : (L.map fun y => rowP s x (plC C x).bs y) = L.map (rowZ C L x) := by
        rw [← hse]
        rfl
      rw [e]
      exact Dt.list upd_same (DtA.ints _))⟩

theorem has_filled_inS (T : Bt mg) {u : V} (hu : ∀ H, Dt K H u (nD (1, 1))) (D : IsDefD K mg "filled_in" s_filled_in ["chain", "places", "extra", "known", "discount"] u) (U1 : Has P w K mg base 2 "_scale_of" ["draw"] (spScale K)) (U2 : Has P w K mg base 2 "_row_of" ["chain", "x", "places", "scale", "discount"] (spRow K)) (U3 : Has P w K mg base 3 "plus" ["a", "b"] (spNum2B K 3000 plusN))
    (U4 : Has P w K mg base 5 "mean_at" ["draw", "numbers"] (spMeanAt K)) (U5 : Has P w K mg base 3 "times" ["a", "b"] (spNum2B K 3000 timesN)) (U6 : Has P w K mg base 2 "solved" ["rows", "constants"] (spSolvedS K)) : HasD P w K mg base 6 "filled_in" ["chain", "places", "extra", "known", "discount"] (nD (1, 1)) (spFillS K) := by
  obtain ⟨f, fd, F, hm, ds, hd, hb⟩ := D
  obtain ⟨f__scale_of, fd__scale_of, G__scale_of, m__scale_of, k__scale_of, b__scale_of⟩ := U1
  obtain ⟨f__row_of, fd__row_of, G__row_of, m__row_of, k__row_of, b__row_of⟩ := U2
  obtain ⟨f_plus, fd_plus, G_plus, m_plus, k_plus, b_plus⟩ := U3
  obtain ⟨f_mean_at, fd_mean_at, G_mean_at, m_mean_at, k_mean_at, b_mean_at⟩ := U4
  obtain ⟨f_times, fd_times, G_times, m_times, k_times, b_times⟩ := U5
  obtain ⟨f_solved, fd_solved, G_solved, m_solved, k_solved, b_solved⟩ := U6
  have sc := sc_filled_in
  refine ⟨u, ds, f, fd, hu, hd, okD F sc (fun vs H Q E x => ?_) (fun cdv A outer s h0 vs Q E hr hs => ?_), hm, F.kp, hb⟩
  · obtain ⟨b, C, L, e, kn, M, B, _, hA, _⟩ := x
    exact hA.length
  obtain ⟨b, C, L, ex, kn, M, B, eb, hA, hW, hLn, hL, hO, hM, hB, hMB, hNe, hNk, hk0, kQ⟩ := hs
  refine ⟨_, (pss_cons (ps_setLc (i := 5) (own := [("x", 10)]) (tt := tYes) rfl sc.nd rfl rfl (sw_true rfl rfl rfl (by decide +kernel)) (pi_listK (K := K) rfl (pv 1)) (blkOk_by (N := ["chain", "places", "extra", "known", "discount", "scales", "rows", "sums", "constants", "found", "x", "number", "scale"]) (sc := defScope s_filled_in) (by decide +kernel)) (fun _ _ _ _ _ => (pg_name (i := 10) sc.nd rfl (by first | exact Or.inl rfl | exact Or.inr rfl))) (fun _ _ _ _ _ => pts_nil) (fun _ _ _ _ _ => (pe_call G__scale_of (hr.mono (by decide)) rfl m__scale_of k__scale_of b__scale_of .nil pass0 (pa_cons (pe_ix (ix_listK (K := K) rfl) (pv 0) (pv 10) (fun _ _ => rfl)) pa_nil)))) (pss_cons (ps_setLc (i := 6) (own := [("x", 10), ("scale", 12)]) (tt := tYes) rfl sc.nd rfl rfl (sw_true rfl rfl rfl (by decide +kernel)) (pi_zipK (K := K) rfl (by rfl) T.zip (pa_cons (pv 1) (pa_cons (pv 5) pa_nil))) (blkOk_by (N := ["chain", "places", "extra", "known", "discount", "scales", "rows", "sums", "constants", "found", "x", "number", "scale"]) (sc := defScope s_filled_in) (by decide +kernel)) (fun _ _ _ _ _ => (pg_tupK (K := K) (n := 2) rfl rfl (pgs_cons (pg_name (i := 10) sc.nd rfl (by first | exact Or.inl rfl | exact Or.inr rfl)) (pgs_cons (pg_name (i := 12) sc.nd rfl (by first | exact Or.inl rfl | exact Or.inr rfl)) pgs_nil)))) (fun _ _ _ _ _ => pts_nil) (fun _ _ _ _ _ => (pe_call G__row_of (hr.mono (by decide)) rfl m__row_of k__row_of b__row_of .nil pass0 (pa_cons (pv 0) (pa_cons (pv 10) (pa_cons (pv 1) (pa_cons (pv 12) (pa_cons (pv 4) pa_nil)))))))) (pss_cons (ps_setLc (i := 7) (own := [("x", 10)]) (tt := tYes) rfl sc.nd rfl rfl (sw_true rfl rfl rfl (by decide +kernel)) (pi_listK (K := K) rfl (pv 1)) (blkOk_by (N := ["chain", "places", "extra", "known", "discount", "scales", "rows", "sums", "constants", "found", "x", "number", "scale"]) (sc := defScope s_filled_in) (by decide +kernel)) (fun _ _ _ _ _ => (pg_name (i := 10) sc.nd rfl (by first | exact Or.inl rfl | exact Or.inr rfl))) (fun _ _ _ _ _ => pts_nil) (fun _ _ _ _ _ => (pe_call G_plus (hr.mono (by decide)) rfl m_plus k_plus b_plus .nil pass0 (pa_cons (pe_ix (ix_listK (K := K) rfl) (pv 2) (pv 10) (fun _ _ => rfl)) (pa_cons (pe_call G_times (hr.mono (by decide)) rfl m_times k_times b_times .nil pass0 (pa_cons (pv 4) (pa_cons (pe_call G_mean_at (hr.mono (by decide)) rfl m_mean_at k_mean_at b_mean_at .nil pass0 (pa_cons (pe_ix (ix_listK (K := K) rfl) (pv 0) (pv 10) (fun _ _ => rfl)) (pa_cons (pv 3) pa_nil))) pa_nil))) pa_nil))))) (pss_cons (ps_setLc (i := 8) (own := [("number", 11), ("scale", 12)]) (tt := tYes) rfl sc.nd rfl rfl (sw_true rfl rfl rfl (by decide +kernel)) (pi_zipK (K := K) rfl (by rfl) T.zip (pa_cons (pv 7) (pa_cons (pv 5) pa_nil))) (blkOk_by (N := ["chain", "places", "extra", "known", "discount", "scales", "rows", "sums", "constants", "found", "x", "number", "scale"]) (sc := defScope s_filled_in) (by decide +kernel)) (fun _ _ _ _ _ => (pg_tupK (K := K) (n := 2) rfl rfl (pgs_cons (pg_name (i := 11) sc.nd rfl (by first | exact Or.inl rfl | exact Or.inr rfl)) (pgs_cons (pg_name (i := 12) sc.nd rfl (by first | exact Or.inl rfl | exact Or.inr rfl)) pgs_nil)))) (fun _ _ _ _ _ => pts_nil) (fun _ _ _ _ _ => (pe_call G_times (hr.mono (by decide)) rfl m_times k_times b_times .nil pass0 (pa_cons (pv 11) (pa_cons (pe_tup (pa_cons (pe_op op_mul (pv 12) (pe_ix (ix_tupK (K := K) rfl) (pv 4) pe_int (fun _ _ => rfl))) (pa_cons pe_int pa_nil))) pa_nil))))) (pss_cons (ps_set (i := 9) sc.nd rfl (by first | exact Or.inl rfl | exact Or.inr rfl) (pe_callTy (list_K (K := K) rfl) (by rfl) T.list (by decide +kernel) (pa_cons (pv 3) pa_nil))) (pss_cons (ps_for PassesOwn.never rfl (pi_zipK (K := K) rfl (by rfl) T.zip (pa_cons (pv 1) (pa_cons (pe_call G_solved (hr.mono (by decide)) rfl m_solved k_solved b_solved .nil pass0 (pa_cons (pv 6) (pa_cons (pv 8) pa_nil))) pa_nil))) (pg_tupK (K := K) (n := 2) rfl rfl (pgs_cons (pg_name (i := 10) sc.nd rfl (by first | exact Or.inl rfl | exact Or.inr rfl)) (pgs_cons (pg_name (i := 11) sc.nd rfl (by first | exact Or.inl rfl | exact Or.inr rfl)) pgs_nil))) (pss_one (ps_asg (pv 11) (pg_sub (pv 9) (pv 10) set_list)))) (pss_one (ps_ret (pv 9))))))))), ?_⟩
  obtain ⟨vC, vP, vE, vK, vD, rfl, hC, hP, hE, hK, hD⟩ : ∃ vC vP vE vK vD, vs = [vC, vP, vE, vK, vD] ∧ Dt K b vC (chD C) ∧ Dt K b vP (.list (L.map fun y : Nat => PyData.int (y : Int))) ∧ Dt K b vE (.list ((List.range C.length).map fun k => nQ (ex k))) ∧ Dt K b vK (.list ((List.range C.length).map fun k => nQ (kn k))) ∧ Dt K b vD (nD (1, 1)) := by
    cases hA with
    | cons h1 hA =>
      cases hA with
      | cons h2 hA =>
        cases hA with
        | cons h3 hA =>
          cases hA with
          | cons h4 hA =>
            cases hA with
            | cons h5 hA =>
              cases hA
              exact ⟨_, _, _, _, _, rfl, h1, h2, h3, h4, h5⟩
  have z1 : nD (1, 1) = nQ 1 := by
    unfold nQ
    rw [canon_one]
  have big1 : Big 3000 (canon 1) := by rw [canon_one]; exact (big_small small11).mono (by decide)
  have ed1 : ∀ {σ : L2.St} {b' : Hp} {ts : TA} {r : Rat}, EDA K ts σ b' [nD (1, 1), nQ r] → Big 3000 (canon r) → ED K (tCall (spNum2B K 3000 timesN) [] E0 ts) σ b' (nQ r) := fun {σ b' ts r} y hr => by
    rw [z1] at y
    have := ed_timesR (E := E0) y big1 hr
    rwa [Rat.one_mul] at this
  have hC12 := hW.l12
  have hL12 : L.length ≤ 12 := by
    have := nodup_len hLn hL
    omega
  obtain ⟨ff, D0, hF, hD0, hD1, hNf, hdat⟩ := fill_dataS hW hLn hL12 hL hO hM hB hMB hNe hNk hk0
  have hc : ∀ x ∈ L, NB (M * scaleC C x) (2 * B) (ex x + meanC C kn x) ∧ NB M (720 * B) (constK C ex kn x) := fun x hx => const_nb hW (hL x hx) (hNe x hx) hNk
  have bigM : ∀ {X : Nat}, X ≤ B * M * 2 ^ 20 → X < 2 ^ 2980 := fun h => Nat.lt_of_le_of_lt h (by
    have : B * M * 2 ^ 20 < 2 ^ 1400 * 2 ^ 20 := Nat.mul_lt_mul_of_pos_right hMB (by decide)
    rw [← Nat.pow_add] at this
    exact Nat.lt_of_lt_of_le this (Nat.pow_le_pow_right (by decide) (by decide)))
  have big3 : ∀ {X : Nat}, X ≤ B * M * 2 ^ 20 → X < 2 ^ 3000 := fun h => Nat.lt_of_lt_of_le (bigM h) (Nat.pow_le_pow_right (by decide) (by decide))
  refine r_set (K := K) (d := .list (L.map fun x => PyData.int (scaleC C x : Int))) (EN.ed (en_mapD (D := fun y : Nat => PyData.int (y : Int)) (ed_var rfl hP) (by omega) (fun _ => rfl) fun x hx v b2 e2 hv => by
    obtain rfl := hv.intI
    exact ed_int (ev_scale (eda_cons (ed_ixL (ed_var rfl (hC.up e2)) (ev_var rfl) (ch_at (hL x hx))) eda_nil) (plC_wf hW (hL x hx))))) eb fun v4 b1 h1 g1 hv4 => ?_
  have hC1 := hC.up g1.gb
  have hP1 := hP.up g1.gb
  have hrows : givenD L.length (fun _ => true) (fun r => intsD (L.map (rowZ C L (L.getD r 0)))) = L.map fun x => intsD (L.map (rowZ C L x)) := by
    rw [givenD_all]
    exact map_getDn L 0 fun x => intsD (L.map (rowZ C L x))
  refine r_set (K := K) (d := .list (L.map fun x => intsD (L.map (rowZ C L x)))) (by
    rw [← hrows]
    refine EN.ed (en_lcZ (ed_var rfl hP1) (ed_var rfl hv4) (by rw [List.length_map, List.length_map, Nat.min_self]) (by omega) _ _ (fun _ _ => rfl) fun r d1 d2 w1 w2 b8 e8 hd1 hd2 hw1 hw2 => ⟨et_yes, fun _ => ?_⟩)
    have hr : r < L.length := by
      have := (List.getElem?_eq_some_iff.mp hd1).1
      rwa [List.length_map] at this
    rw [List.getElem?_map, nats_get hr] at hd1 hd2
    cases hd1
    cases hd2
    obtain rfl := hw1.intI
    exact ed_row (eda_cons (ed_var rfl (hC1.up e8)) (eda_cons (ed_int (ev_var rfl)) (eda_cons (ed_var rfl (hP1.up e8)) (eda_cons (ed_var rfl hw2) (eda_cons (ed_var rfl ((hD.up g1.gb).up e8)) eda_nil))))) hW (hL _ (getD_mem hr)) hLn hL12) g1.gi fun v5 b2 h2 g2 hv5 => ?_
  have G2 := g1.trans g2
  have hC2 := hC1.up g2.gb
  have hE2 := hE.up G2.gb
  have hK2 := hK.up G2.gb
  refine r_set (K := K) (d := .list (L.map fun x => nQ (ex x + meanC C kn x))) (EN.ed (en_mapD (D := fun y : Nat => PyData.int (y : Int)) (ed_var rfl (hP1.up g2.gb)) (by omega) (fun _ => rfl) fun x hx v b3 e3 hv => by
    obtain rfl := hv.intI
    have hxl := hL x hx
    obtain ⟨s0, s1, _⟩ := scaleC_ok hW hxl
    have hbm : Big 3000 (canon (meanC C kn x)) := ((nb_mean hW hxl hNk).big (Nat.mul_pos hM s0) hB (big3 (by
      rw [← Nat.mul_assoc]
      exact Nat.mul_le_mul_left _ (Nat.le_trans s1 (by decide)))))
    refine ed_plusR (eda_cons (ed_ixL (ed_var rfl (hE2.up e3)) (ev_var rfl) (listQ_at hxl)) (eda_cons (ed1 (eda_cons (ed_var rfl ((hD.up G2.gb).up e3)) (eda_cons (ed_meanAt (n := C.length) (m := C.length) (M := M) (B := B) (eda_cons (ed_ixL (ed_var rfl (hC2.up e3)) (ev_var rfl) (ch_at hxl)) (eda_cons (ed_var rfl (hK2.up e3)) eda_nil)) (plC_wf hW hxl) (Nat.le_refl _) hM hB (bigM (by
      rw [← Nat.mul_assoc]
      exact Nat.mul_le_mul_left _ (by decide))) (fun q hq => hNk _ ((plC_wf hW hxl).q q hq).2.2)) eda_nil)) hbm) eda_nil)) ((hNe x hx).big hM hB (big3 (Nat.le_mul_of_pos_right _ (by decide)))) hbm) ) G2.gi fun v6 b3 h3 g3 hv6 => ?_
  have G3 := G2.trans g3
  have hcons : givenD L.length (fun _ => true) (fun r => nQ (constK C ex kn (L.getD r 0))) = (L.map (constK C ex kn)).map nQ := by
    rw [givenD_all, map_getDn L 0 (fun x => nQ (constK C ex kn x)), List.map_map]
    rfl
  refine r_set (K := K) (d := ratsD (L.map (constK C ex kn))) (by
    unfold ratsD
    rw [← hcons]
    refine EN.ed (en_lcZ (ed_var rfl hv6) (ed_var rfl ((hv4.up g2.gb).up g3.gb)) (by rw [List.length_map, List.length_map, Nat.min_self]) (by omega) _ _ (fun _ _ => rfl) fun r d1 d2 w1 w2 b8 e8 hd1 hd2 hw1 hw2 => ⟨et_yes, fun _ => ?_⟩)
    have hr : r < L.length := by
      have := (List.getElem?_eq_some_iff.mp hd1).1
      rwa [List.length_map] at this
    rw [List.getElem?_map, nats_get hr] at hd1 hd2
    cases hd1
    cases hd2
    obtain rfl := hw2.intI
    have hx := getD_mem hr
    have hxl := hL _ hx
    obtain ⟨s0, s1, _⟩ := scaleC_ok hW hxl
    have hone : nD ((scaleC C (L.getD r 0) : Int), 1) = nQ ((scaleC C (L.getD r 0) : Int) : Rat) := rfl
    refine ed_timesR (eda_cons (ed_var rfl hw1) (eda_cons (by
      rw [← hone]
      exact ed_tup (eda_cons (ed_int (ev_is (ev_op (ev_var rfl) (ev_num1 (p := (1, 1)) (ed_var rfl ((hD.up G3.gb).up e8))) (rv_I (.inr ⟨by decide, by decide⟩))) (by rw [Int.mul_one]))) (eda_cons (ed_int ev_c) eda_nil)) (by show 2 ≤ 100000; decide)) eda_nil)) ((hc _ hx).1.big (Nat.mul_pos hM s0) (by omega) (big3 ?_)) ?_
    · have h1 : 2 * B * (M * scaleC C (L.getD r 0)) ≤ 2 * B * (M * 360) := Nat.mul_le_mul_left _ (Nat.mul_le_mul_left _ s1)
      have h2 : 2 * B * (M * 360) = B * M * 720 := by
        rw [Nat.mul_comm 2 B, Nat.mul_assoc, ← Nat.mul_assoc 2 M 360, Nat.mul_comm 2 M, Nat.mul_assoc M 2 360, ← Nat.mul_assoc]
      rw [h2] at h1
      exact Nat.le_trans h1 (Nat.mul_le_mul_left _ (by decide))
    · rw [canon_int]
      constructor
      · exact Nat.lt_of_lt_of_le (show ((scaleC C (L.getD r 0) : Int)).natAbs < 2 ^ 9 by rw [Int.natAbs_natCast]; exact Nat.lt_of_le_of_lt s1 (by decide)) (Nat.pow_le_pow_right (by decide) (by decide))
      · exact Nat.lt_of_lt_of_le (show ((1 : Int)).natAbs < 2 ^ 1 by decide) (Nat.pow_le_pow_right (by decide) (by decide))) G3.gi fun v7 b4 h4 g4 hv7 => ?_
  have G4 := G3.trans g4
  refine r_setN (K := K) (en_list (ed_var rfl (hK.up G4.gb))) G4.gi fun q us0 b5 h5 nq mq g5 hq hus0 => ?_
  have G5 := G4.trans g5
  have oq : h0 q = none := fresh_back G4.gh nq
  have hP5 := hP.up G5.gb
  have hv55 := ((hv5.up g3.gb).up g4.gb).up g5.gb
  have hv75 := hv7.up g5.gb
  refine r_forZ (K := K) (ds := L.map fun y : Nat => PyData.int (y : Int)) (es := (L.map ff).map nQ) (ed_var rfl hP5) (ed_solvedS (M := M) (B := 720 * B) (eda_cons (ed_var rfl hv55) (eda_cons (ed_var rfl hv75) eda_nil)) hW hLn hL12 hL hO hM (by omega) (by
      rw [Nat.mul_assoc]
      exact Nat.lt_of_lt_of_le (lt_pow_mul (i := 10) (Nat.le_refl _) (by decide) hMB) (Nat.pow_le_pow_right (by decide) (by decide))) (fun x hx => (hc x hx).2) hdat) (by rw [List.length_map, List.length_map, List.length_map]) G5.gi fun b6 h6 g6 => ⟨fun r σ' h' => ∃ (us : List V) (u9 u10 : Option V) (b' : Hp), σ' = [some vC, some vP, some vE, some vK, some vD, some v4, some v5, some v6, some v7, some (.ref q), u9, u10, none] ∧ Gr b h0 b' h' ∧ Ex b6 b' ∧ b' q = none ∧ h' q = some (.lst us) ∧ DtA K b' us ((List.range C.length).map fun y => nQ (partF L ff kn r y)),
    ⟨us0, none, none, b6, rfl, G5.trans g6, Ex.refl _, g6.gf q mq (by rw [hq]; intro z; cases z), g6.gh _ _ hq, by
      have e : ((List.range C.length).map fun y => nQ (partF L ff kn 0 y)) = (List.range C.length).map fun k => nQ (kn k) := by
        refine List.map_congr_left fun y _ => ?_
        unfold partF
        rw [List.take_zero, if_neg (by simp)]
      rw [e]
      exact hus0.up g6.gb⟩, fun r σ' h' p => ?_, ?_, ?_⟩
  · obtain ⟨_, _, _, b', _, g, e, _⟩ := p
    exact e.trans g.gi
  · rintro r d1 d2 w1 w2 σ' h' h7 hd1 hd2 hw1 hw2 ⟨us, u9, u10, b', rfl, gi, eB, nqb, hq', hus⟩ e7
    have hr : r < L.length := by
      have := (List.getElem?_eq_some_iff.mp hd1).1
      rwa [List.length_map] at this
    rw [List.getElem?_map, nats_get hr] at hd1
    rw [List.getElem?_map, List.getElem?_map, nats_get hr] at hd2
    cases hd1
    cases hd2
    obtain rfl := hw1.intI
    have hxl := hL _ (getD_mem hr)
    have hul : us.length = C.length := by rw [hus.length, List.length_map, List.length_range]
    have GI := gi.trans (Gr.stay gi.gi e7)
    refine r_setL (K := K) (a := q) (d := nQ (ff (L.getD r 0))) (j := L.getD r 0) (i := 9) (k := 10) (b := b') (us := us) (ED.at (ed_var rfl (hw2.up eB)) GI.gi) (e7 _ _ hq') nqb rfl rfl (by omega) fun v b8 h8 g8 nq8 hq8 hv => ?_
    refine ⟨us.set (L.getD r 0) v, _, _, b8, rfl, (GI.trans g8).mut oq nq8, eB.trans g8.gb, nq8, upd_same, ?_⟩
    have := DtA.set (L.getD r 0) (hus.up g8.gb) hv
    rw [range_set] at this
    have e : ((List.range C.length).map fun y => nQ (partF L ff kn (r + 1) y)) = (List.range C.length).map fun i => if i = L.getD r 0 then nQ (ff (L.getD r 0)) else nQ (partF L ff kn r i) := by
      refine List.map_congr_left fun y _ => ?_
      rw [partF_next hr]
      by_cases z : y = L.getD r 0
      · rw [if_pos z, if_pos z]
      · rw [if_neg z, if_neg z]
    rw [e]
    exact this
  · rintro σ' h' ⟨us, u9, u10, b', rfl, gi, eB, nqb, hq', hus⟩
    rw [List.length_map] at hus
    have e : ((List.range C.length).map fun y => nQ (partF L ff kn L.length y)) = (List.range C.length).map fun y => nQ (ff y) := by
      refine List.map_congr_left fun y _ => ?_
      unfold partF
      rw [List.take_length]
      by_cases z : y ∈ L
      · rw [if_pos z]
      · rw [if_neg z, hF.out y z]
    rw [e] at hus
    have hul : us.length = C.length := by rw [hus.length, List.length_map, List.length_range]
    exact ⟨_, rfl, kQ _ (upd b' q (.lst us)) h' ff D0 (gi.tell oq nqb hq') hF hD0 hD1 hNf (Dt.list upd_same (hus.up (Ex.new nqb))) ⟨q, us, rfl, oq, upd_same, by omega⟩⟩

abbrev s_mean_in_group : Stmt := top 24
theorem sc_mean_in_group : FnScope ["chain", "group", "numbers", "first", "nothing", "steps", "sums", "sum_of_round"] ["chain", "group", "numbers"] (defScope s_mean_in_group) := ⟨rfl, rfl, rfl, by decide +kernel, rfl, by decide +kernel, by decide +kernel⟩
theorem has_mean_in_group (T : Bt mg) (C1 : ConstT K mg "ZERO" (nD (0, 1))) (C2 : ConstT K mg "ONE" (nD (1, 1))) (D : IsDef K mg "mean_in_group" s_mean_in_group ["chain", "group", "numbers"]) (U1 : HasD P w K mg base 6 "filled_in" ["chain", "places", "extra", "known", "discount"] (nD (1, 1)) (spFillS K)) (U2 : Has P w K mg base 3 "plus" ["a", "b"] (spNum2B K 3000 plusN))
    (U3 : Has P w K mg base 5 "mean_at" ["draw", "numbers"] (spMeanAt K)) (U4 : Has P w K mg base 2 "divided" ["a", "b"] (spDivB K)) : Has P w K mg base 7 "mean_in_group" ["chain", "group", "numbers"] (spMeanG K) := by
  obtain ⟨f, fd, F, hm, hb⟩ := D
  obtain ⟨a_ZERO, m_ZERO, d_ZERO⟩ := C1
  obtain ⟨a_ONE, m_ONE, d_ONE⟩ := C2
  obtain ⟨u_filled_in, ds_filled_in, f_filled_in, fd_filled_in, du_filled_in, hd_filled_in, G_filled_in, m_filled_in, k_filled_in, b_filled_in⟩ := U1
  obtain ⟨f_plus, fd_plus, G_plus, m_plus, k_plus, b_plus⟩ := U2
  obtain ⟨f_mean_at, fd_mean_at, G_mean_at, m_mean_at, k_mean_at, b_mean_at⟩ := U3
  obtain ⟨f_divided, fd_divided, G_divided, m_divided, k_divided, b_divided⟩ := U4
  have sc := sc_mean_in_group
  refine ⟨f, fd, F.ok sc (fun vs H Q E x => ?_) (fun cdv A outer s h0 vs Q E hr hs => ?_), hm, F.kp, hb⟩
  · obtain ⟨b, C, x, L, e, M, B, _, hA, _⟩ := x
    exact hA.length
  obtain ⟨b, C, x, L, e, M, B, eb, hA, hW, hG, hM, hB, hMB, he, kQ⟩ := hs
  refine ⟨_, (pss_cons (ps_set (i := 3) sc.nd rfl (by first | exact Or.inl rfl | exact Or.inr rfl) (pe_ix (ix_listK (K := K) rfl) (pv 1) pe_int (fun _ _ => rfl))) (pss_cons (ps_set (i := 4) sc.nd rfl (by first | exact Or.inl rfl | exact Or.inr rfl) (pe_op op_rep (pe_lst (pa_cons (pe_glob (v := .ref a_ZERO) rfl m_ZERO rfl) pa_nil)) (pe_callB (len_K (K := K) rfl) (by rfl) T.len PySem.boot_len (pa_cons (pv 0) pa_nil)))) (pss_cons (ps_set (i := 5) sc.nd rfl (by first | exact Or.inl rfl | exact Or.inr rfl) (pe_call G_filled_in (hr.mono (by decide)) rfl m_filled_in k_filled_in b_filled_in hd_filled_in pass0 (pa_cons (pv 0) (pa_cons (pe_slice (sl_listK (K := K) rfl) (pv 1) (po_some pe_int) po_none) (pa_cons (pe_op op_rep (pe_lst (pa_cons (pe_glob (v := .ref a_ONE) rfl m_ONE rfl) pa_nil)) (pe_callB (len_K (K := K) rfl) (by rfl) T.len PySem.boot_len (pa_cons (pv 0) pa_nil))) (pa_cons (pv 4) pa_nil)))))) (pss_cons (ps_set (i := 6) sc.nd rfl (by first | exact Or.inl rfl | exact Or.inr rfl) (pe_call G_filled_in (hr.mono (by decide)) rfl m_filled_in k_filled_in b_filled_in hd_filled_in pass0 (pa_cons (pv 0) (pa_cons (pe_slice (sl_listK (K := K) rfl) (pv 1) (po_some pe_int) po_none) (pa_cons (pv 2) (pa_cons (pv 4) pa_nil)))))) (pss_cons (ps_set (i := 7) sc.nd rfl (by first | exact Or.inl rfl | exact Or.inr rfl) (pe_call G_plus (hr.mono (by decide)) rfl m_plus k_plus b_plus .nil pass0 (pa_cons (pe_ix (ix_listK (K := K) rfl) (pv 2) (pv 3) (fun _ _ => rfl)) (pa_cons (pe_call G_mean_at (hr.mono (by decide)) rfl m_mean_at k_mean_at b_mean_at .nil pass0 (pa_cons (pe_ix (ix_listK (K := K) rfl) (pv 0) (pv 3) (fun _ _ => rfl)) (pa_cons (pv 6) pa_nil))) pa_nil)))) (pss_one (ps_ret (pe_call G_divided (hr.mono (by decide)) rfl m_divided k_divided b_divided .nil pass0 (pa_cons (pv 7) (pa_cons (pe_call G_plus (hr.mono (by decide)) rfl m_plus k_plus b_plus .nil pass0 (pa_cons (pe_glob (v := .ref a_ONE) rfl m_ONE rfl) (pa_cons (pe_call G_mean_at (hr.mono (by decide)) rfl m_mean_at k_mean_at b_mean_at .nil pass0 (pa_cons (pe_ix (ix_listK (K := K) rfl) (pv 0) (pv 3) (fun _ _ => rfl)) (pa_cons (pv 5) pa_nil))) pa_nil))) pa_nil)))))))))), ?_⟩
  obtain ⟨vC, vG, vN, rfl, hC, hGd, hN⟩ : ∃ vC vG vN, vs = [vC, vG, vN] ∧ Dt K b vC (.list (C.map PlC.D)) ∧ Dt K b vG (.list ((x :: L).map fun y : Nat => PyData.int (y : Int))) ∧ Dt K b vN (listQ C.length e) := by
    cases hA with
    | cons h1 hA =>
      cases hA with
      | cons h2 hA =>
        cases hA with
        | cons h3 hA =>
          cases hA
          exact ⟨_, _, _, rfl, h1, h2, h3⟩
  have hC12 := hW.l12
  have hx := hG.lt x (List.mem_cons_self ..)
  have hLl := grp_len hW hG
  have hLn : L.Nodup := (List.nodup_cons.mp hG.nd).2
  have hLt : ∀ y ∈ L, y < C.length := fun y hy => hG.lt y (List.mem_cons_of_mem x hy)
  have hO := out_tail hW hG
  have z0 : nD (0, 1) = nQ 0 := by
    unfold nQ
    rw [canon_zero]
  have z1 : nD (1, 1) = nQ 1 := by
    unfold nQ
    rw [canon_one]
  have hrep : ∀ {σ : L2.St} {b' : Hp} {r : Rat} {ac : Addr}, Ex b b' → σ[0]? = some (some vC) → ED K (tC (.ref ac)) σ b' (nQ r) → ED K (tOp rRep (tLst (tCons (tC (.ref ac)) tNil)) (tCB (rLenS K) (tCons (tVar 0) tNil))) σ b' (listQ C.length fun _ => r) := fun {σ b' r ac} e1 s1 y => by
    unfold listQ
    rw [← rep_list C r]
    exact EN.ed (en_rep (n := ((C.map PlC.D).length : Int)) (en_lst (eda_cons y eda_nil) (by show 1 ≤ 100000; decide)) (ev_lenL (ed_var s1 (hC.up e1))) (by rw [List.length_map]; omega))
  have hZ : ∀ {σ : L2.St} {b' : Hp}, ED K (tC (.ref a_ZERO)) σ b' (nQ 0) := fun {σ b'} => by
    rw [← z0]
    exact ed_val (d := nD (0, 1)) (d_ZERO _) ev_c
  have hI : ∀ {σ : L2.St} {b' : Hp}, ED K (tC (.ref a_ONE)) σ b' (nQ 1) := fun {σ b'} => by
    rw [← z1]
    exact ed_val (d := nD (1, 1)) (d_ONE _) ev_c
  have hsl : ∀ {σ : L2.St} {b' : Hp}, Ex b b' → σ[1]? = some (some vG) → ED K (tSl (rSlL K) (tVar 1) (tPart (tC (V.int 1))) tNoPart) σ b' (natsD L) := fun {σ b'} e1 s1 => by
    have := EN.ed (en_sl (K := K) (ed_var (σ := σ) (b := b') (k := 1) s1 (hGd.up e1)) (eo_some ev_c) eo_none (lo := some 1) (hi := none))
    rw [cut_tail] at this
    exact this
  refine r_sc (b := b) (v := .int (x : Int)) (ev_int (ed_ixL (K := K) (ed_var rfl hGd) ev_c (show L2.atI ((x :: L).map fun y : Nat => PyData.int (y : Int)) ((0 : Nat) : Int) = _ from atI_nat rfl))) eb fun h1 g1 => ?_
  refine r_set (K := K) (d := listQ C.length fun _ => 0) (hrep (Ex.refl _) rfl hZ) g1.gi fun v4 b2 h2 g2 hv4 => ?_
  have G2 := g1.trans g2
  refine r_callD du_filled_in (K := K) (ds := [chD C, natsD L, listQ C.length fun _ => 1, listQ C.length fun _ => 0]) (eda_cons (ed_var rfl (hC.up g2.gb)) (eda_cons (hsl g2.gb rfl) (eda_cons (hrep g2.gb rfl hI) (eda_cons (ed_var rfl hv4) eda_nil)))) G2.gi fun us b3 h3 g3 hA3 => ?_
  refine ⟨b3, C, L, fun _ => 1, fun _ => 0, 1, 1, g3.gi, hA3, hW, hLn, hLt, hO, by decide, by decide, by decide +kernel, fun _ _ => nb_one (by decide), fun _ _ => nb_zero _ _, fun _ _ => rfl, fun v5 b4 h4 t D2 g4 hTf hE0 hE1 hNt hv5 _ => ?_⟩
  have G4 := (G2.trans g3).trans g4
  show tSeq _ _ _ [some vC, some vG, some vN, some (.int (x : Int)), some v4, some v5, none, none] _
  refine r_callD du_filled_in (K := K) (ds := [chD C, natsD L, listQ C.length e, listQ C.length fun _ => 0]) (eda_cons (ed_var rfl (hC.up G4.gb)) (eda_cons (hsl G4.gb rfl) (eda_cons (ed_var rfl (hN.up G4.gb)) (eda_cons (ed_var rfl (hv4.up (g3.gb.trans g4.gb))) eda_nil)))) G4.gi fun us b5 h5 g5 hA5 => ?_
  refine ⟨b5, C, L, e, fun _ => 0, M, B, g5.gi, hA5, hW, hLn, hLt, hO, hM, hB, hMB, fun y hy => he y (hLt y hy), fun _ _ => nb_zero _ _, fun _ _ => rfl, fun v6 b6 h6 ss D1 g6 hSf hD0 hD1 hNs hv6 _ => ?_⟩
  have G6 := (G4.trans g5).trans g6
  show tSeq _ _ _ [some vC, some vG, some vN, some (.int (x : Int)), some v4, some v5, some v6, none] _
  have hDE : D1 = D2 := natR_inj (by rw [hD1.2, hE1.2])
  subst hDE
  have hmp := plC_wf hW hx
  obtain ⟨s0, s1, _⟩ := scaleC_ok hW hx
  have sc0 : 0 < scaleC C x := by omega
  have nS := nb_mean hW hx hNs
  have nT := nb_mean hW hx hNt
  -- sizes
  have hP : 4320 ^ (L.length + 1) ≤ 2 ^ 145 := Nat.le_trans (Nat.pow_le_pow_right (by decide) (show L.length + 1 ≤ 12 by omega)) (by decide +kernel)
  have hP1 : 1 ≤ 4320 ^ (L.length + 1) := Nat.pow_pos (by decide)
  have hDl : D1 ≤ 2 ^ 145 := Nat.le_trans hD1.1 (Nat.le_trans (Nat.pow_le_pow_right (by decide) (show L.length ≤ 12 by omega)) (by decide +kernel))
  generalize hPe : 4320 ^ (L.length + 1) = PP at *
  have hBP : 1 ≤ B * PP := Nat.mul_pos hB hP1
  have szS : ∀ {X : Nat}, X ≤ 2 * (B * PP) * (M * D1 * 360) → X < 2 ^ 2980 := fun h => Nat.lt_of_le_of_lt h (by
    have e1 : 2 * (B * PP) * (M * D1 * 360) = 720 * (PP * D1) * (B * M) := by
      simp only [Nat.mul_comm, Nat.mul_left_comm, Nat.mul_assoc]
      try omega
    rw [e1]
    refine Nat.lt_of_lt_of_le (m := 2 ^ (300 + 1400)) ?_ (Nat.pow_le_pow_right (by decide) (by decide))
    refine lt_pow_mul (Nat.le_refl _) ?_ hMB
    calc 720 * (PP * D1) ≤ 720 * (2 ^ 145 * 2 ^ 145) := Nat.mul_le_mul_left _ (Nat.mul_le_mul hP hDl)
      _ ≤ 2 ^ 300 := by decide +kernel)
  have szS3 : ∀ {X : Nat}, X ≤ 2 * (B * PP) * (M * D1 * 360) → X < 2 ^ 3000 := fun h => Nat.lt_of_lt_of_le (szS h) (Nat.pow_le_pow_right (by decide) (by decide))
  have szT : ∀ {X : Nat}, X ≤ 2 * PP * (D1 * 360) → X < 2 ^ 2980 := fun h => szS (Nat.le_trans h (by
    refine Nat.mul_le_mul (Nat.mul_le_mul_left 2 (Nat.le_mul_of_pos_left PP hB)) (Nat.mul_le_mul_right 360 (Nat.le_mul_of_pos_left D1 hM))))
  have szT3 : ∀ {X : Nat}, X ≤ 2 * PP * (D1 * 360) → X < 2 ^ 3000 := fun h => Nat.lt_of_lt_of_le (szT h) (Nat.pow_le_pow_right (by decide) (by decide))
  have hM1 : 0 < M * D1 := Nat.mul_pos hM hD0
  have nSum : NB (M * D1 * scaleC C x) (B + B * PP) (e x + meanC C ss x) := nb_add ((he x hx).mono (by rw [Nat.mul_assoc]; exact Nat.dvd_mul_right _ _) (Nat.le_refl _)) nS
  have nTur : NB (1 * D1 * scaleC C x) (1 + 1 * PP) (1 + meanC C t x) := nb_add (nb_one (by decide)) nT
  have hscM : M * D1 * scaleC C x ≤ M * D1 * 360 := Nat.mul_le_mul_left _ s1
  have hsc1 : 1 * D1 * scaleC C x ≤ D1 * 360 := by
    rw [Nat.one_mul]
    exact Nat.mul_le_mul_left _ s1
  have bigE : Big 3000 (canon (e x)) := (he x hx).big hM hB (Nat.lt_of_lt_of_le hMB (Nat.pow_le_pow_right (by decide) (by decide)))
  have bigS : Big 3000 (canon (meanC C ss x)) := nS.big (Nat.mul_pos hM1 sc0) hBP (szS3 (Nat.mul_le_mul (by omega) hscM))
  have bigSum : Big 3000 (canon (e x + meanC C ss x)) := nSum.big (Nat.mul_pos hM1 sc0) (by omega) (szS3 (Nat.mul_le_mul (by
    have : B ≤ B * PP := Nat.le_mul_of_pos_right B hP1
    omega) hscM))
  have bigT : Big 3000 (canon (meanC C t x)) := nT.big (Nat.mul_pos (by omega) sc0) (by omega) (szT3 (Nat.mul_le_mul (by omega) hsc1))
  have bigTur : Big 3000 (canon (1 + meanC C t x)) := nTur.big (Nat.mul_pos (by omega) sc0) (by omega) (szT3 (Nat.mul_le_mul (by omega) hsc1))
  have big1 : Big 3000 (canon 1) := by rw [canon_one]; exact (big_small small11).mono (by decide)
  have hv6' : Dt K b6 v6 (listQ C.length ss) := hv6
  have hv5' : Dt K b6 v5 (listQ C.length t) := hv5.up (g5.gb.trans g6.gb)
  have tpos : 0 < 1 + meanC C t x := by
    have := (steps_nn hW hG hTf).2 x hx
    grind
  refine r_set (K := K) (d := nQ (e x + meanC C ss x)) (ed_plusR (eda_cons (ed_ixL (ed_var rfl (hN.up G6.gb)) (ev_var rfl) (listQ_at hx)) (eda_cons (ed_meanAt (n := C.length) (m := C.length) (M := M * D1) (B := B * PP) (eda_cons (ed_ixL (ed_var rfl (hC.up G6.gb)) (ev_var rfl) (ch_at hx)) (eda_cons (ed_var rfl hv6') eda_nil)) hmp (Nat.le_refl _) hM1 hBP (szS (Nat.mul_le_mul (by omega) (Nat.le_refl _))) (fun q hq => hNs _ (hmp.q q hq).2.2)) eda_nil)) bigE bigS) G6.gi fun v7 b7 h7 g7 hv7 => ?_
  obtain ⟨Z, hZ0, hZ1, hZt⟩ := grp_mean_zt hW hG (e := e) (s := ss) (t := t) (M := M) (B := B * PP) (D := D1) (E := D1) hNs (he x hx).zt hD0 hD1.1 rfl (by rw [hPe]; exact hNt) hTf
  have hGM : GrpMean C x L e ((e x + meanC C ss x) / (1 + meanC C t x)) := ⟨ss, t, hSf, hTf, rfl⟩
  have hbd := grp_mean_bd hW hG (B := B) (fun y hy => ⟨(he y hy).lo, (he y hy).hi⟩) hGM
  refine r_ret (K := K) (d := nQ ((e x + meanC C ss x) / (1 + meanC C t x))) (ed_divB (eda_cons (ed_var rfl hv7) (eda_cons (ed_plusR (eda_cons hI (eda_cons (ed_meanAt (n := C.length) (m := C.length) (M := 1 * D1) (B := 1 * PP) (eda_cons (ed_ixL (ed_var rfl (hC.up (G6.gb.trans g7.gb))) (ev_var rfl) (ch_at hx)) (eda_cons (ed_var rfl (hv5'.up g7.gb)) eda_nil)) hmp (Nat.le_refl _) (by omega) (by omega) (szT (Nat.mul_le_mul (by omega) (by omega))) (fun q hq => hNt _ (hmp.q q hq).2.2)) eda_nil)) big1 bigT) eda_nil)) bigSum bigTur tpos) (G6.trans g7).gi fun v b' h' g hv => kQ v b' h' _ Z ((G6.trans g7).trans g) hGM hZ0 hZ1 ⟨hZt, hbd.1, hbd.2⟩ hv

abbrev s_long_gains : Stmt := top 28
theorem sc_long_gains : FnScope ["chain", "gains", "known", "group", "mean", "x"] ["chain"] (defScope s_long_gains) := ⟨rfl, rfl, rfl, by decide +kernel, rfl, by decide +kernel, by decide +kernel⟩
theorem has_long_gains (T : Bt mg) (C1 : ConstT K mg "ZERO" (nD (0, 1))) (D : IsDef K mg "long_gains" s_long_gains ["chain"]) (U1 : Has P w K mg base 1 "gains_of" ["game"] (spGains K)) (U2 : Has P w K mg base 3 "groups_of" ["chain"] (spGroups K)) (U3 : Has P w K mg base 7 "mean_in_group" ["chain", "group", "numbers"] (spMeanG K))
    (U4 : HasD P w K mg base 6 "filled_in" ["chain", "places", "extra", "known", "discount"] (nD (1, 1)) (spFillS K)) (U5 : Has P w K mg base 4 "passing_places" ["chain"] (spPass K)) : Has P w K mg base 8 "long_gains" ["chain"] (spLong K) := by
  obtain ⟨f, fd, F, hm, hb⟩ := D
  obtain ⟨a_ZERO, m_ZERO, d_ZERO⟩ := C1
  obtain ⟨f_gains_of, fd_gains_of, G_gains_of, m_gains_of, k_gains_of, b_gains_of⟩ := U1
  obtain ⟨f_groups_of, fd_groups_of, G_groups_of, m_groups_of, k_groups_of, b_groups_of⟩ := U2
  obtain ⟨f_mean_in_group, fd_mean_in_group, G_mean_in_group, m_mean_in_group, k_mean_in_group, b_mean_in_group⟩ := U3
  obtain ⟨u_filled_in, ds_filled_in, f_filled_in, fd_filled_in, du_filled_in, hd_filled_in, G_filled_in, m_filled_in, k_filled_in, b_filled_in⟩ := U4
  obtain ⟨f_passing_places, fd_passing_places, G_passing_places, m_passing_places, k_passing_places, b_passing_places⟩ := U5
  have sc := sc_long_gains
  refine ⟨f, fd, F.ok sc (fun vs H Q E x => ?_) (fun cdv A outer s h0 vs Q E hr hs => ?_), hm, F.kp, hb⟩
  · obtain ⟨b, C, _, hA, _⟩ := x
    exact hA.length
  obtain ⟨b, C, eb, hA, hW, kQ⟩ := hs
  refine ⟨_, (pss_cons (ps_set (i := 1) sc.nd rfl (by first | exact Or.inl rfl | exact Or.inr rfl) (pe_call G_gains_of (hr.mono (by decide)) rfl m_gains_of k_gains_of b_gains_of .nil pass0 (pa_cons (pv 0) pa_nil))) (pss_cons (ps_set (i := 2) sc.nd rfl (by first | exact Or.inl rfl | exact Or.inr rfl) (pe_op op_rep (pe_lst (pa_cons (pe_glob (v := .ref a_ZERO) rfl m_ZERO rfl) pa_nil)) (pe_callB (len_K (K := K) rfl) (by rfl) T.len PySem.boot_len (pa_cons (pv 0) pa_nil)))) (pss_cons (ps_for PassesOwn.never rfl (pi_listK (K := K) rfl (pe_call G_groups_of (hr.mono (by decide)) rfl m_groups_of k_groups_of b_groups_of .nil pass0 (pa_cons (pv 0) pa_nil))) (pg_name (i := 3) sc.nd rfl (by first | exact Or.inl rfl | exact Or.inr rfl)) (pss_cons (ps_set (i := 4) sc.nd rfl (by first | exact Or.inl rfl | exact Or.inr rfl) (pe_call G_mean_in_group (hr.mono (by decide)) rfl m_mean_in_group k_mean_in_group b_mean_in_group .nil pass0 (pa_cons (pv 0) (pa_cons (pv 3) (pa_cons (pv 1) pa_nil))))) (pss_one (ps_for PassesOwn.never rfl (pi_listK (K := K) rfl (pv 3)) (pg_name (i := 5) sc.nd rfl (by first | exact Or.inl rfl | exact Or.inr rfl)) (pss_one (ps_asg (pv 4) (pg_sub (pv 2) (pv 5) set_list))))))) (pss_one (ps_ret (pe_call G_filled_in (hr.mono (by decide)) rfl m_filled_in k_filled_in b_filled_in hd_filled_in pass0 (pa_cons (pv 0) (pa_cons (pe_call G_passing_places (hr.mono (by decide)) rfl m_passing_places k_passing_places b_passing_places .nil pass0 (pa_cons (pv 0) pa_nil)) (pa_cons (pe_op op_rep (pe_lst (pa_cons (pe_glob (v := .ref a_ZERO) rfl m_ZERO rfl) pa_nil)) (pe_callB (len_K (K := K) rfl) (by rfl) T.len PySem.boot_len (pa_cons (pv 0) pa_nil))) (pa_cons (pv 2) pa_nil)))))))))), ?_⟩
  obtain ⟨vC, rfl, hC⟩ : ∃ vC, vs = [vC] ∧ Dt K b vC (.list (C.map PlC.D)) := by
    cases hA with
    | cons h1 hA =>
      cases hA
      exact ⟨_, rfl, h1⟩
  have hC12 := hW.l12
  obtain ⟨un1, un2⟩ := unit_lt hW
  have z0 : nD (0, 1) = nQ 0 := by
    unfold nQ
    rw [canon_zero]
  have hZ : ∀ {σ : L2.St} {b' : Hp}, ED K (tC (.ref a_ZERO)) σ b' (nQ 0) := fun {σ b'} => by
    rw [← z0]
    exact ed_val (d := nD (0, 1)) (d_ZERO _) ev_c
  have hrep : ∀ {σ : L2.St} {b' : Hp}, Ex b b' → σ[0]? = some (some vC) → EN K (tOp rRep (tLst (tCons (tC (.ref a_ZERO)) tNil)) (tCB (rLenS K) (tCons (tVar 0) tNil))) σ b' ((List.range C.length).map fun _ => nQ 0) := fun {σ b'} e1 s1 => by
    rw [← rep_list C 0]
    exact en_rep (n := ((C.map PlC.D).length : Int)) (en_lst (eda_cons hZ eda_nil) (by show 1 ≤ 100000; decide)) (ev_lenL (ed_var s1 (hC.up e1))) (by rw [List.length_map]; omega)
  refine r_set (K := K) (d := listQ C.length (gainC C)) (by
    rw [← gains_list C hW]
    exact ed_gainsC (eda_cons (ed_var rfl hC) eda_nil) (by omega)) eb fun v1 b1 h1 g1 hv1 => ?_
  refine r_setN (K := K) (hrep g1.gb rfl) g1.gi fun q us0 b2 h2 nq mq g2 hq hus0 => ?_
  have G2 := g1.trans g2
  have oq : h0 q = none := fresh_back g1.gh nq
  have hgr : ∀ {n : Nat} {d : PyData}, ((groupsL C).map natsD)[n]? = some d → ∃ x L, (headsL C)[n]? = some x ∧ reachL C x = x :: L ∧ IsGrp C x L ∧ d = natsD (x :: L) := fun {n d} e => by
    unfold groupsL at e
    rw [List.getElem?_map, List.getElem?_map] at e
    cases hz : (headsL C)[n]? with
    | none => rw [hz] at e; cases e
    | some x =>
      rw [hz] at e
      obtain ⟨L, e1, G⟩ := head_grp hW (List.mem_of_getElem? hz)
      cases e
      exact ⟨x, L, rfl, e1, G, congrArg natsD e1⟩
  refine r_forL (K := K) (ds := (groupsL C).map natsD) (ed_groups (eda_cons (ed_var rfl (hC.up G2.gb)) eda_nil) hW) G2.gi fun aT xsT b4 h4 g4 _ _ => ⟨fun n σ' h' => ∃ (us : List V) (u3 u4 u5 : Option V) (b' : Hp) (kn : Nat → Rat) (Z : Nat), σ' = [some vC, some v1, some (.ref q), u3, u4, u5] ∧ Gr b h0 b' h' ∧ Ex b4 b' ∧ b' q = none ∧ h' q = some (.lst us) ∧ DtA K b' us ((List.range C.length).map fun y => nQ (kn y)) ∧ GInv C (RLong C) (denL (gainsC C)) 1000 2 n kn Z,
    ⟨us0, none, none, none, b4, fun _ => 0, 1, rfl, G2.trans g4, Ex.refl _, g4.gf q mq (by rw [hq]; intro z; cases z), g4.gh _ _ hq, hus0.up g4.gb, ginv_zero⟩, fun n σ' h' p => ?_, ?_, ?_⟩
  · obtain ⟨_, _, _, _, b', _, _, _, g, e, _⟩ := p
    exact e.trans g.gi
  · rintro n d xv σ' h' hd hx ⟨us, u3, u4, u5, b', kn, Z, rfl, gi, eB, nqb, hq', hus, inv⟩
    obtain ⟨x, L, hxn, hL, hG, rfl⟩ := hgr hd
    have hvC := hC.up (G2.gb.trans (g4.gb.trans eB))
    have hvN : Dt K b' v1 (listQ C.length (gainC C)) := hv1.up (g2.gb.trans (g4.gb.trans eB))
    have hxv := hx.up eB
    show tSeq _ _ _ [some vC, some v1, some (.ref q), some xv, u4, u5] _
    refine r_call (K := K) (ds := [chD C, natsD (x :: L), listQ C.length (gainC C)]) (eda_cons (ed_var rfl hvC) (eda_cons (ed_var rfl hxv) (eda_cons (ed_var rfl hvN) eda_nil))) gi.gi fun vs5 b5 h5 g5 hA5 => ?_
    refine ⟨b5, C, x, L, gainC C, denL (gainsC C), 1000, g5.gi, hA5, hW, hG, un1, by decide, Nat.lt_of_lt_of_le (lt_pow_mul (i := 10) (Nat.le_refl _) (by decide) un2) (Nat.pow_le_pow_right (by decide) (by decide)), fun y hy => gain_nb hW hy, fun v6 b6 h6 m Zg g6 hGM hZ0 hZ1 hNm hv6 => ?_⟩
    have G6 := g5.trans g6
    have GI := gi.trans G6
    have nq6 : b6 q = none := G6.gf q nqb (by rw [hq']; intro z; cases z)
    have hq6 := G6.gh _ _ hq'
    show tFor _ _ _ _ [some vC, some v1, some (.ref q), some xv, some v6, u5] _
    refine r_forL (K := K) (ds := (x :: L).map fun y : Nat => PyData.int (y : Int)) (ed_var rfl (hxv.up G6.gb)) G6.gi fun aT2 xsT2 b7 h7 g7 _ _ => ⟨fun j σ' h' => ∃ (us : List V) (u5 : Option V) (b' : Hp), σ' = [some vC, some v1, some (.ref q), some xv, some v6, u5] ∧ Gr b h0 b' h' ∧ Ex b7 b' ∧ b' q = none ∧ h' q = some (.lst us) ∧ DtA K b' us ((List.range C.length).map fun y => nQ (if y ∈ (x :: L).take j then m else kn y)),
      ⟨us, u5, b7, rfl, GI.trans g7, Ex.refl _, g7.gf q nq6 (by rw [hq6]; intro z; cases z), g7.gh _ _ hq6, by
        rw [List.take_zero]
        have e : ((List.range C.length).map fun y => nQ (if y ∈ ([] : List Nat) then m else kn y)) = (List.range C.length).map fun y => nQ (kn y) := List.map_congr_left fun y _ => by rw [if_neg (by simp)]
        rw [e]
        exact hus.up (G6.gb.trans g7.gb)⟩, fun j σ' h' p => ?_, ?_, ?_⟩
    · obtain ⟨_, _, b', _, g, e, _⟩ := p
      exact e.trans g.gi
    · rintro j d yv σ' h' hd hyv ⟨us, u5, b', rfl, gj, eJ, nqj, hqj, husj⟩
      rw [List.getElem?_map] at hd
      cases hz : (x :: L)[j]? with
      | none => rw [hz] at hd; cases hd
      | some y =>
        rw [hz] at hd
        cases hd
        obtain rfl := hyv.intI
        have hyl := hG.lt y (List.mem_of_getElem? hz)
        have hul : us.length = C.length := by rw [husj.length, List.length_map, List.length_range]
        refine r_setL (K := K) (a := q) (d := nQ m) (j := y) (i := 2) (k := 5) (b := b') (us := us) (ED.at (ed_var rfl (hv6.up (g7.gb.trans eJ))) gj.gi) hqj nqj rfl rfl (by omega) fun v b8 h8 g8 nq8 hq8 hv => ?_
        refine ⟨us.set y v, _, b8, rfl, (gj.trans g8).mut oq nq8, eJ.trans g8.gb, nq8, upd_same, ?_⟩
        have := DtA.set y (husj.up g8.gb) hv
        rw [range_set] at this
        have e : ((List.range C.length).map fun z => nQ (if z ∈ (x :: L).take (j + 1) then m else kn z)) = (List.range C.length).map fun i => if i = y then nQ m else nQ (if i ∈ (x :: L).take j then m else kn i) := by
          refine List.map_congr_left fun z _ => ?_
          rw [take_snoc hz]
          by_cases c : z = y
          · rw [if_pos c, if_pos (List.mem_append_right _ (List.mem_singleton.mpr c))]
          · rw [if_neg c]
            by_cases c2 : z ∈ (x :: L).take j
            · rw [if_pos c2, if_pos (List.mem_append_left _ c2)]
            · rw [if_neg c2, if_neg]
              intro c3
              rcases List.mem_append.mp c3 with c3 | c3
              · exact c2 c3
              · exact c (List.mem_singleton.mp c3)
        rw [e]
        exact this
    · rintro σ' h' ⟨us, u5, b', rfl, gj, eJ, nqj, hqj, husj⟩
      rw [List.length_map, List.take_length] at husj
      exact ⟨us, _, _, _, b', fun y => if y ∈ x :: L then m else kn y, Z * Zg, rfl, gj, eB.trans (G6.gb.trans (g7.gb.trans eJ)), nqj, hqj, husj, ginv_step hW rlong_mono inv hxn hL hZ0 hZ1 (fun y _ => hNm) ⟨m, hGM, fun _ _ => rfl⟩⟩
  · rintro σ' h' ⟨us, u3, u4, u5, b', kn, Z, rfl, gi, eB, nqb, hq', hus, inv⟩
    have hgl : ((groupsL C).map natsD).length = (headsL C).length := by
      unfold groupsL
      rw [List.length_map, List.length_map]
    rw [hgl] at inv
    obtain ⟨ip, ig⟩ := ginv_pass inv
    have TQ := gi.tell oq nqb hq'
    have dK : Dt K (upd b' q (.lst us)) (.ref q) (listQ C.length kn) := Dt.list upd_same (hus.up (Ex.new nqb))
    have eT : Ex b' (upd b' q (.lst us)) := Ex.new nqb
    generalize upd b' q (.lst us) = bT at TQ dK eT
    have hvC := hC.up TQ.gb
    have hsz := size_all hW
    have hz2 : Z ≤ 4320 ^ (2 * C.length) := Nat.le_trans inv.z1 (Nat.pow_le_pow_right (by decide) (by omega))
    have hz3 : Z ≤ 2 ^ 290 := Nat.le_trans hz2 (Nat.le_trans (Nat.pow_le_pow_right (by decide) (show 2 * C.length ≤ 24 by omega)) (by decide +kernel))
    refine r_retCD du_filled_in (K := K) (ds := [chD C, natsD (passL C), listQ C.length fun _ => 0, listQ C.length kn]) (eda_cons (ed_var rfl hvC) (eda_cons (ed_pass (eda_cons (ed_var rfl hvC) eda_nil) hW) (eda_cons (by
      unfold listQ
      exact EN.ed (hrep TQ.gb rfl)) (eda_cons (ed_var rfl dK) eda_nil)))) TQ.gi fun us9 b9 h9 g9 hA9 => ?_
    refine ⟨b9, C, passL C, fun _ => 0, kn, denL (gainsC C) * Z, 1000, g9.gi, hA9, hW, pass_nodup, pass_lt, out_pass hW, Nat.mul_pos un1 inv.z0, by decide, ?_, fun _ _ => nb_zero _ _, fun y _ => inv.nb y, ip, fun v b' h' f D g hF hD0 hD1 hNf hv own => ?_⟩
    · refine Nat.lt_of_lt_of_le (m := 2 ^ (10 + 410)) (lt_pow_mul (Nat.le_refl _) (by decide) ?_) (Nat.pow_le_pow_right (by decide) (by decide))
      rw [Nat.mul_comm]
      exact Nat.lt_of_lt_of_le (lt_pow_mul (Nat.le_refl _) hz3 un2) (by decide)
    · have hbd := fill_same_bd hW pass_lt (out_pass hW) (B := 1000) (fun y _ => ⟨(inv.nb y).lo, (inv.nb y).hi⟩) hF
      refine kQ v b' h' f (Z * D) ((TQ.trans g9).trans g) ⟨fun x hx L hL => ?_, fun x hx => ?_⟩ (Nat.mul_pos inv.z0 hD0) ?_ (fun y hy => ⟨?_, (hbd y hy).1, (hbd y hy).2⟩) hv (own.back (TQ.trans g9).gh)
      · obtain ⟨m, a1, a2⟩ := ig x hx L hL
        exact ⟨m, a1, fun y hy => by rw [hF.out y (pass_out hW hx hL hy)]; exact a2 y hy⟩
      · have := hF.eq x hx
        rwa [Rat.zero_add] at this
      · refine Nat.le_trans (Nat.mul_le_mul inv.z1 hD1.1) ?_
        rw [← Nat.pow_add]
        exact Nat.pow_le_pow_right (by decide) (by omega)
      · have := (hNf y hy).zt
        rwa [Nat.mul_assoc] at this

abbrev s_leads : Stmt := top 29
theorem sc_leads : FnScope ["chain", "ahead", "known", "group", "raised", "mean", "x", "gain"] ["chain"] (defScope s_leads) := ⟨rfl, rfl, rfl, by decide +kernel, rfl, by decide +kernel, by decide +kernel⟩
theorem has_leads (T : Bt mg) (C1 : ConstT K mg "ZERO" (nD (0, 1))) (D : IsDef K mg "leads" s_leads ["chain"]) (U1 : Has P w K mg base 1 "gains_of" ["game"] (spGains K)) (U2 : Has P w K mg base 3 "groups_of" ["chain"] (spGroups K)) (U3 : Has P w K mg base 7 "mean_in_group" ["chain", "group", "numbers"] (spMeanG K))
    (U4 : HasD P w K mg base 6 "filled_in" ["chain", "places", "extra", "known", "discount"] (nD (1, 1)) (spFillS K)) (U5 : Has P w K mg base 4 "passing_places" ["chain"] (spPass K)) (U6 : Has P w K mg base 8 "long_gains" ["chain"] (spLong K)) (U7 : Has P w K mg base 2 "minus" ["a", "b"] (spMinusR K)) : Has P w K mg base 9 "leads" ["chain"] (spLead K) := by
  obtain ⟨f, fd, F, hm, hb⟩ := D
  obtain ⟨a_ZERO, m_ZERO, d_ZERO⟩ := C1
  obtain ⟨f_gains_of, fd_gains_of, G_gains_of, m_gains_of, k_gains_of, b_gains_of⟩ := U1
  obtain ⟨f_groups_of, fd_groups_of, G_groups_of, m_groups_of, k_groups_of, b_groups_of⟩ := U2
  obtain ⟨f_mean_in_group, fd_mean_in_group, G_mean_in_group, m_mean_in_group, k_mean_in_group, b_mean_in_group⟩ := U3
  obtain ⟨u_filled_in, ds_filled_in, f_filled_in, fd_filled_in, du_filled_in, hd_filled_in, G_filled_in, m_filled_in, k_filled_in, b_filled_in⟩ := U4
  obtain ⟨f_passing_places, fd_passing_places, G_passing_places, m_passing_places, k_passing_places, b_passing_places⟩ := U5
  obtain ⟨f_long_gains, fd_long_gains, G_long_gains, m_long_gains, k_long_gains, b_long_gains⟩ := U6
  obtain ⟨f_minus, fd_minus, G_minus, m_minus, k_minus, b_minus⟩ := U7
  have sc := sc_leads
  refine ⟨f, fd, F.ok sc (fun vs H Q E x => ?_) (fun cdv A outer s h0 vs Q E hr hs => ?_), hm, F.kp, hb⟩
  · obtain ⟨b, C, _, hA, _⟩ := x
    exact hA.length
  obtain ⟨b, C, eb, hA, hW, kQ⟩ := hs
  refine ⟨_, (pss_cons (ps_setLc (i := 1) (own := [("gain", 7), ("mean", 5)]) (tt := tYes) rfl sc.nd rfl rfl (sw_true rfl rfl rfl (by decide +kernel)) (pi_zipK (K := K) rfl (by rfl) T.zip (pa_cons (pe_call G_gains_of (hr.mono (by decide)) rfl m_gains_of k_gains_of b_gains_of .nil pass0 (pa_cons (pv 0) pa_nil)) (pa_cons (pe_call G_long_gains (hr.mono (by decide)) rfl m_long_gains k_long_gains b_long_gains .nil pass0 (pa_cons (pv 0) pa_nil)) pa_nil))) (blkOk_by (N := ["chain", "ahead", "known", "group", "raised", "mean", "x", "gain"]) (sc := defScope s_leads) (by decide +kernel)) (fun _ _ _ _ _ => (pg_tupK (K := K) (n := 2) rfl rfl (pgs_cons (pg_name (i := 7) sc.nd rfl (by first | exact Or.inl rfl | exact Or.inr rfl)) (pgs_cons (pg_name (i := 5) sc.nd rfl (by first | exact Or.inl rfl | exact Or.inr rfl)) pgs_nil)))) (fun _ _ _ _ _ => pts_nil) (fun _ _ _ _ _ => (pe_call G_minus (hr.mono (by decide)) rfl m_minus k_minus b_minus .nil pass0 (pa_cons (pv 7) (pa_cons (pv 5) pa_nil))))) (pss_cons (ps_set (i := 2) sc.nd rfl (by first | exact Or.inl rfl | exact Or.inr rfl) (pe_op op_rep (pe_lst (pa_cons (pe_glob (v := .ref a_ZERO) rfl m_ZERO rfl) pa_nil)) (pe_callB (len_K (K := K) rfl) (by rfl) T.len PySem.boot_len (pa_cons (pv 0) pa_nil)))) (pss_cons (ps_for PassesOwn.never rfl (pi_listK (K := K) rfl (pe_call G_groups_of (hr.mono (by decide)) rfl m_groups_of k_groups_of b_groups_of .nil pass0 (pa_cons (pv 0) pa_nil))) (pg_name (i := 3) sc.nd rfl (by first | exact Or.inl rfl | exact Or.inr rfl)) (pss_cons (ps_set (i := 4) sc.nd rfl (by first | exact Or.inl rfl | exact Or.inr rfl) (pe_call G_filled_in (hr.mono (by decide)) rfl m_filled_in k_filled_in b_filled_in hd_filled_in pass0 (pa_cons (pv 0) (pa_cons (pe_slice (sl_listK (K := K) rfl) (pv 3) (po_some pe_int) po_none) (pa_cons (pv 1) (pa_cons (pe_op op_rep (pe_lst (pa_cons (pe_glob (v := .ref a_ZERO) rfl m_ZERO rfl) pa_nil)) (pe_callB (len_K (K := K) rfl) (by rfl) T.len PySem.boot_len (pa_cons (pv 0) pa_nil))) pa_nil)))))) (pss_cons (ps_set (i := 5) sc.nd rfl (by first | exact Or.inl rfl | exact Or.inr rfl) (pe_call G_mean_in_group (hr.mono (by decide)) rfl m_mean_in_group k_mean_in_group b_mean_in_group .nil pass0 (pa_cons (pv 0) (pa_cons (pv 3) (pa_cons (pv 4) pa_nil))))) (pss_one (ps_for PassesOwn.never rfl (pi_listK (K := K) rfl (pv 3)) (pg_name (i := 6) sc.nd rfl (by first | exact Or.inl rfl | exact Or.inr rfl)) (pss_one (ps_asg (pe_call G_minus (hr.mono (by decide)) rfl m_minus k_minus b_minus .nil pass0 (pa_cons (pe_ix (ix_listK (K := K) rfl) (pv 4) (pv 6) (fun _ _ => rfl)) (pa_cons (pv 5) pa_nil))) (pg_sub (pv 2) (pv 6) set_list)))))))) (pss_one (ps_ret (pe_call G_filled_in (hr.mono (by decide)) rfl m_filled_in k_filled_in b_filled_in hd_filled_in pass0 (pa_cons (pv 0) (pa_cons (pe_call G_passing_places (hr.mono (by decide)) rfl m_passing_places k_passing_places b_passing_places .nil pass0 (pa_cons (pv 0) pa_nil)) (pa_cons (pv 1) (pa_cons (pv 2) pa_nil)))))))))), ?_⟩
  obtain ⟨vC, rfl, hC⟩ : ∃ vC, vs = [vC] ∧ Dt K b vC (.list (C.map PlC.D)) := by
    cases hA with
    | cons h1 hA =>
      cases hA
      exact ⟨_, rfl, h1⟩
  have hC12 := hW.l12
  obtain ⟨un1, un2⟩ := unit_lt hW
  have z0 : nD (0, 1) = nQ 0 := by
    unfold nQ
    rw [canon_zero]
  have hZ : ∀ {σ : L2.St} {b' : Hp}, ED K (tC (.ref a_ZERO)) σ b' (nQ 0) := fun {σ b'} => by
    rw [← z0]
    exact ed_val (d := nD (0, 1)) (d_ZERO _) ev_c
  have hrep : ∀ {σ : L2.St} {b' : Hp}, Ex b b' → σ[0]? = some (some vC) → EN K (tOp rRep (tLst (tCons (tC (.ref a_ZERO)) tNil)) (tCB (rLenS K) (tCons (tVar 0) tNil))) σ b' ((List.range C.length).map fun _ => nQ 0) := fun {σ b'} e1 s1 => by
    rw [← rep_list C 0]
    exact en_rep (n := ((C.map PlC.D).length : Int)) (en_lst (eda_cons hZ eda_nil) (by show 1 ≤ 100000; decide)) (ev_lenL (ed_var s1 (hC.up e1))) (by rw [List.length_map]; omega)
  obtain ⟨Z0, zz0, zz1, hgN⟩ := long_nb hW
  have M0 : 0 < denL (gainsC C) * Z0 := Nat.mul_pos un1 zz0
  have szL : ∀ {X : Nat}, X ≤ 2000 * (denL (gainsC C) * Z0) → X < 2 ^ 3000 := fun h => Nat.lt_of_le_of_lt h (Nat.lt_of_lt_of_le (sz_raise (U0 := 0) hW zz1) (Nat.pow_le_pow_right (by decide) (by decide)))
  have hAh := ahead_nb hW hgN
  have hgl0 : ((List.range C.length).map fun y => nQ (gainC C y - longC C y)) = givenD C.length (fun _ => true) (fun y => nQ (gainC C y - longC C y)) := (givenD_all _ _).symm
  refine r_set (K := K) (d := listQ C.length fun y => gainC C y - longC C y) (by
    unfold listQ
    rw [hgl0]
    refine EN.ed (en_lcZ (K := K) (i := 7) (j := 5) (n := C.length) (ds := (List.range C.length).map fun y => nQ (gainC C y)) (es := (List.range C.length).map fun y => nQ (longC C y)) (by
      show ED K _ _ _ (listQ C.length (gainC C))
      rw [← gains_list C hW]
      exact ed_gainsC (eda_cons (ed_var rfl hC) eda_nil) (by omega)) (ed_long (eda_cons (ed_var rfl hC) eda_nil) hW) (by rw [List.length_map, List.length_map, List.length_range, Nat.min_self]) (by omega) (fun _ => true) (fun y => nQ (gainC C y - longC C y)) (fun _ _ => rfl) fun y d1 d2 w1 w2 b8 e8 hd1 hd2 hw1 hw2 => ⟨et_yes, fun _ => ?_⟩)
    have hy : y < C.length := by
      have := (List.getElem?_eq_some_iff.mp hd1).1
      rwa [List.length_map, List.length_range] at this
    rw [List.getElem?_map, List.getElem?_range hy] at hd1 hd2
    cases hd1
    cases hd2
    exact ed_minusR (eda_cons (ed_var rfl hw1) (eda_cons (ed_var rfl hw2) eda_nil)) ((big_canon_small (plC_wf hW hy).g).mono (by decide)) ((hgN y hy).big M0 (by decide) (szL (Nat.mul_le_mul_right _ (by decide))))) eb fun v1 b1 h1 g1 hv1 => ?_
  refine r_setN (K := K) (hrep g1.gb rfl) g1.gi fun q us0 b2 h2 nq mq g2 hq hus0 => ?_
  have G2 := g1.trans g2
  have oq : h0 q = none := fresh_back g1.gh nq
  have hgr : ∀ {n : Nat} {d : PyData}, ((groupsL C).map natsD)[n]? = some d → ∃ x L, (headsL C)[n]? = some x ∧ reachL C x = x :: L ∧ IsGrp C x L ∧ d = natsD (x :: L) := fun {n d} e => by
    unfold groupsL at e
    rw [List.getElem?_map, List.getElem?_map] at e
    cases hz : (headsL C)[n]? with
    | none => rw [hz] at e; cases e
    | some x =>
      rw [hz] at e
      obtain ⟨L, e1, G⟩ := head_grp hW (List.mem_of_getElem? hz)
      cases e
      exact ⟨x, L, rfl, e1, G, congrArg natsD e1⟩
  have hsl : ∀ {σ : L2.St} {b' : Hp} {x : Nat} {L : List Nat} {vG : V}, Dt K b' vG (natsD (x :: L)) → σ[3]? = some (some vG) → ED K (tSl (rSlL K) (tVar 3) (tPart (tC (V.int 1))) tNoPart) σ b' (natsD L) := fun {σ b' x L vG} hv s1 => by
    have := EN.ed (en_sl (K := K) (ds := (x :: L).map fun y : Nat => PyData.int (y : Int)) (ed_var (σ := σ) (b := b') (k := 3) s1 hv) (eo_some ev_c) eo_none (lo := some 1) (hi := none))
    rw [cut_tail] at this
    exact this
  refine r_forL (K := K) (ds := (groupsL C).map natsD) (ed_groups (eda_cons (ed_var rfl (hC.up G2.gb)) eda_nil) hW) G2.gi fun aT xsT b4 h4 g4 _ _ => ⟨fun n σ' h' => ∃ (us : List V) (u3 u4 u5 u6 : Option V) (b' : Hp) (kn : Nat → Rat) (W : Nat), σ' = [some vC, some v1, some (.ref q), u3, u4, u5, u6, none] ∧ Gr b h0 b' h' ∧ Ex b4 b' ∧ b' q = none ∧ h' q = some (.lst us) ∧ DtA K b' us ((List.range C.length).map fun y => nQ (kn y)) ∧ GInv C (RLead C (longC C)) (denL (gainsC C) * Z0) (4000 * 4320 ^ (C.length - (passL C).length)) 3 n kn W,
    ⟨us0, none, none, none, none, b4, fun _ => 0, 1, rfl, G2.trans g4, Ex.refl _, g4.gf q mq (by rw [hq]; intro z; cases z), g4.gh _ _ hq, hus0.up g4.gb, ginv_zero⟩, fun n σ' h' p => ?_, ?_, ?_⟩
  · obtain ⟨_, _, _, _, _, b', _, _, _, g, e, _⟩ := p
    exact e.trans g.gi
  · rintro n d xv σ' h' hd hx ⟨us, u3, u4, u5, u6, b', kn, W, rfl, gi, eB, nqb, hq', hus, inv⟩
    obtain ⟨x, L, hxn, hL, hG, rfl⟩ := hgr hd
    have hxm := List.mem_of_getElem? hxn
    have hLl := grp_len hW hG
    have hLn : L.Nodup := (List.nodup_cons.mp hG.nd).2
    have hLt : ∀ y ∈ L, y < C.length := fun y hy => hG.lt y (List.mem_cons_of_mem x hy)
    have hvC := hC.up (G2.gb.trans (g4.gb.trans eB))
    have hvN : Dt K b' v1 (listQ C.length fun y => gainC C y - longC C y) := hv1.up (g2.gb.trans (g4.gb.trans eB))
    have hxv := hx.up eB
    show tSeq _ _ _ [some vC, some v1, some (.ref q), some xv, u4, u5, u6, none] _
    refine r_callD du_filled_in (K := K) (ds := [chD C, natsD L, listQ C.length fun y => gainC C y - longC C y, listQ C.length fun _ => 0]) (eda_cons (ed_var rfl hvC) (eda_cons (hsl hxv rfl) (eda_cons (ed_var rfl hvN) (eda_cons (by
      unfold listQ
      exact EN.ed (hrep (G2.gb.trans (g4.gb.trans eB)) rfl)) eda_nil)))) gi.gi fun vs5 b5 h5 g5 hA5 => ?_
    refine ⟨b5, C, L, fun y => gainC C y - longC C y, fun _ => 0, denL (gainsC C) * Z0, 2000, g5.gi, hA5, hW, hLn, hLt, out_tail hW hG, M0, by decide, sz_raise (U0 := 0) hW zz1, fun y hy => hAh y (hLt y hy), fun _ _ => nb_zero _ _, fun _ _ => rfl, fun v6 b6 h6 ss D1 g6 hSf hD0 hD1 hNs hv6 _ => ?_⟩
    have G6 := g5.trans g6
    have B20 : 1 ≤ 2000 * 4320 ^ (L.length + 1) := Nat.mul_pos (by decide) (Nat.pow_pos (by decide))
    show tSeq _ _ _ [some vC, some v1, some (.ref q), some xv, some v6, u5, u6, none] _
    refine r_call (K := K) (ds := [chD C, natsD (x :: L), listQ C.length ss]) (eda_cons (ed_var rfl (hvC.up G6.gb)) (eda_cons (ed_var rfl (hxv.up G6.gb)) (eda_cons (ed_var rfl hv6) eda_nil))) G6.gi fun vs7 b7 h7 g7 hA7 => ?_
    refine ⟨b7, C, x, L, ss, denL (gainsC C) * Z0 * D1, 2000 * 4320 ^ (L.length + 1), g7.gi, hA7, hW, hG, Nat.mul_pos M0 hD0, B20, sz_mean hW zz1 hLl hD1.1, hNs, fun v8 b8 h8 m Zg g8 hGM hZ0 hZ1 hNm hv8 => ?_⟩
    obtain ⟨c1, c2⟩ := lead_size hW hxm hL hG hD1.1 hZ1 hNs hNm
    have G8 := G6.trans (g7.trans g8)
    have GI := gi.trans G8
    have nq8 : b8 q = none := G8.gf q nqb (by rw [hq']; intro z; cases z)
    have hq8 := G8.gh _ _ hq'
    have hv6' : Dt K b8 v6 (listQ C.length ss) := hv6.up (g7.gb.trans g8.gb)
    have bigs : ∀ y, y < C.length → Big 3000 (canon (ss y)) := fun y hy => (hNs y hy).big (Nat.mul_pos M0 hD0) B20 (Nat.lt_of_lt_of_le (sz_mean hW zz1 hLl hD1.1) (Nat.pow_le_pow_right (by decide) (by decide)))
    have bigm : Big 3000 (canon m) := hNm.big (Nat.mul_pos (Nat.mul_pos M0 hD0) hZ0) B20 (by
      have a : Zg ≤ 2 ^ (13 * 24) := Nat.le_trans hZ1 (pow288 (by have := hW.l12; omega))
      have e : 2000 * 4320 ^ (L.length + 1) * (denL (gainsC C) * Z0 * D1 * Zg) = Zg * (2000 * 4320 ^ (L.length + 1) * (denL (gainsC C) * Z0 * D1)) := by
        rw [← Nat.mul_assoc _ _ Zg, Nat.mul_comm _ Zg]
      rw [e]
      exact Nat.lt_of_lt_of_le (lt_pow_mul (Nat.le_refl _) a (sz_mean hW zz1 hLl hD1.1)) (Nat.pow_le_pow_right (by decide) (by decide)))
    show tFor _ _ _ _ [some vC, some v1, some (.ref q), some xv, some v6, some v8, u6, none] _
    refine r_forL (K := K) (ds := (x :: L).map fun y : Nat => PyData.int (y : Int)) (ed_var rfl (hxv.up G8.gb)) G8.gi fun aT2 xsT2 b9 h9 g9 _ _ => ⟨fun j σ' h' => ∃ (us : List V) (u6 : Option V) (b' : Hp), σ' = [some vC, some v1, some (.ref q), some xv, some v6, some v8, u6, none] ∧ Gr b h0 b' h' ∧ Ex b9 b' ∧ b' q = none ∧ h' q = some (.lst us) ∧ DtA K b' us ((List.range C.length).map fun y => nQ (if y ∈ (x :: L).take j then ss y - m else kn y)),
      ⟨us, u6, b9, rfl, GI.trans g9, Ex.refl _, g9.gf q nq8 (by rw [hq8]; intro z; cases z), g9.gh _ _ hq8, by
        rw [List.take_zero]
        have e : ((List.range C.length).map fun y => nQ (if y ∈ ([] : List Nat) then ss y - m else kn y)) = (List.range C.length).map fun y => nQ (kn y) := List.map_congr_left fun y _ => by rw [if_neg (by simp)]
        rw [e]
        exact hus.up (G8.gb.trans g9.gb)⟩, fun j σ' h' p => ?_, ?_, ?_⟩
    · obtain ⟨_, _, b', _, g, e, _⟩ := p
      exact e.trans g.gi
    · rintro j d yv σ' h' hd hyv ⟨us, u6, b', rfl, gj, eJ, nqj, hqj, husj⟩
      rw [List.getElem?_map] at hd
      cases hz : (x :: L)[j]? with
      | none => rw [hz] at hd; cases hd
      | some y =>
        rw [hz] at hd
        cases hd
        obtain rfl := hyv.intI
        have hyl := hG.lt y (List.mem_of_getElem? hz)
        have hul : us.length = C.length := by rw [husj.length, List.length_map, List.length_range]
        have eR := g9.gb.trans eJ
        refine r_setL (K := K) (a := q) (d := nQ (ss y - m)) (j := y) (i := 2) (k := 6) (b := b') (us := us) (ED.at (ed_minusR (eda_cons (ed_ixL (ed_var rfl (hv6'.up eR)) (ev_var rfl) (listQ_at hyl)) (eda_cons (ed_var rfl (hv8.up eR)) eda_nil)) (bigs y hyl) bigm) gj.gi) hqj nqj rfl rfl (by omega) fun v b10 h10 g10 nq10 hq10 hv => ?_
        refine ⟨us.set y v, _, b10, rfl, (gj.trans g10).mut oq nq10, eJ.trans g10.gb, nq10, upd_same, ?_⟩
        have := DtA.set y (husj.up g10.gb) hv
        rw [range_set] at this
        have e : ((List.range C.length).map fun z => nQ (if z ∈ (x :: L).take (j + 1) then ss z - m else kn z)) = (List.range C.length).map fun i => if i = y then nQ (ss y - m) else nQ (if i ∈ (x :: L).take j then ss i - m else kn i) := by
          refine List.map_congr_left fun z _ => ?_
          rw [take_snoc hz]
          by_cases c : z = y
          · subst c
            rw [if_pos rfl, if_pos (List.mem_append_right _ (List.mem_singleton.mpr rfl))]
          · rw [if_neg c]
            by_cases c2 : z ∈ (x :: L).take j
            · rw [if_pos c2, if_pos (List.mem_append_left _ c2)]
            · rw [if_neg c2, if_neg]
              intro c3
              rcases List.mem_append.mp c3 with c3 | c3
              · exact c2 c3
              · exact c (List.mem_singleton.mp c3)
        rw [e]
        exact this
    · rintro σ' h' ⟨us, u6, b', rfl, gj, eJ, nqj, hqj, husj⟩
      rw [List.length_map, List.take_length] at husj
      exact ⟨us, _, _, _, _, b', fun y => if y ∈ x :: L then ss y - m else kn y, W * (D1 * Zg), rfl, gj, eB.trans (G8.gb.trans (g9.gb.trans eJ)), nqj, hqj, husj, ginv_step hW rlead_mono inv hxn hL (Nat.mul_pos hD0 hZ0) c1 (nw := fun y => ss y - m) c2 ⟨ss, m, hSf, hGM, fun _ _ => rfl⟩⟩
  · rintro σ' h' ⟨us, u3, u4, u5, u6, b', kn, W, rfl, gi, eB, nqb, hq', hus, inv⟩
    have hgl : ((groupsL C).map natsD).length = (headsL C).length := by
      unfold groupsL
      rw [List.length_map, List.length_map]
    rw [hgl] at inv
    obtain ⟨ip, ig⟩ := ginv_pass inv
    have TQ := gi.tell oq nqb hq'
    have dK : Dt K (upd b' q (.lst us)) (.ref q) (listQ C.length kn) := Dt.list upd_same (hus.up (Ex.new nqb))
    have eT : Ex b' (upd b' q (.lst us)) := Ex.new nqb
    have hvN : Dt K (upd b' q (.lst us)) v1 (listQ C.length fun y => gainC C y - longC C y) := hv1.up (g2.gb.trans (g4.gb.trans (eB.trans eT)))
    generalize upd b' q (.lst us) = bT at TQ dK eT hvN
    have hvC := hC.up TQ.gb
    have hsz := size_all hW
    have hW2 : W ≤ 4320 ^ (3 * C.length) := Nat.le_trans inv.z1 (Nat.pow_le_pow_right (by decide) (by omega))
    refine r_retCD du_filled_in (K := K) (ds := [chD C, natsD (passL C), listQ C.length fun y => gainC C y - longC C y, listQ C.length kn]) (eda_cons (ed_var rfl hvC) (eda_cons (ed_pass (eda_cons (ed_var rfl hvC) eda_nil) hW) (eda_cons (ed_var rfl hvN) (eda_cons (ed_var rfl dK) eda_nil)))) TQ.gi fun us9 b9 h9 g9 hA9 => ?_
    refine ⟨b9, C, passL C, fun y => gainC C y - longC C y, kn, denL (gainsC C) * Z0 * W, 4000 * 4320 ^ (C.length - (passL C).length), g9.gi, hA9, hW, pass_nodup, pass_lt, out_pass hW, Nat.mul_pos M0 inv.z0, Nat.mul_pos (by decide) (Nat.pow_pos (by decide)), sz_last hW zz1 hW2, fun y hy => (hAh y (pass_lt y hy)).mono (Nat.dvd_mul_right _ _) (Nat.le_trans (by decide : 2000 ≤ 4000 * 1) (Nat.mul_le_mul_left 4000 (Nat.pow_pos (by decide)))), fun y _ => inv.nb y, ip, fun v b' h' f D g hF hD0 hD1 hNf hv own => ?_⟩
    obtain ⟨c1, c2, c3, c4⟩ := lead_last hW zz0 zz1 inv hD0 hD1.1 hF hNf
    exact kQ v b' h' ((TQ.trans g9).trans g) (by rw [← lead_is hW c1]; exact hv) (own.back (TQ.trans g9).gh)

abbrev s__renamed : Stmt := top 37
theorem sc__renamed : FnScope ["place", "names", "gain", "kind", "branches", "target", "chance"] ["place", "names"] (defScope s__renamed) := ⟨rfl, rfl, rfl, by decide +kernel, rfl, by decide +kernel, by decide +kernel⟩
theorem has__renamed (D : IsDef K mg "_renamed" s__renamed ["place", "names"])  : Has P w K mg base (1) "_renamed" ["place", "names"] (spP K (kRen)) := by
  obtain ⟨f, fd, F, hm, hb⟩ := D

  have sc := sc__renamed
  refine ⟨f, fd, F.ok sc (fun vs H Q E x => ?_) (fun cdv A outer s h0 vs Q E hr hs => ?_), hm, F.kp, hb⟩
  · obtain ⟨b, ds, P, _, hA, hR, _⟩ := x
    obtain ⟨_, _, rfl, _⟩ := con2_is hR
    rw [hA.length]
    rfl
  obtain ⟨b, ds, Pq, eb, hA, hR, kQ⟩ := hs
  obtain ⟨x0, x1, rfl, hR⟩ := con2_is hR
  refine ⟨_, (pss_cons (ps_asg (pv 0) (pg_tupK (K := K) (n := 3) rfl rfl (pgs_cons (pg_name (i := 2) sc.nd rfl (by first | exact Or.inl rfl | exact Or.inr rfl)) (pgs_cons (pg_name (i := 3) sc.nd rfl (by first | exact Or.inl rfl | exact Or.inr rfl)) (pgs_cons (pg_name (i := 4) sc.nd rfl (by first | exact Or.inl rfl | exact Or.inr rfl)) pgs_nil))))) (pss_cons (ps_if (pt_cmpR op_eq (pv 3) pe_str (nomark _)) (pss_one (ps_ret (pe_tup (pa_cons (pv 2) (pa_cons (pv 3) (pa_cons (pe_lc (own := [("chance", 6), ("target", 5)]) (tt := tYes) rfl sc.nd (pi_listK (K := K) rfl (pv 4)) (blkOk_by (N := ["place", "names", "gain", "kind", "branches", "target", "chance"]) (sc := defScope s__renamed) (by decide +kernel)) (fun _ _ _ _ _ => (pg_tupK (K := K) (n := 2) rfl rfl (pgs_cons (pg_name (i := 6) sc.nd rfl (by first | exact Or.inl rfl | exact Or.inr rfl)) (pgs_cons (pg_name (i := 5) sc.nd rfl (by first | exact Or.inl rfl | exact Or.inr rfl)) pgs_nil)))) (fun _ _ _ _ _ => pts_nil) (fun _ _ _ _ _ => (pe_tup (pa_cons (pv 6) (pa_cons (pe_ix (ix_listK (K := K) rfl) (pv 1) (pv 5) (fun _ _ => rfl)) pa_nil))))) pa_nil)))))) pss_nil) (pss_one (ps_ret (pe_tup (pa_cons (pv 2) (pa_cons (pv 3) (pa_cons (pe_lc (own := [("target", 5)]) (tt := tYes) rfl sc.nd (pi_listK (K := K) rfl (pv 4)) (blkOk_by (N := ["place", "names", "gain", "kind", "branches", "target", "chance"]) (sc := defScope s__renamed) (by decide +kernel)) (fun _ _ _ _ _ => (pg_name (i := 5) sc.nd rfl (by first | exact Or.inl rfl | exact Or.inr rfl))) (fun _ _ _ _ _ => pts_nil) (fun _ _ _ _ _ => (pe_ix (ix_listK (K := K) rfl) (pv 1) (pv 5) (fun _ _ => rfl)))) pa_nil)))))))), sim_P (Γ := [some (.d x0), some (.d x1), none, none, none, none, none]) (z_seq (z_asg z_var (g_tup (g_cons g_name (g_cons g_name (g_cons g_name g_nil))))) (z_seq (z_ifS (z_test (z_eqS z_var z_s)) (z_ret (z_tup (z_cons z_var (z_cons z_var (z_cons (z_ofN (z_lc (by decide) (i_list z_var) (g_tup (g_cons g_name (g_cons g_name g_nil))) z_yes (z_tup (z_cons z_var (z_cons (z_ixL z_var z_var) z_nil))))) z_nil))))) z_next) (z_ret (z_tup (z_cons z_var (z_cons z_var (z_cons (z_ofN (z_lc (by decide) (i_list z_var) g_name z_yes (z_ixL z_var z_var))) z_nil))))))) eb hA (by show 2 ≤ 7; decide) rfl ?_ kQ⟩
  obtain ⟨p, n, ν, rfl, rfl, h6, hn, hq, hP⟩ := hR
  clear hR
  have ate : ∀ {k : Nat}, k < n → L2.atI (((List.range n).map ν).map fun i : Nat => PyData.int (i : Int)) (k : Int) = some (.int (ν k : Int)) := fun {k} hk => atI_nat (by rw [List.getElem?_map, List.getElem?_map, List.getElem?_range hk] <;> rfl)
  trivial
  refine ⟨rfl, rfl, _, rfl, ?_⟩
  rw [kd_eq]
  by_cases c : p.k = none
  · rw [if_pos (decide_eq_true c)]
    have e : p.el = p.bs.map brC := by unfold PlV.el; rw [c] <;> rfl
    have e2 : (renP ν p).D = .tuple [nD p.g, .str (kdV p.k), .list (p.bs.map fun q => brC (renB ν q))] := by
      unfold PlV.D PlV.el renP
      rw [c]
      show PyData.tuple [nD p.g, .str (kdV none), .list ((p.bs.map (renB ν)).map brC)] = _
      rw [List.map_map]
      rfl
    rw [e2] at hP
    refine dlc_map p.bs brC (fun q => brC (renB ν q)) (fun P hP => ?_) (by omega) (fun q hqm P hP => ?_) ?_
    · trivial
      rw [e]
      exact hP
    · have eq1 : brC q = .tuple [nD q.1, .int (q.2 : Int)] := rfl
      rw [eq1]
      trivial
      exact ⟨rfl, rfl, _, ate (hq q hqm), by decide, hP⟩
    exact ⟨by decide, hP⟩
  · rw [if_neg (by rw [decide_eq_true_iff]; exact c)]
    obtain ⟨o, ho⟩ : ∃ o, p.k = some o := by
      cases q : p.k with
      | none => exact absurd q c
      | some o => exact ⟨o, rfl⟩
    have e : p.el = p.bs.map fun q => PyData.int (q.2 : Int) := by unfold PlV.el; rw [ho] <;> rfl
    have e2 : (renP ν p).D = .tuple [nD p.g, .str (kdV p.k), .list (p.bs.map fun q => PyData.int ((ν q.2 : Nat) : Int))] := by
      unfold PlV.D PlV.el renP
      rw [ho]
      show PyData.tuple [nD p.g, .str (kdV (some o)), .list ((p.bs.map (renB ν)).map fun q => PyData.int (q.2 : Int))] = _
      rw [List.map_map]
      rfl
    rw [e2] at hP
    refine dlc_map p.bs (fun q => PyData.int (q.2 : Int)) (fun q => PyData.int ((ν q.2 : Nat) : Int)) (fun P hP => ?_) (by omega) (fun q hqm P hP => ?_) ?_
    · trivial
      rw [e]
      exact hP
    · trivial
      exact ⟨_, ate (hq q hqm), hP⟩
    exact ⟨by decide, hP⟩
abbrev s_slowed : Stmt := top 35
theorem sc_slowed : FnScope ["game", "k", "many", "names", "told", "x", "last", "rest", "place"] ["game", "k"] (defScope s_slowed) := ⟨rfl, rfl, rfl, by decide +kernel, rfl, by decide +kernel, by decide +kernel⟩
theorem has_slowed (D : IsDef K mg "slowed" s_slowed ["game", "k"]) (T : Bt mg) (C_ZERO : ConstT K mg "ZERO" (nD (0, 1))) (C_ONE : ConstT K mg "ONE" (nD (1, 1))) {t_MOST_PLACES : Tok} (m_MOST_PLACES : mg "MOST_PLACES" = some (.int 12 t_MOST_PLACES)) (U__renamed : Has P w K mg base (1) "_renamed" ["place", "names"] (spP K (kRen))) : Has P w K mg base (2) "slowed" ["game", "k"] (spN K (kSlw)) := by
  obtain ⟨f, fd, F, hm, hb⟩ := D
  obtain ⟨a_ZERO, m_ZERO, u_ZERO⟩ := C_ZERO
  obtain ⟨a_ONE, m_ONE, u_ONE⟩ := C_ONE
  obtain ⟨f__renamed, fd__renamed, G__renamed, m__renamed, k__renamed, b__renamed⟩ := U__renamed
  have sc := sc_slowed
  refine ⟨f, fd, F.ok sc (fun vs H Q E x => ?_) (fun cdv A outer s h0 vs Q E hr hs => ?_), hm, F.kp, hb⟩
  · obtain ⟨b, ds, P, _, hA, hR, _⟩ := x
    obtain ⟨_, _, rfl, _⟩ := conN2_is hR
    rw [hA.length]
    rfl
  obtain ⟨b, ds, Pq, eb, hA, hR, kQ⟩ := hs
  obtain ⟨x0, x1, rfl, hR⟩ := conN2_is hR
  refine ⟨_, (pss_cons (ps_set (i := 2) sc.nd rfl (by first | exact Or.inl rfl | exact Or.inr rfl) (pe_callB (len_K (K := K) rfl) (by rfl) T.len PySem.boot_len (pa_cons (pv 0) pa_nil))) (pss_cons (ps_if (pt_cmpR op_gt (pe_op op_mulW (pv 2) (pe_op op_add (pv 1) pe_int)) (pe_glob (v := .int 12) rfl m_MOST_PLACES ⟨_, rfl⟩) (nomark _)) (pss_one ps_never) pss_nil) (pss_cons (ps_set (i := 3) sc.nd rfl (by first | exact Or.inl rfl | exact Or.inr rfl) (pe_lc (own := [("x", 5)]) (tt := tYes) rfl sc.nd (pi_range1 (by rfl) T.range (pa_cons (pv 2) pa_nil)) (blkOk_by (N := ["game", "k", "many", "names", "told", "x", "last", "rest", "place"]) (sc := defScope s_slowed) (by decide +kernel)) (fun _ _ _ _ _ => (pg_name (i := 5) sc.nd rfl (by first | exact Or.inl rfl | exact Or.inr rfl))) (fun _ _ _ _ _ => pts_nil) (fun _ _ _ _ _ => (pe_ifExp (pt_cmpR op_gt (pv 1) pe_int (nomark _)) (pe_op op_add (pv 2) (pe_op op_mulW (pv 1) (pv 5))) (pv 5))))) (pss_cons (ps_setLc (i := 4) (own := [("place", 8)]) (tt := tYes) rfl sc.nd rfl rfl (sw_true rfl rfl rfl (by decide +kernel)) (pi_listK (K := K) rfl (pv 0)) (blkOk_by (N := ["game", "k", "many", "names", "told", "x", "last", "rest", "place"]) (sc := defScope s_slowed) (by decide +kernel)) (fun _ _ _ _ _ => (pg_name (i := 8) sc.nd rfl (by first | exact Or.inl rfl | exact Or.inr rfl))) (fun _ _ _ _ _ => pts_nil) (fun _ _ _ _ _ => (pe_call G__renamed (hr.mono (by decide)) rfl m__renamed k__renamed b__renamed .nil pass0 (pa_cons (pv 8) (pa_cons (pv 3) pa_nil))))) (pss_cons (ps_for PassesOwn.never rfl (pi_range1 (by rfl) T.range (pa_cons (pv 2) pa_nil)) (pg_name (i := 5) sc.nd rfl (by first | exact Or.inl rfl | exact Or.inr rfl)) (pss_cons (ps_set (i := 6) sc.nd rfl (by first | exact Or.inl rfl | exact Or.inr rfl) (pe_op op_sub (pe_op op_add (pe_op op_add (pv 2) (pe_op op_mulW (pv 1) (pv 5))) (pv 1)) pe_int)) (pss_one (ps_for PassesOwn.never rfl (pi_range2 (by rfl) T.range (pa_cons (pe_op op_add (pv 2) (pe_op op_mulW (pv 1) (pv 5))) (pa_cons (pe_op op_add (pv 6) pe_int) pa_nil))) (pg_name (i := 7) sc.nd rfl (by first | exact Or.inl rfl | exact Or.inr rfl)) (pss_one (ps_expr (pe_appK (K := K) rfl (pv 4) (pa_cons (pe_tup (pa_cons (pe_glob (v := .ref a_ZERO) rfl m_ZERO rfl) (pa_cons pe_str (pa_cons (pe_lst (pa_cons (pe_tup (pa_cons (pe_glob (v := .ref a_ONE) rfl m_ONE rfl) (pa_cons (pe_ifExp (pt_cmpR op_eq (pv 7) (pv 6) (nomark _)) (pv 5) (pe_op op_add (pv 7) pe_int)) pa_nil))) pa_nil)) pa_nil)))) pa_nil)))))))) (pss_one (ps_ret (pv 4)))))))), sim_N (Γ := [some (.d x0), some (.d x1), none, none, none, none, none, none, none]) (z_seq (z_asg (z_len z_var) g_name) (z_seq (z_ifS (z_test (z_gt (z_mulW z_var (z_add z_var z_i)) z_i)) z_never z_next) (z_seq (z_asg (z_ofN (z_lc (by decide) (i_rng1 (z_cons z_var z_nil)) g_name z_yes (z_if (z_test (z_gt z_var z_i)) (z_add z_var (z_mulW z_var z_var)) z_var))) g_name) (z_seq (z_asgO (z_lc (by decide) (i_list z_var) g_name z_yes (z_call (z_cons z_var (z_cons z_var z_nil))))) (z_seq (z_for (ws := [5, 6, 7]) (i_rng1 (z_cons z_var z_nil)) g_name (z_seq (z_asg (z_sub (z_add (z_add z_var (z_mulW z_var z_var)) z_var) z_i) g_name) (z_for (ws := [7]) (i_rng2 (z_cons (z_add z_var (z_mulW z_var z_var)) (z_cons (z_add z_var z_i) z_nil))) g_name (z_app (z_tup (z_cons (z_c u_ZERO) (z_cons z_s (z_cons (z_ofN (z_lst (z_cons (z_tup (z_cons (z_c u_ONE) (z_cons (z_if (z_test (z_eqS z_var z_var)) z_var (z_add z_var z_i)) z_nil))) z_nil))) z_nil)))))))) z_retO))))) eb hA (by show 2 ≤ 9; decide) rfl ?_ kQ⟩
  obtain ⟨G, k, w, rfl, rfl, hW, hn, hP⟩ := hR
  clear hR
  have h1 := hW.l1
  have h12 := hW.l12
  have hk12 : k ≤ 12 := by
    have := Nat.le_mul_of_pos_left (k + 1) (show 0 < G.length by omega)
    omega
  trivial
  rw [List.length_map]
  refine ⟨small_mulW (by omega) (by omega), ?_⟩
  have ec : (G.length : Int) * ((k : Int) + 1) = ((G.length * (k + 1) : Nat) : Int) := by
    rw [Int.natCast_mul, Int.natCast_add]
    rfl
  rw [ec, if_neg (by rw [decide_eq_true_iff]; omega)]
  refine dlc_rng G.length (fun x => .int (x : Int)) (fun x => .int ((entN G.length k x : Nat) : Int)) (fun P hP => ?_) (by omega) (fun x hx P hP => ?_) ?_
  · trivial
    rw [Int.toNat_natCast, rangeD0]
    exact ⟨by omega, by omega, hP⟩
  · unfold entN at hP
    trivial
    by_cases c : 0 < k
    · rw [if_pos c] at hP
      rw [if_pos (decide_eq_true (by omega))]
      refine ⟨small_mulW (by omega) (by omega), ?_⟩
      have e : (G.length : Int) + (k : Int) * (x : Int) = ((G.length + k * x : Nat) : Int) := by
        rw [Int.natCast_add, Int.natCast_mul]
      rw [e]
      exact hP
    · rw [if_neg c] at hP
      rw [if_neg (by rw [decide_eq_true_iff]; omega)]
      exact hP
  have en : PyData.list ((List.range G.length).map fun x => PyData.int ((entN G.length k x : Nat) : Int)) = natsD ((List.range G.length).map (entN G.length k)) := by
    unfold natsD
    rw [List.map_map]
    rfl
  rw [en]
  refine dlc_map G PlV.D (fun p => (renP (entN G.length k) p).D) (fun P hP => ?_) (by omega) (fun p hp P hP => ?_) ?_
  · trivial
    exact hP
  · trivial
    have w := hW.p p hp
    exact ⟨p, G.length, entN G.length k, rfl, rfl, w.l6, by omega, w.t, hP⟩
  refine ⟨by decide, ?_⟩
  obtain ⟨GA, hGA⟩ : ∃ GA : List PlV → Gam, ∀ R, GA R = [some (.d (gvD G)), some (.d (.int (k : Int))), some (.d (.int (G.length : Int))), some (.d (natsD ((List.range G.length).map (entN G.length k)))), some (.o (R.map PlV.D)), none, none, none, none] := ⟨_, fun _ => rfl⟩
  refine dfor_rng G.length (fun x => .int (x : Int)) (fun P hP => ?_) (fun i Γ' => Γ' = GA (G.map (renP (entN G.length k)) ++ (List.range i).flatMap fun x => (List.range k).map (rstP G.length k x))) (by rw [hGA, List.range_zero, List.flatMap_nil, List.append_nil, List.map_map] <;> rfl) ?_ ?_
  · trivial
    rw [Int.toNat_natCast, rangeD0]
    exact ⟨by omega, by omega, hP⟩
  · rintro x Γ' hx rfl
    rw [List.range_succ, List.flatMap_append, List.flatMap_cons, List.flatMap_nil, List.append_nil, ← List.append_assoc]
    have hxk : x * k ≤ G.length * k := Nat.mul_le_mul_right k (by omega)
    have hnk : G.length * (k + 1) = G.length * k + G.length := Nat.mul_succ ..
    have hkx : k * x = x * k := Nat.mul_comm k x
    have hRl : (G.map (renP (entN G.length k)) ++ (List.range x).flatMap fun x => (List.range k).map (rstP G.length k x)).length ≤ 12 := by
      rw [List.length_append, List.length_map, flat_len]
      omega
    generalize G.map (renP (entN G.length k)) ++ (List.range x).flatMap (fun x => (List.range k).map (rstP G.length k x)) = R at hRl
    simp only [hGA]
    trivial
    refine ⟨small_mulW (by omega) (by omega), ?_⟩
    have e1 : (G.length : Int) + (k : Int) * (x : Int) = ((G.length + k * x : Nat) : Int) := by rw [Int.natCast_add, Int.natCast_mul]
    rw [e1]
    obtain ⟨GB, hGB⟩ : ∃ GB : List PlV → Gam, ∀ R, GB R = [some (.d (gvD G)), some (.d (.int (k : Int))), some (.d (.int (G.length : Int))), some (.d (natsD ((List.range G.length).map (entN G.length k)))), some (.o (R.map PlV.D)), some (.d (.int (x : Int))), some (.d (.int (((G.length + k * x : Nat) : Int) + (k : Int) - 1))), none, none] := ⟨_, fun _ => rfl⟩
    refine dfor_rng k (fun j => .int (((G.length + k * x : Nat) : Int) + (j : Int))) (fun P hP => ?_) (fun j Γ' => Γ' = GB (R ++ (List.range j).map (rstP G.length k x))) (by rw [hGB, List.range_zero, List.map_nil, List.append_nil] <;> rfl) ?_ ?_
    · trivial
      rw [e1]
      generalize ((G.length + k * x : Nat) : Int) = A at *
      have e2 : (A + (k : Int) - 1 + 1 - A).toNat = k := by omega
      rw [e2, rangeD_map]
      exact ⟨small_mulW (by omega) (by omega), by omega, hP⟩
    · rintro j Γ' hj rfl
      have hl : (List.map PlV.D (R ++ List.map (rstP G.length k x) (List.range j))).length < 100000 := by
        rw [List.length_map, List.length_append, List.length_map, List.length_range]
        omega
      have es : List.map PlV.D (R ++ List.map (rstP G.length k x) (List.range (j + 1))) = List.map PlV.D (R ++ List.map (rstP G.length k x) (List.range j)) ++ [(rstP G.length k x j).D] := by
        simp only [List.range_succ, List.map_append, List.map_cons, List.map_nil, List.append_assoc]
      simp only [hGB]
      trivial
      rw [es]
      refine ⟨_, rfl, ?_⟩
      by_cases c : j + 1 = k
      · rw [if_pos (decide_eq_true (by omega))]
        refine ⟨by decide, by decide, by decide, hl, ?_⟩
        have er : (rstP G.length k x j).D = .tuple [nD (0, 1), .str "draw", .list [.tuple [nD (1, 1), .int (x : Int)]]] := by
          unfold rstP
          rw [if_pos c]
          rfl
        rw [er]
      · rw [if_neg (by rw [decide_eq_true_iff]; omega)]
        refine ⟨by decide, by decide, by decide, hl, ?_⟩
        have er : (rstP G.length k x j).D = .tuple [nD (0, 1), .str "draw", .list [.tuple [nD (1, 1), .int (((G.length + k * x : Nat) : Int) + (j : Int) + 1)]]] := by
          unfold rstP
          rw [if_neg c]
          have : ((G.length + k * x : Nat) : Int) + (j : Int) + 1 = ((G.length + k * x + j + 1 : Nat) : Int) := by omega
          rw [this]
          rfl
        rw [er]
    · rintro Γ' rfl
      simp only [hGB]
      trivial
  · rintro Γ' rfl
    simp only [hGA]
    trivial
    exact hP
abbrev s_in_turns : Stmt := top 36
theorem sc_in_turns : FnScope ["first", "second", "many", "told", "x", "place", "y", "other", "z"] ["first", "second"] (defScope s_in_turns) := ⟨rfl, rfl, rfl, by decide +kernel, rfl, by decide +kernel, by decide +kernel⟩
theorem has_in_turns (D : IsDef K mg "in_turns" s_in_turns ["first", "second"]) (T : Bt mg) {t_MOST_PLACES : Tok} (m_MOST_PLACES : mg "MOST_PLACES" = some (.int 12 t_MOST_PLACES)) (U__renamed : Has P w K mg base (1) "_renamed" ["place", "names"] (spP K (kRen))) : Has P w K mg base (2) "in_turns" ["first", "second"] (spN K (kTur)) := by
  obtain ⟨f, fd, F, hm, hb⟩ := D
  obtain ⟨f__renamed, fd__renamed, G__renamed, m__renamed, k__renamed, b__renamed⟩ := U__renamed
  have sc := sc_in_turns
  refine ⟨f, fd, F.ok sc (fun vs H Q E x => ?_) (fun cdv A outer s h0 vs Q E hr hs => ?_), hm, F.kp, hb⟩
  · obtain ⟨b, ds, P, _, hA, hR, _⟩ := x
    obtain ⟨_, _, rfl, _⟩ := conN2_is hR
    rw [hA.length]
    rfl
  obtain ⟨b, ds, Pq, eb, hA, hR, kQ⟩ := hs
  obtain ⟨x0, x1, rfl, hR⟩ := conN2_is hR
  refine ⟨_, (pss_cons (ps_set (i := 2) sc.nd rfl (by first | exact Or.inl rfl | exact Or.inr rfl) (pe_callB (len_K (K := K) rfl) (by rfl) T.len PySem.boot_len (pa_cons (pv 1) pa_nil))) (pss_cons (ps_if (pt_cmpR op_gt (pe_op op_mulW (pe_op op_mulW pe_int (pe_callB (len_K (K := K) rfl) (by rfl) T.len PySem.boot_len (pa_cons (pv 0) pa_nil))) (pv 2)) (pe_glob (v := .int 12) rfl m_MOST_PLACES ⟨_, rfl⟩) (nomark _)) (pss_one ps_never) pss_nil) (pss_cons (ps_set (i := 3) sc.nd rfl (by first | exact Or.inl rfl | exact Or.inr rfl) (pe_lst pa_nil)) (pss_cons (ps_for PassesOwn.never rfl (pi_enumK (K := K) rfl (by rfl) T.enumerate (pa_cons (pv 0) pa_nil)) (pg_tupK (K := K) (n := 2) rfl rfl (pgs_cons (pg_name (i := 4) sc.nd rfl (by first | exact Or.inl rfl | exact Or.inr rfl)) (pgs_cons (pg_name (i := 5) sc.nd rfl (by first | exact Or.inl rfl | exact Or.inr rfl)) pgs_nil))) (pss_one (ps_for PassesOwn.never rfl (pi_enumK (K := K) rfl (by rfl) T.enumerate (pa_cons (pv 1) pa_nil)) (pg_tupK (K := K) (n := 2) rfl rfl (pgs_cons (pg_name (i := 6) sc.nd rfl (by first | exact Or.inl rfl | exact Or.inr rfl)) (pgs_cons (pg_name (i := 7) sc.nd rfl (by first | exact Or.inl rfl | exact Or.inr rfl)) pgs_nil))) (pss_cons (ps_expr (pe_appK (K := K) rfl (pv 3) (pa_cons (pe_call G__renamed (hr.mono (by decide)) rfl m__renamed k__renamed b__renamed .nil pass0 (pa_cons (pv 5) (pa_cons (pe_lc (own := [("z", 8)]) (tt := tYes) rfl sc.nd (pi_range1 (by rfl) T.range (pa_cons (pe_callB (len_K (K := K) rfl) (by rfl) T.len PySem.boot_len (pa_cons (pv 0) pa_nil)) pa_nil)) (blkOk_by (N := ["first", "second", "many", "told", "x", "place", "y", "other", "z"]) (sc := defScope s_in_turns) (by decide +kernel)) (fun _ _ _ _ _ => (pg_name (i := 8) sc.nd rfl (by first | exact Or.inl rfl | exact Or.inr rfl))) (fun _ _ _ _ _ => pts_nil) (fun _ _ _ _ _ => (pe_op op_add (pe_op op_mulW pe_int (pe_op op_add (pe_op op_mulW (pv 2) (pv 8)) (pv 6))) pe_int))) pa_nil))) pa_nil))) (pss_one (ps_expr (pe_appK (K := K) rfl (pv 3) (pa_cons (pe_call G__renamed (hr.mono (by decide)) rfl m__renamed k__renamed b__renamed .nil pass0 (pa_cons (pv 7) (pa_cons (pe_lc (own := [("z", 8)]) (tt := tYes) rfl sc.nd (pi_range1 (by rfl) T.range (pa_cons (pv 2) pa_nil)) (blkOk_by (N := ["first", "second", "many", "told", "x", "place", "y", "other", "z"]) (sc := defScope s_in_turns) (by decide +kernel)) (fun _ _ _ _ _ => (pg_name (i := 8) sc.nd rfl (by first | exact Or.inl rfl | exact Or.inr rfl))) (fun _ _ _ _ _ => pts_nil) (fun _ _ _ _ _ => (pe_op op_mulW pe_int (pe_op op_add (pe_op op_mulW (pv 2) (pv 4)) (pv 8))))) pa_nil))) pa_nil)))))))) (pss_one (ps_ret (pv 3))))))), sim_N (Γ := [some (.d x0), some (.d x1), none, none, none, none, none, none, none]) (z_seq (z_asg (z_len z_var) g_name) (z_seq (z_ifS (z_test (z_gt (z_mulW (z_mulW z_i (z_len z_var)) z_var) z_i)) z_never z_next) (z_seq (z_asgO (z_lst z_nil)) (z_seq (z_for (ws := [4, 5, 6, 7, 8]) (i_enum (z_cons z_var z_nil)) (g_tup (g_cons g_name (g_cons g_name g_nil))) (z_for (ws := [6, 7, 8]) (i_enum (z_cons z_var z_nil)) (g_tup (g_cons g_name (g_cons g_name g_nil))) (z_seq (z_app (z_call (z_cons z_var (z_cons (z_ofN (z_lc (by decide) (i_rng1 (z_cons (z_len z_var) z_nil)) g_name z_yes (z_add (z_mulW z_i (z_add (z_mulW z_var z_var) z_var)) z_i))) z_nil)))) (z_app (z_call (z_cons z_var (z_cons (z_ofN (z_lc (by decide) (i_rng1 (z_cons z_var z_nil)) g_name z_yes (z_mulW z_i (z_add (z_mulW z_var z_var) z_var)))) z_nil))))))) z_retO)))) eb hA (by show 2 ≤ 9; decide) rfl ?_ kQ⟩
  obtain ⟨A, B, w, rfl, rfl, hA, hB, hn, hP⟩ := hR
  clear hR
  have a1 := hA.l1
  have b1 := hB.l1
  have a12 := hA.l12
  have b12 := hB.l12
  trivial
  rw [List.length_map, List.length_map]
  refine ⟨small_mulW (by decide) (by omega), small_mulW (by omega) (by omega), ?_⟩
  have ec : (2 : Int) * (A.length : Int) * (B.length : Int) = ((2 * A.length * B.length : Nat) : Int) := by
    rw [Int.natCast_mul, Int.natCast_mul]
    rfl
  rw [ec, if_neg (by rw [decide_eq_true_iff]; omega)]
  refine ⟨by decide, by decide, ?_⟩
  obtain ⟨GA, hGA⟩ : ∃ GA : List PlV → Gam, ∀ R, GA R = [some (.d (gvD A)), some (.d (gvD B)), some (.d (.int (B.length : Int))), some (.o (R.map PlV.D)), none, none, none, none, none] := ⟨_, fun _ => rfl⟩
  refine dfor_rng A.length (fun x => .tuple [.int (x : Int), (vl A x).D]) (fun P hP => ?_) (fun i Γ' => Γ' = GA ((List.range i).flatMap fun x => (List.range B.length).flatMap fun y => [renP (fun z => 2 * (B.length * z + y) + 1) (vl A x), renP (fun z => 2 * (B.length * x + z)) (vl B y)])) (by rw [hGA, List.range_zero] <;> rfl) ?_ ?_
  · trivial
    rw [enumD_map ⟨(0, 1), some true, []⟩]
    exact hP
  · rintro x Γ' hx rfl
    have es : (List.range (x + 1)).flatMap (fun x => (List.range B.length).flatMap fun y => [renP (fun z => 2 * (B.length * z + y) + 1) (vl A x), renP (fun z => 2 * (B.length * x + z)) (vl B y)]) = (List.range x).flatMap (fun x => (List.range B.length).flatMap fun y => [renP (fun z => 2 * (B.length * z + y) + 1) (vl A x), renP (fun z => 2 * (B.length * x + z)) (vl B y)]) ++ (List.range B.length).flatMap fun y => [renP (fun z => 2 * (B.length * z + y) + 1) (vl A x), renP (fun z => 2 * (B.length * x + z)) (vl B y)] := by
      rw [List.range_succ, List.flatMap_append, List.flatMap_cons, List.flatMap_nil, List.append_nil]
    have hxm : x * (2 * B.length) ≤ 12 := by
      have h1 : x * (2 * B.length) ≤ A.length * (2 * B.length) := Nat.mul_le_mul_right _ (by omega)
      have h2 : A.length * (2 * B.length) = 2 * A.length * B.length := by
        rw [Nat.mul_comm 2 A.length, Nat.mul_assoc]
      omega
    have hRl := flat_len3 B.length (fun x y => renP (fun z => 2 * (B.length * z + y) + 1) (vl A x)) (fun x y => renP (fun z => 2 * (B.length * x + z)) (vl B y)) x
    rw [es]
    generalize (List.range x).flatMap (fun x => (List.range B.length).flatMap fun y => [renP (fun z => 2 * (B.length * z + y) + 1) (vl A x), renP (fun z => 2 * (B.length * x + z)) (vl B y)]) = R at hRl
    clear es
    simp only [hGA]
    trivial
    refine ⟨rfl, rfl, ?_⟩
    obtain ⟨GB, hGB⟩ : ∃ GB : List PlV → Gam, ∀ R, GB R = [some (.d (gvD A)), some (.d (gvD B)), some (.d (.int (B.length : Int))), some (.o (R.map PlV.D)), some (.d (.int (x : Int))), some (.d (vl A x).D), none, none, none] := ⟨_, fun _ => rfl⟩
    refine dfor_rng B.length (fun y => .tuple [.int (y : Int), (vl B y).D]) (fun P hP => ?_) (fun j Γ' => Γ' = GB (R ++ (List.range j).flatMap fun y => [renP (fun z => 2 * (B.length * z + y) + 1) (vl A x), renP (fun z => 2 * (B.length * x + z)) (vl B y)])) (by rw [hGB, List.range_zero, List.flatMap_nil, List.append_nil] <;> rfl) ?_ ?_
    · trivial
      rw [enumD_map ⟨(0, 1), some true, []⟩]
      exact hP
    · rintro y Γ' hy rfl
      have hl := flat_len2 (fun y => renP (fun z => 2 * (B.length * z + y) + 1) (vl A x)) (fun y => renP (fun z => 2 * (B.length * x + z)) (vl B y)) y
      have es : R ++ (List.range (y + 1)).flatMap (fun y => [renP (fun z => 2 * (B.length * z + y) + 1) (vl A x), renP (fun z => 2 * (B.length * x + z)) (vl B y)]) = R ++ (List.range y).flatMap (fun y => [renP (fun z => 2 * (B.length * z + y) + 1) (vl A x), renP (fun z => 2 * (B.length * x + z)) (vl B y)]) ++ [renP (fun z => 2 * (B.length * z + y) + 1) (vl A x), renP (fun z => 2 * (B.length * x + z)) (vl B y)] := by
        rw [List.range_succ, List.flatMap_append, List.flatMap_cons, List.flatMap_nil, List.append_nil, List.append_assoc]
      rw [es]
      have hl2 : (R ++ (List.range y).flatMap fun y => [renP (fun z => 2 * (B.length * z + y) + 1) (vl A x), renP (fun z => 2 * (B.length * x + z)) (vl B y)]).length ≤ 100 := by
        rw [List.length_append, hRl, hl]
        omega
      clear es hl
      generalize R ++ (List.range y).flatMap (fun y => [renP (fun z => 2 * (B.length * z + y) + 1) (vl A x), renP (fun z => 2 * (B.length * x + z)) (vl B y)]) = S at hl2 ⊢
      simp only [hGB]
      trivial
      refine ⟨rfl, rfl, ?_⟩
      have lz : ∀ z : Nat, z < A.length → B.length * z + y ≤ 200 := fun z hz => by
        have := Nat.mul_le_mul (show B.length ≤ 12 by omega) (show z ≤ 12 by omega)
        omega
      have lx : ∀ z : Nat, z < B.length → B.length * x + z ≤ 200 := fun z hz => by
        have := Nat.mul_le_mul (show B.length ≤ 12 by omega) (show x ≤ 12 by omega)
        omega
      refine dlc_rng A.length (fun z => .int (z : Int)) (fun z => .int ((2 * (B.length * z + y) + 1 : Nat) : Int)) (fun P hP => ?_) (by omega) (fun z hz P hP => ?_) ?_
      · trivial
        rw [List.length_map, Int.toNat_natCast, rangeD0]
        exact ⟨by omega, by omega, hP⟩
      · have := lz z hz
        trivial
        have e : (B.length : Int) * (z : Int) + (y : Int) = ((B.length * z + y : Nat) : Int) := by rw [Int.natCast_add, Int.natCast_mul]
        rw [e]
        have e2 : (2 : Int) * ((B.length * z + y : Nat) : Int) + 1 = ((2 * (B.length * z + y) + 1 : Nat) : Int) := by omega
        rw [e2]
        exact ⟨small_mulW (by omega) (by omega), small_mulW (by decide) (by omega), hP⟩
      have en : PyData.list ((List.range A.length).map fun z => PyData.int ((2 * (B.length * z + y) + 1 : Nat) : Int)) = natsD ((List.range A.length).map fun z => 2 * (B.length * z + y) + 1) := by
        unfold natsD
        rw [List.map_map]
        rfl
      rw [en]
      have wA := vl_wf hA hx
      have wB := vl_wf hB hy
      refine ⟨vl A x, A.length, _, rfl, rfl, wA.l6, by omega, wA.t, ?_⟩
      refine ⟨by rw [List.length_map]; omega, ?_⟩
      refine dlc_rng B.length (fun z => .int (z : Int)) (fun z => .int ((2 * (B.length * x + z) : Nat) : Int)) (fun P hP => ?_) (by omega) (fun z hz P hP => ?_) ?_
      · trivial
        rw [Int.toNat_natCast, rangeD0]
        exact ⟨by omega, by omega, hP⟩
      · have := lx z hz
        trivial
        have e : (B.length : Int) * (x : Int) + (z : Int) = ((B.length * x + z : Nat) : Int) := by rw [Int.natCast_add, Int.natCast_mul]
        rw [e]
        have e2 : (2 : Int) * ((B.length * x + z : Nat) : Int) = ((2 * (B.length * x + z) : Nat) : Int) := by omega
        rw [e2]
        exact ⟨small_mulW (by omega) (by omega), small_mulW (by decide) (by omega), hP⟩
      have en2 : PyData.list ((List.range B.length).map fun z => PyData.int ((2 * (B.length * x + z) : Nat) : Int)) = natsD ((List.range B.length).map fun z => 2 * (B.length * x + z)) := by
        unfold natsD
        rw [List.map_map]
        rfl
      rw [en2]
      refine ⟨vl B y, B.length, _, rfl, rfl, wB.l6, by omega, wB.t, ?_⟩
      refine ⟨by rw [List.length_append, List.length_map]; show S.length + 1 < 100000; omega, ?_⟩
      rw [List.map_append, List.append_assoc]
      rfl
    · rintro Γ' rfl
      simp only [hGB]
      trivial
  · rintro Γ' rfl
    simp only [hGA]
    trivial
    exact hP

abbrev s_draws : Stmt := top 39
theorem sc_draws : FnScope ["script", "count", "rests", "draws", "k", "value", "cell", "at", "mixed"] ["script", "count"] (defScope s_draws) := ⟨rfl, rfl, rfl, by decide +kernel, rfl, by decide +kernel, by decide +kernel⟩
theorem has_draws (T : Bt mg) (D : IsDef K mg "_law_draws" s_draws ["script", "count"]) : Has P w K mg base 1 "_law_draws" ["script", "count"] (spDraws K) := by
  obtain ⟨f, fd, F, hm, hb⟩ := D
  have sc := sc_draws
  refine ⟨f, fd, F.ok sc (fun vs H Q E x => ?_) (fun cdv A outer s h0 vs Q E hr hs => ?_), hm, F.kp, hb⟩
  · obtain ⟨_, _, _, _, rfl, _⟩ := x
    rfl
  obtain ⟨b, a, ns, n, rfl, eb, hS, hl, hn, k⟩ := hs
  refine ⟨_, (pss_cons (ps_setLc (i := 2) (own := [("cell", 6)]) (tt := tYes) rfl sc.nd rfl rfl (sw_true rfl rfl rfl (by decide +kernel)) (pi_listK (K := K) rfl (pv 0)) (blkOk_by (N := ["script", "count", "rests", "draws", "k", "value", "cell", "at", "mixed"]) (sc := defScope s_draws) (by decide +kernel)) (fun _ _ _ _ _ => (pg_name (i := 6) sc.nd rfl (by first | exact Or.inl rfl | exact Or.inr rfl))) (fun _ _ _ _ _ => pts_nil) (fun _ _ _ _ _ => (pv 6))) (pss_cons (ps_set (i := 3) sc.nd rfl (by first | exact Or.inl rfl | exact Or.inr rfl) (pe_lst pa_nil)) (pss_cons (ps_for PassesOwn.never rfl (pi_range1 (by rfl) T.range (pa_cons (pv 1) pa_nil)) (pg_name (i := 4) sc.nd rfl (by first | exact Or.inl rfl | exact Or.inr rfl)) (pss_cons (ps_set (i := 5) sc.nd rfl (by first | exact Or.inl rfl | exact Or.inr rfl) pe_int) (Evl.pss_cut (ps_if (pt_cmpR op_gt (pe_callB (len_K (K := K) rfl) (by rfl) T.len PySem.boot_len (pa_cons (pv 2) pa_nil)) pe_int (nomark _)) (pss_cons (ps_set (i := 7) sc.nd rfl (by first | exact Or.inl rfl | exact Or.inr rfl) (pe_op op_mod (pe_callTy cr_int1 (by rfl) T.int (by decide +kernel) (pa_cons (pv 4) pa_nil)) (pe_callB (len_K (K := K) rfl) (by rfl) T.len PySem.boot_len (pa_cons (pv 2) pa_nil)))) (pss_one (ps_if (pt_cmpR op_ge (pe_ix (ix_listK (K := K) rfl) (pv 2) (pv 7) (fun _ _ => rfl)) (pe_op op_pow pe_int pe_int) (nomark _)) (pss_cons (ps_set (i := 5) sc.nd rfl (by first | exact Or.inl rfl | exact Or.inr rfl) (pe_op op_mod (pe_callTy cr_int1 (by rfl) T.int (by decide +kernel) (pa_cons (pe_ix (ix_listK (K := K) rfl) (pv 2) (pv 7) (fun _ _ => rfl)) pa_nil)) pe_int)) (pss_one (ps_asg (pe_op op_fdivW (pe_ix (ix_listK (K := K) rfl) (pv 2) (pv 7) (fun _ _ => rfl)) pe_int) (pg_sub (pv 2) (pv 7) set_list)))) (pss_cons (ps_set (i := 8) sc.nd rfl (by first | exact Or.inl rfl | exact Or.inr rfl) (pe_op op_mod (pe_callTy cr_int1 (by rfl) T.int (by decide +kernel) (pa_cons (pe_op op_add (pe_op op_add (pe_op op_mul (pe_ix (ix_listK (K := K) rfl) (pv 2) (pv 7) (fun _ _ => rfl)) pe_int) (pe_op op_mul (pv 4) pe_int)) pe_int) pa_nil)) pe_int)) (pss_cons (ps_set (i := 8) sc.nd rfl (by first | exact Or.inl rfl | exact Or.inr rfl) (pe_op op_mod (pe_callTy cr_int1 (by rfl) T.int (by decide +kernel) (pa_cons (pe_op op_add (pe_op op_mul (pv 8) pe_int) (pv 7)) pa_nil)) pe_int)) (pss_one (ps_set (i := 5) sc.nd rfl (by first | exact Or.inl rfl | exact Or.inr rfl) (pe_op op_mod (pe_callTy cr_int1 (by rfl) T.int (by decide +kernel) (pa_cons (pe_op op_fdivW (pv 8) pe_int) pa_nil)) pe_int)))))))) pss_nil) (pss_one (ps_expr (pe_appK (K := K) rfl (pv 3) (pa_cons (pv 5) pa_nil))))))) (pss_one (ps_ret (pv 3)))))), ?_⟩
  have hlc : EvL (tLc (iList K (tVar 0)) (gName 6) tYes (tVar 6) [6]) (start ["script", "count", "rests", "draws", "k", "value", "cell", "at", "mixed"] [V.ref a, V.int (n : Int)]) b (given (ns.map V.int).length (fun _ => true) (fun i => V.int (ns.getD i 0))) := by
    refine el_lcL (fun _ => true) (fun i => V.int (ns.getD i 0)) (ev_var rfl) hS (by rw [List.length_map]; omega) (fun x => rfl) (fun i x H1 e hx => et_yes) (fun i x H1 e hx _ => ?_)
    refine ev_is (ev_var rfl) ?_
    rw [List.getElem?_map] at hx
    cases z : ns[i]? with
    | none =>
      rw [z] at hx
      cases hx
    | some y =>
      rw [z] at hx
      cases hx
      rw [List.getD_eq_getElem?_getD, z]
      rfl
  refine q_asgL (hlc.mono eb) fun p h1 hp e1 h1p => ?_
  obtain ⟨rs, hrl, hrs⟩ : ∃ rs : List Int, rs.length = ns.length ∧ given (ns.map V.int).length (fun _ => true) (fun i => V.int (ns.getD i 0)) = rs.map V.int := by
    refine ⟨(List.range ns.length).map fun i => ns.getD i 0, by simp, ?_⟩
    unfold given
    rw [List.filter_eq_self.mpr fun _ _ => rfl, List.length_map, List.map_map]
    rfl
  rw [hrs] at h1p
  have bp : b p = none := none_of eb hp
  have g1 : Gr b h0 b h1 := Gr.stay eb e1
  refine q_asgL (el_lst ea_nil (by decide)) fun q h2 hq e2 h2q => ?_
  have npq : p ≠ q := ne_of_none h1p hq
  have hq0 : h0 q = none := fresh_back e1 hq
  have bq : b q = none := none_of eb hq0
  refine s_forR1 (n := (n : Int)) (ea_cons (ev_var rfl) ea_nil) (by omega) (fun i σ' h' => ∃ (rs ds : List Int) (u v x y z : Option V), σ' = [some (.ref a), some (.int (n : Int)), some (.ref p), some (.ref q), u, v, x, y, z] ∧
      rs.length = ns.length ∧ ds.length = i ∧ (∀ d ∈ ds, 0 ≤ d ∧ d < 1000) ∧ Gr b h0 b h' ∧ h' p = some (.lst (rs.map V.int)) ∧ h' q = some (.lst (ds.map V.int))) ?_ ?_ ?_
  · intro H1 e
    refine ⟨rs, [], none, none, none, none, none, rfl, hrl, rfl, (fun d hd => by cases hd), g1.trans (Gr.stay g1.gi (e2.trans e)), e _ _ (e2 _ _ h1p), e _ _ h2q⟩
  · rintro i σ' h' hi ⟨rs, ds, u, v, x, y, z, rfl, hrl, hdl, hds, G, hp', hq'⟩
    refine q_asg ev_c fun h2 e2 => ?_
    have hp2 := e2 _ _ hp'
    have hq2 := e2 _ _ hq'
    have G2 := G.trans (Gr.stay G.gi e2)
    refine ⟨fun σ' h' => ∃ (rs : List Int) (d : Int) (x y z : Option V), σ' = [some (.ref a), some (.int (n : Int)), some (.ref p), some (.ref q), some (.int (i : Int)), some (.int d), x, y, z] ∧
      rs.length = ns.length ∧ (0 ≤ d ∧ d < 1000) ∧ Gr b h0 b h' ∧ h' p = some (.lst (rs.map V.int)) ∧ h' q = some (.lst (ds.map V.int)), ?_, ?_⟩
    · refine s_if (b := decide (((0 : Nat) : Int) < ((rs.map V.int).length : Int))) (et_test (ev_op (ev_len (ev_var rfl) (sq_of hp2)) ev_c rv_I0)) (fun hc h3 e3 => ?_) (fun hc h3 e3 => ?_)
      · have hpos : 0 < rs.length := by
          have := of_decide_eq_true hc
          rw [List.length_map] at this
          omega
        have hp3 := e3 _ _ hp2
        have hq3 := e3 _ _ hq2
        have G3 := G2.trans (Gr.stay G2.gi e3)
        have hj : i % rs.length < rs.length := Nat.mod_lt _ hpos
        refine q_asg (v := .int ((i % rs.length : Nat) : Int)) (ev_op (ev_int1 (ev_var rfl)) (ev_len (ev_var rfl) (sq_of hp3)) ?_) fun h4 e4 => ?_
        · have e1 : V.int ((i % rs.length : Nat) : Int) = V.int ((i : Int) % ((rs.map V.int).length : Int)) := by rw [List.length_map, Int.natCast_emod]
          rw [e1]
          exact rv_I (by rw [List.length_map]; omega)
        have hp4 := e4 _ _ hp3
        have hq4 := e4 _ _ hq3
        have G4 := G3.trans (Gr.stay G3.gi e4)
        obtain ⟨r, hr0⟩ : ∃ r, rs[i % rs.length]? = some r := ⟨_, List.getElem?_eq_getElem hj⟩
        have hr1 : (rs.map V.int)[i % rs.length]? = some (V.int r) := by rw [List.getElem?_map, hr0] <;> rfl
        have hix : ∀ {σ : L2.St} {h : Hp}, Ex h4 h → σ[2]? = some (some (.ref p)) → σ[7]? = some (some (.int ((i % rs.length : Nat) : Int))) → Ev (tOp (rIxL K) (tVar 2) (tVar 7)) σ h (.int r) := fun {σ h} e s1 s2 =>
          ev_op (ev_var s1) (ev_var s2) (rv_ixL (sq_of (e _ _ hp4)) (at_of rfl hr1))
        refine s_if (b := decide ((10 : Int) ^ (18 : Int).toNat ≤ r)) (et_test (ev_op (hix (Ex.refl _) rfl rfl) (ev_op ev_c ev_c (rv_I ⟨by decide, by decide, by decide⟩)) rv_I0)) (fun hc2 h5 e5 => ?_) (fun hc2 h5 e5 => ?_)
        · refine q_asg (ev_op (ev_int1 (hix e5 rfl rfl)) ev_c (rv_I (by decide))) fun h6 e6 => ?_
          have e46 := e5.trans e6
          refine s_setL (e46 _ _ hp4) (ev_op (hix e46 rfl rfl) ev_c (rv_I ⟨by decide, by decide⟩)) (ev_var rfl) (ev_var rfl) (by rw [List.length_map]; exact hj) fun h7 e7 => ?_
          refine ⟨rs.set (i % rs.length) (r / 1000), r % 1000, _, _, _, rfl, by rw [List.length_set, hrl], ⟨Int.emod_nonneg _ (by decide), Int.emod_lt_of_pos _ (by decide)⟩, (G4.trans (Gr.stay G4.gi (e46.trans e7))).mut hp bp, ?_, ?_⟩
          · rw [upd_same, ← List.map_set]
          · rw [upd_ne npq.symm]
            exact e7 _ _ (e46 _ _ hq4)
        · refine q_asg (ev_op (ev_int1 (ev_op (ev_op (ev_op (hix e5 rfl rfl) ev_c (rv_I (.inr ⟨by decide, by decide⟩))) (ev_op (ev_var rfl) ev_c (rv_I (.inr ⟨by decide, by decide⟩))) rv_I0) ev_c rv_I0)) ev_c (rv_I (by decide))) fun h6 e6 => ?_
          refine q_asg (ev_op (ev_int1 (ev_op (ev_op (ev_var rfl) ev_c (rv_I (.inr ⟨by decide, by decide⟩))) (ev_var rfl) rv_I0)) ev_c (rv_I (by decide))) fun h7 e7 => ?_
          refine s_asg (ev_op (ev_int1 (ev_op (ev_var rfl) ev_c (rv_I ⟨by decide, by decide⟩))) ev_c (rv_I (by decide))) fun h8 e8 => ?_
          have e48 := ((e5.trans e6).trans e7).trans e8
          exact ⟨rs, _, _, _, _, rfl, hrl, ⟨Int.emod_nonneg _ (by decide), Int.emod_lt_of_pos _ (by decide)⟩, G4.trans (Gr.stay G4.gi e48), e48 _ _ hp4, e48 _ _ hq4⟩
      · exact ⟨rs, 0, _, _, _, rfl, hrl, by decide, G2.trans (Gr.stay G2.gi e3), e3 _ _ hp2, e3 _ _ hq2⟩
    · rintro σ' h3 ⟨rs, d, x, y, z, rfl, hrl, hd, G3, hp3, hq3⟩
      refine s_app hq3 (ev_var rfl) (ev_var rfl) (by rw [List.length_map]; omega) fun h4 e4 => ?_
      refine ⟨rs, ds ++ [d], _, _, _, _, _, rfl, hrl, by rw [List.length_append, hdl]; rfl, fun t ht => ?_, (G3.trans (Gr.stay G3.gi e4)).mut hq0 bq, ?_, ?_⟩
      · rcases List.mem_append.mp ht with ht | ht
        · exact hds t ht
        · rw [List.mem_singleton.mp ht]
          exact hd
      · rw [upd_ne npq]
        exact e4 _ _ hp3
      · rw [upd_same, List.map_append]
        rfl
  · rintro σ' h' ⟨rs, ds, u, v, x, y, z, rfl, hrl, hdl, hds, G, hp', hq'⟩
    refine ⟨_, rfl, k _ (upd b q (.lst (ds.map V.int))) h' ds (G.tell hq0 bq hq') (by rw [hdl]; omega) hds (Dt.list upd_same (DtA.ints ds))⟩

abbrev s_gcd : Stmt := top 40
theorem sc_gcd : FnScope ["a", "b", "step", "rest"] ["a", "b"] (defScope s_gcd) := ⟨rfl, rfl, rfl, by decide +kernel, rfl, by decide +kernel, by decide +kernel⟩
theorem has_gcdW (T : Bt mg) (D : IsDef K mg "_law_gcd" s_gcd ["a", "b"]) : Has P w K mg base 1 "_law_gcd" ["a", "b"] (spGcdW K) := by
  obtain ⟨f, fd, F, hm, hb⟩ := D
  have sc := sc_gcd
  refine ⟨f, fd, F.ok sc SpF.len (fun cdv A outer s h0 vs Q E hr hs => ?_), hm, F.kp, hb⟩
  obtain ⟨b, ds, eb, hA, hn, ⟨x, y, rfl, hy⟩, k⟩ := hs
  obtain rfl := hA.i2
  refine ⟨_, (pss_cons (ps_set (i := 0) sc.nd rfl (by first | exact Or.inl rfl | exact Or.inr rfl) (pe_callB cr_abs (by rfl) T.abs (by decide +kernel) (pa_cons (pv 0) pa_nil))) (pss_cons (ps_set (i := 1) sc.nd rfl (by first | exact Or.inl rfl | exact Or.inr rfl) (pe_callB cr_abs (by rfl) T.abs (by decide +kernel) (pa_cons (pv 1) pa_nil))) (pss_cons (ps_for PassesOwn.never rfl (pi_range1 (by rfl) T.range (pa_cons pe_int pa_nil)) (pg_name (i := 2) sc.nd rfl (by first | exact Or.inl rfl | exact Or.inr rfl)) (pss_cons (ps_if (pt_cmpR op_eq (pv 1) pe_int (nomark _)) (pss_one ps_break) pss_nil) (pss_cons (ps_set (i := 3) sc.nd rfl (by first | exact Or.inl rfl | exact Or.inr rfl) (pe_op op_mod (pe_callTy cr_int1 (by rfl) T.int (by decide +kernel) (pa_cons (pv 0) pa_nil)) (pv 1))) (pss_cons (ps_set (i := 0) sc.nd rfl (by first | exact Or.inl rfl | exact Or.inr rfl) (pv 1)) (pss_one (ps_set (i := 1) sc.nd rfl (by first | exact Or.inl rfl | exact Or.inr rfl) (pv 3))))))) (pss_one (ps_ret (pv 0)))))), ?_⟩
  refine r_sc (ev_abs (ev_var rfl)) eb fun h1 g1 => ?_
  refine r_sc (ev_abs (ev_var rfl)) g1.gi fun h2 g2 => ?_
  have G2 := g1.trans g2
  have fin : ∀ (σ' : L2.St) (h' : Hp) (z : Nat), σ'[0]? = some (some (.int (z : Int))) → z = Nat.gcd x.natAbs y.natAbs → Gr b h0 b h' → tRet (tVar 0) { nx := fun _ H' => Q .non H', rt := Q, bk := fun _ _ => False, ct := fun _ _ => False } σ' h' := fun σ' h' z e1 e2 G => by
    subst e2
    exact ⟨_, e1, k _ b h' _ G (fun a c e => by cases e; rfl) (Dt.int _)⟩
  refine s_forR1 (n := 4000) ((ea_cons ev_c ea_nil)) (by omega) (fun i σ' h' => ∃ (p q : Nat) (u v : Option V), σ' = [some (.int (p : Int)), some (.int (q : Int)), u, v] ∧ EucW (Nat.gcd x.natAbs y.natAbs) i p q ∧ Gr b h0 b h')
    (fun h3 e3 => ⟨x.natAbs, y.natAbs, none, none, rfl, ⟨rfl, by rw [if_pos rfl]; exact hy⟩, G2.trans (Gr.stay G2.gi e3)⟩) ?_ ?_
  · rintro i σ' h' hi ⟨p, q, u, v, rfl, hE, G⟩
    refine r_if (b := b) (c := decide (V.int (q : Int) = V.int 0)) (et_test (ev_op (ev_var rfl) ev_c (rv_eq rfl))) G.gi (fun hc h3 g3 => ?_) (fun hc h3 g3 => ?_)
    · have e0 : (q : Int) = 0 := by
        have := of_decide_eq_true hc
        injection this
      obtain rfl : q = 0 := by omega
      exact fin _ _ p rfl (eucW_zero hE) (G.trans g3)
    · have e0 : ¬ (q : Int) = 0 := fun z => by
        have := of_decide_eq_false hc
        exact this (by rw [z])
      refine r_sc (v := .int ((p % q : Nat) : Int)) (ev_op (ev_int1 (ev_var rfl)) (ev_var rfl) ?_) (G.trans g3).gi fun h4 g4 => ?_
      · have e1 : V.int ((p % q : Nat) : Int) = V.int ((p : Int) % (q : Int)) := by rw [Int.natCast_emod]
        rw [e1]
        exact rv_I (by omega)
      refine r_sc (ev_var rfl) g4.gi fun h5 g5 => ?_
      exact ⟨_, rfl, q, p % q, _, _, rfl, eucW_turn hE (by omega), ((G.trans g3).trans g4).trans g5⟩
  · rintro σ' h' ⟨p, q, u, v, rfl, hE, G⟩
    have e0 := eucW_end hE
    subst e0
    exact fin _ _ p rfl (eucW_zero hE) G

abbrev s_number : Stmt := top 41
theorem sc_number : FnScope ["n", "d", "common"] ["n", "d"] (defScope s_number) := ⟨rfl, rfl, rfl, by decide +kernel, rfl, by decide +kernel, by decide +kernel⟩
theorem has_numberW (D : IsDef K mg "_law_number" s_number ["n", "d"]) (U : Has P w K mg base 1 "_law_gcd" ["a", "b"] (spGcdW K)) : Has P w K mg base 2 "_law_number" ["n", "d"] (spNumberW K) := by
  obtain ⟨f, fd, F, hm, hb⟩ := D
  obtain ⟨f_gcd, fd_gcd, G_gcd, m_gcd, k_gcd, b_gcd⟩ := U
  have sc := sc_number
  refine ⟨f, fd, F.ok sc SpF.len (fun cdv A outer s h0 vs Q E hr hs => ?_), hm, F.kp, hb⟩
  obtain ⟨b, ds, eb, hA, hn, ⟨x, y, rfl, hy, hx1, hy1, hgd⟩, k⟩ := hs
  obtain rfl := hA.i2
  refine ⟨_, (Evl.pss_cut (ps_if (pt_cmpR op_lt (pv 1) pe_int (nomark _)) (pss_cons (ps_set (i := 0) sc.nd rfl (by first | exact Or.inl rfl | exact Or.inr rfl) (pe_un un_neg (pv 0))) (pss_one (ps_set (i := 1) sc.nd rfl (by first | exact Or.inl rfl | exact Or.inr rfl) (pe_un un_neg (pv 1))))) pss_nil) (pss_cons (ps_set (i := 2) sc.nd rfl (by first | exact Or.inl rfl | exact Or.inr rfl) (pe_call G_gcd (hr.mono (by decide)) rfl m_gcd k_gcd b_gcd .nil pass0 (pa_cons (pv 0) (pa_cons (pv 1) pa_nil)))) (pss_one (ps_ret (pe_tup (pa_cons (pe_op op_fdivW (pv 0) (pv 2)) (pa_cons (pe_op op_fdivW (pv 1) (pv 2)) pa_nil))))))), ?_⟩
  refine ⟨fun σ' h' => σ' = [some (.int (if y < 0 then -x else x)), some (.int (if y < 0 then -y else y)), none] ∧ Gr b h0 b h', ?_, ?_⟩
  · refine r_if1 (b := b) (c := decide (y < 0)) (et_test (ev_op (ev_var rfl) ev_c rv_I0)) eb (fun hc h3 g3 => ?_) (fun hc h3 g3 => ?_)
    · have e0 : y < 0 := of_decide_eq_true hc
      refine r_sc (ev_un (ev_var rfl) ru_neg) g3.gi fun h4 g4 => ?_
      refine ⟨_, rfl, _, rfl, ?_, g3.trans g4⟩
      rw [if_pos e0, if_pos e0]
      rfl
    · have e0 : ¬ y < 0 := of_decide_eq_false hc
      refine ⟨?_, g3⟩
      rw [if_neg e0, if_neg e0]
      rfl
  · rintro σ' h' ⟨rfl, G⟩
    have hyy : (if y < 0 then -y else y).natAbs = y.natAbs := by split <;> omega
    have hxx : (if y < 0 then -x else x).natAbs = x.natAbs := by split <;> omega
    refine r_sc (b := b) (v := .int ((Nat.gcd x.natAbs y.natAbs : Nat) : Int)) (ev_int (ed_call (eda_cons (ed_int (ev_var rfl)) (eda_cons (ed_int (ev_var rfl)) eda_nil)) rfl ⟨_, _, rfl, by rw [hyy, hxx]; exact .inr hgd⟩ fun e he => ?_)) G.gi fun h4 g4 => ?_
    · rw [he _ _ rfl, hxx, hyy]
    have hg : 0 < Nat.gcd x.natAbs y.natAbs := Nat.gcd_pos_of_pos_right _ (by omega)
    have hg2 : Nat.gcd x.natAbs y.natAbs < 2 ^ 8100 := Nat.lt_of_le_of_lt (Nat.gcd_le_right _ (by omega)) hy1
    have hw : CDivW 0 ((Nat.gcd x.natAbs y.natAbs : Nat) : Int) := wide_div (b := 8100) (by omega) (by simpa using hg2) (by decide) (by decide)
    refine r_ret (K := K) (d := nD (num x y)) (ed_tup (eda_cons (ed_int (ev_op (ev_var rfl) (ev_var rfl) (rv_I hw))) (eda_cons (ed_int (ev_op (ev_var rfl) (ev_var rfl) (rv_I hw))) eda_nil)) (by show 2 ≤ 100000; decide)) g4.gi fun v b' h5 g5 hv => ?_
    exact k v b' h5 _ ((G.trans g4).trans g5) (fun n d e => by cases e; rfl) hv

abbrev s_plus_ : Stmt := top 42
theorem sc_plus_ : FnScope ["a", "b"] ["a", "b"] (defScope s_plus_) := ⟨rfl, rfl, rfl, by decide +kernel, rfl, by decide +kernel, by decide +kernel⟩
theorem has_plusW (D : IsDef K mg "_law_plus" s_plus_ ["a", "b"]) (U : Has P w K mg base 2 "_law_number" ["n", "d"] (spNumberW K)) : Has P w K mg base 3 "_law_plus" ["a", "b"] (spPlusW K) := by
  obtain ⟨f, fd, F, hm, hb⟩ := D
  obtain ⟨f_number, fd_number, G_number, m_number, k_number, b_number⟩ := U
  have sc := sc_plus_
  refine ⟨f, fd, F.ok sc (fun vs H Q E x => ?_) (fun cdv A outer s h0 vs Q E hr hs => ?_), hm, F.kp, hb⟩
  · obtain ⟨b, p, q, _, hA, _⟩ := x
    exact hA.length
  obtain ⟨b, r, s, eb, hA, bp, bq, hden, k⟩ := hs
  refine ⟨_, (pss_one (ps_ret (pe_call G_number (hr.mono (by decide)) rfl m_number k_number b_number .nil pass0 (pa_cons (pe_op op_add (pe_op op_mulW (pe_ix (ix_tupK (K := K) rfl) (pv 0) pe_int (fun _ _ => rfl)) (pe_ix (ix_tupK (K := K) rfl) (pv 1) pe_int (fun _ _ => rfl))) (pe_op op_mulW (pe_ix (ix_tupK (K := K) rfl) (pv 1) pe_int (fun _ _ => rfl)) (pe_ix (ix_tupK (K := K) rfl) (pv 0) pe_int (fun _ _ => rfl)))) (pa_cons (pe_op op_mulW (pe_ix (ix_tupK (K := K) rfl) (pv 0) pe_int (fun _ _ => rfl)) (pe_ix (ix_tupK (K := K) rfl) (pv 1) pe_int (fun _ _ => rfl))) pa_nil))))), ?_⟩
  generalize hpe : canon r = p at *
  generalize hqe : canon s = q at *
  obtain ⟨va, vb, rfl, ha, hb2⟩ : ∃ va vb, vs = [va, vb] ∧ Dt K b va (nD p) ∧ Dt K b vb (nD q) := by
    rw [← hpe, ← hqe]
    cases hA with
    | cons h1 h2 =>
      cases h2 with
      | cons h3 h4 =>
        cases h4
        exact ⟨_, _, rfl, h1, h3⟩
  have rp : Red p := by rw [← hpe]; exact canon_red r
  have rq : Red q := by rw [← hqe]; exact canon_red s
  have A0 : ∀ {σ : L2.St}, σ[0]? = some (some va) → Ev (tOp (rIxT K) (tVar 0) (tC (V.int 0))) σ b (.int p.1) := fun s => ev_num0 (ed_var s ha)
  have A1 : ∀ {σ : L2.St}, σ[0]? = some (some va) → Ev (tOp (rIxT K) (tVar 0) (tC (V.int 1))) σ b (.int p.2) := fun s => ev_num1 (ed_var s ha)
  have B0 : ∀ {σ : L2.St}, σ[1]? = some (some vb) → Ev (tOp (rIxT K) (tVar 1) (tC (V.int 0))) σ b (.int q.1) := fun s => ev_num0 (ed_var s hb2)
  have B1 : ∀ {σ : L2.St}, σ[1]? = some (some vb) → Ev (tOp (rIxT K) (tVar 1) (tC (V.int 1))) σ b (.int q.2) := fun s => ev_num1 (ed_var s hb2)
  have p1 := bp.1
  have p2 := bp.2
  have q1 := bq.1
  have q2 := bq.2
  have hpos := mul_pos' rp.1 rq.1
  have hr2 := big_plus_raw bp bq
  have hcn : num (p.1 * q.2 + q.1 * p.2) (p.2 * q.2) = canon (r + s) := by
    rw [← plus_canon, hpe, hqe]
    rfl
  have hdd : nQ (r + s) = nD (num (p.1 * q.2 + q.1 * p.2) (p.2 * q.2)) := by rw [hcn]; rfl
  refine r_ret (K := K) (d := nQ (r + s)) (by
    rw [hdd]
    exact ed_call (eda_cons (ed_int (ev_op (ev_op (A0 rfl) (B1 rfl) (rv_I (cmulL p1 q2))) (ev_op (B0 rfl) (A1 rfl) (rv_I (cmulL q1 p2))) rv_I0)) (eda_cons (ed_int (ev_op (A1 rfl) (B1 rfl) (rv_I (cmulL p2 q2)))) eda_nil)) rfl ⟨_, _, rfl, by omega, Nat.lt_of_lt_of_le hr2.1 (Nat.pow_le_pow_right (by decide) (by decide)), Nat.lt_of_lt_of_le hr2.2 (Nat.pow_le_pow_right (by decide) (by decide)), den_gcd hpos hcn hden⟩ fun e he => he _ _ rfl) eb fun v b' h' g hv => k v b' h' g hv

abbrev s_times_ : Stmt := top 43
theorem sc_times_ : FnScope ["a", "b"] ["a", "b"] (defScope s_times_) := ⟨rfl, rfl, rfl, by decide +kernel, rfl, by decide +kernel, by decide +kernel⟩
theorem has_timesW (D : IsDef K mg "_law_times" s_times_ ["a", "b"]) (U : Has P w K mg base 2 "_law_number" ["n", "d"] (spNumberW K)) : Has P w K mg base 3 "_law_times" ["a", "b"] (spTimesW K) := by
  obtain ⟨f, fd, F, hm, hb⟩ := D
  obtain ⟨f_number, fd_number, G_number, m_number, k_number, b_number⟩ := U
  have sc := sc_times_
  refine ⟨f, fd, F.ok sc (fun vs H Q E x => ?_) (fun cdv A outer s h0 vs Q E hr hs => ?_), hm, F.kp, hb⟩
  · obtain ⟨b, p, q, _, hA, _⟩ := x
    exact hA.length
  obtain ⟨b, r, s, eb, hA, bp, bq, hden, k⟩ := hs
  refine ⟨_, (pss_one (ps_ret (pe_call G_number (hr.mono (by decide)) rfl m_number k_number b_number .nil pass0 (pa_cons (pe_op op_mulW (pe_ix (ix_tupK (K := K) rfl) (pv 0) pe_int (fun _ _ => rfl)) (pe_ix (ix_tupK (K := K) rfl) (pv 1) pe_int (fun _ _ => rfl))) (pa_cons (pe_op op_mulW (pe_ix (ix_tupK (K := K) rfl) (pv 0) pe_int (fun _ _ => rfl)) (pe_ix (ix_tupK (K := K) rfl) (pv 1) pe_int (fun _ _ => rfl))) pa_nil))))), ?_⟩
  generalize hpe : canon r = p at *
  generalize hqe : canon s = q at *
  obtain ⟨va, vb, rfl, ha, hb2⟩ : ∃ va vb, vs = [va, vb] ∧ Dt K b va (nD p) ∧ Dt K b vb (nD q) := by
    rw [← hpe, ← hqe]
    cases hA with
    | cons h1 h2 =>
      cases h2 with
      | cons h3 h4 =>
        cases h4
        exact ⟨_, _, rfl, h1, h3⟩
  have rp : Red p := by rw [← hpe]; exact canon_red r
  have rq : Red q := by rw [← hqe]; exact canon_red s
  have A0 : ∀ {σ : L2.St}, σ[0]? = some (some va) → Ev (tOp (rIxT K) (tVar 0) (tC (V.int 0))) σ b (.int p.1) := fun s => ev_num0 (ed_var s ha)
  have A1 : ∀ {σ : L2.St}, σ[0]? = some (some va) → Ev (tOp (rIxT K) (tVar 0) (tC (V.int 1))) σ b (.int p.2) := fun s => ev_num1 (ed_var s ha)
  have B0 : ∀ {σ : L2.St}, σ[1]? = some (some vb) → Ev (tOp (rIxT K) (tVar 1) (tC (V.int 0))) σ b (.int q.1) := fun s => ev_num0 (ed_var s hb2)
  have B1 : ∀ {σ : L2.St}, σ[1]? = some (some vb) → Ev (tOp (rIxT K) (tVar 1) (tC (V.int 1))) σ b (.int q.2) := fun s => ev_num1 (ed_var s hb2)
  have p1 := bp.1
  have p2 := bp.2
  have q1 := bq.1
  have q2 := bq.2
  have hpos := mul_pos' rp.1 rq.1
  have t1 : (p.1 * q.1).natAbs < 2 ^ (4000 + 4000) := by rw [Int.natAbs_mul]; exact pow_mul_lt bp.1 bq.1
  have t2 : (p.2 * q.2).natAbs < 2 ^ (4000 + 4000) := by rw [Int.natAbs_mul]; exact pow_mul_lt bp.2 bq.2
  have hcn : num (p.1 * q.1) (p.2 * q.2) = canon (r * s) := by
    rw [← times_canon, hpe, hqe]
    rfl
  have hdd : nQ (r * s) = nD (num (p.1 * q.1) (p.2 * q.2)) := by rw [hcn]; rfl
  refine r_ret (K := K) (d := nQ (r * s)) (by
    rw [hdd]
    exact ed_call (eda_cons (ed_int (ev_op (A0 rfl) (B0 rfl) (rv_I (cmulL p1 q1)))) (eda_cons (ed_int (ev_op (A1 rfl) (B1 rfl) (rv_I (cmulL p2 q2)))) eda_nil)) rfl ⟨_, _, rfl, by omega, Nat.lt_of_lt_of_le t1 (Nat.pow_le_pow_right (by decide) (by decide)), Nat.lt_of_lt_of_le t2 (Nat.pow_le_pow_right (by decide) (by decide)), den_gcd hpos hcn hden⟩ fun e he => he _ _ rfl) eb fun v b' h' g hv => k v b' h' g hv

abbrev s_total_ : Stmt := top 44
theorem sc_total_ : FnScope ["numbers", "found", "one"] ["numbers"] (defScope s_total_) := ⟨rfl, rfl, rfl, by decide +kernel, rfl, by decide +kernel, by decide +kernel⟩
theorem has_totW (D : IsDef K mg "_law_total" s_total_ ["numbers"]) (U : Has P w K mg base 3 "_law_plus" ["a", "b"] (spPlusW K)) : Has P w K mg base 4 "_law_total" ["numbers"] (spTotW K) := by
  obtain ⟨f, fd, F, hm, hb⟩ := D
  obtain ⟨f_plus, fd_plus, G_plus, m_plus, k_plus, b_plus⟩ := U
  have sc := sc_total_
  refine ⟨f, fd, F.ok sc (fun vs H Q E x => ?_) (fun cdv A outer s h0 vs Q E hr hs => ?_), hm, F.kp, hb⟩
  · obtain ⟨b, l, _, hA, _⟩ := x
    exact hA.length
  obtain ⟨b, l, eb, hA, hl, hp, hq, k⟩ := hs
  refine ⟨_, (pss_cons (ps_set (i := 1) sc.nd rfl (by first | exact Or.inl rfl | exact Or.inr rfl) (pe_tup (pa_cons pe_int (pa_cons pe_int pa_nil)))) (pss_cons (ps_for PassesOwn.never rfl (pi_listK (K := K) rfl (pv 0)) (pg_name (i := 2) sc.nd rfl (by first | exact Or.inl rfl | exact Or.inr rfl)) (pss_one (ps_set (i := 1) sc.nd rfl (by first | exact Or.inl rfl | exact Or.inr rfl) (pe_call G_plus (hr.mono (by decide)) rfl m_plus k_plus b_plus .nil pass0 (pa_cons (pv 1) (pa_cons (pv 2) pa_nil)))))) (pss_one (ps_ret (pv 1))))), ?_⟩
  obtain ⟨vL, rfl, hL⟩ : ∃ vL, vs = [vL] ∧ Dt K b vL (.list (l.map nQ)) := by
    cases hA with
    | cons h1 h2 =>
      cases h2
      exact ⟨_, rfl, h1⟩
  refine r_set (K := K) (d := nD (0, 1)) (ed_tup (eda_cons (ed_int ev_c) (eda_cons (ed_int ev_c) eda_nil)) (by show 2 ≤ 100000; decide)) eb fun v1 b1 h1 g1 hv1 => ?_
  refine r_forL (K := K) (ds := l.map nQ) (ed_var rfl (hL.up g1.gb)) g1.gi fun a xs b2 h2 g2 _ _ => ⟨fun i σ' h' => ∃ (v : V) (u : Option V) (b' : Hp), σ' = [some vL, some v, u] ∧ Gr b2 h2 b' h' ∧ Dt K b' v (nQ (l.take i).sum), ⟨v1, none, b2, rfl, Gr.refl g2.gi, by
    rw [List.take_zero, List.sum_nil]
    unfold nQ
    rw [canon_zero]
    exact hv1.up g2.gb⟩, fun i σ' h' p => ?_, ?_, ?_⟩
  · obtain ⟨_, _, b', _, g, _⟩ := p
    exact g.gb.trans g.gi
  · rintro i d xv σ' h' hd hx ⟨v, u, b', rfl, g, hv⟩
    rw [List.getElem?_map] at hd
    cases hz : l[i]? with
    | none => rw [hz] at hd; cases hd
    | some r =>
      rw [hz] at hd
      cases hd
      have hil : i < l.length := (List.getElem?_eq_some_iff.mp hz).1
      refine r_set1 (K := K) (d := nQ ((l.take i).sum + r)) (ed_plusW (eda_cons (ed_var rfl hv) (eda_cons (ed_var rfl (hx.up g.gb)) eda_nil)) (hp i (Nat.le_of_lt hil)).1 (hq r (List.mem_of_getElem? hz)) (by rw [← sum_snoc, ← take_more1 hz]; exact (hp (i + 1) hil).2)) g.gi fun v3 b3 h3 g3 hv3 => ?_
      refine ⟨v3, _, b3, rfl, g.trans g3, ?_⟩
      rw [take_more1 hz, sum_snoc]
      exact hv3
  · rintro σ' h' ⟨v, u, b', rfl, g, hv⟩
    rw [List.length_map, List.take_length] at hv
    exact ⟨_, rfl, k v b' h' ((g1.trans g2).trans g) hv⟩

abbrev s_walk : Stmt := top 45
theorem sc_walk : FnScope ["draws", "most", "many", "group", "found", "k", "part", "low", "size", "weights", "branches", "n"] ["draws", "most"] (defScope s_walk) := ⟨rfl, rfl, rfl, by decide +kernel, rfl, by decide +kernel, by decide +kernel⟩
theorem has_walkS (T : Bt mg) (D : IsDef K mg "_law_walk" s_walk ["draws", "most"]) (U : Has P w K mg base 2 "_law_number" ["n", "d"] (spNumber K)) : Has P w K mg base 3 "_law_walk" ["draws", "most"] (spWalkS K) := by
  obtain ⟨f, fd, F, hm, hb⟩ := D
  obtain ⟨f_number, fd_number, G_number, m_number, k_number, b_number⟩ := U
  have sc := sc_walk
  refine ⟨f, fd, F.ok sc (fun vs H Q E x => ?_) (fun cdv A outer s h0 vs Q E hr hs => ?_), hm, F.kp, hb⟩
  · obtain ⟨b, ds, most, _, hA, _⟩ := x
    exact hA.length
  obtain ⟨b, ds, most, eb, hA, hm1, hm12, hdl, hd, kQ⟩ := hs
  refine ⟨_, (pss_cons (ps_set (i := 2) sc.nd rfl (by first | exact Or.inl rfl | exact Or.inr rfl) (pe_op op_add pe_int (pe_op op_mod (pe_callTy cr_int1 (by rfl) T.int (by decide +kernel) (pa_cons (pe_ix (ix_listK (K := K) rfl) (pv 0) pe_int (fun _ _ => rfl)) pa_nil)) (pv 1)))) (pss_cons (ps_set (i := 3) sc.nd rfl (by first | exact Or.inl rfl | exact Or.inr rfl) (pe_ix (ix_listK (K := K) rfl) (pe_lst (pa_cons (pv 2) (pa_cons pe_int (pa_cons pe_int (pa_cons pe_int pa_nil))))) (pe_op op_mod (pe_callTy cr_int1 (by rfl) T.int (by decide +kernel) (pa_cons (pe_ix (ix_listK (K := K) rfl) (pv 0) pe_int (fun _ _ => rfl)) pa_nil)) pe_int) (fun _ _ => rfl))) (pss_cons (ps_set (i := 4) sc.nd rfl (by first | exact Or.inl rfl | exact Or.inr rfl) (pe_lst pa_nil)) (pss_cons (ps_for PassesOwn.never rfl (pi_range1 (by rfl) T.range (pa_cons (pv 2) pa_nil)) (pg_name (i := 5) sc.nd rfl (by first | exact Or.inl rfl | exact Or.inr rfl)) (pss_cons (ps_set (i := 6) sc.nd rfl (by first | exact Or.inl rfl | exact Or.inr rfl) (pe_slice (sl_listK (K := K) rfl) (pv 0) (po_some (pe_op op_add pe_int (pe_op op_mul pe_int (pv 5)))) (po_some (pe_op op_add pe_int (pe_op op_mul pe_int (pv 5)))))) (pss_cons (ps_set (i := 7) sc.nd rfl (by first | exact Or.inl rfl | exact Or.inr rfl) (pe_op op_sub (pv 5) (pe_op op_mod (pe_callTy cr_int1 (by rfl) T.int (by decide +kernel) (pa_cons (pv 5) pa_nil)) (pv 3)))) (pss_cons (ps_set (i := 8) sc.nd rfl (by first | exact Or.inl rfl | exact Or.inr rfl) (pe_ix (ix_listK (K := K) rfl) (pe_lst (pa_cons pe_int (pa_cons pe_int (pa_cons pe_int (pa_cons pe_int (pa_cons pe_int (pa_cons pe_int (pa_cons pe_int (pa_cons pe_int (pa_cons pe_int (pa_cons pe_int pa_nil))))))))))) (pe_op op_mod (pe_callTy cr_int1 (by rfl) T.int (by decide +kernel) (pa_cons (pe_ix (ix_listK (K := K) rfl) (pv 6) pe_int (fun _ _ => rfl)) pa_nil)) pe_int) (fun _ _ => rfl))) (pss_cons (ps_setLc (i := 9) (own := [("n", 11)]) (tt := tYes) rfl sc.nd rfl rfl (sw_true rfl rfl rfl (by decide +kernel)) (pi_range1 (by rfl) T.range (pa_cons (pv 8) pa_nil)) (blkOk_by (N := ["draws", "most", "many", "group", "found", "k", "part", "low", "size", "weights", "branches", "n"]) (sc := defScope s_walk) (by decide +kernel)) (fun _ _ _ _ _ => (pg_name (i := 11) sc.nd rfl (by first | exact Or.inl rfl | exact Or.inr rfl))) (fun _ _ _ _ _ => pts_nil) (fun _ _ _ _ _ => (pe_op op_add pe_int (pe_op op_mod (pe_callTy cr_int1 (by rfl) T.int (by decide +kernel) (pa_cons (pe_ix (ix_listK (K := K) rfl) (pv 6) (pe_op op_add pe_int (pv 11)) (fun _ _ => rfl)) pa_nil)) pe_int)))) (pss_cons (ps_set (i := 10) sc.nd rfl (by first | exact Or.inl rfl | exact Or.inr rfl) (pe_lst pa_nil)) (pss_cons (ps_for PassesOwn.never rfl (pi_range1 (by rfl) T.range (pa_cons (pv 8) pa_nil)) (pg_name (i := 11) sc.nd rfl (by first | exact Or.inl rfl | exact Or.inr rfl)) (pss_one (ps_expr (pe_appK (K := K) rfl (pv 10) (pa_cons (pe_tup (pa_cons (pe_call G_number (hr.mono (by decide)) rfl m_number k_number b_number .nil pass0 (pa_cons (pe_ix (ix_listK (K := K) rfl) (pv 9) (pv 11) (fun _ _ => rfl)) (pa_cons (pe_callB (sum_K (K := K) rfl rfl) (by rfl) T.sum (by decide +kernel) (pa_cons (pv 9) pa_nil)) pa_nil))) (pa_cons (pe_op op_add (pv 7) (pe_op op_mod (pe_callTy cr_int1 (by rfl) T.int (by decide +kernel) (pa_cons (pe_ix (ix_listK (K := K) rfl) (pv 6) (pe_op op_add pe_int (pv 11)) (fun _ _ => rfl)) pa_nil)) (pe_op op_sub (pv 2) (pv 7)))) pa_nil))) pa_nil))))) (pss_one (ps_expr (pe_appK (K := K) rfl (pv 4) (pa_cons (pe_tup (pa_cons (pe_call G_number (hr.mono (by decide)) rfl m_number k_number b_number .nil pass0 (pa_cons (pe_op op_sub (pe_op op_mod (pe_callTy cr_int1 (by rfl) T.int (by decide +kernel) (pa_cons (pe_ix (ix_listK (K := K) rfl) (pv 6) pe_int (fun _ _ => rfl)) pa_nil)) pe_int) pe_int) (pa_cons (pe_ix (ix_listK (K := K) rfl) (pe_lst (pa_cons pe_int (pa_cons pe_int (pa_cons pe_int (pa_cons pe_int pa_nil))))) (pe_op op_mod (pe_callTy cr_int1 (by rfl) T.int (by decide +kernel) (pa_cons (pe_op op_fdivW (pe_ix (ix_listK (K := K) rfl) (pv 6) pe_int (fun _ _ => rfl)) pe_int) pa_nil)) pe_int) (fun _ _ => rfl)) pa_nil))) (pa_cons pe_str (pa_cons (pv 10) pa_nil)))) pa_nil))))))))))) (pss_one (ps_ret (pv 4))))))), ?_⟩
  obtain ⟨vD, rfl, hD⟩ : ∃ vD, vs = [vD, .int most] ∧ Dt K b vD (.list (ds.map PyData.int)) := by
    cases hA with
    | cons h1 h2 => exact ⟨_, by rw [h2.i1], h1⟩
  have d0 := ds_get (j := 0) hd
  have hmd0 : 0 ≤ ds.getD 0 0 % most := Int.emod_nonneg _ (by omega)
  have hmd1 : ds.getD 0 0 % most < most := Int.emod_lt_of_pos _ (by omega)
  obtain ⟨many, hmany⟩ : ∃ many : Nat, (many : Int) = 1 + ds.getD 0 0 % most := ⟨(1 + ds.getD 0 0 % most).toNat, by omega⟩
  refine r_sc (b := b) (v := .int (many : Int)) (by
    rw [hmany]
    exact ev_op ev_c (ev_op (ev_int1 (ev_ixI 0 (ed_var rfl hD) ev_c rfl (by omega))) (ev_var rfl) (rv_I (by omega))) rv_I0) eb fun h1 g1 => ?_
  have d1 := ds_get (j := 1) hd
  obtain ⟨gr, hgr, hat1⟩ := at_pick [(many : Int), 1, 2, 3] (z := ds.getD 1 0 % 4) (by omega) (by show _ < (4 : Int); omega)
  have hgr1 : 1 ≤ gr := by
    simp only [List.mem_cons, List.not_mem_nil, or_false] at hgr
    omega
  refine r_sc (b := b) (v := .int gr) (ev_int (ed_ixL (K := K) (ds := [(many : Int), 1, 2, 3].map PyData.int) (en_lst (eda_cons (ed_int (ev_var rfl)) (eda_cons (ed_int ev_c) (eda_cons (ed_int ev_c) (eda_cons (ed_int ev_c) eda_nil)))) (by show 4 ≤ 100000; decide)).ed (ev_op (ev_int1 (ev_ixI 1 (ed_var rfl hD) ev_c rfl (by omega))) ev_c (rv_I (by decide))) hat1)) g1.gi fun h2 g2 => ?_
  have G2 := g1.trans g2
  refine r_setN (K := K) (en_lst eda_nil (by decide)) G2.gi fun q us0 b3 h3 nq mq g3 hq hus0 => ?_
  cases hus0
  have G3 := G2.trans g3
  have oq : h0 q = none := fresh_back G2.gh nq
  show tSeq _ _ _ [some vD, some (.int most), some (.int (many : Int)), some (.int gr), some (.ref q), none, none, none, none, none, none, none] _
  refine s_forR1 (H := h3) (n := (many : Int)) (ea_cons (ev_var rfl) ea_nil) (by omega) (fun k σ' h' => ∃ (C : List PlC) (us : List V) (u5 u6 u7 u8 u9 u10 u11 : Option V) (b' : Hp), σ' = [some vD, some (.int most), some (.int (many : Int)), some (.int gr), some (.ref q), u5, u6, u7, u8, u9, u10, u11] ∧ C.length = k ∧ (∀ p ∈ C, WfB many p ∧ WkP p) ∧ Gr b h0 b' h' ∧ b' q = none ∧ h' q = some (.lst us) ∧ DtA K b' us (C.map PlC.D))
    (fun h e => ⟨[], [], none, none, none, none, none, none, none, b3, rfl, rfl, (fun p hp => by cases hp), G3.trans (Gr.stay G3.gi e), mq, e _ _ hq, DtA.nil⟩) ?_ ?_
  · rintro k σ' h' hk ⟨C, us, u5, u6, u7, u8, u9, u10, u11, b', rfl, hCl, hCw, gi, nqb, hq', hus⟩
    have hk' : k < many := by omega
    show tSeq _ _ _ [some vD, some (.int most), some (.int (many : Int)), some (.int gr), some (.ref q), some (.int (k : Int)), u6, u7, u8, u9, u10, u11] _
    obtain ⟨es, he, hel, hed⟩ := cut_ints (ds := ds) (lo := 2 + 14 * k) (n := 14) (by omega) hd
    have he' : cutD (ds.map PyData.int) (some (2 + 14 * (k : Int))) (some (16 + 14 * (k : Int))) = es.map PyData.int := by
      have e1 : (2 : Int) + 14 * (k : Int) = ((2 + 14 * k : Nat) : Int) := by omega
      have e2 : (16 : Int) + 14 * (k : Int) = ((2 + 14 * k + 14 : Nat) : Int) := by omega
      rw [e1, e2]
      exact he
    have hDi := hD.up gi.gb
    refine r_set (K := K) (d := .list (es.map PyData.int)) (he' ▸ EN.ed (en_sl (K := K) (ed_var rfl hDi) (eo_some (ev_op ev_c (ev_op ev_c (ev_var rfl) (rv_I (.inl ⟨by decide, by decide⟩))) rv_I0)) (eo_some (ev_op ev_c (ev_op ev_c (ev_var rfl) (rv_I (.inl ⟨by decide, by decide⟩))) rv_I0)))) gi.gi fun vP b4 h4 g4 hvP => ?_
    have hkg0 : 0 ≤ (k : Int) % gr := Int.emod_nonneg _ (by omega)
    have hkg1 : (k : Int) % gr ≤ k := by
      have h1 := Int.mul_ediv_add_emod (k : Int) gr
      have h2 : 0 ≤ gr * ((k : Int) / gr) := Int.mul_nonneg (by omega) (Int.ediv_nonneg (by omega) (by omega))
      omega
    obtain ⟨low, hlow⟩ : ∃ low : Nat, (low : Int) = (k : Int) - (k : Int) % gr := ⟨((k : Int) - (k : Int) % gr).toNat, by omega⟩
    have hlk : low ≤ k := by omega
    refine r_sc (b := b4) (v := .int (low : Int)) (by
      rw [hlow]
      exact ev_op (ev_var rfl) (ev_op (ev_int1 (ev_var rfl)) (ev_var rfl) (rv_I (by omega))) rv_I0) g4.gi fun h5 g5 => ?_
    have p0 := ds_get (j := 0) hed
    obtain ⟨sz, hsz, hat2⟩ := at_pick [1, 2, 3, 2, 1, 4, 5, 6, 2, 1] (z := es.getD 0 0 % 10) (by omega) (by show _ < (10 : Int); omega)
    have hsz' : 1 ≤ sz ∧ sz ≤ 6 := by
      simp only [List.mem_cons, List.not_mem_nil, or_false] at hsz
      omega
    refine r_sc (b := b4) (v := .int sz) (ev_int (ed_ixL (K := K) (ds := [1, 2, 3, 2, 1, 4, 5, 6, 2, 1].map PyData.int) (en_lst (eda_cons (ed_int ev_c) (eda_cons (ed_int ev_c) (eda_cons (ed_int ev_c) (eda_cons (ed_int ev_c) (eda_cons (ed_int ev_c) (eda_cons (ed_int ev_c) (eda_cons (ed_int ev_c) (eda_cons (ed_int ev_c) (eda_cons (ed_int ev_c) (eda_cons (ed_int ev_c) eda_nil)))))))))) (by show 10 ≤ 100000; decide)).ed (ev_op (ev_int1 (ev_ixI 0 (ed_var rfl hvP) ev_c rfl (by omega))) ev_c (rv_I (by decide))) hat2)) (g4.trans g5).gi fun h6 g6 => ?_
    have G6 := (g4.trans g5).trans g6
    refine r_set (K := K) (EN.ed (en_lcR (ea_cons (ev_var rfl) ea_nil) (by omega) (fun _ => true) (fun i => .int (1 + es.getD (1 + i) 0 % 4)) (fun x => rfl) fun i b6 e6 hi => ⟨et_yes, fun _ => ed_int (ev_op ev_c (ev_op (ev_int1 (ev_ixI (1 + i) (ed_var rfl (hvP.up e6)) (ev_op ev_c (ev_var rfl) rv_I0) (by omega) (by omega))) ev_c (rv_I (by decide))) rv_I0)⟩)) G6.gi fun vW b7 h7 g7 hvW => ?_
    have G7 := G6.trans g7
    rw [givenD_all, map_range_ints] at hvW
    generalize hws : (List.range sz.toNat).map (fun i => 1 + es.getD (1 + i) 0 % 4) = ws at hvW
    have hwl : ws.length = sz.toNat := by rw [← hws]; simp
    have hwm : ∀ w ∈ ws, 1 ≤ w ∧ w ≤ 4 := fun w hw => by
      rw [← hws] at hw
      obtain ⟨i, _, rfl⟩ := List.mem_map.mp hw
      omega
    obtain ⟨s1, s2⟩ := sum4 hwm
    have hP7 := hvP.up g7.gb
    refine r_setN (K := K) (en_lst eda_nil (by decide)) G7.gi fun q2 us2 b8 h8 nq2 mq2 g8 hq2 hus2 => ?_
    cases hus2
    have G8 := G7.trans g8
    have TG8 := gi.trans G8
    have hq8 : h8 q = some (.lst us) := G8.gh _ _ hq'
    have nq8 : b8 q = none := G8.gf q nqb (by rw [hq']; intro z; cases z)
    have hne : q ≠ q2 := ne_of_none (G7.gh _ _ hq') nq2
    have oq2 : h' q2 = none := fresh_back G7.gh nq2
    let tg : Nat → Nat := fun j => (low + es.getD (7 + j) 0 % ((many : Int) - low)).toNat
    have htg : ∀ j, ((tg j : Nat) : Int) = low + es.getD (7 + j) 0 % ((many : Int) - low) ∧ tg j < many := fun j => by
      have h1 : 0 ≤ es.getD (7 + j) 0 % ((many : Int) - low) := Int.emod_nonneg _ (by omega)
      have h2 : es.getD (7 + j) 0 % ((many : Int) - low) < (many : Int) - low := Int.emod_lt_of_pos _ (by omega)
      have e : ((tg j : Nat) : Int) = low + es.getD (7 + j) 0 % ((many : Int) - low) := Int.toNat_of_nonneg (by omega)
      exact ⟨e, by omega⟩
    have hP8 := hP7.up g8.gb
    have hW8 := hvW.up g8.gb
    show tSeq _ _ _ [some vD, some (.int most), some (.int (many : Int)), some (.int gr), some (.ref q), some (.int (k : Int)), some vP, some (.int (low : Int)), some (.int sz), some vW, some (.ref q2), u11] _
    refine s_forR1 (H := h8) (n := sz) (ea_cons (ev_var rfl) ea_nil) (by omega) (fun n σ'' h'' => ∃ (us2 : List V) (u11 : Option V) (b'' : Hp), σ'' = [some vD, some (.int most), some (.int (many : Int)), some (.int gr), some (.ref q), some (.int (k : Int)), some vP, some (.int (low : Int)), some (.int sz), some vW, some (.ref q2), u11] ∧ Gr b' h' b'' h'' ∧ Ex b8 b'' ∧ b'' q2 = none ∧ h'' q2 = some (.lst us2) ∧ DtA K b'' us2 (((List.range n).map (walkBr ws tg)).map brC))
      (fun h e => ⟨[], u11, b8, rfl, G8.trans (Gr.stay G8.gi e), Ex.refl _, mq2, e _ _ hq2, DtA.nil⟩) ?_ ?_
    · rintro n σ'' h'' hn ⟨us2, u11', b'', rfl, gn, en, nq2', hq2', hus2⟩
      have hnl : n < ws.length := by omega
      have hul : us2.length = n := by rw [hus2.length, List.length_map, List.length_map, List.length_range]
      refine r_app1 (K := K) (d := brC (walkBr ws tg n)) hq2' (ev_var rfl) (ed_tup (eda_cons (ed_number (ev_ixI n (ed_var rfl (hW8.up en)) (ev_var rfl) rfl hnl) (ev_sum (ed_var rfl (hW8.up en))) (by omega) ?_ ?_) (eda_cons (ed_int ?_) eda_nil)) (by show 2 ≤ 100000; decide)) gn.gi nq2' (by omega) fun v b9 h9 g9 nq9 hq9 hv => ?_
      · have : ws.getD n 0 ∈ ws := by
          rw [List.getD_eq_getElem?_getD, List.getElem?_eq_getElem hnl]
          exact List.getElem_mem hnl
        have := hwm _ this
        exact Nat.lt_trans (show (ws.getD n 0).natAbs < 100 by omega) (by decide +kernel)
      · exact Nat.lt_trans (show (ws.sum).natAbs < 100 by omega) (by decide +kernel)
      · show Ev _ _ _ (.int ((tg n : Nat) : Int))
        rw [(htg n).1]
        exact ev_op (ev_var rfl) (ev_op (ev_int1 (ev_ixI (7 + n) (ed_var rfl (hP8.up en)) (ev_op ev_c (ev_var rfl) rv_I0) (by omega) (by omega))) (ev_op (ev_var rfl) (ev_var rfl) rv_I0) (rv_I (by omega))) rv_I0
      · refine ⟨us2 ++ [v], _, b9, rfl, (gn.trans g9).mut oq2 nq9, en.trans g9.gb, nq9, upd_same, ?_⟩
        rw [List.range_succ, List.map_append, List.map_append]
        exact (hus2.up g9.gb).append (DtA.one hv)
    · rintro σ'' h'' ⟨us2, u11', b'', rfl, gn, en, nq2', hq2', hus2⟩
      rw [← hwl] at hus2
      dsimp only
      have T2 := gn.tell oq2 nq2' hq2'
      have dB : Dt K (upd b'' q2 (.lst us2)) (.ref q2) (.list (((List.range ws.length).map (walkBr ws tg)).map brC)) := Dt.list upd_same (hus2.up (Ex.new nq2'))
      have e2 : Ex b8 (upd b'' q2 (.lst us2)) := en.trans (Ex.new nq2')
      have hq'' : h'' q = some (.lst us) := gn.gh _ _ hq'
      generalize upd b'' q2 (.lst us2) = bT at T2 dB e2
      have nqT : bT q = none := T2.gf q nqb (by rw [hq']; intro z; cases z)
      have hul : us.length = k := by rw [hus.length, List.length_map, hCl]
      have p13 := ds_get (j := 13) hed
      obtain ⟨x1, hx1, hat3⟩ := at_pick [1, 1, 2, 5] (z := es.getD 13 0 / 15 % 4) (by omega) (by show _ < (4 : Int); omega)
      have hx1' : 1 ≤ x1 ∧ x1 ≤ 5 := by
        simp only [List.mem_cons, List.not_mem_nil, or_false] at hx1
        omega
      have hP9 := hP8.up e2
      have hgain : SmallN (num (es.getD 13 0 % 15 - 6) x1) := num_small (by omega) (by omega) (by omega)
      refine r_app1 (K := K) (d := PlC.D ⟨num (es.getD 13 0 % 15 - 6) x1, (List.range ws.length).map (walkBr ws tg)⟩) hq'' (ev_var rfl) (ed_tup (eda_cons (ed_number (ev_op (ev_op (ev_int1 (ev_ixI 13 (ed_var rfl hP9) ev_c rfl (by omega))) ev_c (rv_I (by decide))) ev_c rv_I0) (ev_int (ed_ixL (K := K) (ds := [1, 1, 2, 5].map PyData.int) (en_lst (eda_cons (ed_int ev_c) (eda_cons (ed_int ev_c) (eda_cons (ed_int ev_c) (eda_cons (ed_int ev_c) eda_nil)))) (by show 4 ≤ 100000; decide)).ed (ev_op (ev_int1 (ev_op (ev_ixI 13 (ed_var rfl hP9) ev_c rfl (by omega)) ev_c (rv_I ⟨by decide, by decide⟩))) ev_c (rv_I (by decide))) hat3)) (by omega) ?_ ?_) (eda_cons (ed_str ev_c) (eda_cons (ed_var rfl dB) eda_nil))) (by show 3 ≤ 100000; decide)) T2.gi nqT (by omega) fun v b9 h9 g9 nq9 hq9 hv => ?_
      · exact Nat.lt_trans (show (es.getD 13 0 % 15 - 6).natAbs < 100 by omega) (by decide +kernel)
      · exact Nat.lt_trans (show x1.natAbs < 100 by omega) (by decide +kernel)
      · have TT := T2.trans g9
        refine ⟨C ++ [⟨num (es.getD 13 0 % 15 - 6) x1, (List.range ws.length).map (walkBr ws tg)⟩], us ++ [v], _, _, _, _, _, _, _, b9, rfl, by rw [List.length_append, hCl] <;> rfl, fun p hp => ?_, (gi.trans TT).mut oq nq9, nq9, upd_same, ?_⟩
        · rcases List.mem_append.mp hp with hp | hp
          · exact hCw p hp
          · rw [List.mem_singleton] at hp
            rw [hp]
            exact ⟨walk_wf hgain (by omega) (by omega) hwm fun j _ => (htg j).2, walk_wk (by omega) (by omega) (by omega) (by omega) hwm⟩
        · rw [List.map_append]
          exact (hus.up TT.gb).append (DtA.one hv)
  · rintro σ' h' ⟨C, us, u5, u6, u7, u8, u9, u10, u11, b', rfl, hCl, hCw, gi, nqb, hq', hus⟩
    rw [Int.toNat_natCast] at hCl
    refine ⟨_, rfl, kQ _ (upd b' q (.lst us)) h' C (gi.tell oq nqb hq') ⟨by omega, by omega, fun p hp => by rw [hCl]; exact (hCw p hp).1⟩ (fun p hp => (hCw p hp).2) (by omega) (Dt.list upd_same (hus.up (Ex.new nqb)))⟩

abbrev s_means : Stmt := top 46
theorem sc_means : FnScope ["chain", "numbers", "found", "gain", "kind", "branches", "chance", "target"] ["chain", "numbers"] (defScope s_means) := ⟨rfl, rfl, rfl, by decide +kernel, rfl, by decide +kernel, by decide +kernel⟩
theorem has_meansW (D : IsDef K mg "_law_means" s_means ["chain", "numbers"]) (U1 : Has P w K mg base 4 "_law_total" ["numbers"] (spTotW K)) (U2 : Has P w K mg base 3 "_law_times" ["a", "b"] (spTimesW K)) : Has P w K mg base 5 "_law_means" ["chain", "numbers"] (spMeansW K) := by
  obtain ⟨f, fd, F, hm, hb⟩ := D
  obtain ⟨f_total, fd_total, G_total, m_total, k_total, b_total⟩ := U1
  obtain ⟨f_times, fd_times, G_times, m_times, k_times, b_times⟩ := U2
  have sc := sc_means
  refine ⟨f, fd, F.ok sc (fun vs H Q E x => ?_) (fun cdv A outer s h0 vs Q E hr hs => ?_), hm, F.kp, hb⟩
  · obtain ⟨b, C, g, M, B, _, hA, _⟩ := x
    exact hA.length
  obtain ⟨b, C, g, M, B, eb, hA, hW, hf, hM, hB, hM2, hB2, kQ⟩ := hs
  refine ⟨_, (pss_cons (ps_set (i := 2) sc.nd rfl (by first | exact Or.inl rfl | exact Or.inr rfl) (pe_lst pa_nil)) (pss_cons (ps_for PassesOwn.never rfl (pi_listK (K := K) rfl (pv 0)) (pg_tupK (K := K) (n := 3) rfl rfl (pgs_cons (pg_name (i := 3) sc.nd rfl (by first | exact Or.inl rfl | exact Or.inr rfl)) (pgs_cons (pg_name (i := 4) sc.nd rfl (by first | exact Or.inl rfl | exact Or.inr rfl)) (pgs_cons (pg_name (i := 5) sc.nd rfl (by first | exact Or.inl rfl | exact Or.inr rfl)) pgs_nil)))) (pss_one (ps_expr (pe_appK (K := K) rfl (pv 2) (pa_cons (pe_call G_total (hr.mono (by decide)) rfl m_total k_total b_total .nil pass0 (pa_cons (pe_lc (own := [("chance", 6), ("target", 7)]) (tt := tYes) rfl sc.nd (pi_listK (K := K) rfl (pv 5)) (blkOk_by (N := ["chain", "numbers", "found", "gain", "kind", "branches", "chance", "target"]) (sc := defScope s_means) (by decide +kernel)) (fun _ _ _ _ _ => (pg_tupK (K := K) (n := 2) rfl rfl (pgs_cons (pg_name (i := 6) sc.nd rfl (by first | exact Or.inl rfl | exact Or.inr rfl)) (pgs_cons (pg_name (i := 7) sc.nd rfl (by first | exact Or.inl rfl | exact Or.inr rfl)) pgs_nil)))) (fun _ _ _ _ _ => pts_nil) (fun _ _ _ _ _ => (pe_call G_times (hr.mono (by decide)) rfl m_times k_times b_times .nil pass0 (pa_cons (pv 6) (pa_cons (pe_ix (ix_listK (K := K) rfl) (pv 1) (pv 7) (fun _ _ => rfl)) pa_nil))))) pa_nil)) pa_nil))))) (pss_one (ps_ret (pv 2))))), ?_⟩
  obtain ⟨vC, vN, rfl, hC, hN⟩ : ∃ vC vN, vs = [vC, vN] ∧ Dt K b vC (.list (C.map PlC.D)) ∧ Dt K b vN (.list ((List.range C.length).map fun k => nQ (g k))) := by
    cases hA with
    | cons h1 hA =>
      cases hA with
      | cons h2 hA =>
        cases hA
        exact ⟨_, _, rfl, h1, h2⟩
  have hC12 := hW.l12
  have hM19 : ∀ {X : Nat}, X ≤ M * 360 → X < 2 ^ 1998 := fun h => Nat.lt_of_le_of_lt h (by
    have : M * 360 < 2 ^ 1900 * 360 := Nat.mul_lt_mul_of_pos_right hM2 (by decide)
    exact Nat.lt_of_lt_of_le this (by
      have e : (2 : Nat) ^ 1998 = 2 ^ 1900 * 2 ^ 98 := by rw [← Nat.pow_add]
      rw [e]
      exact Nat.mul_le_mul_left _ (by decide)))
  have hB1 : 1000 * B ≤ 2 ^ 1000 := by
    have : 1000 * B ≤ 2 ^ 10 * 2 ^ 200 := Nat.mul_le_mul (by decide) (Nat.le_of_lt hB2)
    rw [← Nat.pow_add] at this
    exact Nat.le_trans this (Nat.pow_le_pow_right (by decide) (by decide))
  refine r_setN (K := K) (en_lst eda_nil (by decide)) eb fun q us0 b1 h1 nq mq g1 hq hus0 => ?_
  cases hus0
  refine r_forL (K := K) (ds := C.map PlC.D) (ed_var rfl (hC.up g1.gb)) g1.gi fun aC xsC b2 h2 g2 _ _ => ⟨fun i σ' h' => ∃ (us : List V) (u3 u4 u5 : Option V) (b' : Hp), σ' = [some vC, some vN, some (.ref q), u3, u4, u5, none, none] ∧ Gr b h0 b' h' ∧ Ex b2 b' ∧ b' q = none ∧ h' q = some (.lst us) ∧ DtA K b' us ((List.range i).map fun k => nQ (meanC C g k)),
    ⟨[], none, none, none, b2, rfl, g1.trans g2, Ex.refl _, g2.gf q mq (by rw [hq]; intro z; cases z), g2.gh _ _ hq, DtA.nil⟩, fun i σ' h' p => ?_, ?_, ?_⟩
  · obtain ⟨_, _, _, _, b', _, g, e, _⟩ := p
    exact e.trans g.gi
  · rintro i d xv σ' h' hd hxv ⟨us, u3, u4, u5, b', rfl, gi, eB, nqb, hq', hus⟩
    have hi : i < C.length := by
      have := (List.getElem?_eq_some_iff.mp hd).1
      rwa [List.length_map] at this
    rw [List.getElem?_map, plC_get hi] at hd
    cases hd
    have hw := plC_wf hW hi
    have sw := scale_wf hw
    have hxv' : Dt K b' xv (.tuple [nD (plC C i).g, .str "draw", .list ((plC C i).bs.map brC)]) := hxv.up eB
    refine g_three hxv' gi.gi fun w1 w2 w3 k1 k2 k3 => ?_
    have hN' := hN.up (gi.gb)
    have hul : us.length = i := by
      have e1 := hus.length
      rwa [List.length_map, List.length_range] at e1
    have hden : M * denL ((plC C i).bs.map (·.1)) ≤ M * 360 := Nat.mul_le_mul_left M sw.2
    have h0' : 0 < M * denL ((plC C i).bs.map (·.1)) := Nat.mul_pos hM sw.1
    have hfq : ∀ q ∈ (plC C i).bs, NB M B (g q.2) := fun q hq => hf q.2 (hw.q q hq).2.2
    have hl : ((plC C i).bs.map fun q => qN q.1 * g q.2).sum = meanC C g i := rfl
    have ht : ∀ j, (((plC C i).bs.map fun q => qN q.1 * g q.2).take j).sum = wsum ((plC C i).bs.take j) g := fun j => by rw [← List.map_take]; rfl
    have hprod : ∀ q ∈ (plC C i).bs, NB (M * denL ((plC C i).bs.map (·.1))) (1000 * B) (qN q.1 * g q.2) := fun q hq => nb_prod hw hq (hfq q hq)
    have l6 := hw.l6
    refine r_app1 (K := K) (d := nQ (meanC C g i)) hq' (ev_var rfl) (by
      rw [← hl]
      refine ed_totW (eda_cons ?_ eda_nil) (by rw [List.length_map]; omega) (fun j hj => ?_) (fun r hr => ?_)
      · unfold ratsD
        rw [List.map_map]
        refine EN.ed (en_mapG (D := brC) (ed_var rfl k3) (by omega) fun q hq x b3 h3 e1 e2 hx Q k => g_two (i := 6) (j := 7) hx e2 fun w1 w2 hw1 hw2 => k _ rfl ?_)
        obtain rfl := hw2.intI
        have h := hw.q q hq
        have e1q : nD q.1 = nQ (qN q.1) := by
          unfold nQ
          rw [small_Q h.1]
        rw [e1q] at hw1
        exact ed_timesW (eda_cons (ed_var rfl hw1) (eda_cons (ed_ixL (ed_var rfl (hN'.up e1)) (ev_var rfl) (listQ_at h.2.2)) eda_nil)) ((big_canon_small h.1).mono (by decide)) (nb_big4 (hfq q hq) hM (hM19 (by omega)) (Nat.le_trans (by omega) hB1)) (nb_den (hprod q hq) h0' (hM19 hden))
      · rw [ht j]
        have := nb_part hw hfq j
        exact ⟨nb_big4 this h0' (hM19 hden) (Nat.le_trans (by omega) hB1), nb_den this h0' (hM19 hden)⟩
      · obtain ⟨q, hq, rfl⟩ := List.mem_map.mp hr
        exact nb_big4 (hprod q hq) h0' (hM19 hden) hB1) gi.gi nqb (by omega) fun v b8 h8 g8 nb8 hp8 hv => ?_
    refine ⟨us ++ [v], _, _, _, b8, rfl, (gi.trans g8).mut nq nb8, eB.trans g8.gb, nb8, upd_same, ?_⟩
    rw [List.range_succ, List.map_append]
    exact (hus.up g8.gb).append (DtA.one hv)
  · rintro σ' h' ⟨us, u3, u4, u5, b', rfl, gi, eB, nqb, hq', hus⟩
    rw [List.length_map] at hus
    refine L2.st_next ?_
    dsimp only
    have gt := gi.tell nq nqb hq'
    exact r_ret (K := K) (d := listQ C.length (meanC C g)) (ed_var rfl (Dt.list upd_same (hus.up (Ex.new nqb)))) gt.gi fun v b9 h9 g9 hv => kQ v b9 h9 (gt.trans g9) hv

abbrev s_two : Stmt := top 47
theorem sc_two : FnScope ["draws", "first"] ["draws"] (defScope s_two) := ⟨rfl, rfl, rfl, by decide +kernel, rfl, by decide +kernel, by decide +kernel⟩
theorem has_two (T : Bt mg) (D : IsDef K mg "_law_two" s_two ["draws"]) : Has P w K mg base 1 "_law_two" ["draws"] (spTwo K) := by
  obtain ⟨f, fd, F, hm, hb⟩ := D
  have sc := sc_two
  refine ⟨f, fd, F.ok sc (fun vs H Q E x => ?_) (fun cdv A outer s h0 vs Q E hr hs => ?_), hm, F.kp, hb⟩
  · obtain ⟨b, ds, _, hA, _⟩ := x
    exact hA.length
  obtain ⟨b, ds, eb, hA, hdl, hd, kQ⟩ := hs
  refine ⟨_, (pss_cons (ps_set (i := 1) sc.nd rfl (by first | exact Or.inl rfl | exact Or.inr rfl) (pe_op op_sub (pe_op op_mod (pe_callTy cr_int1 (by rfl) T.int (by decide +kernel) (pa_cons (pe_ix (ix_listK (K := K) rfl) (pv 0) pe_int (fun _ _ => rfl)) pa_nil)) pe_int) pe_int)) (pss_one (ps_ret (pe_tup (pa_cons (pv 1) (pa_cons (pe_op op_add (pe_op op_add (pv 1) pe_int) (pe_op op_mod (pe_callTy cr_int1 (by rfl) T.int (by decide +kernel) (pa_cons (pe_ix (ix_listK (K := K) rfl) (pv 0) pe_int (fun _ _ => rfl)) pa_nil)) pe_int)) pa_nil)))))), ?_⟩
  obtain ⟨vD, rfl, hD⟩ : ∃ vD, vs = [vD] ∧ Dt K b vD (.list (ds.map PyData.int)) := by
    cases hA with
    | cons h1 hA =>
      cases hA
      exact ⟨_, rfl, h1⟩
  have hix : ∀ {σ : L2.St} {b' : Hp} {j : Nat} {z : Int}, Ex b b' → σ[0]? = some (some vD) → z = (j : Int) → j < 2 → Ev (tCB rInt1 (tCons (tOp (rIxL K) (tVar 0) (tC (V.int z))) tNil)) σ b' (.int (ds.getD j 0)) := fun {σ b' j z} e s e2 hj => ev_int1 (ev_ixI j (ed_var s (hD.up e)) ev_c e2 (by omega))
  refine r_sc (b := b) (v := .int (ds.getD 0 0 % 41 - 20)) (ev_op (ev_op (hix (j := 0) (Ex.refl _) rfl rfl (by decide)) ev_c (rv_I (by decide))) ev_c rv_I0) eb fun h1 g1 => ?_
  refine r_ret (K := K) (d := .tuple [.int (ds.getD 0 0 % 41 - 20), .int (ds.getD 0 0 % 41 - 20 + 1 + ds.getD 1 0 % 9)]) (ed_tup (eda_cons (ed_int (ev_var rfl)) (eda_cons (ed_int (ev_op (ev_op (ev_var rfl) ev_c rv_I0) (ev_op (hix (j := 1) (Ex.refl _) rfl rfl (by decide)) ev_c (rv_I (by decide))) rv_I0)) eda_nil)) (by show 2 ≤ 100000; decide)) g1.gi fun v b' h' g hv => kQ v b' h' _ _ (g1.trans g) (by omega) (by omega) (by omega) (by omega) (by omega) hv
abbrev s_ring : Stmt := top 48
theorem sc_ring : FnScope ["a", "b"] ["a", "b"] (defScope s_ring) := ⟨rfl, rfl, rfl, by decide +kernel, rfl, by decide +kernel, by decide +kernel⟩
theorem has_ring (D : IsDef K mg "_law_ring" s_ring ["a", "b"]) : Has P w K mg base 1 "_law_ring" ["a", "b"] (spRing K) := by
  obtain ⟨f, fd, F, hm, hb⟩ := D
  have sc := sc_ring
  refine ⟨f, fd, F.ok sc (fun vs H Q E x => ?_) (fun cdv A outer s h0 vs Q E hr hs => ?_), hm, F.kp, hb⟩
  · obtain ⟨b, x, y, _, hA, _⟩ := x
    exact hA.length
  obtain ⟨b, x, y, eb, hA, kQ⟩ := hs
  refine ⟨_, (pss_one (ps_ret (pe_lst (pa_cons (pe_tup (pa_cons (pe_tup (pa_cons (pv 0) (pa_cons pe_int pa_nil))) (pa_cons pe_str (pa_cons (pe_lst (pa_cons (pe_tup (pa_cons (pe_tup (pa_cons pe_int (pa_cons pe_int pa_nil))) (pa_cons pe_int pa_nil))) pa_nil)) pa_nil)))) (pa_cons (pe_tup (pa_cons (pe_tup (pa_cons (pv 1) (pa_cons pe_int pa_nil))) (pa_cons pe_str (pa_cons (pe_lst (pa_cons (pe_tup (pa_cons (pe_tup (pa_cons pe_int (pa_cons pe_int pa_nil))) (pa_cons pe_int pa_nil))) pa_nil)) pa_nil)))) pa_nil))))), ?_⟩
  obtain rfl := hA.i2
  have pl : ∀ {σ : L2.St} {b' : Hp} {z i : Int} {j : Nat}, σ[j]? = some (some (.int z)) → ED K (tTup (tCons (tTup (tCons (tVar j) (tCons (tC (V.int 1)) tNil))) (tCons (tC (V.str "draw")) (tCons (tLst (tCons (tTup (tCons (tTup (tCons (tC (V.int 1)) (tCons (tC (V.int 1)) tNil))) (tCons (tC (V.int i)) tNil))) tNil)) tNil)))) σ b' (.tuple [.tuple [.int z, .int 1], .str "draw", .list [.tuple [.tuple [.int 1, .int 1], .int i]]]) := fun {σ b' z i j} s => ed_tup (eda_cons (ed_tup (eda_cons (ed_int (ev_var s)) (eda_cons (ed_int ev_c) eda_nil)) (by show 2 ≤ 100000; decide)) (eda_cons (ed_str ev_c) (eda_cons (EN.ed (en_lst (eda_cons (ed_tup (eda_cons (ed_tup (eda_cons (ed_int ev_c) (eda_cons (ed_int ev_c) eda_nil)) (by show 2 ≤ 100000; decide)) (eda_cons (ed_int ev_c) eda_nil)) (by show 2 ≤ 100000; decide)) eda_nil) (by show 1 ≤ 100000; decide))) eda_nil))) (by show 3 ≤ 100000; decide)
  exact r_ret (K := K) (d := chD (ringC x y)) (EN.ed (en_lst (eda_cons (pl rfl) (eda_cons (pl rfl) eda_nil)) (by show 2 ≤ 100000; decide))) eb fun v b' h' g hv => kQ v b' h' g hv

abbrev s_law : Stmt := top 49
theorem sc_law : FnScope ["script", "draws", "ring", "told", "x", "behind", "k", "by", "slow", "a", "b", "one", "two", "first", "second", "g", "h", "y", "due", "place"] ["script"] (defScope s_law) := ⟨rfl, rfl, rfl, by decide +kernel, rfl, by decide +kernel, by decide +kernel⟩
theorem ok_law {f : Addr} {fd : FuncData} (F : Fun K "law" "law" s_law f fd) (U_draws : Has P w K mg base 1 "_law_draws" ["script", "count"] (spDraws K)) (T : Bt mg) (U_two : Has P w K mg base (1) "_law_two" ["draws"] (spP K (kTwo))) (U_ring : Has P w K mg base (1) "_law_ring" ["a", "b"] (spP K (kRg2))) (U_walk : Has P w K mg base (3) "_law_walk" ["draws", "most"] (spP K (kWlk))) (U_number : Has P w K mg base (2) "_law_number" ["n", "d"] (spP K (kNum))) (U_plus_ : Has P w K mg base (3) "_law_plus" ["a", "b"] (spP K (kPlusW))) (U_times_ : Has P w K mg base (3) "_law_times" ["a", "b"] (spP K (kTimesW))) (U_means : Has P w K mg base (5) "_law_means" ["chain", "numbers"] (spP K (kLMe))) (U_long_gains : Has P w K mg base (8) "long_gains" ["chain"] (spP K (kLong))) (U_leads : Has P w K mg base (9) "leads" ["chain"] (spP K (kLead))) (U_slowed : Has P w K mg base (2) "slowed" ["game", "k"] (spN K (kSlw))) (U_in_turns : Has P w K mg base (2) "in_turns" ["first", "second"] (spN K (kTur))) : LawOk P w K mg base 10 f fd ["script"] (spLaw K) := by
  obtain ⟨f_draws, fd_draws, G_draws, m_draws, k_draws, b_draws⟩ := U_draws
  obtain ⟨f_two, fd_two, G_two, m_two, k_two, b_two⟩ := U_two
  obtain ⟨f_ring, fd_ring, G_ring, m_ring, k_ring, b_ring⟩ := U_ring
  obtain ⟨f_walk, fd_walk, G_walk, m_walk, k_walk, b_walk⟩ := U_walk
  obtain ⟨f_number, fd_number, G_number, m_number, k_number, b_number⟩ := U_number
  obtain ⟨f_plus_, fd_plus_, G_plus_, m_plus_, k_plus_, b_plus_⟩ := U_plus_
  obtain ⟨f_times_, fd_times_, G_times_, m_times_, k_times_, b_times_⟩ := U_times_
  obtain ⟨f_means, fd_means, G_means, m_means, k_means, b_means⟩ := U_means
  obtain ⟨f_long_gains, fd_long_gains, G_long_gains, m_long_gains, k_long_gains, b_long_gains⟩ := U_long_gains
  obtain ⟨f_leads, fd_leads, G_leads, m_leads, k_leads, b_leads⟩ := U_leads
  obtain ⟨f_slowed, fd_slowed, G_slowed, m_slowed, k_slowed, b_slowed⟩ := U_slowed
  obtain ⟨f_in_turns, fd_in_turns, G_in_turns, m_in_turns, k_in_turns, b_in_turns⟩ := U_in_turns
  have sc := sc_law
  refine law_ok F sc (fun vs H Q E x => ?_) (fun cd s h0 vs Q hr hs => ?_)
  · obtain ⟨a, ns, rfl, _⟩ := x
    rfl
  obtain ⟨a, ns, rfl, hS, hl, k⟩ := hs
  have hgd : (callerA.deeper (PyProof.Rows.envOfC "law" (defScope s_law) s.heap.objs.size f cd)).guards = some [] := rfl
  refine ⟨_, (pss_cons (ps_set (i := 1) sc.nd rfl (by first | exact Or.inl rfl | exact Or.inr rfl) (pe_call G_draws (hr.mono (by decide)) rfl m_draws k_draws b_draws .nil pass0 (pa_cons (pv 0) (pa_cons pe_int pa_nil)))) (pss_cons (ps_asg (pe_call G_two (hr.mono (by decide)) rfl m_two k_two b_two .nil pass0 (pa_cons (pe_slice (sl_listK (K := K) rfl) (pv 1) (po_some pe_int) (po_some pe_int)) pa_nil)) (pg_tupK (K := K) (n := 2) rfl rfl (pgs_cons (pg_name (i := 9) sc.nd rfl (by first | exact Or.inl rfl | exact Or.inr rfl)) (pgs_cons (pg_name (i := 10) sc.nd rfl (by first | exact Or.inl rfl | exact Or.inr rfl)) pgs_nil)))) (pss_cons (ps_set (i := 2) sc.nd rfl (by first | exact Or.inl rfl | exact Or.inr rfl) (pe_call G_ring (hr.mono (by decide)) rfl m_ring k_ring b_ring .nil pass0 (pa_cons (pv 9) (pa_cons (pv 10) pa_nil)))) (pss_cons (ps_if (PW.pt (pw_or (pt_cmpR (neD_K (K := K) hr.units rfl) (pe_call G_long_gains (hr.mono (by decide)) rfl m_long_gains k_long_gains b_long_gains .nil pass0 (pa_cons (pv 2) pa_nil)) (pe_op op_rep (pe_lst (pa_cons (pe_call G_number (hr.mono (by decide)) rfl m_number k_number b_number .nil pass0 (pa_cons (pe_op op_add (pv 9) (pv 10)) (pa_cons pe_int pa_nil))) pa_nil)) pe_int) (nomark _)) (pw_or1 (pt_cmpR (neD_K (K := K) hr.units rfl) (pe_call G_leads (hr.mono (by decide)) rfl m_leads k_leads b_leads .nil pass0 (pa_cons (pv 2) pa_nil)) (pe_lst (pa_cons (pe_call G_number (hr.mono (by decide)) rfl m_number k_number b_number .nil pass0 (pa_cons (pe_op op_sub (pv 9) (pv 10)) (pa_cons pe_int pa_nil))) (pa_cons (pe_call G_number (hr.mono (by decide)) rfl m_number k_number b_number .nil pass0 (pa_cons (pe_op op_sub (pv 10) (pv 9)) (pa_cons pe_int pa_nil))) pa_nil))) (nomark _))))) (pss_one (ps_ret pe_bl)) pss_nil) (pss_cons (ps_if (pt_cmpR (neD_K (K := K) hr.units rfl) (pe_call G_long_gains (hr.mono (by decide)) rfl m_long_gains k_long_gains b_long_gains .nil pass0 (pa_cons (pe_call G_in_turns (hr.mono (by decide)) rfl m_in_turns k_in_turns b_in_turns .nil pass0 (pa_cons (pv 2) (pa_cons (pv 2) pa_nil))) pa_nil)) (pe_op op_rep (pe_lst (pa_cons (pe_call G_number (hr.mono (by decide)) rfl m_number k_number b_number .nil pass0 (pa_cons (pe_op op_add (pv 9) (pv 10)) (pa_cons pe_int pa_nil))) pa_nil)) pe_int) (nomark _)) (pss_one (ps_ret pe_bl)) pss_nil) (pss_cons (ps_if (pt_cmpR (neD_K (K := K) hr.units rfl) (pe_call G_long_gains (hr.mono (by decide)) rfl m_long_gains k_long_gains b_long_gains .nil pass0 (pa_cons (pe_call G_slowed (hr.mono (by decide)) rfl m_slowed k_slowed b_slowed .nil pass0 (pa_cons (pv 2) (pa_cons pe_int pa_nil))) pa_nil)) (pe_op op_rep (pe_lst (pa_cons (pe_call G_number (hr.mono (by decide)) rfl m_number k_number b_number .nil pass0 (pa_cons (pe_op op_add (pv 9) (pv 10)) (pa_cons pe_int pa_nil))) pa_nil)) pe_int) (nomark _)) (pss_one (ps_ret pe_bl)) pss_nil) (pss_cons (ps_par rfl sc.nd (i := 11) (j := 12) rfl rfl (by decide) rfl rfl (pa_cons (pe_call G_walk (hr.mono (by decide)) rfl m_walk k_walk b_walk .nil pass0 (pa_cons (pv 1) (pa_cons pe_int pa_nil))) (pa_cons (pe_call G_walk (hr.mono (by decide)) rfl m_walk k_walk b_walk .nil pass0 (pa_cons (pe_slice (sl_listK (K := K) rfl) (pv 1) (po_some pe_int) po_none) (pa_cons pe_int pa_nil))) pa_nil)) (by rfl)) (pss_cons (ps_par rfl sc.nd (i := 13) (j := 14) rfl rfl (by decide) rfl rfl (pa_cons (pe_call G_long_gains (hr.mono (by decide)) rfl m_long_gains k_long_gains b_long_gains .nil pass0 (pa_cons (pv 11) pa_nil)) (pa_cons (pe_call G_long_gains (hr.mono (by decide)) rfl m_long_gains k_long_gains b_long_gains .nil pass0 (pa_cons (pv 12) pa_nil)) pa_nil)) (by rfl)) (pss_cons (ps_set (i := 3) sc.nd rfl (by first | exact Or.inl rfl | exact Or.inr rfl) (pe_call G_in_turns (hr.mono (by decide)) rfl m_in_turns k_in_turns b_in_turns .nil pass0 (pa_cons (pv 11) (pa_cons (pv 12) pa_nil)))) (pss_cons (ps_asg (pe_tup (pa_cons (pe_call G_long_gains (hr.mono (by decide)) rfl m_long_gains k_long_gains b_long_gains .nil pass0 (pa_cons (pv 3) pa_nil)) (pa_cons (pe_call G_leads (hr.mono (by decide)) rfl m_leads k_leads b_leads .nil pass0 (pa_cons (pv 3) pa_nil)) pa_nil))) (pg_tupK (K := K) (n := 2) rfl rfl (pgs_cons (pg_name (i := 15) sc.nd rfl (by first | exact Or.inl rfl | exact Or.inr rfl)) (pgs_cons (pg_name (i := 16) sc.nd rfl (by first | exact Or.inl rfl | exact Or.inr rfl)) pgs_nil)))) (pss_cons (ps_for PassesOwn.never rfl (pi_range1 (by rfl) T.range (pa_cons (pe_callB (len_K (K := K) rfl) (by rfl) T.len PySem.boot_len (pa_cons (pv 11) pa_nil)) pa_nil)) (pg_name (i := 4) sc.nd rfl (by first | exact Or.inl rfl | exact Or.inr rfl)) (pss_one (ps_for PassesOwn.never rfl (pi_range1 (by rfl) T.range (pa_cons (pe_callB (len_K (K := K) rfl) (by rfl) T.len PySem.boot_len (pa_cons (pv 12) pa_nil)) pa_nil)) (pg_name (i := 17) sc.nd rfl (by first | exact Or.inl rfl | exact Or.inr rfl)) (pss_cons (ps_set (i := 18) sc.nd rfl (by first | exact Or.inl rfl | exact Or.inr rfl) (pe_call G_times_ (hr.mono (by decide)) rfl m_times_ k_times_ b_times_ .nil pass0 (pa_cons (pe_tup (pa_cons pe_int (pa_cons pe_int pa_nil))) (pa_cons (pe_call G_plus_ (hr.mono (by decide)) rfl m_plus_ k_plus_ b_plus_ .nil pass0 (pa_cons (pe_ix (ix_listK (K := K) rfl) (pv 13) (pv 4) (fun _ _ => rfl)) (pa_cons (pe_ix (ix_listK (K := K) rfl) (pv 14) (pv 17) (fun _ _ => rfl)) pa_nil))) pa_nil)))) (pss_cons (ps_set (i := 19) sc.nd rfl (by first | exact Or.inl rfl | exact Or.inr rfl) (pe_op op_mulW pe_int (pe_op op_add (pe_op op_mulW (pe_callB (len_K (K := K) rfl) (by rfl) T.len PySem.boot_len (pa_cons (pv 12) pa_nil)) (pv 4)) (pv 17)))) (pss_one (ps_if (PW.pt (pw_or (pt_cmpR (neD_K (K := K) hr.units rfl) (pe_ix (ix_listK (K := K) rfl) (pv 15) (pv 19) (fun _ _ => rfl)) (pv 18) (nomark _)) (pw_or1 (pt_cmpR (neD_K (K := K) hr.units rfl) (pe_ix (ix_listK (K := K) rfl) (pv 15) (pe_op op_add (pv 19) pe_int) (fun _ _ => rfl)) (pv 18) (nomark _))))) (pss_one (ps_ret pe_bl)) pss_nil))))))) (pss_cons (ps_set (i := 5) sc.nd rfl (by first | exact Or.inl rfl | exact Or.inr rfl) (pe_call G_means (hr.mono (by decide)) rfl m_means k_means b_means .nil pass0 (pa_cons (pv 3) (pa_cons (pv 16) pa_nil)))) (pss_cons (ps_for PassesOwn.never rfl (pi_range1 (by rfl) T.range (pa_cons (pe_callB (len_K (K := K) rfl) (by rfl) T.len PySem.boot_len (pa_cons (pv 3) pa_nil)) pa_nil)) (pg_name (i := 6) sc.nd rfl (by first | exact Or.inl rfl | exact Or.inr rfl)) (pss_one (ps_if (pt_cmpR (neD_K (K := K) hr.units rfl) (pe_call G_plus_ (hr.mono (by decide)) rfl m_plus_ k_plus_ b_plus_ .nil pass0 (pa_cons (pe_ix (ix_listK (K := K) rfl) (pv 15) (pv 6) (fun _ _ => rfl)) (pa_cons (pe_ix (ix_listK (K := K) rfl) (pv 16) (pv 6) (fun _ _ => rfl)) pa_nil))) (pe_call G_plus_ (hr.mono (by decide)) rfl m_plus_ k_plus_ b_plus_ .nil pass0 (pa_cons (pe_ix (ix_tupK (K := K) rfl) (pe_ix (ix_listK (K := K) rfl) (pv 3) (pv 6) (fun _ _ => rfl)) pe_int (fun _ _ => rfl)) (pa_cons (pe_ix (ix_listK (K := K) rfl) (pv 5) (pv 6) (fun _ _ => rfl)) pa_nil))) (nomark _)) (pss_one (ps_ret pe_bl)) pss_nil))) (pss_cons (ps_set (i := 7) sc.nd rfl (by first | exact Or.inl rfl | exact Or.inr rfl) (pe_op op_mod (pe_callTy cr_int1 (by rfl) T.int (by decide +kernel) (pa_cons (pe_ix (ix_listK (K := K) rfl) (pv 1) pe_int (fun _ _ => rfl)) pa_nil)) pe_int)) (pss_cons (ps_set (i := 8) sc.nd rfl (by first | exact Or.inl rfl | exact Or.inr rfl) (pe_call G_slowed (hr.mono (by decide)) rfl m_slowed k_slowed b_slowed .nil pass0 (pa_cons (pv 11) (pa_cons (pv 7) pa_nil)))) (pss_cons (ps_asg (pe_tup (pa_cons (pe_call G_long_gains (hr.mono (by decide)) rfl m_long_gains k_long_gains b_long_gains .nil pass0 (pa_cons (pv 8) pa_nil)) (pa_cons (pe_call G_leads (hr.mono (by decide)) rfl m_leads k_leads b_leads .nil pass0 (pa_cons (pv 8) pa_nil)) pa_nil))) (pg_tupK (K := K) (n := 2) rfl rfl (pgs_cons (pg_name (i := 15) sc.nd rfl (by first | exact Or.inl rfl | exact Or.inr rfl)) (pgs_cons (pg_name (i := 16) sc.nd rfl (by first | exact Or.inl rfl | exact Or.inr rfl)) pgs_nil)))) (pss_cons (ps_set (i := 5) sc.nd rfl (by first | exact Or.inl rfl | exact Or.inr rfl) (pe_call G_means (hr.mono (by decide)) rfl m_means k_means b_means .nil pass0 (pa_cons (pv 8) (pa_cons (pv 16) pa_nil)))) (pss_cons (ps_for PassesOwn.never rfl (pi_range1 (by rfl) T.range (pa_cons (pe_callB (len_K (K := K) rfl) (by rfl) T.len PySem.boot_len (pa_cons (pv 8) pa_nil)) pa_nil)) (pg_name (i := 6) sc.nd rfl (by first | exact Or.inl rfl | exact Or.inr rfl)) (pss_one (ps_if (pt_cmpR (neD_K (K := K) hr.units rfl) (pe_call G_plus_ (hr.mono (by decide)) rfl m_plus_ k_plus_ b_plus_ .nil pass0 (pa_cons (pe_ix (ix_listK (K := K) rfl) (pv 15) (pv 6) (fun _ _ => rfl)) (pa_cons (pe_ix (ix_listK (K := K) rfl) (pv 16) (pv 6) (fun _ _ => rfl)) pa_nil))) (pe_call G_plus_ (hr.mono (by decide)) rfl m_plus_ k_plus_ b_plus_ .nil pass0 (pa_cons (pe_ix (ix_tupK (K := K) rfl) (pe_ix (ix_listK (K := K) rfl) (pv 8) (pv 6) (fun _ _ => rfl)) pe_int (fun _ _ => rfl)) (pa_cons (pe_ix (ix_listK (K := K) rfl) (pv 5) (pv 6) (fun _ _ => rfl)) pa_nil))) (nomark _)) (pss_one (ps_ret pe_bl)) pss_nil))) (pss_one (ps_ret (pe_cmpR (eqD_K (K := K) hr.units rfl) (pe_lc (own := [("k", 6)]) (tt := tYes) rfl sc.nd (pi_range1 (by rfl) T.range (pa_cons (pe_callB (len_K (K := K) rfl) (by rfl) T.len PySem.boot_len (pa_cons (pv 11) pa_nil)) pa_nil)) (blkOk_by (N := ["script", "draws", "ring", "told", "x", "behind", "k", "by", "slow", "a", "b", "one", "two", "first", "second", "g", "h", "y", "due", "place"]) (sc := defScope s_law) (by decide +kernel)) (fun _ _ _ _ _ => (pg_name (i := 6) sc.nd rfl (by first | exact Or.inl rfl | exact Or.inr rfl))) (fun _ _ _ _ _ => pts_nil) (fun _ _ _ _ _ => (pe_call G_times_ (hr.mono (by decide)) rfl m_times_ k_times_ b_times_ .nil pass0 (pa_cons (pe_tup (pa_cons (pe_op op_add (pv 7) pe_int) (pa_cons pe_int pa_nil))) (pa_cons (pe_ix (ix_listK (K := K) rfl) (pv 15) (pv 6) (fun _ _ => rfl)) pa_nil))))) (pv 13) (nomark _)))))))))))))))))))))), ?_⟩
  refine ⟨_, rfl, h0, a, ns, 92, rfl, Ex.refl _, hS, hl, by decide, fun v1 b1 h1 ds g1 hdl hd hv1 => ?_⟩
  dsimp only
  show tSeq _ _ _ [some (.ref a), some v1, none, none, none, none, none, none, none, none, none, none, none, none, none, none, none, none, none, none] _
  refine sim_law2 (b := b1) (Γ := [none, some (.d (.list (ds.map PyData.int))), none, none, none, none, none, none, none, none, none, none, none, none, none, none, none, none, none, none]) (K := K) ?hr g1.gi ?ho k ?p
  case hr =>
    refine ⟨rfl, fun i x e => ?_⟩
    match i, e with
    | 1, e =>
      cases e
      exact ⟨v1, rfl, hv1⟩
    | i + 2, e => exact absurd (startG_gat (n := 18) (ds := []) (i := i) e) (by simp)
  case ho =>
    intro i es e
    match i, e with
    | i + 2, e => exact startG_no (n := 18) (ds := []) (i := i) e
  refine ⟨_, (z_seq (z_asg (z_call (z_cons (z_ofN (z_sl z_var (z_part z_i) (z_part z_i))) z_nil)) (g_tup (g_cons g_name (g_cons g_name g_nil)))) (z_seq (z_asg (z_call (z_cons z_var (z_cons z_var z_nil))) g_name) (z_seq (z_ifS (z_or (z_test (z_neD (z_call (z_cons z_var z_nil)) (z_ofN (z_rep (z_ofN (z_lst (z_cons (z_call (z_cons (z_add z_var z_var) (z_cons z_i z_nil))) z_nil))) z_i)))) (z_test (z_neD (z_call (z_cons z_var z_nil)) (z_ofN (z_lst (z_cons (z_call (z_cons (z_sub z_var z_var) (z_cons z_i z_nil))) (z_cons (z_call (z_cons (z_sub z_var z_var) (z_cons z_i z_nil))) z_nil))))))) (z_ret z_b) z_next) (z_seq (z_ifS (z_test (z_neD (z_call (z_cons (z_ofN (z_callN (z_cons z_var (z_cons z_var z_nil)))) z_nil)) (z_ofN (z_rep (z_ofN (z_lst (z_cons (z_call (z_cons (z_add z_var z_var) (z_cons z_i z_nil))) z_nil))) z_i)))) (z_ret z_b) z_next) (z_seq (z_ifS (z_test (z_neD (z_call (z_cons (z_ofN (z_callN (z_cons z_var (z_cons z_i z_nil)))) z_nil)) (z_ofN (z_rep (z_ofN (z_lst (z_cons (z_call (z_cons (z_add z_var z_var) (z_cons z_i z_nil))) z_nil))) z_i)))) (z_ret z_b) z_next) (z_seq (z_par (z_cons (z_call (z_cons z_var (z_cons z_i z_nil))) (z_cons (z_call (z_cons (z_ofN (z_sl z_var (z_part z_i) z_pnone)) (z_cons z_i z_nil))) z_nil))) (z_seq (z_par (z_cons (z_call (z_cons z_var z_nil)) (z_cons (z_call (z_cons z_var z_nil)) z_nil))) (z_seq (z_asg (z_ofN (z_callN (z_cons z_var (z_cons z_var z_nil)))) g_name) (z_seq (z_asg (z_tup (z_cons (z_call (z_cons z_var z_nil)) (z_cons (z_call (z_cons z_var z_nil)) z_nil))) (g_tup (g_cons g_name (g_cons g_name g_nil)))) (z_seq (z_for (ws := [4, 17, 18, 19]) (i_rng1 (z_cons (z_len z_var) z_nil)) g_name (z_for (ws := [17, 18, 19]) (i_rng1 (z_cons (z_len z_var) z_nil)) g_name (z_seq (z_asg (z_call (z_cons (z_tup (z_cons z_i (z_cons z_i z_nil))) (z_cons (z_call (z_cons (z_ixL z_var z_var) (z_cons (z_ixL z_var z_var) z_nil))) z_nil))) g_name) (z_seq (z_asg (z_mulW z_i (z_add (z_mulW (z_len z_var) z_var) z_var)) g_name) (z_ifS (z_or (z_test (z_neD (z_ixL z_var z_var) z_var)) (z_test (z_neD (z_ixL z_var (z_add z_var z_i)) z_var))) (z_ret z_b) z_next))))) (z_seq (z_asg (z_call (z_cons z_var (z_cons z_var z_nil))) g_name) (z_seq (z_for (ws := [6]) (i_rng1 (z_cons (z_len z_var) z_nil)) g_name (z_ifS (z_test (z_neD (z_call (z_cons (z_ixL z_var z_var) (z_cons (z_ixL z_var z_var) z_nil))) (z_call (z_cons (z_ixT (z_ixL z_var z_var) z_i) (z_cons (z_ixL z_var z_var) z_nil))))) (z_ret z_b) z_next)) (z_seq (z_asg (z_modI (z_int1 (z_ixL z_var z_i)) z_i) g_name) (z_seq (z_asg (z_ofN (z_callN (z_cons z_var (z_cons z_var z_nil)))) g_name) (z_seq (z_asg (z_tup (z_cons (z_call (z_cons z_var z_nil)) (z_cons (z_call (z_cons z_var z_nil)) z_nil))) (g_tup (g_cons g_name (g_cons g_name g_nil)))) (z_seq (z_asg (z_call (z_cons z_var (z_cons z_var z_nil))) g_name) (z_seq (z_for (ws := [6]) (i_rng1 (z_cons (z_len z_var) z_nil)) g_name (z_ifS (z_test (z_neD (z_call (z_cons (z_ixL z_var z_var) (z_cons (z_ixL z_var z_var) z_nil))) (z_call (z_cons (z_ixT (z_ixL z_var z_var) z_i) (z_cons (z_ixL z_var z_var) z_nil))))) (z_ret z_b) z_next)) (z_ret (z_eqD (z_ofN (z_lc (by decide) (i_rng1 (z_cons (z_len z_var) z_nil)) g_name z_yes (z_call (z_cons (z_tup (z_cons (z_add z_var z_i) (z_cons z_i z_nil))) (z_cons (z_ixL z_var z_var) z_nil))))) z_var))))))))))))))))))), ?_⟩
  clear hv1 g1 hS k hgd
  refine seq_hide fun R1 hR1 => ?_
  trivial
  obtain ⟨es, hes, hel, hed⟩ := cut_ints (ds := ds) (lo := 90) (n := 2) (by omega) hd
  have hes : cutD (ds.map PyData.int) (some 90) (some 92) = es.map PyData.int := hes
  rw [hes]
  refine ⟨es, rfl, hel, hed, fun a b a1 a2 b1 b2 hab => ?_⟩
  trivial
  refine ⟨rfl, rfl, ?_⟩
  subst hR1
  refine seq_hide fun R2 hR2 => ?_
  trivial
  refine ⟨a, b, rfl, rfl, ?_⟩
  subst hR2
  refine seq_hide fun R3 hR3 => ?_
  have wR : WfC (ringC a b) := ringC_wf (by omega) (by omega)
  have rl := ring_long (a := a) (b := b) (by omega) (by omega)
  trivial
  refine ⟨ringC a b, rfl, wR, ?_⟩
  trivial
  have evr : ∀ (n : Nat) (f : Nat → Rat) (q : Rat), (∀ i, i < n → f i = q) → PyData.eqv (listQ n f) (listQ n fun _ => q) = true := fun n f q h => by
    rw [eqv_lQ]
    exact decide_eq_true h
  have hS2 : ∀ i, i < 2 → longC (ringC a b) i = ((a + b : Int) : Rat) / ((2 : Int) : Rat) := fun i hi => by
    rcases (by omega : i = 0 ∨ i = 1) with rfl | rfl
    · exact rl.1
    · exact rl.2.1
  have hl2 : (ringC a b).length = 2 := rfl
  have hm2 : ((ringC a b).map ofC).length = 2 := rfl
  refine kNum_q (by decide) (by omega) (by decide) ⟨by decide, by decide, sh_lQ, sh_lQ (n := 2) (f := fun _ => ((a + b : Int) : Rat) / ((2 : Int) : Rat)), ?_⟩
  rw [show PyData.eqv (listQ (ringC a b).length (longC (ringC a b))) (PyData.list (List.replicate (Int.toNat 2) [nQ (((a + b : Int) : Rat) / ((2 : Int) : Rat))]).flatten) = true from evr 2 _ _ hS2, if_neg (by decide)]
  refine ⟨ringC a b, rfl, wR, ?_⟩
  refine kNum_q (by decide) (by omega) (by decide) (kNum_q (by decide) (by omega) (by decide) ⟨by decide, sh_lQ, ?_⟩)
  have eL : PyData.list [nQ (((a - b : Int) : Rat) / ((4 : Int) : Rat)), nQ (((b - a : Int) : Rat) / ((4 : Int) : Rat))] = listQ 2 (leadC (ringC a b)) := by
    show _ = PyData.list [nQ (leadC (ringC a b) 0), nQ (leadC (ringC a b) 1)]
    rw [rl.2.2.1, rl.2.2.2]
  rw [eL]
  refine ⟨sh_lQ, ?_⟩
  rw [show PyData.eqv (listQ (ringC a b).length (leadC (ringC a b))) (listQ 2 (leadC (ringC a b))) = true from by rw [hl2, eqv_lQ]; exact decide_eq_true fun _ _ => rfl, if_neg (by decide)]
  subst hR3
  refine seq_hide fun R4 hR4 => ?_
  trivial
  have wRg : WfVG 360 ((ringC a b).map ofC) := ofC_wf wR
  have nA : AllN ((ringC a b).map ofC) := toC_all
  have pA : PosG ((ringC a b).map ofC) := toC_pos wR
  refine ⟨(ringC a b).map ofC, (ringC a b).map ofC, 360, (ofC_D _).symm, (ofC_D _).symm, wRg, wRg, by rw [hm2]; decide, ?_⟩
  rw [chZ_data (turn_none nA nA)]
  refine ⟨chZ (turnV ((ringC a b).map ofC) ((ringC a b).map ofC)), rfl, chZ_wf (turn_wf wRg wRg (by rw [hm2]; decide)) (turn_pos pA pA) (turn_none nA nA), ?_⟩
  have l8 : (chZ (turnV ((ringC a b).map ofC) ((ringC a b).map ofC))).length = 8 := by
    rw [chZ_len, turn_len (by rw [hm2]; decide), hm2]
  rw [l8]
  refine kNum_q (by decide) (by omega) (by decide) ⟨by decide, by decide, sh_lQ, sh_lQ (n := 8) (f := fun _ => ((a + b : Int) : Rat) / ((2 : Int) : Rat)), ?_⟩
  rw [show PyData.eqv (listQ 8 (longC (chZ (turnV ((ringC a b).map ofC) ((ringC a b).map ofC))))) (PyData.list (List.replicate (Int.toNat 8) [nQ (((a + b : Int) : Rat) / ((2 : Int) : Rat))]).flatten) = true from evr 8 _ _ fun i hi => by
    obtain ⟨x, y, j, hx, hy, hj, rfl⟩ := turn_all (A := (ringC a b).map ofC) (B := (ringC a b).map ofC) (by rw [hm2]; decide) (i := i) (by rw [hm2]; omega)
    have e := turn_long wR wR (by rw [hl2]; decide) (x := x) (y := y) (j := j) hx hy hj
    rw [hl2] at e
    rw [hm2, e, hS2 x hx, hS2 y hy]
    generalize ((a + b : Int) : Rat) / ((2 : Int) : Rat) = s
    grind, if_neg (by decide)]
  subst hR4
  refine seq_hide fun R5 hR5 => ?_
  trivial
  refine ⟨(ringC a b).map ofC, 1, 360, (ofC_D _).symm, rfl, wRg, by rw [hm2]; decide, ?_⟩
  rw [chZ_data (slow_none nA)]
  refine ⟨chZ (slowV ((ringC a b).map ofC) 1), rfl, chZ_wf (slow_wf wRg (by decide) (by rw [hm2]; decide)) (slow_pos pA) (slow_none nA), ?_⟩
  have l4 : (chZ (slowV ((ringC a b).map ofC) 1)).length = 4 := by
    rw [chZ_len, slow_len, hm2]
  rw [l4]
  refine kNum_q (by decide) (by omega) (by decide) ⟨by decide, by decide, sh_lQ, sh_lQ (n := 4) (f := fun _ => ((a + b : Int) : Rat) / ((4 : Int) : Rat)), ?_⟩
  rw [show PyData.eqv (listQ 4 (longC (chZ (slowV ((ringC a b).map ofC) 1)))) (PyData.list (List.replicate (Int.toNat 4) [nQ (((a + b : Int) : Rat) / ((4 : Int) : Rat))]).flatten) = true from evr 4 _ _ fun i hi => by
    have e0 := slow_longs wR (k := 1) (by decide) (by rw [hl2]; decide) (t := 1 / 2) (by decide +kernel) (by decide +kernel) (i := i) (by rw [hl2]; omega)
    rw [e0]
    have e : (if i < (ringC a b).length then longC (ringC a b) i else longC (ringC a b) ((i - (ringC a b).length) / 1)) = ((a + b : Int) : Rat) / ((2 : Int) : Rat) := by
      rw [hl2]
      split
      · rename_i z
        exact hS2 i z
      · exact hS2 _ (by omega)
    rw [e]
    generalize ((a + b : Int) : Rat) = z
    rw [Rat.div_def z, Rat.div_def z, Rat.mul_assoc, show ((2 : Int) : Rat)⁻¹ * (1 / 2) = ((4 : Int) : Rat)⁻¹ by decide +kernel], if_neg (by decide)]
  subst hR5
  refine seq_hide fun R6 hR6 => ?_
  trivial
  refine ⟨ds, 3, rfl, rfl, by decide, by decide, by omega, hd, fun C hC wkC hlC => ?_⟩
  have e46 : cutD (ds.map PyData.int) (some 46) none = (ds.drop 46).map PyData.int := by
    have e : cutD (ds.map PyData.int) (some 46) none = (ds.map PyData.int).drop 46 := cutD_drop (a := 46) (by rw [List.length_map]; omega)
    rw [e, List.map_drop]
  rw [e46]
  refine ⟨ds.drop 46, 2, rfl, rfl, by decide, by decide, by rw [List.length_drop]; omega, fun d h => hd d (List.mem_of_mem_drop h), fun D hD wkD hlD => ?_⟩
  have hlC : C.length ≤ 3 := by omega
  have hlD : D.length ≤ 2 := by omega
  have hC1 := hC.l1
  have hD1 := hD.l1
  clear wkC wkD wR rl wRg nA pA l8 l4 evr hS2 e46 hes hel hed
  subst hR6
  refine seq_hide fun R7 hR7 => ?_
  trivial
  refine ⟨C, rfl, hC, ⟨D, rfl, hD, ?_⟩⟩
  subst hR7
  refine seq_hide fun R8 hR8 => ?_
  trivial
  have lC : (C.map ofC).length = C.length := List.length_map _
  have lD : (D.map ofC).length = D.length := List.length_map _
  have hcd : C.length * (D.length * 2) ≤ 12 := by
    have := Nat.mul_le_mul hlC (show D.length * 2 ≤ 4 by omega)
    omega
  have nT : AllN (turnV (C.map ofC) (D.map ofC)) := turn_none toC_all toC_all
  refine ⟨C.map ofC, D.map ofC, 360, (ofC_D _).symm, (ofC_D _).symm, ofC_wf hC, ofC_wf hD, by rw [lC, lD, Nat.mul_comm 2 C.length, Nat.mul_assoc, Nat.mul_comm 2 D.length]; exact hcd, ?_⟩
  rw [chZ_data nT]
  have wT : WfC (chZ (turnV (C.map ofC) (D.map ofC))) := chZ_wf (turn_wf (ofC_wf hC) (ofC_wf hD) (by rw [lC, lD]; exact hcd)) (turn_pos (toC_pos hC) (toC_pos hD)) nT
  have lT : (chZ (turnV (C.map ofC) (D.map ofC))).length = C.length * (D.length * 2) := by
    rw [chZ_len, turn_len (by rw [lD]; omega), lC, lD]
  have vT : ∀ x y j, x < C.length → y < D.length → j < 2 → longC (chZ (turnV (C.map ofC) (D.map ofC))) (2 * (D.length * x + y) + j) = (longC C x + longC D y) * (1 / 2) ∧ 2 * (D.length * x + y) + j < C.length * (D.length * 2) := fun x y j hx hy hj => ⟨turn_long hC hD hcd hx hy hj, by
    have h := (turn_idx (A := C.map ofC) (B := D.map ofC) (x := x) (y := y) (by rw [lC]; exact hx) (by rw [lD]; exact hy) hj).1
    rw [lC, lD] at h
    exact h⟩
  generalize chZ (turnV (C.map ofC) (D.map ofC)) = T at wT lT vT ⊢
  subst hR8
  refine seq_hide fun R9 hR9 => ?_
  trivial
  refine ⟨T, rfl, wT, ⟨T, rfl, wT, by decide, rfl, rfl, ?_⟩⟩
  subst hR9
  refine seq_hide fun Ra hRa => ?_
  have okl : ∀ {E : List PlC}, WfC E → ∃ M, 0 < M ∧ M < 2 ^ 432 ∧ (∀ k, k < E.length → NB M 1000 (longC E k)) ∧ ∀ k, k < E.length → Ok (longC E k) := fun {E} hE => by
    obtain ⟨M, m0, m1, n⟩ := long_size hE
    exact ⟨M, m0, m1, n, fun k hk => nb_ok (n k hk) m0 (Nat.lt_of_lt_of_le m1 (Nat.pow_le_pow_right (by decide) (by decide))) (by decide +kernel)⟩
  have okh : ∀ {E : List PlC}, WfC E → ∃ M, 0 < M ∧ M < 2 ^ 846 ∧ (∀ k, k < E.length → NB M (2 ^ 169) (leadC E k)) ∧ ∀ k, k < E.length → Ok (leadC E k) := fun {E} hE => by
    obtain ⟨M, m0, m1, n⟩ := lead_sizes hE
    exact ⟨M, m0, m1, n, fun k hk => nb_ok (n k hk) m0 (Nat.lt_of_lt_of_le m1 (Nat.pow_le_pow_right (by decide) (by decide))) (Nat.pow_le_pow_right (by decide) (by decide))⟩
  obtain ⟨GA, hGA⟩ : ∃ GA : Gam, GA = [none, some (.d (.list (ds.map PyData.int))), some (.d (chD (ringC a b))), some (.d (chD T)), none, none, none, none, none, some (.d (.int a)), some (.d (.int b)), some (.d (chD C)), some (.d (chD D)), some (.d (listQ C.length (longC C))), some (.d (listQ D.length (longC D))), some (.d (listQ T.length (longC T))), some (.d (listQ T.length (leadC T))), none, none, none] := ⟨_, rfl⟩
  refine dfor_rng C.length (fun x => .int (x : Int)) (fun P hP => ?_) (fun i Γ' => Γ' = GA) (by rw [hGA] <;> rfl) ?_ ?_
  · trivial
    rw [List.length_map, Int.toNat_natCast, rangeD0]
    exact ⟨by omega, by omega, hP⟩
  · rintro x Γ' hx rfl
    obtain ⟨GB, hGB⟩ : ∃ GB : Gam, GB = [none, some (.d (.list (ds.map PyData.int))), some (.d (chD (ringC a b))), some (.d (chD T)), some (.d (.int (x : Int))), none, none, none, none, some (.d (.int a)), some (.d (.int b)), some (.d (chD C)), some (.d (chD D)), some (.d (listQ C.length (longC C))), some (.d (listQ D.length (longC D))), some (.d (listQ T.length (longC T))), some (.d (listQ T.length (leadC T))), none, none, none] := ⟨_, rfl⟩
    rw [hGA]
    trivial
    refine dfor_rng D.length (fun y => .int (y : Int)) (fun P hP => ?_) (fun i Γ' => Γ' = GB) (by rw [hGB] <;> rfl) ?_ ?_
    · trivial
      rw [List.length_map, Int.toNat_natCast, rangeD0]
      exact ⟨by omega, by omega, hP⟩
    · rintro y Γ' hy rfl
      obtain ⟨Ma, ma0, ma1, na, oka⟩ := okl hC
      obtain ⟨Mb, mb0, mb1, nb_, okb⟩ := okl hD
      have nsum : NB (Ma * Mb) (1000 + 1000) (longC C x + longC D y) := nb_add ((na x hx).mono (Nat.dvd_mul_right Ma Mb) (Nat.le_refl _)) ((nb_ y hy).mono (Nat.dvd_mul_left Mb Ma) (Nat.le_refl _))
      have nhalf : NB 2 1 (1 / 2 : Rat) := nb_frac (a := 1) (b := 2) (by decide) (by decide) (by decide)
      have mab : Ma * Mb < 2 ^ 900 := Nat.lt_of_lt_of_le (Nat.mul_lt_mul'' ma1 mb1) (by rw [← Nat.pow_add]; exact Nat.pow_le_pow_right (by decide) (by decide))
      have nm := nb_mul nhalf nsum
      have em : 1 / 2 * (longC C x + longC D y) = (longC C x + longC D y) * (1 / 2) := Rat.mul_comm _ _
      rw [em] at nm
      obtain ⟨v0, i0⟩ := vT x y 0 hx hy (by decide)
      obtain ⟨v1, i1⟩ := vT x y 1 hx hy (by decide)
      rw [← lT] at i0 i1
      have lxy : D.length * x + y ≤ 100 := by omega
      rw [hGB]
      trivial
      refine ⟨by decide, _, listQ_at hx, ?_⟩
      trivial
      refine ⟨_, listQ_at hy, ?_⟩
      refine kPlusW_i (oka x hx) (okb y hy) (nb_ok nsum (Nat.mul_pos ma0 mb0) (Nat.lt_of_lt_of_le mab (Nat.pow_le_pow_right (by decide) (by decide))) (by decide +kernel)) ?_
      have eh : PyData.tuple [.int 1, .int 2] = nQ (1 / 2) := by
        show PyData.tuple [.int 1, .int 2] = nD (canon (1 / 2))
        rw [show canon (1 / 2 : Rat) = (1, 2) by decide +kernel]
        rfl
      rw [eh]
      refine kTimesW_i (nb_ok nhalf (by decide) (by decide +kernel) (by decide +kernel)) (nb_ok nsum (Nat.mul_pos ma0 mb0) (Nat.lt_of_lt_of_le mab (Nat.pow_le_pow_right (by decide) (by decide))) (by decide +kernel)) (by rw [em]; exact nb_ok nm (Nat.mul_pos (by decide) (Nat.mul_pos ma0 mb0)) (Nat.lt_of_lt_of_le (Nat.mul_lt_mul_of_pos_left mab (by decide)) (by decide +kernel)) (by decide +kernel)) ?_
      rw [em]
      trivial
      rw [List.length_map]
      have ex : (D.length : Int) * (x : Int) + (y : Int) = ((D.length * x + y : Nat) : Int) := by rw [Int.natCast_add, Int.natCast_mul]
      have e0 : (2 : Int) * ((D.length * x + y : Nat) : Int) = ((2 * (D.length * x + y) + 0 : Nat) : Int) := by omega
      have e1 : ((2 * (D.length * x + y) + 0 : Nat) : Int) + 1 = ((2 * (D.length * x + y) + 1 : Nat) : Int) := by omega
      rw [ex, e0, e1]
      refine ⟨small_mulW (by omega) (by omega), small_mulW (by decide) (by omega), _, listQ_at i0, ?_⟩
      rw [v0]
      refine ⟨sh_nQ _, sh_nQ _, ?_⟩
      rw [eqv_nQ, decide_eq_true rfl, if_neg (by decide)]
      refine ⟨_, listQ_at i1, ?_⟩
      rw [v1]
      refine ⟨sh_nQ _, sh_nQ _, ?_⟩
      rw [eqv_nQ, decide_eq_true rfl, if_neg (by decide)]
    · rintro Γ' rfl
      rw [hGB]
      rfl
  rintro Γ' rfl
  rw [hGA]
  show Ra _ _
  subst hRa
  refine seq_hide fun Rb hRb => ?_
  trivial
  obtain ⟨N1, n10, n11, p1, okT⟩ := okl wT
  obtain ⟨N2, n20, n21, p2, okH⟩ := okh wT
  refine ⟨T, leadC T, N2, 2 ^ 169, rfl, rfl, wT, p2, n20, Nat.one_le_two_pow, Nat.lt_of_lt_of_le n21 (Nat.pow_le_pow_right (by decide) (by decide)), Nat.pow_lt_pow_right (by decide) (by decide), ?_⟩
  have evn : ∀ {E : List PlC}, WfC E → ∀ k, k < E.length → Ok (gainC E k) ∧ Ok (meanC E (leadC E) k) ∧ Ok (longC E k + leadC E k) ∧ gainC E k + meanC E (leadC E) k = longC E k + leadC E k ∧ L2.atI (E.map PlC.D) (k : Int) = some (plC E k).D ∧ nD (plC E k).g = nQ (gainC E k) := fun {E} hE k hk => by
    obtain ⟨M1, m10, m11, q1, _⟩ := okl hE
    obtain ⟨M2, m20, m21, q2, _⟩ := okh hE
    have s := scaleC_ok hE hk
    have wk := plC_wf hE hk
    have m := nb_mean hE hk q2
    have n := nb_add ((q1 k hk).mono (Nat.dvd_mul_right M1 M2) (Nat.le_refl _)) ((q2 k hk).mono (Nat.dvd_mul_left M2 M1) (Nat.le_refl _))
    refine ⟨small_ok wk.g, nb_ok m (Nat.mul_pos m20 s.1) (Nat.lt_of_lt_of_le (Nat.mul_lt_mul'' m21 (show scaleC E k < 2 ^ 9 by omega)) (by rw [← Nat.pow_add]; exact Nat.pow_le_pow_right (by decide) (by decide))) (Nat.pow_le_pow_right (by decide) (by decide)), nb_ok n (Nat.mul_pos m10 m20) (Nat.lt_of_lt_of_le (Nat.mul_lt_mul'' m11 m21) (by rw [← Nat.pow_add]; exact Nat.pow_le_pow_right (by decide) (by decide))) (by decide +kernel), (lead_eq hE (long_ok hE) (lead_ok hE) hk).symm, atI_nat (by rw [List.getElem?_map, plC_get hk] <;> rfl), nD_nQ (red_small wk.g)⟩
  subst hRb
  refine seq_hide fun Rc hRc => ?_
  obtain ⟨GA, hGA⟩ : ∃ GA : Gam, GA = [none, some (.d (.list (ds.map PyData.int))), some (.d (chD (ringC a b))), some (.d (chD T)), none, some (.d (listQ T.length (meanC T (leadC T)))), none, none, none, some (.d (.int a)), some (.d (.int b)), some (.d (chD C)), some (.d (chD D)), some (.d (listQ C.length (longC C))), some (.d (listQ D.length (longC D))), some (.d (listQ T.length (longC T))), some (.d (listQ T.length (leadC T))), none, none, none] := ⟨_, rfl⟩
  have lT12 : T.length ≤ 12 := wT.l12
  refine dfor_rng T.length (fun x => .int (x : Int)) (fun P hP => ?_) (fun i Γ' => Γ' = GA) (by rw [hGA] <;> rfl) ?_ ?_
  · trivial
    rw [List.length_map, Int.toNat_natCast, rangeD0]
    exact ⟨by omega, by omega, hP⟩
  · rintro k Γ' hk rfl
    obtain ⟨o1, o2, o3, o4, o5, o6⟩ := evn wT k hk
    rw [hGA]
    trivial
    refine ⟨_, listQ_at hk, _, listQ_at hk, kPlusW_i (okT k hk) (okH k hk) o3 ⟨_, o5, ?_⟩⟩
    trivial
    refine ⟨_, rfl, _, listQ_at hk, ?_⟩
    rw [o6]
    refine kPlusW_i o1 o2 (by rw [o4]; exact o3) ?_
    rw [o4]
    refine ⟨sh_nQ _, sh_nQ _, ?_⟩
    rw [eqv_nQ, decide_eq_true rfl, if_neg (by decide)]
  rintro Γ' rfl
  rw [hGA]
  show Rc _ _
  subst hRc
  refine seq_hide fun Rd hRd => ?_
  trivial
  refine ⟨_, at_ds (i := 89) (by omega), ?_⟩
  have b89 := ds_bd hd 89
  trivial
  refine ⟨by decide, ?_⟩
  obtain ⟨k, ek, hk3⟩ : ∃ k : Nat, ds.getD 89 0 % 4 = (k : Int) ∧ k ≤ 3 := ⟨(ds.getD 89 0 % 4).toNat, by omega, by omega⟩
  rw [ek]
  subst hRd
  refine seq_hide fun Re hRe => ?_
  trivial
  have hck : C.length + C.length * k ≤ 12 := by
    have := Nat.mul_le_mul hlC hk3
    omega
  have nS : AllN (slowV (C.map ofC) k) := slow_none toC_all
  refine ⟨C.map ofC, k, 360, (ofC_D _).symm, rfl, ofC_wf hC, by rw [lC, Nat.mul_succ]; omega, ?_⟩
  rw [chZ_data nS]
  have wS : WfC (chZ (slowV (C.map ofC) k)) := chZ_wf (slow_wf (ofC_wf hC) (by decide) (by rw [lC]; exact hck)) (slow_pos (toC_pos hC)) nS
  have lS : (chZ (slowV (C.map ofC) k)).length = C.length + C.length * k := by
    rw [chZ_len, slow_len, lC]
  have vS : ∀ i, i < C.length → (((k : Int) + 1 : Int) : Rat) * longC (chZ (slowV (C.map ofC) k)) i = longC C i := fun i hi => slow_times hC hck hi
  generalize chZ (slowV (C.map ofC) k) = S at wS lS vS ⊢
  subst hRe
  refine seq_hide fun Rf hRf => ?_
  trivial
  refine ⟨S, rfl, wS, ⟨S, rfl, wS, by decide, rfl, rfl, ?_⟩⟩
  subst hRf
  refine seq_hide fun Rg hRg => ?_
  trivial
  obtain ⟨L1, l10, l11, s1, okS⟩ := okl wS
  obtain ⟨L2_, l20, l21, s2, okI⟩ := okh wS
  refine ⟨S, leadC S, L2_, 2 ^ 169, rfl, rfl, wS, s2, l20, Nat.one_le_two_pow, Nat.lt_of_lt_of_le l21 (Nat.pow_le_pow_right (by decide) (by decide)), Nat.pow_lt_pow_right (by decide) (by decide), ?_⟩
  subst hRg
  refine seq_hide fun Rh hRh => ?_
  obtain ⟨GD, hGD⟩ : ∃ GD : Gam, GD = [none, some (.d (.list (ds.map PyData.int))), some (.d (chD (ringC a b))), some (.d (chD T)), none, some (.d (listQ S.length (meanC S (leadC S)))), none, some (.d (.int (k : Int))), some (.d (chD S)), some (.d (.int a)), some (.d (.int b)), some (.d (chD C)), some (.d (chD D)), some (.d (listQ C.length (longC C))), some (.d (listQ D.length (longC D))), some (.d (listQ S.length (longC S))), some (.d (listQ S.length (leadC S))), none, none, none] := ⟨_, rfl⟩
  have lS12 : S.length ≤ 12 := wS.l12
  refine dfor_rng S.length (fun x => .int (x : Int)) (fun P hP => ?_) (fun i Γ' => Γ' = GD) (by rw [hGD] <;> rfl) ?_ ?_
  · trivial
    rw [List.length_map, Int.toNat_natCast, rangeD0]
    exact ⟨by omega, by omega, hP⟩
  · rintro j Γ' hj rfl
    obtain ⟨o1, o2, o3, o4, o5, o6⟩ := evn wS j hj
    rw [hGD]
    trivial
    refine ⟨_, listQ_at hj, _, listQ_at hj, kPlusW_i (okS j hj) (okI j hj) o3 ⟨_, o5, ?_⟩⟩
    trivial
    refine ⟨_, rfl, _, listQ_at hj, ?_⟩
    rw [o6]
    refine kPlusW_i o1 o2 (by rw [o4]; exact o3) ?_
    rw [o4]
    refine ⟨sh_nQ _, sh_nQ _, ?_⟩
    rw [eqv_nQ, decide_eq_true rfl, if_neg (by decide)]
  rintro Γ' rfl
  rw [hGD]
  show Rh _ _
  subst hRh
  trivial
  refine dlc_rng C.length (fun x => .int (x : Int)) (fun x => nQ (longC C x)) (fun P hP => ?_) (by omega) (fun x hx P hP => ?_) ?_
  · trivial
    rw [List.length_map, Int.toNat_natCast, rangeD0]
    exact ⟨by omega, by omega, hP⟩
  · trivial
    have hxS : x < S.length := by rw [lS]; omega
    obtain ⟨Mc, mc0, mc1, nc, okc⟩ := okl hC
    have eq1 : PyData.tuple [.int ((k : Int) + 1), .int 1] = nQ (((k : Int) + 1 : Int) : Rat) := rfl
    have nk1 : NB 1 4 (((k : Int) + 1 : Int) : Rat) := nb_int (by omega)
    refine ⟨by decide, _, listQ_at hxS, ?_⟩
    rw [eq1]
    refine kTimesW_i (nb_ok nk1 (by decide) (by decide +kernel) (by decide +kernel)) (okS x hxS) (by rw [vS x hx]; exact okc x hx) ?_
    rw [vS x hx]
    exact hP
  refine ⟨sh_lQ, sh_lQ, ?_⟩
  rw [show PyData.eqv (PyData.list ((List.range C.length).map fun x => nQ (longC C x))) (listQ C.length (longC C)) = true from by rw [show PyData.list ((List.range C.length).map fun x => nQ (longC C x)) = listQ C.length (longC C) from rfl, eqv_lQ]; exact decide_eq_true fun _ _ => rfl]

end
theorem all_mk {l : PySem.W.OpenLaw} {w : World} {K : PySem.W.Frag} {h : Heap} {mg : Str → Option Value} {fa f1 f2 f3 f4 f5 f6 f7 f8 f9 f10 f11 f12 f13 f14 f15 f16 f17 f18 f19 f20 f21 f22 f23 f24 f25 f26 f27 f28 f29 f30 f31 f32 f33 f34 f35 f36 g1 g2 td13 : Addr} (X : K.In h) (G : h.Ns mainGlobals mg) (hfa : mg "law" = some (.ref fa))
    {oc1 kV1 dc1 pm1 cd1 ct1 : Value} {od1 an1 : Option Addr} {sl1 : Array (Option Value)}
    {oc2 kV2 dc2 pm2 cd2 ct2 : Value} {od2 an2 : Option Addr} {sl2 : Array (Option Value)}
    {oc3 kV3 dc3 pm3 cd3 ct3 : Value} {od3 an3 : Option Addr} {sl3 : Array (Option Value)}
    {oc4 kV4 dc4 pm4 cd4 ct4 : Value} {od4 an4 : Option Addr} {sl4 : Array (Option Value)}
    {oc5 kV5 dc5 pm5 cd5 ct5 : Value} {od5 an5 : Option Addr} {sl5 : Array (Option Value)}
    {oc6 kV6 dc6 pm6 cd6 ct6 : Value} {od6 an6 : Option Addr} {sl6 : Array (Option Value)}
    {oc7 kV7 dc7 pm7 cd7 ct7 : Value} {od7 an7 : Option Addr} {sl7 : Array (Option Value)}
    {oc8 kV8 dc8 pm8 cd8 ct8 : Value} {od8 an8 : Option Addr} {sl8 : Array (Option Value)}
    {oc9 kV9 dc9 pm9 cd9 ct9 : Value} {od9 an9 : Option Addr} {sl9 : Array (Option Value)}
    {oc10 kV10 dc10 pm10 cd10 ct10 : Value} {od10 an10 : Option Addr} {sl10 : Array (Option Value)}
    {oc11 kV11 dc11 pm11 cd11 ct11 : Value} {od11 an11 : Option Addr} {sl11 : Array (Option Value)}
    {oc12 kV12 dc12 pm12 cd12 ct12 : Value} {od12 an12 : Option Addr} {sl12 : Array (Option Value)}
    {oc13 kV13 dc13 pm13 cd13 ct13 : Value} {od13 an13 : Option Addr} {sl13 : Array (Option Value)}
    {oc14 kV14 dc14 pm14 cd14 ct14 : Value} {od14 an14 : Option Addr} {sl14 : Array (Option Value)}
    {oc15 kV15 dc15 pm15 cd15 ct15 : Value} {od15 an15 : Option Addr} {sl15 : Array (Option Value)}
    {oc16 kV16 dc16 pm16 cd16 ct16 : Value} {od16 an16 : Option Addr} {sl16 : Array (Option Value)}
    {oc17 kV17 dc17 pm17 cd17 ct17 : Value} {od17 an17 : Option Addr} {sl17 : Array (Option Value)}
    {oc18 kV18 dc18 pm18 cd18 ct18 : Value} {od18 an18 : Option Addr} {sl18 : Array (Option Value)}
    {oc19 kV19 dc19 pm19 cd19 ct19 : Value} {od19 an19 : Option Addr} {sl19 : Array (Option Value)}
    {oc20 kV20 dc20 pm20 cd20 ct20 : Value} {od20 an20 : Option Addr} {sl20 : Array (Option Value)}
    {oc21 kV21 dc21 pm21 cd21 ct21 : Value} {od21 an21 : Option Addr} {sl21 : Array (Option Value)}
    {oc22 kV22 dc22 pm22 cd22 ct22 : Value} {od22 an22 : Option Addr} {sl22 : Array (Option Value)}
    {oc23 kV23 dc23 pm23 cd23 ct23 : Value} {od23 an23 : Option Addr} {sl23 : Array (Option Value)}
    {oc24 kV24 dc24 pm24 cd24 ct24 : Value} {od24 an24 : Option Addr} {sl24 : Array (Option Value)}
    {oc25 kV25 dc25 pm25 cd25 ct25 : Value} {od25 an25 : Option Addr} {sl25 : Array (Option Value)}
    {oc26 kV26 dc26 pm26 cd26 ct26 : Value} {od26 an26 : Option Addr} {sl26 : Array (Option Value)}
    {oc27 kV27 dc27 pm27 cd27 ct27 : Value} {od27 an27 : Option Addr} {sl27 : Array (Option Value)}
    {oc28 kV28 dc28 pm28 cd28 ct28 : Value} {od28 an28 : Option Addr} {sl28 : Array (Option Value)}
    {oc29 kV29 dc29 pm29 cd29 ct29 : Value} {od29 an29 : Option Addr} {sl29 : Array (Option Value)}
    {oc30 kV30 dc30 pm30 cd30 ct30 : Value} {od30 an30 : Option Addr} {sl30 : Array (Option Value)}
    {oc31 kV31 dc31 pm31 cd31 ct31 : Value} {od31 an31 : Option Addr} {sl31 : Array (Option Value)}
    {oc32 kV32 dc32 pm32 cd32 ct32 : Value} {od32 an32 : Option Addr} {sl32 : Array (Option Value)}
    {oc33 kV33 dc33 pm33 cd33 ct33 : Value} {od33 an33 : Option Addr} {sl33 : Array (Option Value)}
    {oc34 kV34 dc34 pm34 cd34 ct34 : Value} {od34 an34 : Option Addr} {sl34 : Array (Option Value)}
    {oc35 kV35 dc35 pm35 cd35 ct35 : Value} {od35 an35 : Option Addr} {sl35 : Array (Option Value)}
    {oc36 kV36 dc36 pm36 cd36 ct36 : Value} {od36 an36 : Option Addr} {sl36 : Array (Option Value)}
    {do1 : Option Addr} {t1 u1 : Tok} {n1 : Nat} {so1 : Array (Option Value)}
    {do2 : Option Addr} {t2 u2 : Tok} {n2 : Nat} {so2 : Array (Option Value)}
    {ott13 : Value} {odt13 : Option Addr} {nt13 : Nat} {slt13 : Array (Option Value)}
    {tmMP : Tok}
    (a1 : PySem.W.nsIn K mainGlobals "lowest" = some (some (.ref f1)))
    (l1 : K.lookup f1 = some ⟨oc1, od1, .func (PySem.W.fnOf "lowest" "lowest" (defArgs s_lowest) (defBody s_lowest) (defScope s_lowest) .none kV1 dc1 pm1 an1 cd1 ct1), sl1⟩)
    (c1 : PySem.W.codeIn K cd1 "lowest" = true) (k1 : PySem.W.keepIn K (.ref f1) = true)
    (a2 : PySem.W.nsIn K mainGlobals "common_denominator" = some (some (.ref f2)))
    (l2 : K.lookup f2 = some ⟨oc2, od2, .func (PySem.W.fnOf "common_denominator" "common_denominator" (defArgs s_common_denominator) (defBody s_common_denominator) (defScope s_common_denominator) .none kV2 dc2 pm2 an2 cd2 ct2), sl2⟩)
    (c2 : PySem.W.codeIn K cd2 "common_denominator" = true) (k2 : PySem.W.keepIn K (.ref f2) = true)
    (a3 : PySem.W.nsIn K mainGlobals "whole_at" = some (some (.ref f3)))
    (l3 : K.lookup f3 = some ⟨oc3, od3, .func (PySem.W.fnOf "whole_at" "whole_at" (defArgs s_whole_at) (defBody s_whole_at) (defScope s_whole_at) .none kV3 dc3 pm3 an3 cd3 ct3), sl3⟩)
    (c3 : PySem.W.codeIn K cd3 "whole_at" = true) (k3 : PySem.W.keepIn K (.ref f3) = true)
    (a4 : PySem.W.nsIn K mainGlobals "gains_of" = some (some (.ref f4)))
    (l4 : K.lookup f4 = some ⟨oc4, od4, .func (PySem.W.fnOf "gains_of" "gains_of" (defArgs s_gains_of) (defBody s_gains_of) (defScope s_gains_of) .none kV4 dc4 pm4 an4 cd4 ct4), sl4⟩)
    (c4 : PySem.W.codeIn K cd4 "gains_of" = true) (k4 : PySem.W.keepIn K (.ref f4) = true)
    (a5 : PySem.W.nsIn K mainGlobals "_cleared" = some (some (.ref f5)))
    (l5 : K.lookup f5 = some ⟨oc5, od5, .func (PySem.W.fnOf "_cleared" "_cleared" (defArgs s__cleared) (defBody s__cleared) (defScope s__cleared) .none kV5 dc5 pm5 an5 cd5 ct5), sl5⟩)
    (c5 : PySem.W.codeIn K cd5 "_cleared" = true) (k5 : PySem.W.keepIn K (.ref f5) = true)
    (a6 : PySem.W.nsIn K mainGlobals "solved" = some (some (.ref f6)))
    (l6 : K.lookup f6 = some ⟨oc6, od6, .func (PySem.W.fnOf "solved" "solved" (defArgs s_solved) (defBody s_solved) (defScope s_solved) .none kV6 dc6 pm6 an6 cd6 ct6), sl6⟩)
    (c6 : PySem.W.codeIn K cd6 "solved" = true) (k6 : PySem.W.keepIn K (.ref f6) = true)
    (a7 : PySem.W.nsIn K mainGlobals "plus" = some (some (.ref f7)))
    (l7 : K.lookup f7 = some ⟨oc7, od7, .func (PySem.W.fnOf "plus" "plus" (defArgs s_plus) (defBody s_plus) (defScope s_plus) .none kV7 dc7 pm7 an7 cd7 ct7), sl7⟩)
    (c7 : PySem.W.codeIn K cd7 "plus" = true) (k7 : PySem.W.keepIn K (.ref f7) = true)
    (a8 : PySem.W.nsIn K mainGlobals "times" = some (some (.ref f8)))
    (l8 : K.lookup f8 = some ⟨oc8, od8, .func (PySem.W.fnOf "times" "times" (defArgs s_times) (defBody s_times) (defScope s_times) .none kV8 dc8 pm8 an8 cd8 ct8), sl8⟩)
    (c8 : PySem.W.codeIn K cd8 "times" = true) (k8 : PySem.W.keepIn K (.ref f8) = true)
    (a9 : PySem.W.nsIn K mainGlobals "total" = some (some (.ref f9)))
    (l9 : K.lookup f9 = some ⟨oc9, od9, .func (PySem.W.fnOf "total" "total" (defArgs s_total) (defBody s_total) (defScope s_total) .none kV9 dc9 pm9 an9 cd9 ct9), sl9⟩)
    (c9 : PySem.W.codeIn K cd9 "total" = true) (k9 : PySem.W.keepIn K (.ref f9) = true)
    (a10 : PySem.W.nsIn K mainGlobals "mean_at" = some (some (.ref f10)))
    (l10 : K.lookup f10 = some ⟨oc10, od10, .func (PySem.W.fnOf "mean_at" "mean_at" (defArgs s_mean_at) (defBody s_mean_at) (defScope s_mean_at) .none kV10 dc10 pm10 an10 cd10 ct10), sl10⟩)
    (c10 : PySem.W.codeIn K cd10 "mean_at" = true) (k10 : PySem.W.keepIn K (.ref f10) = true)
    (a11 : PySem.W.nsIn K mainGlobals "_scale_of" = some (some (.ref f11)))
    (l11 : K.lookup f11 = some ⟨oc11, od11, .func (PySem.W.fnOf "_scale_of" "_scale_of" (defArgs s__scale_of) (defBody s__scale_of) (defScope s__scale_of) .none kV11 dc11 pm11 an11 cd11 ct11), sl11⟩)
    (c11 : PySem.W.codeIn K cd11 "_scale_of" = true) (k11 : PySem.W.keepIn K (.ref f11) = true)
    (a12 : PySem.W.nsIn K mainGlobals "_row_of" = some (some (.ref f12)))
    (l12 : K.lookup f12 = some ⟨oc12, od12, .func (PySem.W.fnOf "_row_of" "_row_of" (defArgs s__row_of) (defBody s__row_of) (defScope s__row_of) .none kV12 dc12 pm12 an12 cd12 ct12), sl12⟩)
    (c12 : PySem.W.codeIn K cd12 "_row_of" = true) (k12 : PySem.W.keepIn K (.ref f12) = true)
    (a13 : PySem.W.nsIn K mainGlobals "filled_in" = some (some (.ref f13)))
    (l13 : K.lookup f13 = some ⟨oc13, od13, .func (PySem.W.fnOf "filled_in" "filled_in" (defArgs s_filled_in) (defBody s_filled_in) (defScope s_filled_in) (.ref td13) kV13 dc13 pm13 an13 cd13 ct13), sl13⟩)
    (c13 : PySem.W.codeIn K cd13 "filled_in" = true) (k13 : PySem.W.keepIn K (.ref f13) = true)
    (a14 : PySem.W.nsIn K mainGlobals "targets_of" = some (some (.ref f14)))
    (l14 : K.lookup f14 = some ⟨oc14, od14, .func (PySem.W.fnOf "targets_of" "targets_of" (defArgs s_targets_of) (defBody s_targets_of) (defScope s_targets_of) .none kV14 dc14 pm14 an14 cd14 ct14), sl14⟩)
    (c14 : PySem.W.codeIn K cd14 "targets_of" = true) (k14 : PySem.W.keepIn K (.ref f14) = true)
    (a15 : PySem.W.nsIn K mainGlobals "reached_from" = some (some (.ref f15)))
    (l15 : K.lookup f15 = some ⟨oc15, od15, .func (PySem.W.fnOf "reached_from" "reached_from" (defArgs s_reached_from) (defBody s_reached_from) (defScope s_reached_from) .none kV15 dc15 pm15 an15 cd15 ct15), sl15⟩)
    (c15 : PySem.W.codeIn K cd15 "reached_from" = true) (k15 : PySem.W.keepIn K (.ref f15) = true)
    (a16 : PySem.W.nsIn K mainGlobals "groups_of" = some (some (.ref f16)))
    (l16 : K.lookup f16 = some ⟨oc16, od16, .func (PySem.W.fnOf "groups_of" "groups_of" (defArgs s_groups_of) (defBody s_groups_of) (defScope s_groups_of) .none kV16 dc16 pm16 an16 cd16 ct16), sl16⟩)
    (c16 : PySem.W.codeIn K cd16 "groups_of" = true) (k16 : PySem.W.keepIn K (.ref f16) = true)
    (a17 : PySem.W.nsIn K mainGlobals "passing_places" = some (some (.ref f17)))
    (l17 : K.lookup f17 = some ⟨oc17, od17, .func (PySem.W.fnOf "passing_places" "passing_places" (defArgs s_passing_places) (defBody s_passing_places) (defScope s_passing_places) .none kV17 dc17 pm17 an17 cd17 ct17), sl17⟩)
    (c17 : PySem.W.codeIn K cd17 "passing_places" = true) (k17 : PySem.W.keepIn K (.ref f17) = true)
    (a18 : PySem.W.nsIn K mainGlobals "divided" = some (some (.ref f18)))
    (l18 : K.lookup f18 = some ⟨oc18, od18, .func (PySem.W.fnOf "divided" "divided" (defArgs s_divided) (defBody s_divided) (defScope s_divided) .none kV18 dc18 pm18 an18 cd18 ct18), sl18⟩)
    (c18 : PySem.W.codeIn K cd18 "divided" = true) (k18 : PySem.W.keepIn K (.ref f18) = true)
    (a19 : PySem.W.nsIn K mainGlobals "minus" = some (some (.ref f19)))
    (l19 : K.lookup f19 = some ⟨oc19, od19, .func (PySem.W.fnOf "minus" "minus" (defArgs s_minus) (defBody s_minus) (defScope s_minus) .none kV19 dc19 pm19 an19 cd19 ct19), sl19⟩)
    (c19 : PySem.W.codeIn K cd19 "minus" = true) (k19 : PySem.W.keepIn K (.ref f19) = true)
    (a20 : PySem.W.nsIn K mainGlobals "mean_in_group" = some (some (.ref f20)))
    (l20 : K.lookup f20 = some ⟨oc20, od20, .func (PySem.W.fnOf "mean_in_group" "mean_in_group" (defArgs s_mean_in_group) (defBody s_mean_in_group) (defScope s_mean_in_group) .none kV20 dc20 pm20 an20 cd20 ct20), sl20⟩)
    (c20 : PySem.W.codeIn K cd20 "mean_in_group" = true) (k20 : PySem.W.keepIn K (.ref f20) = true)
    (a21 : PySem.W.nsIn K mainGlobals "long_gains" = some (some (.ref f21)))
    (l21 : K.lookup f21 = some ⟨oc21, od21, .func (PySem.W.fnOf "long_gains" "long_gains" (defArgs s_long_gains) (defBody s_long_gains) (defScope s_long_gains) .none kV21 dc21 pm21 an21 cd21 ct21), sl21⟩)
    (c21 : PySem.W.codeIn K cd21 "long_gains" = true) (k21 : PySem.W.keepIn K (.ref f21) = true)
    (a22 : PySem.W.nsIn K mainGlobals "leads" = some (some (.ref f22)))
    (l22 : K.lookup f22 = some ⟨oc22, od22, .func (PySem.W.fnOf "leads" "leads" (defArgs s_leads) (defBody s_leads) (defScope s_leads) .none kV22 dc22 pm22 an22 cd22 ct22), sl22⟩)
    (c22 : PySem.W.codeIn K cd22 "leads" = true) (k22 : PySem.W.keepIn K (.ref f22) = true)
    (a23 : PySem.W.nsIn K mainGlobals "_renamed" = some (some (.ref f23)))
    (l23 : K.lookup f23 = some ⟨oc23, od23, .func (PySem.W.fnOf "_renamed" "_renamed" (defArgs s__renamed) (defBody s__renamed) (defScope s__renamed) .none kV23 dc23 pm23 an23 cd23 ct23), sl23⟩)
    (c23 : PySem.W.codeIn K cd23 "_renamed" = true) (k23 : PySem.W.keepIn K (.ref f23) = true)
    (a24 : PySem.W.nsIn K mainGlobals "slowed" = some (some (.ref f24)))
    (l24 : K.lookup f24 = some ⟨oc24, od24, .func (PySem.W.fnOf "slowed" "slowed" (defArgs s_slowed) (defBody s_slowed) (defScope s_slowed) .none kV24 dc24 pm24 an24 cd24 ct24), sl24⟩)
    (c24 : PySem.W.codeIn K cd24 "slowed" = true) (k24 : PySem.W.keepIn K (.ref f24) = true)
    (a25 : PySem.W.nsIn K mainGlobals "in_turns" = some (some (.ref f25)))
    (l25 : K.lookup f25 = some ⟨oc25, od25, .func (PySem.W.fnOf "in_turns" "in_turns" (defArgs s_in_turns) (defBody s_in_turns) (defScope s_in_turns) .none kV25 dc25 pm25 an25 cd25 ct25), sl25⟩)
    (c25 : PySem.W.codeIn K cd25 "in_turns" = true) (k25 : PySem.W.keepIn K (.ref f25) = true)
    (a26 : PySem.W.nsIn K mainGlobals "_law_draws" = some (some (.ref f26)))
    (l26 : K.lookup f26 = some ⟨oc26, od26, .func (PySem.W.fnOf "_law_draws" "_law_draws" (defArgs s_draws) (defBody s_draws) (defScope s_draws) .none kV26 dc26 pm26 an26 cd26 ct26), sl26⟩)
    (c26 : PySem.W.codeIn K cd26 "_law_draws" = true) (k26 : PySem.W.keepIn K (.ref f26) = true)
    (a27 : PySem.W.nsIn K mainGlobals "_law_gcd" = some (some (.ref f27)))
    (l27 : K.lookup f27 = some ⟨oc27, od27, .func (PySem.W.fnOf "_law_gcd" "_law_gcd" (defArgs s_gcd) (defBody s_gcd) (defScope s_gcd) .none kV27 dc27 pm27 an27 cd27 ct27), sl27⟩)
    (c27 : PySem.W.codeIn K cd27 "_law_gcd" = true) (k27 : PySem.W.keepIn K (.ref f27) = true)
    (a28 : PySem.W.nsIn K mainGlobals "_law_number" = some (some (.ref f28)))
    (l28 : K.lookup f28 = some ⟨oc28, od28, .func (PySem.W.fnOf "_law_number" "_law_number" (defArgs s_number) (defBody s_number) (defScope s_number) .none kV28 dc28 pm28 an28 cd28 ct28), sl28⟩)
    (c28 : PySem.W.codeIn K cd28 "_law_number" = true) (k28 : PySem.W.keepIn K (.ref f28) = true)
    (a29 : PySem.W.nsIn K mainGlobals "_law_plus" = some (some (.ref f29)))
    (l29 : K.lookup f29 = some ⟨oc29, od29, .func (PySem.W.fnOf "_law_plus" "_law_plus" (defArgs s_plus_) (defBody s_plus_) (defScope s_plus_) .none kV29 dc29 pm29 an29 cd29 ct29), sl29⟩)
    (c29 : PySem.W.codeIn K cd29 "_law_plus" = true) (k29 : PySem.W.keepIn K (.ref f29) = true)
    (a30 : PySem.W.nsIn K mainGlobals "_law_times" = some (some (.ref f30)))
    (l30 : K.lookup f30 = some ⟨oc30, od30, .func (PySem.W.fnOf "_law_times" "_law_times" (defArgs s_times_) (defBody s_times_) (defScope s_times_) .none kV30 dc30 pm30 an30 cd30 ct30), sl30⟩)
    (c30 : PySem.W.codeIn K cd30 "_law_times" = true) (k30 : PySem.W.keepIn K (.ref f30) = true)
    (a31 : PySem.W.nsIn K mainGlobals "_law_total" = some (some (.ref f31)))
    (l31 : K.lookup f31 = some ⟨oc31, od31, .func (PySem.W.fnOf "_law_total" "_law_total" (defArgs s_total_) (defBody s_total_) (defScope s_total_) .none kV31 dc31 pm31 an31 cd31 ct31), sl31⟩)
    (c31 : PySem.W.codeIn K cd31 "_law_total" = true) (k31 : PySem.W.keepIn K (.ref f31) = true)
    (a32 : PySem.W.nsIn K mainGlobals "_law_walk" = some (some (.ref f32)))
    (l32 : K.lookup f32 = some ⟨oc32, od32, .func (PySem.W.fnOf "_law_walk" "_law_walk" (defArgs s_walk) (defBody s_walk) (defScope s_walk) .none kV32 dc32 pm32 an32 cd32 ct32), sl32⟩)
    (c32 : PySem.W.codeIn K cd32 "_law_walk" = true) (k32 : PySem.W.keepIn K (.ref f32) = true)
    (a33 : PySem.W.nsIn K mainGlobals "_law_means" = some (some (.ref f33)))
    (l33 : K.lookup f33 = some ⟨oc33, od33, .func (PySem.W.fnOf "_law_means" "_law_means" (defArgs s_means) (defBody s_means) (defScope s_means) .none kV33 dc33 pm33 an33 cd33 ct33), sl33⟩)
    (c33 : PySem.W.codeIn K cd33 "_law_means" = true) (k33 : PySem.W.keepIn K (.ref f33) = true)
    (a34 : PySem.W.nsIn K mainGlobals "_law_two" = some (some (.ref f34)))
    (l34 : K.lookup f34 = some ⟨oc34, od34, .func (PySem.W.fnOf "_law_two" "_law_two" (defArgs s_two) (defBody s_two) (defScope s_two) .none kV34 dc34 pm34 an34 cd34 ct34), sl34⟩)
    (c34 : PySem.W.codeIn K cd34 "_law_two" = true) (k34 : PySem.W.keepIn K (.ref f34) = true)
    (a35 : PySem.W.nsIn K mainGlobals "_law_ring" = some (some (.ref f35)))
    (l35 : K.lookup f35 = some ⟨oc35, od35, .func (PySem.W.fnOf "_law_ring" "_law_ring" (defArgs s_ring) (defBody s_ring) (defScope s_ring) .none kV35 dc35 pm35 an35 cd35 ct35), sl35⟩)
    (c35 : PySem.W.codeIn K cd35 "_law_ring" = true) (k35 : PySem.W.keepIn K (.ref f35) = true)
    (a36 : PySem.W.nsIn K mainGlobals "law" = some (some (.ref f36)))
    (l36 : K.lookup f36 = some ⟨oc36, od36, .func (PySem.W.fnOf "law" "law" (defArgs s_law) (defBody s_law) (defScope s_law) .none kV36 dc36 pm36 an36 cd36 ct36), sl36⟩)
    (c36 : PySem.W.codeIn K cd36 "law" = true) (k36 : PySem.W.keepIn K (.ref f36) = true)
    (ac1 : PySem.W.nsIn K mainGlobals "ZERO" = some (some (.ref g1))) (lc1 : K.lookup g1 = some ⟨.type "tuple", do1, .seq (List.toArray [Value.int 0 t1, Value.int 1 u1]) n1, so1⟩)
    (ac2 : PySem.W.nsIn K mainGlobals "ONE" = some (some (.ref g2))) (lc2 : K.lookup g2 = some ⟨.type "tuple", do2, .seq (List.toArray [Value.int 1 t2, Value.int 1 u2]) n2, so2⟩)
    (lt13 : K.lookup td13 = some ⟨ott13, odt13, .seq (List.toArray [Value.ref g2]) nt13, slt13⟩)
    (z_len : PySem.W.nsIn K mainGlobals "len" = some none)
    (z_int : PySem.W.nsIn K mainGlobals "int" = some none)
    (z_range : PySem.W.nsIn K mainGlobals "range" = some none)
    (z_abs : PySem.W.nsIn K mainGlobals "abs" = some none)
    (z_repr : PySem.W.nsIn K mainGlobals "repr" = some none)
    (z_list : PySem.W.nsIn K mainGlobals "list" = some none)
    (z_isinstance : PySem.W.nsIn K mainGlobals "isinstance" = some none)
    (z_sum : PySem.W.nsIn K mainGlobals "sum" = some none)
    (z_zip : PySem.W.nsIn K mainGlobals "zip" = some none)
    (z_bool : PySem.W.nsIn K mainGlobals "bool" = some none)
    (z_enumerate : PySem.W.nsIn K mainGlobals "enumerate" = some none)
    (z_tuple : PySem.W.nsIn K mainGlobals "tuple" = some none)
    (z_str : PySem.W.nsIn K mainGlobals "str" = some none)
    (z_all : PySem.W.nsIn K mainGlobals "all" = some none)
    (z_any : PySem.W.nsIn K mainGlobals "any" = some none)
    (z_min : PySem.W.nsIn K mainGlobals "min" = some none)
    (z_max : PySem.W.nsIn K mainGlobals "max" = some none)
    (hgcd : PySem.W.nsIn K mainGlobals "gcd" = some (some (.builtin "math.gcd")))
    (hlcm : PySem.W.nsIn K mainGlobals "lcm" = some (some (.builtin "math.lcm")))
    (zsorted : PySem.W.nsIn K mainGlobals "sorted" = some none)
    (hMP : PySem.W.nsIn K mainGlobals "MOST_PLACES" = some (some (.int 12 tmMP))) :
    ∃ fd : FuncData, (∀ (s : Shared) (v : Value), BindsTo s fd ⟨[v], []⟩ [("script", v)]) ∧ ∀ B : Heap, K.In B → B.Ns mainGlobals mg → LawOk l.prog w K mg B 10 fa fd ["script"] (spLaw K) := by
  have e := hfa.symm.trans (PySem.W.mg_of X G a36)
  cases e
  have T : Bt mg := ⟨PySem.W.mg_none_of X G z_len, PySem.W.mg_none_of X G z_int, PySem.W.mg_none_of X G z_range, PySem.W.mg_none_of X G z_abs, PySem.W.mg_none_of X G z_repr, PySem.W.mg_none_of X G z_list, PySem.W.mg_none_of X G z_isinstance, PySem.W.mg_none_of X G z_sum, PySem.W.mg_none_of X G z_zip, PySem.W.mg_none_of X G z_bool, PySem.W.mg_none_of X G z_enumerate, PySem.W.mg_none_of X G z_tuple, PySem.W.mg_none_of X G z_str, PySem.W.mg_none_of X G z_all, PySem.W.mg_none_of X G z_any, PySem.W.mg_none_of X G z_min, PySem.W.mg_none_of X G z_max⟩
  have F1 := fun_mk (st := s_lowest) l1 c1 k1
  have D1 : IsDef K mg "lowest" s_lowest ["n", "d"] := ⟨_, _, F1, PySem.W.mg_of X G a1, F1.binds (ps := ["n", "d"]) fun _ _ _ _ _ _ us hl => match us, hl with | [_, _], _ => rfl⟩
  have F2 := fun_mk (st := s_common_denominator) l2 c2 k2
  have D2 : IsDef K mg "common_denominator" s_common_denominator ["numbers"] := ⟨_, _, F2, PySem.W.mg_of X G a2, F2.binds (ps := ["numbers"]) fun _ _ _ _ _ _ us hl => match us, hl with | [_], _ => rfl⟩
  have F3 := fun_mk (st := s_whole_at) l3 c3 k3
  have D3 : IsDef K mg "whole_at" s_whole_at ["number", "denominator"] := ⟨_, _, F3, PySem.W.mg_of X G a3, F3.binds (ps := ["number", "denominator"]) fun _ _ _ _ _ _ us hl => match us, hl with | [_, _], _ => rfl⟩
  have F4 := fun_mk (st := s_gains_of) l4 c4 k4
  have D4 : IsDef K mg "gains_of" s_gains_of ["game"] := ⟨_, _, F4, PySem.W.mg_of X G a4, F4.binds (ps := ["game"]) fun _ _ _ _ _ _ us hl => match us, hl with | [_], _ => rfl⟩
  have F5 := fun_mk (st := s__cleared) l5 c5 k5
  have D5 : IsDef K mg "_cleared" s__cleared ["table", "k", "before"] := ⟨_, _, F5, PySem.W.mg_of X G a5, F5.binds (ps := ["table", "k", "before"]) fun _ _ _ _ _ _ us hl => match us, hl with | [_, _, _], _ => rfl⟩
  have F6 := fun_mk (st := s_solved) l6 c6 k6
  have D6 : IsDef K mg "solved" s_solved ["rows", "constants"] := ⟨_, _, F6, PySem.W.mg_of X G a6, F6.binds (ps := ["rows", "constants"]) fun _ _ _ _ _ _ us hl => match us, hl with | [_, _], _ => rfl⟩
  have F7 := fun_mk (st := s_plus) l7 c7 k7
  have D7 : IsDef K mg "plus" s_plus ["a", "b"] := ⟨_, _, F7, PySem.W.mg_of X G a7, F7.binds (ps := ["a", "b"]) fun _ _ _ _ _ _ us hl => match us, hl with | [_, _], _ => rfl⟩
  have F8 := fun_mk (st := s_times) l8 c8 k8
  have D8 : IsDef K mg "times" s_times ["a", "b"] := ⟨_, _, F8, PySem.W.mg_of X G a8, F8.binds (ps := ["a", "b"]) fun _ _ _ _ _ _ us hl => match us, hl with | [_, _], _ => rfl⟩
  have F9 := fun_mk (st := s_total) l9 c9 k9
  have D9 : IsDef K mg "total" s_total ["numbers"] := ⟨_, _, F9, PySem.W.mg_of X G a9, F9.binds (ps := ["numbers"]) fun _ _ _ _ _ _ us hl => match us, hl with | [_], _ => rfl⟩
  have F10 := fun_mk (st := s_mean_at) l10 c10 k10
  have D10 : IsDef K mg "mean_at" s_mean_at ["draw", "numbers"] := ⟨_, _, F10, PySem.W.mg_of X G a10, F10.binds (ps := ["draw", "numbers"]) fun _ _ _ _ _ _ us hl => match us, hl with | [_, _], _ => rfl⟩
  have F11 := fun_mk (st := s__scale_of) l11 c11 k11
  have D11 : IsDef K mg "_scale_of" s__scale_of ["draw"] := ⟨_, _, F11, PySem.W.mg_of X G a11, F11.binds (ps := ["draw"]) fun _ _ _ _ _ _ us hl => match us, hl with | [_], _ => rfl⟩
  have F12 := fun_mk (st := s__row_of) l12 c12 k12
  have D12 : IsDef K mg "_row_of" s__row_of ["chain", "x", "places", "scale", "discount"] := ⟨_, _, F12, PySem.W.mg_of X G a12, F12.binds (ps := ["chain", "x", "places", "scale", "discount"]) fun _ _ _ _ _ _ us hl => match us, hl with | [_, _, _, _, _], _ => rfl⟩
  have F13 : FunD K "filled_in" "filled_in" (defArgs s_filled_in) (defBody s_filled_in) (defScope s_filled_in) [V.ref g2] [] f13 _ := ⟨⟨_, _, _, _, _, _, _, _, _, _, rfl, l13, c13, .inr ⟨(fun z => by cases z), td13, _, _, _, rfl, lt13, rfl, .cons rfl .nil⟩, .inl rfl⟩, k13⟩
  have D13 : IsDefD K mg "filled_in" s_filled_in ["chain", "places", "extra", "known", "discount"] (.ref g2) := ⟨_, _, F13, PySem.W.mg_of X G a13, F13.binds1 (ps := ["chain", "places", "extra", "known", "discount"]) 4 0 (fun z => by cases z) rfl fun _ _ _ _ _ _ _ us its hu hi => match us, its, hu, hi with | [_, _, _, _], [_], _, _ => ⟨_, rfl, rfl⟩⟩
  have E13 : IsDefE K mg "filled_in" s_filled_in ["chain", "places", "extra", "known", "discount"] := isDefE_of F13 (PySem.W.mg_of X G a13) (F13.binds1 (ps := ["chain", "places", "extra", "known", "discount"]) 5 1 (fun z => by cases z) rfl fun _ _ _ _ _ _ _ us its hu hi => match us, its, hu, hi with | [_, _, _, _, _], [_], _, _ => ⟨_, rfl, rfl⟩)
  have F14 := fun_mk (st := s_targets_of) l14 c14 k14
  have D14 : IsDef K mg "targets_of" s_targets_of ["place"] := ⟨_, _, F14, PySem.W.mg_of X G a14, F14.binds (ps := ["place"]) fun _ _ _ _ _ _ us hl => match us, hl with | [_], _ => rfl⟩
  have F15 := fun_mk (st := s_reached_from) l15 c15 k15
  have D15 : IsDef K mg "reached_from" s_reached_from ["game", "start"] := ⟨_, _, F15, PySem.W.mg_of X G a15, F15.binds (ps := ["game", "start"]) fun _ _ _ _ _ _ us hl => match us, hl with | [_, _], _ => rfl⟩
  have F16 := fun_mk (st := s_groups_of) l16 c16 k16
  have D16 : IsDef K mg "groups_of" s_groups_of ["chain"] := ⟨_, _, F16, PySem.W.mg_of X G a16, F16.binds (ps := ["chain"]) fun _ _ _ _ _ _ us hl => match us, hl with | [_], _ => rfl⟩
  have F17 := fun_mk (st := s_passing_places) l17 c17 k17
  have D17 : IsDef K mg "passing_places" s_passing_places ["chain"] := ⟨_, _, F17, PySem.W.mg_of X G a17, F17.binds (ps := ["chain"]) fun _ _ _ _ _ _ us hl => match us, hl with | [_], _ => rfl⟩
  have F18 := fun_mk (st := s_divided) l18 c18 k18
  have D18 : IsDef K mg "divided" s_divided ["a", "b"] := ⟨_, _, F18, PySem.W.mg_of X G a18, F18.binds (ps := ["a", "b"]) fun _ _ _ _ _ _ us hl => match us, hl with | [_, _], _ => rfl⟩
  have F19 := fun_mk (st := s_minus) l19 c19 k19
  have D19 : IsDef K mg "minus" s_minus ["a", "b"] := ⟨_, _, F19, PySem.W.mg_of X G a19, F19.binds (ps := ["a", "b"]) fun _ _ _ _ _ _ us hl => match us, hl with | [_, _], _ => rfl⟩
  have F20 := fun_mk (st := s_mean_in_group) l20 c20 k20
  have D20 : IsDef K mg "mean_in_group" s_mean_in_group ["chain", "group", "numbers"] := ⟨_, _, F20, PySem.W.mg_of X G a20, F20.binds (ps := ["chain", "group", "numbers"]) fun _ _ _ _ _ _ us hl => match us, hl with | [_, _, _], _ => rfl⟩
  have F21 := fun_mk (st := s_long_gains) l21 c21 k21
  have D21 : IsDef K mg "long_gains" s_long_gains ["chain"] := ⟨_, _, F21, PySem.W.mg_of X G a21, F21.binds (ps := ["chain"]) fun _ _ _ _ _ _ us hl => match us, hl with | [_], _ => rfl⟩
  have F22 := fun_mk (st := s_leads) l22 c22 k22
  have D22 : IsDef K mg "leads" s_leads ["chain"] := ⟨_, _, F22, PySem.W.mg_of X G a22, F22.binds (ps := ["chain"]) fun _ _ _ _ _ _ us hl => match us, hl with | [_], _ => rfl⟩
  have F23 := fun_mk (st := s__renamed) l23 c23 k23
  have D23 : IsDef K mg "_renamed" s__renamed ["place", "names"] := ⟨_, _, F23, PySem.W.mg_of X G a23, F23.binds (ps := ["place", "names"]) fun _ _ _ _ _ _ us hl => match us, hl with | [_, _], _ => rfl⟩
  have F24 := fun_mk (st := s_slowed) l24 c24 k24
  have D24 : IsDef K mg "slowed" s_slowed ["game", "k"] := ⟨_, _, F24, PySem.W.mg_of X G a24, F24.binds (ps := ["game", "k"]) fun _ _ _ _ _ _ us hl => match us, hl with | [_, _], _ => rfl⟩
  have F25 := fun_mk (st := s_in_turns) l25 c25 k25
  have D25 : IsDef K mg "in_turns" s_in_turns ["first", "second"] := ⟨_, _, F25, PySem.W.mg_of X G a25, F25.binds (ps := ["first", "second"]) fun _ _ _ _ _ _ us hl => match us, hl with | [_, _], _ => rfl⟩
  have F26 := fun_mk (st := s_draws) l26 c26 k26
  have D26 : IsDef K mg "_law_draws" s_draws ["script", "count"] := ⟨_, _, F26, PySem.W.mg_of X G a26, F26.binds (ps := ["script", "count"]) fun _ _ _ _ _ _ us hl => match us, hl with | [_, _], _ => rfl⟩
  have F27 := fun_mk (st := s_gcd) l27 c27 k27
  have D27 : IsDef K mg "_law_gcd" s_gcd ["a", "b"] := ⟨_, _, F27, PySem.W.mg_of X G a27, F27.binds (ps := ["a", "b"]) fun _ _ _ _ _ _ us hl => match us, hl with | [_, _], _ => rfl⟩
  have F28 := fun_mk (st := s_number) l28 c28 k28
  have D28 : IsDef K mg "_law_number" s_number ["n", "d"] := ⟨_, _, F28, PySem.W.mg_of X G a28, F28.binds (ps := ["n", "d"]) fun _ _ _ _ _ _ us hl => match us, hl with | [_, _], _ => rfl⟩
  have F29 := fun_mk (st := s_plus_) l29 c29 k29
  have D29 : IsDef K mg "_law_plus" s_plus_ ["a", "b"] := ⟨_, _, F29, PySem.W.mg_of X G a29, F29.binds (ps := ["a", "b"]) fun _ _ _ _ _ _ us hl => match us, hl with | [_, _], _ => rfl⟩
  have F30 := fun_mk (st := s_times_) l30 c30 k30
  have D30 : IsDef K mg "_law_times" s_times_ ["a", "b"] := ⟨_, _, F30, PySem.W.mg_of X G a30, F30.binds (ps := ["a", "b"]) fun _ _ _ _ _ _ us hl => match us, hl with | [_, _], _ => rfl⟩
  have F31 := fun_mk (st := s_total_) l31 c31 k31
  have D31 : IsDef K mg "_law_total" s_total_ ["numbers"] := ⟨_, _, F31, PySem.W.mg_of X G a31, F31.binds (ps := ["numbers"]) fun _ _ _ _ _ _ us hl => match us, hl with | [_], _ => rfl⟩
  have F32 := fun_mk (st := s_walk) l32 c32 k32
  have D32 : IsDef K mg "_law_walk" s_walk ["draws", "most"] := ⟨_, _, F32, PySem.W.mg_of X G a32, F32.binds (ps := ["draws", "most"]) fun _ _ _ _ _ _ us hl => match us, hl with | [_, _], _ => rfl⟩
  have F33 := fun_mk (st := s_means) l33 c33 k33
  have D33 : IsDef K mg "_law_means" s_means ["chain", "numbers"] := ⟨_, _, F33, PySem.W.mg_of X G a33, F33.binds (ps := ["chain", "numbers"]) fun _ _ _ _ _ _ us hl => match us, hl with | [_, _], _ => rfl⟩
  have F34 := fun_mk (st := s_two) l34 c34 k34
  have D34 : IsDef K mg "_law_two" s_two ["draws"] := ⟨_, _, F34, PySem.W.mg_of X G a34, F34.binds (ps := ["draws"]) fun _ _ _ _ _ _ us hl => match us, hl with | [_], _ => rfl⟩
  have F35 := fun_mk (st := s_ring) l35 c35 k35
  have D35 : IsDef K mg "_law_ring" s_ring ["a", "b"] := ⟨_, _, F35, PySem.W.mg_of X G a35, F35.binds (ps := ["a", "b"]) fun _ _ _ _ _ _ us hl => match us, hl with | [_, _], _ => rfl⟩
  have m_gcdB := PySem.W.mg_of X G hgcd
  have m_lcmB := PySem.W.mg_of X G hlcm
  have m_sorted := PySem.W.mg_none_of X G zsorted
  have m_MP := PySem.W.mg_of X G hMP
  have C1 : ConstT K mg "ZERO" (nD (0, 1)) := ⟨_, PySem.W.mg_of X G ac1, fun H => Dt.tuple (xs := [V.int 0, V.int 1]) (.inr ⟨_, _, _, lc1, rfl, rfl, by show 2 ≤ sizeLine; decide, .cons ⟨_, rfl⟩ (.cons ⟨_, rfl⟩ .nil)⟩) (DtA.cons (Dt.int 0) (DtA.one (Dt.int 1)))⟩
  have hu1 : ∀ H, Dt K H (.ref g1) (nD (0, 1)) := fun H => Dt.tuple (xs := [V.int 0, V.int 1]) (.inr ⟨_, _, _, lc1, rfl, rfl, by show 2 ≤ sizeLine; decide, .cons ⟨_, rfl⟩ (.cons ⟨_, rfl⟩ .nil)⟩) (DtA.cons (Dt.int 0) (DtA.one (Dt.int 1)))
  have C2 : ConstT K mg "ONE" (nD (1, 1)) := ⟨_, PySem.W.mg_of X G ac2, fun H => Dt.tuple (xs := [V.int 1, V.int 1]) (.inr ⟨_, _, _, lc2, rfl, rfl, by show 2 ≤ sizeLine; decide, .cons ⟨_, rfl⟩ (.cons ⟨_, rfl⟩ .nil)⟩) (DtA.cons (Dt.int 1) (DtA.one (Dt.int 1)))⟩
  have hu2 : ∀ H, Dt K H (.ref g2) (nD (1, 1)) := fun H => Dt.tuple (xs := [V.int 1, V.int 1]) (.inr ⟨_, _, _, lc2, rfl, rfl, by show 2 ≤ sizeLine; decide, .cons ⟨_, rfl⟩ (.cons ⟨_, rfl⟩ .nil)⟩) (DtA.cons (Dt.int 1) (DtA.one (Dt.int 1)))
  refine ⟨PySem.W.fnOf "law" "law" (defArgs s_law) (defBody s_law) (defScope s_law) .none kV36 dc36 pm36 an36 cd36 ct36, fun s v => .of_eq rfl, fun B _ _ => ?_⟩
  have Wl0 := has_lowest (P := l.prog) (w := w) (base := B) m_gcdB D1
  have Wd0 := has_common_denominator (P := l.prog) (w := w) (base := B) m_lcmB D2
  have Ww0 := has_whole_at (P := l.prog) (w := w) (base := B) D3
  have Wcl0 := has_cleared (P := l.prog) (w := w) (base := B) T D5
  have Wpl0 := has_plus D7 Wl0
  have Wti0 := has_times (P := l.prog) (w := w) (base := B) D8 m_gcdB
  have Wto0 := has_totR_o C1 D9 Wpl0
  have Osv := has_solvedS T D6 Wd0 Ww0 Wcl0 Wl0
  have Omn := has_mean_at_o D10 Wto0 Wti0
  have Osc := has_scale_of_o D11 Wd0
  have Oro := has_row_of_o T D12 Ww0
  have Ofi := has_filled_inS T hu2 D13 Osc Oro Wpl0 Omn Wti0 Osv
  have Otg := has_targets_of (P := l.prog) (w := w) (base := B) T D14
  have Orc := has_reached_from T m_sorted D15 Otg
  have Ogr := has_groups_of T D16 Orc
  have Opa := has_passing_places T D17 Ogr
  have Odv := has_divided D18 Wl0
  have Omi := has_minusR D19 Wl0
  have Omg := has_mean_in_group T C1 C2 D20 Ofi Wpl0 Omn Odv
  have Oga := has_gains_of_o (P := l.prog) (w := w) (base := B) D4
  have Olg := has_long_gains T C1 D21 Oga Ogr Omg Ofi Opa
  have Old := has_leads T C1 D22 Oga Ogr Omg Ofi Opa Olg Omi
  have Wlg := Olg.to fun _ _ _ _ => c_long
  have Wld := Old.to fun _ _ _ _ => c_lead
  have Wren := has__renamed (P := l.prog) (w := w) (base := B) D23
  have Wslw := has_slowed D24 T C1 C2 m_MP Wren
  have Wtur := has_in_turns D25 T m_MP Wren
  have Ug := has_gcdW (P := l.prog) (w := w) (base := B) T D27
  have Un := has_numberW D28 Ug
  have Unw := numberW_weak Un
  have Unk := Unw.to fun _ _ _ _ => c_num
  have Ud := has_draws (P := l.prog) (w := w) (base := B) T D26
  have Up0 := has_plusW D29 Un
  have Ut0 := has_timesW D30 Un
  have Uto0 := has_totW D31 Up0
  have Up := Up0.to fun _ _ _ _ => c_plusW
  have Ut := Ut0.to fun _ _ _ _ => c_timesW
  have Uwk := (has_walkS T D32 Unw).to fun _ _ _ _ => c_walkS
  have Ume := (has_meansW D33 Uto0 Ut0).to fun _ _ _ _ => c_lme
  have Utw := (has_two (P := l.prog) (w := w) (base := B) T D34).to fun _ _ _ _ => c_two
  have Urg := (has_ring (P := l.prog) (w := w) (base := B) D35).to fun _ _ _ _ => c_rg2
  exact ok_law (fun_mk (st := s_law) l36 c36 k36) Ud T Utw Urg Uwk Unk Up Ut Ume Wlg Wld Wslw Wtur
end Md

open PySem PySem.W PyProof.Rows in
set_option maxRecDepth 100000 in
set_option maxHeartbeats 0 in
theorem PySem.Challenge.cw_meanhold_k18_whole_chains_in_turns_holds : PySem.Challenge.rw_meanhold_k18_whole_chains_in_turns.Holds := by
  w_on; o_law; k_head; (case hw => w_witness2)
  k_fill
  refine Md.law_walk (l := PySem.Challenge.rw_meanhold_k18_whole_chains_in_turns) (k := 10) (sp := Md.spLaw) (x := "script") rfl rfl ⟨rfl, by decide, by decide⟩ (fun w h Y => PySem.W.kIn_of Y) ?F (fun K H a ns hl _ hS => ⟨a, ns, rfl, hS, hl, fun _ => rfl⟩)
  case F =>
    intro w mg fa h KX G hmg
    refine' Md.all_mk KX G hmg ?a1 ?l1 ?c1 ?k1 ?a2 ?l2 ?c2 ?k2 ?a3 ?l3 ?c3 ?k3 ?a4 ?l4 ?c4 ?k4 ?a5 ?l5 ?c5 ?k5 ?a6 ?l6 ?c6 ?k6 ?a7 ?l7 ?c7 ?k7 ?a8 ?l8 ?c8 ?k8 ?a9 ?l9 ?c9 ?k9 ?a10 ?l10 ?c10 ?k10 ?a11 ?l11 ?c11 ?k11 ?a12 ?l12 ?c12 ?k12 ?a13 ?l13 ?c13 ?k13 ?a14 ?l14 ?c14 ?k14 ?a15 ?l15 ?c15 ?k15 ?a16 ?l16 ?c16 ?k16 ?a17 ?l17 ?c17 ?k17 ?a18 ?l18 ?c18 ?k18 ?a19 ?l19 ?c19 ?k19 ?a20 ?l20 ?c20 ?k20 ?a21 ?l21 ?c21 ?k21 ?a22 ?l22 ?c22 ?k22 ?a23 ?l23 ?c23 ?k23 ?a24 ?l24 ?c24 ?k24 ?a25 ?l25 ?c25 ?k25 ?a26 ?l26 ?c26 ?k26 ?a27 ?l27 ?c27 ?k27 ?a28 ?l28 ?c28 ?k28 ?a29 ?l29 ?c29 ?k29 ?a30 ?l30 ?c30 ?k30 ?a31 ?l31 ?c31 ?k31 ?a32 ?l32 ?c32 ?k32 ?a33 ?l33 ?c33 ?k33 ?a34 ?l34 ?c34 ?k34 ?a35 ?l35 ?c35 ?k35 ?a36 ?l36 ?c36 ?k36 ?ac1 ?lc1 ?ac2 ?lc2 ?lt13 ?z_len ?z_int ?z_range ?z_abs ?z_repr ?z_list ?z_isinstance ?z_sum ?z_zip ?z_bool ?z_enumerate ?z_tuple ?z_str ?z_all ?z_any ?z_min ?z_max ?hgcd ?hlcm ?zsorted ?hMP
    (case a1 => k_is)
    (case l1 => k_is)
    (case c1 => k_is)
    (case k1 => k_is)
    (case a2 => k_is)
    (case l2 => k_is)
    (case c2 => k_is)
    (case k2 => k_is)
    (case a3 => k_is)
    (case l3 => k_is)
    (case c3 => k_is)
    (case k3 => k_is)
    (case a4 => k_is)
    (case l4 => k_is)
    (case c4 => k_is)
    (case k4 => k_is)
    (case a5 => k_is)
    (case l5 => k_is)
    (case c5 => k_is)
    (case k5 => k_is)
    (case a6 => k_is)
    (case l6 => k_is)
    (case c6 => k_is)
    (case k6 => k_is)
    (case a7 => k_is)
    (case l7 => k_is)
    (case c7 => k_is)
    (case k7 => k_is)
    (case a8 => k_is)
    (case l8 => k_is)
    (case c8 => k_is)
    (case k8 => k_is)
    (case a9 => k_is)
    (case l9 => k_is)
    (case c9 => k_is)
    (case k9 => k_is)
    (case a10 => k_is)
    (case l10 => k_is)
    (case c10 => k_is)
    (case k10 => k_is)
    (case a11 => k_is)
    (case l11 => k_is)
    (case c11 => k_is)
    (case k11 => k_is)
    (case a12 => k_is)
    (case l12 => k_is)
    (case c12 => k_is)
    (case k12 => k_is)
    (case a13 => k_is)
    (case l13 => k_is)
    (case c13 => k_is)
    (case k13 => k_is)
    (case a14 => k_is)
    (case l14 => k_is)
    (case c14 => k_is)
    (case k14 => k_is)
    (case a15 => k_is)
    (case l15 => k_is)
    (case c15 => k_is)
    (case k15 => k_is)
    (case a16 => k_is)
    (case l16 => k_is)
    (case c16 => k_is)
    (case k16 => k_is)
    (case a17 => k_is)
    (case l17 => k_is)
    (case c17 => k_is)
    (case k17 => k_is)
    (case a18 => k_is)
    (case l18 => k_is)
    (case c18 => k_is)
    (case k18 => k_is)
    (case a19 => k_is)
    (case l19 => k_is)
    (case c19 => k_is)
    (case k19 => k_is)
    (case a20 => k_is)
    (case l20 => k_is)
    (case c20 => k_is)
    (case k20 => k_is)
    (case a21 => k_is)
    (case l21 => k_is)
    (case c21 => k_is)
    (case k21 => k_is)
    (case a22 => k_is)
    (case l22 => k_is)
    (case c22 => k_is)
    (case k22 => k_is)
    (case a23 => k_is)
    (case l23 => k_is)
    (case c23 => k_is)
    (case k23 => k_is)
    (case a24 => k_is)
    (case l24 => k_is)
    (case c24 => k_is)
    (case k24 => k_is)
    (case a25 => k_is)
    (case l25 => k_is)
    (case c25 => k_is)
    (case k25 => k_is)
    (case a26 => k_is)
    (case l26 => k_is)
    (case c26 => k_is)
    (case k26 => k_is)
    (case a27 => k_is)
    (case l27 => k_is)
    (case c27 => k_is)
    (case k27 => k_is)
    (case a28 => k_is)
    (case l28 => k_is)
    (case c28 => k_is)
    (case k28 => k_is)
    (case a29 => k_is)
    (case l29 => k_is)
    (case c29 => k_is)
    (case k29 => k_is)
    (case a30 => k_is)
    (case l30 => k_is)
    (case c30 => k_is)
    (case k30 => k_is)
    (case a31 => k_is)
    (case l31 => k_is)
    (case c31 => k_is)
    (case k31 => k_is)
    (case a32 => k_is)
    (case l32 => k_is)
    (case c32 => k_is)
    (case k32 => k_is)
    (case a33 => k_is)
    (case l33 => k_is)
    (case c33 => k_is)
    (case k33 => k_is)
    (case a34 => k_is)
    (case l34 => k_is)
    (case c34 => k_is)
    (case k34 => k_is)
    (case a35 => k_is)
    (case l35 => k_is)
    (case c35 => k_is)
    (case k35 => k_is)
    (case a36 => k_is)
    (case l36 => k_is)
    (case c36 => k_is)
    (case k36 => k_is)
    (case ac1 => k_is)
    (case lc1 => k_is)
    (case ac2 => k_is)
    (case lc2 => k_is)
    (case lt13 => k_is)
    (case z_len => k_is)
    (case z_int => k_is)
    (case z_range => k_is)
    (case z_abs => k_is)
    (case z_repr => k_is)
    (case z_list => k_is)
    (case z_isinstance => k_is)
    (case z_sum => k_is)
    (case z_zip => k_is)
    (case z_bool => k_is)
    (case z_enumerate => k_is)
    (case z_tuple => k_is)
    (case z_str => k_is)
    (case z_all => k_is)
    (case z_any => k_is)
    (case z_min => k_is)
    (case z_max => k_is)
    (case hgcd => k_is)
    (case hlcm => k_is)
    (case zsorted => k_is)
    (case hMP => k_is)
