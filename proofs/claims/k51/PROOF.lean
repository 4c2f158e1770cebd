import PyProof.Rows.All
import Wide.All
import OpenK.AllK
import Wide.FinOn
import HandS.ForMost
import HandS.ForExc
import HandS.Evl
import HandS.Steps
import HandS.Wide
import HandS.Walk
import HandS.Gcd
import HandS.IsInst
import HandS.ExcInit
import HandS.ExcField
import HandS.ExcIs
import KE.KExcIs
import HandS.TryMany
import HandS.Small
import HandS.Style
import KE.KMathG
import HandS.SortInts
import HandS.Defaults
import HandS.Flow
import HandS.Deep
import HandS.HeadHook3
import HandS.Conv
import KE.GoesEnum
import KE.GoesMore
import PySem.Challenge.RW_meanhold_k51_brackets
set_option Elab.async false
set_option maxRecDepth 100000
set_option maxHeartbeats 2000000
namespace Md
open PySem L2 Evl
mutual
/-- the value v is the datum d: lists are tracked, tuples stand -/
inductive Dt (K : PySem.W.Frag) (H : Hp) : V → PyData → Prop
  | none : Dt K H V.non PyData.none
  | bool (b : Bool) : Dt K H (V.bl b) (PyData.bool b)
  | int (i : Int) : Dt K H (V.int i) (PyData.int i)
  | str (x : Str) : Dt K H (V.str x) (PyData.str x)
  | list {a : Addr} {xs : List V} {ds : List PyData} : H a = some (HO.lst xs) → DtA K H xs ds → Dt K H (V.ref a) (PyData.list ds)
  | tuple {a : Addr} {xs : List V} {ds : List PyData} : SqT K H a xs → DtA K H xs ds → Dt K H (V.ref a) (PyData.tuple ds)
inductive DtA (K : PySem.W.Frag) (H : Hp) : List V → List PyData → Prop
  | nil : DtA K H [] []
  | cons {v : V} {vs : List V} {d : PyData} {ds : List PyData} : Dt K H v d → DtA K H vs ds → DtA K H (v :: vs) (d :: ds)
end
section
variable {K : PySem.W.Frag} {H H' : Hp}
mutual
theorem Dt.mono (e : Ex H H') : ∀ (d : PyData) (v : V), Dt K H v d → Dt K H' v d
  | .none, _, h => by cases h; exact Dt.none
  | .bool b, _, h => by cases h; exact Dt.bool b
  | .int i, _, h => by cases h; exact Dt.int i
  | .str x, _, h => by cases h; exact Dt.str x
  | .list ds, _, h => by
    cases h with
    | list h1 h2 => exact Dt.list (e _ _ h1) (DtA.mono e ds _ h2)
  | .tuple ds, _, h => by
    cases h with
    | tuple h1 h2 => exact Dt.tuple (ex_t e h1) (DtA.mono e ds _ h2)
  | .dict _, _, h => by cases h
theorem DtA.mono (e : Ex H H') : ∀ (ds : List PyData) (vs : List V), DtA K H vs ds → DtA K H' vs ds
  | [], _, h => by cases h; exact DtA.nil
  | d :: ds, _, h => by
    cases h with
    | cons h1 h2 => exact DtA.cons (Dt.mono e d _ h1) (DtA.mono e ds _ h2)
end
theorem Dt.up {v : V} {d : PyData} (h : Dt K H v d) (e : Ex H H') : Dt K H' v d := Dt.mono e d v h
theorem DtA.up {vs : List V} {ds : List PyData} (h : DtA K H vs ds) (e : Ex H H') : DtA K H' vs ds := DtA.mono e ds vs h
mutual
theorem Dt.dp : ∀ (d : PyData) (v : V), Dt K H v d → Dp K H v d
  | .none, _, h => by cases h; exact Dp.non
  | .bool b, _, h => by cases h; exact Dp.bl b
  | .int i, _, h => by cases h; exact Dp.int i
  | .str x, _, h => by cases h; exact Dp.str x
  | .list ds, _, h => by
    cases h with
    | list h1 h2 => exact Dp.lst (SqL.of h1) (DtA.dp ds _ h2)
  | .tuple ds, _, h => by
    cases h with
    | tuple h1 h2 => exact Dp.tup h1 (DtA.dp ds _ h2)
  | .dict _, _, h => by cases h
theorem DtA.dp : ∀ (ds : List PyData) (vs : List V), DtA K H vs ds → DpAll K H vs ds
  | [], _, h => by cases h; exact DpAll.nil
  | d :: ds, _, h => by
    cases h with
    | cons h1 h2 => exact DpAll.cons (Dt.dp d _ h1) (DtA.dp ds _ h2)
end
theorem DtA.length : ∀ {ds : List PyData} {vs : List V}, DtA K H vs ds → vs.length = ds.length
  | [], _, h => by cases h; rfl
  | _ :: ds, _, h => by
    cases h with
    | cons _ h2 => exact congrArg Nat.succ (DtA.length h2)
theorem DtA.get : ∀ {ds : List PyData} {vs : List V} {i : Nat} {d : PyData}, DtA K H vs ds → ds[i]? = some d → ∃ v, vs[i]? = some v ∧ Dt K H v d
  | [], _, _, _, _, e => by simp at e
  | d :: ds, _, 0, _, h, e => by
    cases h with
    | cons h1 _ =>
      simp only [List.getElem?_cons_zero, Option.some.injEq] at e
      subst e
      exact ⟨_, rfl, h1⟩
  | _ :: ds, _, i + 1, _, h, e => by
    cases h with
    | cons _ h2 =>
      simp only [List.getElem?_cons_succ] at e
      obtain ⟨v, e1, h3⟩ := DtA.get h2 e
      exact ⟨v, by simpa using e1, h3⟩
theorem DtA.getV : ∀ {ds : List PyData} {vs : List V} {i : Nat} {v : V}, DtA K H vs ds → vs[i]? = some v → ∃ d, ds[i]? = some d ∧ Dt K H v d
  | [], _, _, _, h, e => by cases h; simp at e
  | d :: ds, _, 0, _, h, e => by
    cases h with
    | cons h1 _ =>
      simp only [List.getElem?_cons_zero, Option.some.injEq] at e
      subst e
      exact ⟨_, rfl, h1⟩
  | _ :: ds, _, i + 1, _, h, e => by
    cases h with
    | cons _ h2 =>
      simp only [List.getElem?_cons_succ] at e
      obtain ⟨d, e1, h3⟩ := DtA.getV h2 e
      exact ⟨d, by simpa using e1, h3⟩
theorem DtA.atI {ds : List PyData} {vs : List V} {i : Int} {d : PyData} (h : DtA K H vs ds) (e : L2.atI ds i = some d) : ∃ v, L2.atI vs i = some v ∧ Dt K H v d := by
  unfold L2.atI at e ⊢
  rw [h.length]
  cases q : ixN ds.length i with
  | none => rw [q] at e; cases e
  | some j =>
    rw [q] at e
    exact h.get e
theorem DtA.append : ∀ {ds es : List PyData} {vs us : List V}, DtA K H vs ds → DtA K H us es → DtA K H (vs ++ us) (ds ++ es)
  | [], _, _, _, h, g => by cases h; exact g
  | _ :: ds, _, _, _, h, g => by
    cases h with
    | cons h1 h2 => exact DtA.cons h1 (DtA.append h2 g)
theorem DtA.take : ∀ {ds : List PyData} {vs : List V} (n : Nat), DtA K H vs ds → DtA K H (vs.take n) (ds.take n)
  | _, _, 0, _ => DtA.nil
  | [], _, n + 1, h => by cases h; exact DtA.nil
  | _ :: ds, _, n + 1, h => by
    cases h with
    | cons h1 h2 => exact DtA.cons h1 (DtA.take n h2)
theorem DtA.drop : ∀ {ds : List PyData} {vs : List V} (n : Nat), DtA K H vs ds → DtA K H (vs.drop n) (ds.drop n)
  | _, _, 0, h => h
  | [], _, n + 1, h => by cases h; exact DtA.nil
  | _ :: ds, _, n + 1, h => by
    cases h with
    | cons _ h2 => exact DtA.drop n h2
theorem DtA.one {v : V} {d : PyData} (h : Dt K H v d) : DtA K H [v] [d] := DtA.cons h DtA.nil
theorem DtA.ints : ∀ ns : List Int, DtA K H (ns.map V.int) (ns.map PyData.int)
  | [] => DtA.nil
  | n :: ns => DtA.cons (Dt.int n) (DtA.ints ns)
def cutD (ds : List PyData) (lo hi : Option Int) : List PyData := (ds.drop (HT.sIx ds.length 0 lo)).take (HT.sIx ds.length ds.length hi - HT.sIx ds.length 0 lo)
theorem DtA.cut {ds : List PyData} {vs : List V} (h : DtA K H vs ds) (lo hi : Option Int) : DtA K H (cutV vs lo hi) (cutD ds lo hi) := by
  unfold cutV cutD
  rw [h.length]
  exact (h.drop _).take _
theorem Dt.listI {v : V} {ds : List PyData} (h : Dt K H v (.list ds)) : ∃ a xs, v = V.ref a ∧ H a = some (HO.lst xs) ∧ DtA K H xs ds := by
  cases h with
  | list h1 h2 => exact ⟨_, _, rfl, h1, h2⟩
theorem Dt.tupleI {v : V} {ds : List PyData} (h : Dt K H v (.tuple ds)) : ∃ a xs, v = V.ref a ∧ SqT K H a xs ∧ DtA K H xs ds := by
  cases h with
  | tuple h1 h2 => exact ⟨_, _, rfl, h1, h2⟩
theorem Dt.intI {v : V} {i : Int} (h : Dt K H v (.int i)) : v = V.int i := by cases h; rfl
theorem Dt.strI {v : V} {x : Str} (h : Dt K H v (.str x)) : v = V.str x := by cases h; rfl
theorem Dt.boolI {v : V} {b : Bool} (h : Dt K H v (.bool b)) : v = V.bl b := by cases h; rfl
theorem Dt.noneI {v : V} (h : Dt K H v .none) : v = V.non := by cases h; rfl
end
structure Gr (b h b' h' : Hp) : Prop where
  gb : Ex b b'
  gh : Ex h h'
  gi : Ex b' h'
  gf : ∀ a, b a = none → h a ≠ none → b' a = none
theorem Gr.refl {b h : Hp} (e : Ex b h) : Gr b h b h := ⟨Ex.refl b, Ex.refl h, e, fun _ q _ => q⟩
theorem Gr.trans {b h b1 h1 b2 h2 : Hp} (x : Gr b h b1 h1) (y : Gr b1 h1 b2 h2) : Gr b h b2 h2 := ⟨x.gb.trans y.gb, x.gh.trans y.gh, y.gi, fun a q n => y.gf a (x.gf a q n) fun z => by
  cases e : h a with
  | none => exact n e
  | some o =>
    rw [x.gh a o e] at z
    cases z⟩
theorem Gr.stay {b h h' : Hp} (e : Ex b h) (e' : Ex h h') : Gr b h b h' := ⟨Ex.refl b, e', e.trans e', fun _ q _ => q⟩
theorem Gr.new {b h : Hp} {p : Addr} {o : HO} (e : Ex b h) (n : h p = none) : Gr b h (upd b p o) (upd h p o) := by
  have nb : b p = none := by
    cases q : b p with
    | none => rfl
    | some u =>
      rw [e p u q] at n
      cases n
  refine ⟨Ex.new nb, Ex.new n, fun a u q => ?_, fun a q z => ?_⟩
  · by_cases ha : a = p
    · subst ha
      rw [upd_same] at q ⊢
      exact q
    · rw [upd_ne ha] at q ⊢
      exact e a u q
  · rw [upd_ne (fun ha => z (by rw [ha]; exact n))]
    exact q
theorem Gr.hid {b h : Hp} {p : Addr} {o : HO} (e : Ex b h) (n : h p = none) : Gr b h b (upd h p o) := Gr.stay e (Ex.new n)
theorem Gr.mut {b0 h0 b h : Hp} {p : Addr} {o : HO} (g : Gr b0 h0 b h) (n : h0 p = none) (nb : b p = none) : Gr b0 h0 b (upd h p o) := ⟨g.gb, Ex.mut g.gh n, Ex.mut g.gi nb, g.gf⟩
theorem Gr.tell {b0 h0 b h : Hp} {p : Addr} {o : HO} (g : Gr b0 h0 b h) (n : h0 p = none) (nb : b p = none) (hp : h p = some o) : Gr b0 h0 (upd b p o) h := by
  refine ⟨g.gb.trans (Ex.new nb), g.gh, fun a u q => ?_, fun a q z => ?_⟩
  · by_cases ha : a = p
    · subst ha
      rw [upd_same] at q
      rw [hp]
      exact q
    · rw [upd_ne ha] at q
      exact g.gi a u q
  · rw [upd_ne (fun ha => z (by rw [ha]; exact n))]
    exact g.gf a q z
theorem none_of {b h : Hp} (e : Ex b h) {p : Addr} (n : h p = none) : b p = none := fresh_back e n
def ED (K : PySem.W.Frag) (te : TE) (σ : L2.St) (b : Hp) (d : PyData) : Prop := ∀ h, Ex b h → ∀ Q : VK, (∀ v b' h', Gr b h b' h' → Dt K b' v d → Q v h') → te σ h Q
def EDA (K : PySem.W.Frag) (ta : TA) (σ : L2.St) (b : Hp) (ds : List PyData) : Prop := ∀ h, Ex b h → ∀ Q : List V → Hp → Prop, (∀ vs b' h', Gr b h b' h' → DtA K b' vs ds → Q vs h') → ta σ h Q
section
variable {K : PySem.W.Frag} {σ : L2.St} {b b' h h' : Hp} {te ta tb : TE} {ts tr : TA} {d d' : PyData} {ds : List PyData} {v : V} {i : Int}
theorem Gr.back {b1 b2 h1 : Hp} (e : Ex b b1) (g : Gr b h b2 h1) (e1 : Ex b1 h) : ∃ b3, Gr b1 h b3 h1 ∧ Ex b2 b3 ∧ ∀ a, b2 a = none → b1 a = none → b3 a = none := by
  refine ⟨fun a => match b2 a with | some o => some o | none => b1 a, ⟨fun a o q => ?_, g.gh, fun a o q => ?_, fun a q n => ?_⟩, fun a o q => ?_, fun a z1 z2 => by simp only [z1, z2]⟩
  · cases z : b2 a with
    | none => simpa [z] using q
    | some u =>
      have h1 := g.gi a u z
      have h2 := g.gh a o (e1 a o q)
      rw [h1] at h2
      simp [z, h2]
  · cases z : b2 a with
    | none =>
      simp only [z] at q
      exact g.gh a o (e1 a o q)
    | some u =>
      simp only [z] at q
      rw [← q]
      exact g.gi a u z
  · have z : b2 a = none := g.gf a (fresh_back e q) n
    simp only [z]
    exact q
  · simp only [q]
theorem ED.up (x : ED K te σ b d) (e : Ex b b') : ED K te σ b' d := fun h e1 _ q => x h (e.trans e1) _ fun v b2 h2 g hv => by
  obtain ⟨b3, g3, e3, _⟩ := g.back e e1
  exact q v b3 h2 g3 (hv.up e3)
theorem EDA.up (x : EDA K ts σ b ds) (e : Ex b b') : EDA K ts σ b' ds := fun h e1 _ q => x h (e.trans e1) _ fun v b2 h2 g hv => by
  obtain ⟨b3, g3, e3, _⟩ := g.back e e1
  exact q v b3 h2 g3 (hv.up e3)
theorem ed_var {k : Nat} (hs : σ[k]? = some (some v)) (hd : Dt K b v d) : ED K (tVar k) σ b d := fun h e _ q => ⟨v, hs, q v b h (Gr.refl e) hd⟩
theorem ed_val (hd : Dt K b v d) (he : Ev te σ b v) : ED K te σ b d := fun h e _ q => he h e _ fun h2 e2 => q v b h2 (Gr.stay e e2) hd
theorem ed_of (x : Ev te σ b v) (hd : ∀ H2, Dt K H2 v d) : ED K te σ b d := fun h e _ q => x h e _ fun h2 e2 => q v b h2 (Gr.stay e e2) (hd b)
theorem ed_int (x : Ev te σ b (.int i)) : ED K te σ b (.int i) := ed_of x fun _ => Dt.int i
theorem ed_str {z : Str} (x : Ev te σ b (.str z)) : ED K te σ b (.str z) := ed_of x fun _ => Dt.str z
theorem ed_bool {k : Bool} (x : Ev te σ b (.bl k)) : ED K te σ b (.bool k) := ed_of x fun _ => Dt.bool k
theorem ev_int (x : ED K te σ b (.int i)) : Ev te σ b (.int i) := fun h e _ q => x h e _ fun v b2 h2 g hd => by
  rw [hd.intI]
  exact q h2 g.gh
theorem ed_ixL (ha : ED K ta σ b (.list ds)) (hb : Ev tb σ b (.int i)) (hi : L2.atI ds i = some d) : ED K (tOp (rIxL K) ta tb) σ b d := fun h e _ q => ha h e _ fun x b2 h2 g2 hx => hb h2 (e.trans g2.gh) _ fun h3 e3 => by
  obtain ⟨a, xs, rfl, k1, k2⟩ := hx.listI
  obtain ⟨v, hv, hd⟩ := k2.atI hi
  exact ⟨a, xs, i, v, rfl, rfl, sq_of (e3 _ _ (g2.gi _ _ k1)), hv, q v b2 h3 (g2.trans (Gr.stay g2.gi e3)) hd⟩
theorem ed_ixT (ha : ED K ta σ b (.tuple ds)) (hb : Ev tb σ b (.int i)) (hi : L2.atI ds i = some d) : ED K (tOp (rIxT K) ta tb) σ b d := fun h e _ q => ha h e _ fun x b2 h2 g2 hx => hb h2 (e.trans g2.gh) _ fun h3 e3 => by
  obtain ⟨a, xs, rfl, k1, k2⟩ := hx.tupleI
  obtain ⟨v, hv, hd⟩ := k2.atI hi
  exact ⟨a, xs, i, v, rfl, rfl, ex_t e3 (ex_t g2.gi k1), hv, q v b2 h3 (g2.trans (Gr.stay g2.gi e3)) hd⟩
theorem eda_nil : EDA K tNil σ b [] := fun h e _ q => q [] b h (Gr.refl e) DtA.nil
theorem eda_cons (x : ED K te σ b d) (hr : EDA K tr σ b ds) : EDA K (tCons te tr) σ b (d :: ds) := fun h e _ q => x h e _ fun v b2 h2 g2 hv => hr.up g2.gb h2 g2.gi _ fun vs b3 h3 g3 hvs =>
  q (v :: vs) b3 h3 (g2.trans g3) (DtA.cons (hv.up g3.gb) hvs)
theorem ed_tup (x : EDA K ts σ b ds) (hl : ds.length ≤ 100000) : ED K (tTup ts) σ b (.tuple ds) := fun h e _ q => x h e _ fun vs b2 h2 g2 hvs =>
  ⟨sz_of (by rw [hvs.length]; exact hl), fun p hp => q (.ref p) _ _ (g2.trans (Gr.new g2.gi hp)) (Dt.tuple (st_of upd_same) (hvs.up (Ex.new (none_of g2.gi hp))))⟩
theorem ev_lenT (ha : ED K te σ b (.tuple ds)) : Ev (tCB (rLenS K) (tCons te tNil)) σ b (.int (ds.length : Int)) := fun h e _ q => ha h e _ fun v b2 h2 g2 hv => by
  obtain ⟨a, xs, rfl, h1, k2⟩ := hv.tupleI
  refine ⟨a, xs, rfl, .inr (ex_t g2.gi h1), ?_⟩
  rw [k2.length]
  exact q h2 g2.gh
def rInt1 : List V → Hp → VK → Prop := fun xs H Q => (∃ i, xs = [V.int i] ∧ Q (V.int i) H) ∨ ∃ k, xs = [V.bl k] ∧ Q (V.int (if k then 1 else 0)) H
theorem cr_int1 {X : Cx} : CallR X (.type "int") rInt1 := call_int1
theorem ev_int1 (x : Ev te σ b (.int i)) : Ev (tCB rInt1 (tCons te tNil)) σ b (.int i) := fun h e _ q => x h e _ fun h2 e2 => .inl ⟨i, rfl, q h2 e2⟩
def SpF (K : PySem.W.Frag) (n : Nat) (pre : List PyData → Prop) (f : List PyData → PyData → Prop) : Sp := fun vs h Q _ => ∃ b ds, Ex b h ∧ DtA K b vs ds ∧ ds.length = n ∧ pre ds ∧ ∀ v b' h' d, Gr b h b' h' → f ds d → Dt K b' v d → Q v h'
theorem SpF.len {n : Nat} {pre : List PyData → Prop} {f : List PyData → PyData → Prop} : ∀ vs H Q E, SpF K n pre f vs H Q E → vs.length = n := fun vs H Q E x => by
  obtain ⟨b, ds, _, h1, h2, _⟩ := x
  rw [h1.length, h2]
theorem ed_call {n : Nat} {pre : List PyData → Prop} {f : List PyData → PyData → Prop} {E : XK} (x : EDA K ts σ b ds) (hn : ds.length = n) (hp : pre ds) (he : ∀ e, f ds e → e = d) : ED K (tCall (SpF K n pre f) [] E ts) σ b d := fun h e _ q =>
  x h e _ fun vs b2 h2 g2 hvs => ⟨b2, ds, g2.gi, by rw [List.append_nil]; exact hvs, hn, hp, fun v b3 h3 d3 g3 hf hv => q v b3 h3 (g2.trans g3) (he d3 hf ▸ hv)⟩
def EX (K : PySem.W.Frag) (te : TE) (σ : L2.St) (b : Hp) (P : PyData → Prop) : Prop := ∀ h, Ex b h → ∀ Q : VK, (∀ v b' h' d, Gr b h b' h' → P d → Dt K b' v d → Q v h') → te σ h Q
theorem ED.ex (x : ED K te σ b d) : EX K te σ b (· = d) := fun h e _ q => x h e _ fun v b2 h2 g hv => q v b2 h2 d g rfl hv
end
def EN (K : PySem.W.Frag) (te : TE) (σ : L2.St) (b : Hp) (ds : List PyData) : Prop := ∀ h, Ex b h → ∀ Q : VK, (∀ p vs b' h', h p = none → b' p = none → Gr b h b' h' → h' p = some (.lst vs) → DtA K b' vs ds → Q (.ref p) h') → te σ h Q
section
variable {K : PySem.W.Frag} {σ : L2.St} {b b' : Hp} {te ta tb : TE} {ts tr : TA} {ds es : List PyData}
theorem EN.ed (x : EN K te σ b ds) : ED K te σ b (.list ds) := fun h e _ q => x h e _ fun p vs b2 h2 np nb g2 hp hv => q (.ref p) _ h2 (g2.tell np nb hp) (Dt.list upd_same (hv.up (Ex.new nb)))
theorem EN.up (x : EN K te σ b ds) (e : Ex b b') : EN K te σ b' ds := fun h e1 _ q => x h (e.trans e1) _ fun p us b2 h2 np nb g hp hv => by
  obtain ⟨b3, g3, e3, e4⟩ := g.back e e1
  exact q p us b3 h2 np (e4 p nb (none_of e1 np)) g3 hp (hv.up e3)
theorem gone {b h b1 h1 : Hp} (g : Gr b h b1 h1) {p : Addr} (n : h1 p = none) : h p = none := fresh_back g.gh n
theorem en_lst (x : EDA K ts σ b ds) (hl : ds.length ≤ 100000) : EN K (tLst ts) σ b ds := fun h e _ q => x h e _ fun vs b2 h2 g2 hvs =>
  ⟨sz_of (by rw [hvs.length]; exact hl), fun p hp => q p vs b2 _ (gone g2 hp) (none_of g2.gi hp) (g2.trans (Gr.hid g2.gi hp)) upd_same hvs⟩
theorem en_list (ha : ED K te σ b (.list ds)) : EN K (tCB (rListS K) (tCons te tNil)) σ b ds := fun h e _ q => ha h e _ fun v b2 h2 g2 hv => by
  obtain ⟨a, xs, rfl, k1, k2⟩ := hv.listI
  exact ⟨a, xs, rfl, .inl (sq_of (g2.gi _ _ k1)), fun l hl => q l xs b2 _ (gone g2 hl) (none_of g2.gi hl) (g2.trans (Gr.hid g2.gi hl)) upd_same k2⟩
theorem en_sl {tl th : TO} {lo hi : Option Int} (x : ED K te σ b (.list ds)) (h1 : EvO tl σ b lo) (h2 : EvO th σ b hi) : EN K (tSl (rSlL K) te tl th) σ b (cutD ds lo hi) := fun h e _ q =>
  x h e _ fun v b2 h2' g2 hv => h1 h2' (g2.gb.trans g2.gi) _ fun h3 e3 => h2 h3 ((g2.gb.trans g2.gi).trans e3) _ fun h4 e4 => by
    obtain ⟨a, xs, rfl, k1, k2⟩ := hv.listI
    have e24 := e3.trans e4
    have g4 := g2.trans (Gr.stay g2.gi e24)
    exact ⟨a, xs, rfl, sq_of (g4.gi _ _ k1), fun p hp => q p _ b2 _ (gone g4 hp) (none_of g4.gi hp) (g4.trans (Gr.hid g4.gi hp)) upd_same (k2.cut lo hi)⟩
end
def givenD (n : Nat) (f : Nat → Bool) (r : Nat → PyData) : List PyData := ((List.range n).filter f).map r
theorem givenD_yes {n : Nat} {f : Nat → Bool} {r : Nat → PyData} (h : f n = true) : givenD (n + 1) f r = givenD n f r ++ [r n] := by
  simp [givenD, List.range_succ, h]
theorem givenD_no {n : Nat} {f : Nat → Bool} {r : Nat → PyData} (h : f n = false) : givenD (n + 1) f r = givenD n f r := by
  simp [givenD, List.range_succ, h]
theorem givenD_len (n : Nat) (f : Nat → Bool) (r : Nat → PyData) : (givenD n f r).length ≤ n := by
  have h := List.length_filter_le f (List.range n)
  simpa [givenD] using h
theorem givenD_all (n : Nat) (r : Nat → PyData) : givenD n (fun _ => true) r = (List.range n).map r := by
  unfold givenD
  rw [List.filter_eq_self.mpr fun _ _ => rfl]
section
variable {K : PySem.W.Frag} {σ : L2.St} {b h1 : Hp} {te : TE} {t : TT} {g : TG} {vs : List Nat}
theorem et_yes : EvT tYes σ b true := fun h _ _ q => q h (Ex.refl h)
theorem lc_data {J : It} {n : Nat} {G : Hp → Prop} {Y : Nat → Hp → V → Hp → Prop} (w : Walk J n G Y) {Dl : Addr} {Qd : Hp → Prop} (f : Nat → Bool) (r : Nat → PyData) (eb : Ex b h1) (hD : h1 Dl = none) (hn : n ≤ 40000) (hG : ∀ h, Ex h1 h → G h)
    (hs : ∀ i x b2 h h', i < n → Ex h1 h → Gr b h1 b2 h → Y i h x h' → ∃ b3, Gr b2 h b3 h' ∧ ∀ Q : L2.St → Hp → Prop, (∀ σ2, wipe σ2 vs = wipe σ vs → EvT t σ2 b3 (f i) → (f i = true → ED K te σ2 b3 (r i)) → Q σ2 h') → g x (wipe σ vs) h' Q)
    (hd : ∀ b2 h us, Gr b h1 b2 h → b2 Dl = none → h Dl = some (.lst us) → DtA K b2 us (givenD n f r) → Qd h) :
    ∃ W : Nat → Nat → Hp → Prop, (∃ m, W 0 m (upd h1 Dl (.lst []))) ∧ ∀ i m H, W i m H →
      (J.stop i H ∧ Qd H) ∨ (J.go i H ∧ ∃ Nx : Hp → Prop, (∀ H', Nx H' → ∃ m', m' < m ∧ W (i + 1) m' H') ∧ ∀ x H', J.yld i H x H' → g x (wipe σ vs) H' fun σ2 H2 => wipe σ2 vs = wipe σ vs ∧ t σ2 H2 fun k H3 =>
        if k = true then te σ2 H3 fun y H4 => ∃ acc, H4 Dl = some (.lst acc) ∧ acc.length < sizeLine ∧ Nx (upd H4 Dl (.lst (acc ++ [y]))) else Nx H3) := by
  refine lc_it w (fun i h => ∃ b2 us, Gr b h1 b2 h ∧ b2 Dl = none ∧ h Dl = some (.lst us) ∧ DtA K b2 us (givenD i f r)) ?_ (fun i h _ p => ?_) ?_ ?_
  · exact ⟨b, [], Gr.hid eb hD, none_of eb hD, upd_same, DtA.nil⟩
  · obtain ⟨b2, us, g2, _⟩ := p
    exact hG h g2.gh
  · rintro i x h2 h3 hi ⟨b2, us, g2, nb, hu, hA⟩ hy
    obtain ⟨b3, g3, hq⟩ := hs i x b2 h2 h3 hi g2.gh g2 hy
    have nb3 : b3 Dl = none := g3.gf Dl nb (by rw [hu]; intro z; cases z)
    refine hq _ fun σ2 hw ht he => ⟨hw, ht h3 g3.gi _ fun h4 e4 => ?_⟩
    have g4 : Gr b3 h3 b3 h4 := Gr.stay g3.gi e4
    have hu4 : h4 Dl = some (.lst us) := e4 _ _ (g3.gh _ _ hu)
    cases hf : f i with
    | true =>
      show te σ2 h4 _
      refine he hf h4 g4.gi _ fun y b5 h5 g5 hy5 => ⟨us, g5.gh _ _ hu4, sz_lt (by have := givenD_len i f r; rw [hA.length]; omega), ?_⟩
      have nb5 : b5 Dl = none := g5.gf Dl nb3 (by rw [hu4]; intro z; cases z)
      refine ⟨b5, us ++ [y], ((g2.trans g3).trans (g4.trans g5)).mut hD nb5, nb5, upd_same, ?_⟩
      rw [givenD_yes hf]
      exact ((hA.up g3.gb).up g5.gb).append (DtA.one hy5)
    | false =>
      show ∃ b2 us, _
      refine ⟨b3, us, (g2.trans g3).trans g4, nb3, hu4, ?_⟩
      rw [givenD_no hf]
      exact hA.up g3.gb
  · rintro h ⟨b2, us, g2, nb, hu, hA⟩
    exact hd b2 h us g2 nb hu hA
end
end Md
set_option Elab.async false
set_option linter.all false
set_option maxRecDepth 100000
set_option maxHeartbeats 2000000
namespace Md
open PySem L2 Evl
section
variable {K : PySem.W.Frag} {σ : L2.St} {b h h0 : Hp} {te tl ta tb : TE} {t : TT} {g : TG} {vs : List Nat} {ds es : List PyData} {d d1 d2 d3 : PyData} {v : V} {Q : L2.St → Hp → Prop}
theorem g_two {i j : Nat} (x : Dt K b v (.tuple [d1, d2])) (e : Ex b h) (k : ∀ v1 v2, Dt K b v1 d1 → Dt K b v2 d2 → Q ((σ.set i (some v1)).set j (some v2)) h) : gTup K 2 (gCons (gName i) (gCons (gName j) gNil)) v σ h Q := by
  obtain ⟨a, xs, rfl, h1, h2⟩ := x.tupleI
  cases h2 with
  | cons q1 h2 =>
    cases h2 with
    | cons q2 h2 =>
      cases h2
      exact ⟨a, _, rfl, ex_t e h1, rfl, _, _, rfl, _, _, rfl, rfl, k _ _ q1 q2⟩
theorem g_three {i j l : Nat} (x : Dt K b v (.tuple [d1, d2, d3])) (e : Ex b h) (k : ∀ v1 v2 v3, Dt K b v1 d1 → Dt K b v2 d2 → Dt K b v3 d3 → Q (((σ.set i (some v1)).set j (some v2)).set l (some v3)) h) :
    gTup K 3 (gCons (gName i) (gCons (gName j) (gCons (gName l) gNil))) v σ h Q := by
  obtain ⟨a, xs, rfl, h1, h2⟩ := x.tupleI
  cases h2 with
  | cons q1 h2 =>
    cases h2 with
    | cons q2 h2 =>
      cases h2 with
      | cons q3 h2 =>
        cases h2
        exact ⟨a, _, rfl, ex_t e h1, rfl, _, _, rfl, _, _, rfl, _, _, rfl, rfl, k _ _ _ q1 q2 q3⟩
theorem en_lcG (x : ED K tl σ b (.list ds)) (hz : ds.length ≤ 40000) (f : Nat → Bool) (r : Nat → PyData)
    (hs : ∀ i d x b2 h2, Ex b b2 → Ex b2 h2 → ds[i]? = some d → Dt K b2 x d → ∀ Q : L2.St → Hp → Prop, (∀ σ2, wipe σ2 vs = wipe σ vs → EvT t σ2 b2 (f i) → (f i = true → ED K te σ2 b2 (r i)) → Q σ2 h2) → g x (wipe σ vs) h2 Q) :
    EN K (tLc (iList K tl) g t te vs) σ b (givenD ds.length f r) := fun h e _ q => x h e _ fun v b1 h1 g1 hv => by
  obtain ⟨a, xs, rfl, k1, k2⟩ := hv.listI
  refine ⟨a, rfl, ⟨xs, sq_of (g1.gi _ _ k1)⟩, fun Dl hD => ?_⟩
  rw [← k2.length] at hz q
  refine lc_data (walk_list (xs := xs)) f r g1.gi hD hz (fun h' e' => sq_of (e' _ _ (g1.gi _ _ k1))) (fun i y b2 h2 h3 hi e2 g2 hy => ?_) (fun b2 h2 us g2 nb hu hA => q Dl us b2 h2 (gone g1 hD) nb (g1.trans g2) hu hA)
  obtain ⟨rfl, hy⟩ := hy
  obtain ⟨dd, hdd, hx⟩ := k2.getV hy
  exact ⟨b2, Gr.refl g2.gi, fun Q k => hs i dd y b2 _ (g1.gb.trans g2.gb) g2.gi hdd (hx.up g2.gb) Q k⟩
theorem en_lcL {j : Nat} (x : ED K tl σ b (.list ds)) (hz : ds.length ≤ 40000) (f : Nat → Bool) (r : Nat → PyData) (hw : ∀ x, wipe ((wipe σ vs).set j (some x)) vs = wipe σ vs)
    (hs : ∀ i d x b2, Ex b b2 → ds[i]? = some d → Dt K b2 x d → EvT t ((wipe σ vs).set j (some x)) b2 (f i) ∧ (f i = true → ED K te ((wipe σ vs).set j (some x)) b2 (r i))) :
    EN K (tLc (iList K tl) (gName j) t te vs) σ b (givenD ds.length f r) :=
  en_lcG x hz f r fun i d x b2 h2 e _ hd hx Q k => k _ (hw x) (hs i d x b2 e hd hx).1 (hs i d x b2 e hd hx).2
theorem en_lcR {ts : TA} {j : Nat} {n : Int} (x : EvA ts σ b [.int n]) (hn : 0 ≤ n ∧ n ≤ 40000) (f : Nat → Bool) (r : Nat → PyData) (hw : ∀ x, wipe ((wipe σ vs).set j (some x)) vs = wipe σ vs)
    (hs : ∀ (i : Nat) b2, Ex b b2 → (i : Int) < n → EvT t ((wipe σ vs).set j (some (.int (i : Int)))) b2 (f i) ∧ (f i = true → ED K te ((wipe σ vs).set j (some (.int (i : Int)))) b2 (r i))) :
    EN K (tLc (iRng1 ts) (gName j) t te vs) σ b (givenD n.toNat f r) := fun h e _ q => x h e _ fun h1 e1 => by
  have g1 : Gr b h b h1 := Gr.stay e e1
  refine ⟨n, rfl, by omega, by omega, fun Dl hD => ?_⟩
  refine lc_data (walk_range (lo := 0) (n := n.toNat)) f r g1.gi hD (by omega) (fun _ _ => trivial) (fun i y b2 h2 h3 hi e2 g2 hy => ?_) (fun b2 h2 us g2 nb hu hA => q Dl us b2 h2 (gone g1 hD) nb (g1.trans g2) hu hA)
  obtain ⟨rfl, hy⟩ := hy
  have e0 : (0 : Int) + (i : Int) = (i : Int) := Int.zero_add _
  have hy' : y = V.int (i : Int) := by
    rw [hy]
    show V.int ((0 : Int) + (i : Int)) = V.int (i : Int)
    rw [e0]
  subst hy'
  refine ⟨b2, Gr.refl g2.gi, fun Q k => ?_⟩
  have z := hs i b2 g2.gb (by omega)
  exact k _ (hw _) z.1 z.2
theorem en_lcRX {ts : TA} {j : Nat} {n : Int} (x : EvA ts σ b [.int n]) (hn : 0 ≤ n ∧ n ≤ 40000) (R : Nat → PyData → Prop) (hw : ∀ x, wipe ((wipe σ vs).set j (some x)) vs = wipe σ vs)
    (hs : ∀ (i : Nat) b2, Ex b b2 → (i : Int) < n → EX K te ((wipe σ vs).set j (some (.int (i : Int)))) b2 (R i)) :
    EX K (tLc (iRng1 ts) (gName j) tYes te vs) σ b (fun d => ∃ acc, d = .list acc ∧ acc.length = n.toNat ∧ ∀ i e, acc[i]? = some e → R i e) := fun h e _ q => x h e _ fun h1 e1 => by
  have g1 : Gr b h b h1 := Gr.stay e e1
  refine ⟨n, rfl, by omega, by omega, fun Dl hD => ?_⟩
  refine lc_it (walk_range (lo := 0) (n := n.toNat)) (fun i h => ∃ b2 us acc, Gr b h1 b2 h ∧ b2 Dl = none ∧ h Dl = some (.lst us) ∧ DtA K b2 us acc ∧ acc.length = i ∧ ∀ k e, acc[k]? = some e → R k e) ?_ (fun _ _ _ _ => trivial) ?_ ?_
  · exact ⟨b, [], [], Gr.hid g1.gi hD, none_of g1.gi hD, upd_same, DtA.nil, rfl, fun k e z => by simp at z⟩
  · rintro i y h2 h3 hi ⟨b2, us, acc, g2, nb, hu, hA, hl, hR⟩ hy
    obtain ⟨rfl, hy⟩ := hy
    have e0 : (0 : Int) + (i : Int) = (i : Int) := Int.zero_add _
    have hy' : y = V.int (i : Int) := by
      rw [hy]
      show V.int ((0 : Int) + (i : Int)) = V.int (i : Int)
      rw [e0]
    subst hy'
    refine ⟨hw _, ?_⟩
    show te _ h3 _
    refine hs i b2 g2.gb (by omega) h3 g2.gi _ fun y b5 h5 d g5 hd hy5 => ⟨us, g5.gh _ _ hu, sz_lt (by rw [hA.length]; omega), ?_⟩
    have nb5 : b5 Dl = none := g5.gf Dl nb (by rw [hu]; intro z; cases z)
    refine ⟨b5, us ++ [y], acc ++ [d], (g2.trans g5).mut hD nb5, nb5, upd_same, (hA.up g5.gb).append (DtA.one hy5), by rw [List.length_append, hl]; rfl, fun k e hk => ?_⟩
    rcases Nat.lt_or_ge k acc.length with z | z
    · rw [List.getElem?_append_left z] at hk
      exact hR k e hk
    · rw [List.getElem?_append_right z] at hk
      have : k - acc.length = 0 := by
        rcases Nat.eq_zero_or_pos (k - acc.length) with w | w
        · exact w
        · rw [List.getElem?_eq_none (by rw [List.length_singleton]; omega)] at hk
          cases hk
      rw [this] at hk
      cases hk
      have : k = i := by omega
      rw [this]
      exact hd
  · rintro h2 ⟨b2, us, acc, g2, nb, hu, hA, hl, hR⟩
    exact q (.ref Dl) (upd b2 Dl (.lst us)) h2 (.list acc) ((g1.trans g2).tell (gone g1 hD) nb hu) ⟨acc, rfl, hl, hR⟩ (Dt.list upd_same (hA.up (Ex.new nb)))
theorem r_forL {D : Ends} {tu : TS} (x : ED K tl σ b (.list ds)) (e : Ex b h0)
    (k : ∀ a xs b1 h1, Gr b h0 b1 h1 → b1 a = some (.lst xs) → DtA K b1 xs ds → ∃ Pv : Nat → L2.St → Hp → Prop, Pv 0 σ h1 ∧ (∀ i σ' h', Pv i σ' h' → Ex b1 h') ∧
      (∀ i d x σ' h', ds[i]? = some d → Dt K b1 x d → Pv i σ' h' → g x σ' h' fun σ2 h2 => tu { D with nx := Pv (i + 1), ct := Pv (i + 1), bk := D.nx } σ2 h2) ∧ ∀ σ' h', Pv ds.length σ' h' → D.nx σ' h') :
    tFor (iList K tl) g tu D σ h0 := x h0 e _ fun v b1 h1 g1 hv => by
  obtain ⟨a, xs, rfl, k1, k2⟩ := hv.listI
  obtain ⟨Pv, p0, pe, ps, pd⟩ := k a xs b1 h1 g1 k1 k2
  refine ⟨a, rfl, ⟨xs, sq_of (g1.gi _ _ k1)⟩, for_list Pv p0 (fun i σ' h' _ p => sq_of (pe i σ' h' p _ _ k1)) (fun i y σ' h' hy p => ?_) (fun σ' h' p => pd σ' h' (by rw [← k2.length]; exact p))⟩
  obtain ⟨dd, hdd, hx⟩ := k2.getV hy
  exact ps i dd y σ' h' hdd hx p
variable {D : Ends} {tz tu tw : TS}
theorem r_set {i : Nat} (x : ED K te σ b d) (e : Ex b h) (k : ∀ v b' h', Gr b h b' h' → Dt K b' v d → tz D (σ.set i (some v)) h') : tSeq (tAsg te (gName i)) tz D σ h := x h e _ fun v b' h' g hv => k v b' h' g hv
theorem r_set1 {i : Nat} (x : ED K te σ b d) (e : Ex b h) (k : ∀ v b' h', Gr b h b' h' → Dt K b' v d → D.nx (σ.set i (some v)) h') : tAsg te (gName i) D σ h := x h e _ fun v b' h' g hv => k v b' h' g hv
theorem r_asg (x : ED K te σ b d) (e : Ex b h) (k : ∀ v b' h', Gr b h b' h' → Dt K b' v d → g v σ h' (tz D)) : tSeq (tAsg te g) tz D σ h := x h e _ fun v b' h' g hv => k v b' h' g hv
theorem r_sc {i : Nat} (x : Ev te σ b v) (e : Ex b h) (k : ∀ h', Gr b h b h' → tz D (σ.set i (some v)) h') : tSeq (tAsg te (gName i)) tz D σ h := x h e _ fun h' e' => k h' (Gr.stay e e')
theorem r_ret (x : ED K te σ b d) (e : Ex b h) (k : ∀ v b' h', Gr b h b' h' → Dt K b' v d → D.rt v h') : tRet te D σ h := x h e _ fun v b' h' g hv => k v b' h' g hv
theorem r_retX {P : PyData → Prop} (x : EX K te σ b P) (e : Ex b h) (k : ∀ v b' h' d, Gr b h b' h' → P d → Dt K b' v d → D.rt v h') : tRet te D σ h := x h e _ fun v b' h' d g hp hv => k v b' h' d g hp hv
theorem r_if {c : Bool} (x : EvT t σ b c) (e : Ex b h) (h1 : c = true → ∀ h', Gr b h b h' → tu { D with nx := tz D } σ h') (h2 : c = false → ∀ h', Gr b h b h' → tw { D with nx := tz D } σ h') : tSeq (tIfS t tu tw) tz D σ h :=
  q_if (x.mono e) (fun hc h' e' => h1 hc h' (Gr.stay e e')) (fun hc h' e' => h2 hc h' (Gr.stay e e'))
theorem r_if1 {c : Bool} (x : EvT t σ b c) (e : Ex b h) (h1 : c = true → ∀ h', Gr b h b h' → tu D σ h') (h2 : c = false → ∀ h', Gr b h b h' → tw D σ h') : tIfS t tu tw D σ h :=
  s_if (x.mono e) (fun hc h' e' => h1 hc h' (Gr.stay e e')) (fun hc h' e' => h2 hc h' (Gr.stay e e'))
end
section
variable {X : Cx}
def rRepr (K : PySem.W.Frag) : List V → Hp → VK → Prop := fun xs H Q => ∃ p d, xs = [.ref p] ∧ Dp K H (.ref p) d ∧ d.showable = true ∧ d.hasDict = false ∧ d.depth ≤ 60 ∧ d.shown.length ≤ sizeLine ∧ Q (.str d.shown) H
theorem cr_repr (hg : X.A.guards = some []) (hu : X.A.units + 64 < cLine) : CallR X (.builtin "repr") (rRepr X.K) := by
  intro pins s σ H xs us Q I r x
  obtain ⟨p, d, rfl, hd, h1, h2, h3, h4, q⟩ := x
  obtain ⟨u, rfl, ru⟩ := vals1 r
  obtain rfl : u = Value.ref p := ru
  obtain ⟨as, hr⟩ := Dp.reads I d _ _ hd rfl
  exact PySem.repr_of_reads' hr h1 (PySem.PyData.noDict_hsm h2) hg (by omega) (fun _ _ e => e) (fun h' u tk hk => ⟨.str _, H, I.kept (t' := tk) hk, ⟨_, rfl⟩, q⟩) h4
end
section
variable {X : Cx} {K : PySem.W.Frag} {tg e e2 : Expr} {te tl ta : TE} {ts : TA} {pos p tpos : Pos}
theorem ix_listK (h : X.K = K) : IxR X (rIxL K) := h ▸ ix_list
theorem ix_tupK (h : X.K = K) : IxR X (rIxT K) := h ▸ ix_tup
theorem sl_listK (h : X.K = K) : SlR X (rSlL K) := h ▸ sl_list
theorem len_K (h : X.K = K) : CallR X (.builtin "len") (rLenS K) := h ▸ call_len_seq
theorem list_K (h : X.K = K) : CallR X (.type "list") (rListS K) := h ▸ call_list_of
theorem sum_K (hc : X.calm = true) (h : X.K = K) : CallR X (.builtin "sum") (rSum K) := h ▸ cr_sum hc
theorem all_K (hc : X.calm = true) (h : X.K = K) : CallR X (.builtin "all") (rAll K) := h ▸ cr_all hc
theorem min_K (hc : X.calm = true) (h : X.K = K) : CallR X (.builtin "min") (rMin K) := h ▸ cr_min hc
theorem max_K (hc : X.calm = true) (h : X.K = K) : CallR X (.builtin "max") (rMax K) := h ▸ cr_max hc
theorem isi_K (h : X.K = K) : CallR X (.builtin "isinstance") (rIsi K) := h ▸ call_isi
theorem isiT_K (h : X.K = K) : CallR X (.builtin "isinstance") (rIsiT K) := h ▸ call_isiT
theorem repr_K (hg : X.A.guards = some []) (hu : X.A.units + 64 < cLine) (h : X.K = K) : CallR X (.builtin "repr") (rRepr K) := h ▸ cr_repr hg hu
theorem neD_K (hu : X.A.units + 64 < cLine) (h : X.K = K) : OpR X (compareOp .NotEq) (rNeD K) := h ▸ op_neD hu
theorem pi_listK (h : X.K = K) (hl : PE X e tl) : PI X tg e (iList K tl) := h ▸ pi_list hl
theorem pg_tupK {es : List Expr} {k : Nat} {t : TGs} {n : Nat} (h : X.K = K) (hc : X.calm = true) (ht : PGs X es t) (hn : (assignEach es X.env).length = n := by rfl) (hst : (assignEach es X.env).findIdx? (·.1) = none := by rfl) :
    PG X (.Tuple es k pos) (gTup K n t) := h ▸ pg_tup hc ht hn hst
theorem pi_zipK {elts : List Expr} {kk : Nat} (h : X.K = K) (hg : Gl X "zip") (hm : X.mg "zip" = none) (ha : PA X [e, e2] ts) (hs : starEach [e, e2] X.env = (false, eval e X.env) :: starEach [e2] X.env := by rfl) (hpl : (backTo pos (starEach [e2] X.env)).any (·.1) = false := by rfl) :
    PI X (.Tuple elts kk tpos) (.Call (.Name "zip" p) [e, e2] [] pos) (iZip K ts) := h ▸ pi_zip hg hm ha hs hpl
theorem pe_appK {o : Expr} {to : TE} {apos cpos : Pos} (h : X.K = K) (ho : PE X o to) (ha : PA X [e] ts) (hbase : attributeBase o "append" X.env (eval o X.env) = eval o X.env := by rfl)
    (hfew : ((backTo cpos (starEach [e] X.env)).all (fun x => !x.1) && (backToKw cpos (keywordEach [] X.env)).all (fun x => x.1.isSome) && decide ([e].length + ([] : List Keyword).length + (if ([] : List Keyword).isEmpty then 0 else 1) < 30)) = true := by rfl)
    (hline : (apos.endLine == cpos.line) = true := by rfl) (hs : starEach [e] X.env = (false, eval e X.env) :: starEach [] X.env := by rfl) (hp : (backTo cpos (starEach [] X.env)).any (·.1) = false := by rfl) :
    PE X (.Call (.Attribute o "append" apos) [e] [] cpos) (tBM K "list" rAppend to ts) :=
  h ▸ pe_bm PySem.F.plainAttrs_list PySem.F.slot_list_append PySem.F.type_list_append mt_append ho ha hbase hfew hline hs hp
end
end Md
set_option Elab.async false
set_option linter.all false
set_option maxRecDepth 100000
set_option maxHeartbeats 2000000
namespace Md
open PySem L2 Evl
theorem mod_twice {x y : Nat} (h : y ≤ x) (h0 : 0 < y) : x % y * 2 ≤ x := by
  have h1 := Nat.mod_lt x h0
  have h2 := Nat.div_add_mod x y
  have h3 : 1 ≤ x / y := (Nat.le_div_iff_mul_le h0).mpr (by omega)
  have h4 : y * 1 ≤ y * (x / y) := Nat.mul_le_mul_left y h3
  omega
def num (n d : Int) : Int × Int := ((if d < 0 then -n else n) / ((Nat.gcd n.natAbs d.natAbs : Nat) : Int), (if d < 0 then -d else d) / ((Nat.gcd n.natAbs d.natAbs : Nat) : Int))
def nD (p : Int × Int) : PyData := .tuple [.int p.1, .int p.2]
section
variable {K : PySem.W.Frag} {σ : L2.St} {b h : Hp} {te : TE} {i : Int}
def rAbs : List V → Hp → VK → Prop := fun xs H Q => ∃ i, xs = [V.int i] ∧ Q (V.int (if i < 0 then -i else i)) H
theorem cr_abs {X : Cx} : CallR X (.builtin "abs") rAbs := call_abs
theorem ev_abs (x : Ev te σ b (.int i)) : Ev (tCB rAbs (tCons te tNil)) σ b (.int (i.natAbs : Int)) := fun h e _ q => x h e _ fun h2 e2 => ⟨i, rfl, by
  have e3 : (if i < 0 then -i else i) = (i.natAbs : Int) := by split <;> omega
  rw [e3]
  exact q h2 e2⟩
end
structure Bt (mg : Str → Option Value) : Prop where
  len : mg "len" = none
  int : mg "int" = none
  range : mg "range" = none
  abs : mg "abs" = none
  repr : mg "repr" = none
  list : mg "list" = none
  isinstance : mg "isinstance" = none
  sum : mg "sum" = none
  zip : mg "zip" = none
  bool : mg "bool" = none
  enumerate : mg "enumerate" = none
  tuple : mg "tuple" = none
  str : mg "str" = none
  all : mg "all" = none
  any : mg "any" = none
  min : mg "min" = none
  max : mg "max" = none
def IsDef (K : PySem.W.Frag) (mg : Str → Option Value) (x : Str) (st : Stmt) (ps : List Str) : Prop := ∃ f fd, Fun K x x st f fd ∧ mg x = some (.ref f) ∧ Binds K fd ps []
def Has (P : Program) (w : World) (K : PySem.W.Frag) (mg : Str → Option Value) (base : Heap) (k : Nat) (x : Str) (ps : List Str) (sp : Sp) : Prop :=
  ∃ f fd, FnOk P w K mg base CX0 k f fd ps sp ∧ mg x = some (.ref f) ∧ PySem.W.keepIn K (.ref f) = true ∧ Binds K fd ps []
def spDraws (K : PySem.W.Frag) : Sp := fun vs h Q _ => ∃ (b : Hp) (a : Addr) (ns : List Int) (n : Nat), vs = [.ref a, .int (n : Int)] ∧ Ex b h ∧ SqL K b a (ns.map V.int) ∧ ns.length ≤ 63 ∧ n ≤ 1000 ∧
  ∀ v b' h' (ds : List Int), Gr b h b' h' → ds.length = n → (∀ d ∈ ds, 0 ≤ d ∧ d < 1000) → Dt K b' v (.list (ds.map PyData.int)) → Q v h'
def spNumber (K : PySem.W.Frag) : Sp := SpF K 2 (fun ds => ∃ n d : Int, ds = [.int n, .int d] ∧ d ≠ 0 ∧ n.natAbs < 2 ^ 1900 ∧ d.natAbs < 2 ^ 1900) (fun ds r => ∀ n d : Int, ds = [.int n, .int d] → r = nD (num n d))
section
variable {K : PySem.W.Frag} {b : Hp} {vs : List V}
theorem DtA.i1 {x : Int} (h : DtA K b vs [.int x]) : vs = [.int x] := by
  cases h with
  | cons h1 h2 =>
    cases h2
    rw [h1.intI]
theorem DtA.i2 {x y : Int} (h : DtA K b vs [.int x, .int y]) : vs = [.int x, .int y] := by
  cases h with
  | cons h1 h2 =>
    rw [h1.intI, h2.i1]
end
section
variable {K : PySem.W.Frag} {σ : L2.St} {b h : Hp} {te ta tb : TE}
theorem DtA.intsI : ∀ {ns : List Int} {vs : List V}, DtA K b vs (ns.map PyData.int) → vs = ns.map V.int
  | [], _, h => by cases h; rfl
  | n :: ns, _, h => by
    cases h with
    | cons h1 h2 => rw [h1.intI, h2.intsI]; rfl
theorem at_ints {ns : List Int} {j : Nat} {z : Int} (e : z = (j : Int)) (h : j < ns.length) : L2.atI (ns.map PyData.int) z = some (.int (ns.getD j 0)) := by
  subst e
  refine atI_nat ?_
  rw [List.getElem?_map, List.getD_eq_getElem?_getD, List.getElem?_eq_getElem h]
  rfl
theorem at_pick (ns : List Int) {z : Int} (h0 : 0 ≤ z) (h : z < (ns.length : Int)) : ∃ x ∈ ns, L2.atI (ns.map PyData.int) z = some (.int x) := by
  have hj : z.toNat < ns.length := by omega
  refine ⟨ns.getD z.toNat 0, ?_, at_ints (by omega) hj⟩
  rw [List.getD_eq_getElem?_getD, List.getElem?_eq_getElem hj]
  exact List.getElem_mem hj
theorem ev_ixI {ns : List Int} {z : Int} (j : Nat) (x : ED K ta σ b (.list (ns.map PyData.int))) (y : Ev tb σ b (.int z)) (e : z = (j : Int)) (hj : j < ns.length) : Ev (tOp (rIxL K) ta tb) σ b (.int (ns.getD j 0)) := ev_int (ed_ixL x y (at_ints e hj))
theorem ev_sum {ns : List Int} (x : ED K te σ b (.list (ns.map PyData.int))) : Ev (tCB (rSum K) (tCons te tNil)) σ b (.int ns.sum) := fun h e _ q => x h e _ fun v b2 h2 g2 hv => by
  obtain ⟨a, xs, rfl, k1, k2⟩ := hv.listI
  rw [k2.intsI] at k1
  exact ⟨a, ns, rfl, sq_of (g2.gi _ _ k1), q h2 g2.gh⟩
theorem ds_get {ns : List Int} {j : Nat} (h : ∀ d ∈ ns, 0 ≤ d ∧ d < 1000) : 0 ≤ ns.getD j 0 ∧ ns.getD j 0 < 1000 := by
  rw [List.getD_eq_getElem?_getD]
  cases e : ns[j]? with
  | none => decide
  | some x => exact h x (List.mem_of_getElem? e)
end
theorem map_range_ints (n : Nat) (r : Nat → Int) : (List.range n).map (fun i => PyData.int (r i)) = ((List.range n).map r).map PyData.int := by
  rw [List.map_map]
  rfl
theorem sIx_of {n : Nat} (d : Nat) {j : Nat} (h : j ≤ n) : HT.sIx n d (some (j : Int)) = j := by
  rw [HT.sIx_nat, Nat.min_eq_left h]
theorem cut_ints {ds : List Int} {lo n : Nat} (hl : lo + n ≤ ds.length) (hd : ∀ d ∈ ds, 0 ≤ d ∧ d < 1000) : ∃ es : List Int, cutD (ds.map PyData.int) (some (lo : Int)) (some ((lo + n : Nat) : Int)) = es.map PyData.int ∧ es.length = n ∧ ∀ d ∈ es, 0 ≤ d ∧ d < 1000 := by
  refine ⟨(ds.drop lo).take n, ?_, by rw [List.length_take, List.length_drop]; omega, fun d h => hd d (List.mem_of_mem_drop (List.mem_of_mem_take h))⟩
  unfold cutD
  rw [List.length_map, sIx_of 0 (show lo ≤ ds.length by omega), sIx_of _ hl, ← List.map_drop, ← List.map_take, show lo + n - lo = n by omega]
inductive Pl where
  | draw (g : Int × Int) (bs : List ((Int × Int) × Int))
  | side (g : Int × Int) (o : Bool) (ts : List Int)
def brD (p : (Int × Int) × Int) : PyData := .tuple [nD p.1, .int p.2]
def Pl.gain : Pl → Int × Int
  | .draw g _ => g
  | .side g _ _ => g
def Pl.kind : Pl → Str
  | .draw _ _ => "draw"
  | .side _ o _ => if o then "ours" else "theirs"
def Pl.bd : Pl → List PyData
  | .draw _ bs => bs.map brD
  | .side _ _ ts => ts.map PyData.int
def Pl.D (p : Pl) : PyData := .tuple [nD p.gain, .str p.kind, .list p.bd]
def gameD (G : List Pl) : PyData := .list (G.map Pl.D)
def SmallN (p : Int × Int) : Prop := 1 ≤ p.2 ∧ p.2 < 1000 ∧ p.1.natAbs < 1000 ∧ Nat.gcd p.1.natAbs p.2.natAbs = 1
def WfP (many : Int) : Pl → Prop
  | .draw g bs => SmallN g ∧ 1 ≤ bs.length ∧ bs.length ≤ 6 ∧ (∀ p ∈ bs, 0 ≤ p.2 ∧ p.2 < many) ∧ ∃ ws : List Int, ws.length = bs.length ∧ (∀ w ∈ ws, 1 ≤ w ∧ w ≤ 5) ∧ bs.map (·.1) = ws.map (fun w => num w ws.sum)
  | .side g _ ts => SmallN g ∧ 1 ≤ ts.length ∧ ts.length ≤ 6 ∧ ∀ t ∈ ts, 0 ≤ t ∧ t < many
def WfG (G : List Pl) : Prop := 1 ≤ G.length ∧ G.length ≤ 12 ∧ ∀ p ∈ G, WfP (G.length : Int) p
theorem num_small {n d : Int} (hn : n.natAbs < 1000) (h0 : d ≠ 0) (hd : d.natAbs < 1000) : SmallN (num n d) := by
  unfold num SmallN
  simp only
  generalize hg : Nat.gcd n.natAbs d.natAbs = g
  have g0 : 0 < g := by rw [← hg]; exact Nat.gcd_pos_of_pos_right _ (by omega)
  generalize hN : (if d < 0 then -n else n) = N
  generalize hDd : (if d < 0 then -d else d) = Dd
  have eN : N.natAbs = n.natAbs := by rw [← hN]; split <;> omega
  have eD : Dd = (d.natAbs : Int) := by rw [← hDd]; split <;> omega
  obtain ⟨a, ha⟩ : g ∣ n.natAbs := by rw [← hg]; exact Nat.gcd_dvd_left _ _
  obtain ⟨c, hc⟩ : g ∣ d.natAbs := by rw [← hg]; exact Nat.gcd_dvd_right _ _
  have hab : Nat.gcd a c = 1 := by
    have := Nat.gcd_mul_left g a c
    rw [← ha, ← hc, hg] at this
    exact Nat.eq_of_mul_eq_mul_left g0 (by omega)
  have hc0 : 0 < c := by
    rcases Nat.eq_zero_or_pos c with z | z
    · subst z; omega
    · exact z
  have gi : (0 : Int) < (g : Int) := by omega
  have e1 : Dd / (g : Int) = (c : Int) := by
    rw [eD, hc]
    rw [Int.natCast_mul]
    exact Int.mul_ediv_cancel_left _ (by omega)
  have e2 : (N / (g : Int)).natAbs = a := by
    rcases Int.natAbs_eq N with z | z
    · rw [z, eN, ha, Int.natCast_mul, Int.mul_ediv_cancel_left _ (by omega)]
      rfl
    · rw [z, eN, ha, Int.natCast_mul, ← Int.mul_neg, Int.mul_ediv_cancel_left _ (by omega), Int.natAbs_neg]
      rfl
  have hcl : c ≤ g * c := Nat.le_mul_of_pos_left c g0
  have hal : a ≤ g * a := Nat.le_mul_of_pos_left a g0
  rw [e1, e2]
  refine ⟨by omega, by omega, by omega, ?_⟩
  rw [Int.natAbs_natCast]
  exact hab
theorem map_getD {α : Type} (ws : List Int) (f : Int → α) : (List.range ws.length).map (fun i => f (ws.getD i 0)) = ws.map f := by
  refine List.ext_getElem? fun i => ?_
  rw [List.getElem?_map, List.getElem?_map]
  by_cases h : i < ws.length
  · rw [List.getElem?_range h, List.getElem?_eq_getElem h]
    show some (f (ws.getD i 0)) = some (f ws[i])
    rw [List.getD_eq_getElem?_getD, List.getElem?_eq_getElem h]
    rfl
  · rw [List.getElem?_eq_none (by rw [List.length_range]; omega), List.getElem?_eq_none (by omega)]
    rfl
theorem sum_small : ∀ {ws : List Int}, (∀ w ∈ ws, 1 ≤ w ∧ w ≤ 5) → ws.sum ≤ 5 * ws.length
  | [], _ => by simp
  | x :: ws, h => by
    have h1 := h x List.mem_cons_self
    have h2 := sum_small fun w hw => h w (List.mem_cons_of_mem _ hw)
    rw [List.sum_cons, List.length_cons]
    omega
theorem sum_pos : ∀ {ws : List Int}, (∀ w ∈ ws, 1 ≤ w ∧ w ≤ 5) → (ws.length : Int) ≤ ws.sum
  | [], _ => by simp
  | x :: ws, h => by
    have h1 := h x List.mem_cons_self
    have h2 := sum_pos fun w hw => h w (List.mem_cons_of_mem _ hw)
    rw [List.sum_cons, List.length_cons]
    omega
theorem all_some {α : Type} {W : α → Prop} {D : α → PyData} : ∀ {acc : List PyData}, (∀ e ∈ acc, ∃ p, W p ∧ e = D p) → ∃ G : List α, acc = G.map D ∧ ∀ p ∈ G, W p
  | [], _ => ⟨[], rfl, fun _ h => by cases h⟩
  | e :: acc, h => by
    obtain ⟨p, hp, rfl⟩ := h e List.mem_cons_self
    obtain ⟨G, rfl, hG⟩ := all_some fun x hx => h x (List.mem_cons_of_mem _ hx)
    exact ⟨p :: G, rfl, fun q hq => by
      rcases List.mem_cons.mp hq with rfl | hq
      · exact hp
      · exact hG q hq⟩
def WfS (x : Str) (G : List Pl) (S : List (Option Nat)) : Prop := S.length = G.length ∧ ∀ (i : Nat) (p : Pl), G[i]? = some p → (p.kind = x → ∃ j, S[i]? = some (some j) ∧ j < p.bd.length) ∧ (p.kind ≠ x → S[i]? = some none)
def Pl.at (p : Pl) (j : Nat) : Int := match p with
  | .draw _ bs => (bs.getD j ((0, 1), 0)).2
  | .side _ _ ts => ts.getD j 0
section
variable {K : PySem.W.Frag} {σ : L2.St} {b h : Hp} {te ta : TE} {d : PyData} {q : Addr} {us : List V} {D : Ends} {tz : TS}
end
def svV : Option Nat → V
  | some j => .int (j : Int)
  | none => .non
end Md
set_option Elab.async false
set_option linter.all false
set_option maxRecDepth 100000
set_option maxHeartbeats 2000000
namespace Md
open PySem L2 Evl
structure Nice (k L : Nat) (d : PyData) : Prop where
  show_ : d.showable = true
  nd : d.hasDict = false
  dep : d.depth ≤ k
  lay : d.canLay0 = true
  len : d.shown.length ≤ L
theorem Nice.mono {k L k' L' : Nat} {d : PyData} (h : Nice k L d) (hk : k ≤ k') (hl : L ≤ L') : Nice k' L' d := ⟨h.show_, h.nd, Nat.le_trans h.dep hk, h.lay, Nat.le_trans h.len hl⟩
theorem nice_int {i : Int} (h : i.natAbs < 10 ^ 18) : Nice 0 19 (.int i) := by
  refine ⟨?_, rfl, Nat.le_refl _, rfl, ?_⟩
  · show decide (i.natAbs.log2 < 1920) = true
    refine decide_eq_true ?_
    by_cases h0 : i.natAbs = 0
    · rw [h0]; decide
    · rw [Nat.log2_lt h0]
      exact Nat.lt_trans h (by decide +kernel)
  · have := PySem.int_text_length_le10 (k := 18) (by decide) h
    show (Str.ofString (toString i)).length ≤ 19
    rw [ofString_length]
    exact this
theorem nice_str {z : Str} {L : Nat} (h : (PyData.str z).shown.length ≤ L) (h2 : (PyData.str z).canLay0 = true) : Nice 0 L (.str z) := ⟨rfl, rfl, Nat.le_refl _, h2, h⟩
theorem nice_all {k L : Nat} : ∀ {ds : List PyData}, (∀ d ∈ ds, Nice k L d) → PyData.showableAll ds = true ∧ PyData.hasDictAll ds = false ∧ PyData.depthAll ds ≤ k ∧ PyData.canLayAll0 ds = true ∧ piled (PyData.shownAll ds) ≤ ds.length * (L + 2)
  | [], _ => ⟨rfl, rfl, Nat.zero_le _, rfl, by rw [List.length_nil, Nat.zero_mul]; exact Nat.le_refl _⟩
  | d :: ds, h => by
    obtain ⟨h1, h2, h3, h4, h5⟩ := nice_all fun x hx => h x (List.mem_cons_of_mem _ hx)
    have hd := h d List.mem_cons_self
    refine ⟨?_, ?_, ?_, ?_, ?_⟩
    · show (d.showable && PyData.showableAll ds) = true
      rw [hd.show_, h1] <;> rfl
    · show (d.hasDict || PyData.hasDictAll ds) = false
      rw [hd.nd, h2] <;> rfl
    · show max d.depth (PyData.depthAll ds) ≤ k
      exact Nat.max_le.mpr ⟨hd.dep, h3⟩
    · show (d.canLay0 && PyData.canLayAll0 ds) = true
      rw [hd.lay, h4] <;> rfl
    · show piled (d.shown :: PyData.shownAll ds) ≤ _
      rw [piled_cons, List.length_cons, Nat.add_mul, Nat.one_mul]
      have := hd.len
      omega
theorem textFrom_le : ∀ (ts : List Str) (k : Nat) (acc : Str), (textFrom k acc ts).length ≤ acc.length + piled ts
  | [], k, acc => by show acc.length ≤ acc.length + piled []; omega
  | t :: r, k, acc => by
    have h := textFrom_le r (k + 1) (acc ++ (if k > 0 then ", " else "" : String) ++ t)
    have e : (acc ++ (if k > 0 then ", " else "" : String) ++ t).length ≤ acc.length + 2 + t.length := by
      rw [strLen_append, strLen_append]
      split
      · exact Nat.le_refl _
      · show acc.length + 0 + t.length ≤ _
        omega
    rw [piled_cons]
    show (textFrom (k + 1) _ r).length ≤ _
    omega
theorem listText_le (ts : List Str) : (listText ts).length ≤ piled ts + 2 := by
  unfold listText
  rw [strLen_append]
  have := textFrom_le ts 0 "["
  have e1 : (("[" : String) : Str).length = 1 := by decide +kernel
  have e2 : (("]" : String) : Str).length = 1 := by decide +kernel
  omega
theorem tupleText_le (ts : List Str) : (tupleText ts).length ≤ piled ts + 4 := by
  unfold tupleText
  rw [strLen_append, strLen_append]
  have e1 : (("(" : Str)).length = 1 := by decide +kernel
  have e3 : ((if ts.length == 1 then ",)" else ")" : String) : Str).length ≤ 2 := by
    split
    · decide +kernel
    · decide +kernel
  by_cases h : ts = []
  · subst h
    have e2 : (Str.join ", " []).length = 0 := by decide +kernel
    omega
  · have := join_length_add ts h
    omega
theorem nice_list {k L n : Nat} {ds : List PyData} (h : ∀ d ∈ ds, Nice k L d) (hn : ds.length ≤ n) : Nice (k + 1) (n * (L + 2) + 4) (.list ds) := by
  obtain ⟨h1, h2, h3, h4, h5⟩ := nice_all h
  refine ⟨h1, h2, Nat.succ_le_succ h3, h4, ?_⟩
  show (listText (PyData.shownAll ds)).length ≤ _
  have := listText_le (PyData.shownAll ds)
  have e : ds.length * (L + 2) ≤ n * (L + 2) := Nat.mul_le_mul_right _ hn
  omega
theorem nice_tup {k L n : Nat} {ds : List PyData} (h : ∀ d ∈ ds, Nice k L d) (hn : ds.length ≤ n) : Nice (k + 1) (n * (L + 2) + 4) (.tuple ds) := by
  obtain ⟨h1, h2, h3, h4, h5⟩ := nice_all h
  refine ⟨h1, h2, Nat.succ_le_succ h3, h4, ?_⟩
  show (tupleText (PyData.shownAll ds)).length ≤ _
  have := tupleText_le (PyData.shownAll ds)
  have e : ds.length * (L + 2) ≤ n * (L + 2) := Nat.mul_le_mul_right _ hn
  omega
theorem nice_kind (p : Pl) : Nice 0 20 (.str p.kind) := by
  cases p with
  | draw g bs => exact nice_str (z := "draw") (L := 20) (by decide +kernel) (by decide +kernel)
  | side g o ts =>
    cases o with
    | true => exact nice_str (z := "ours") (L := 20) (by decide +kernel) (by decide +kernel)
    | false => exact nice_str (z := "theirs") (L := 20) (by decide +kernel) (by decide +kernel)
def NumOk (p : Int × Int) : Prop := p.1.natAbs < 10 ^ 18 ∧ p.2.natAbs < 10 ^ 18
theorem nice_num {p : Int × Int} (h : NumOk p) : Nice 1 46 (nD p) := nice_tup (L := 19) (n := 2) (fun d hd => by
  simp only [List.mem_cons, List.not_mem_nil, or_false] at hd
  rcases hd with rfl | rfl
  · exact nice_int h.1
  · exact nice_int h.2) (by show 2 ≤ 2; decide)
theorem Nice.shaped {k L : Nat} {d : PyData} (h : Nice k L d) (hk : k ≤ 64) : SeqAt.shaped d = true := by
  unfold SeqAt.shaped
  rw [h.lay, decide_eq_true (Nat.le_trans h.dep hk)] <;> rfl
theorem Nice.eqv {k L : Nat} {d : PyData} (h : Nice k L d) : PyData.eqv d d = true := PySem.SeqAt.eqv_refl d h.lay
theorem ok_small {p : Int × Int} (h : SmallN p) : NumOk p := ⟨Nat.lt_trans h.2.2.1 (by decide), Nat.lt_trans (show p.2.natAbs < 1000 by have := h.1; have := h.2.1; omega) (by decide)⟩
theorem num_le {n d : Int} (h : d ≠ 0) : (num n d).1.natAbs ≤ n.natAbs ∧ (num n d).2.natAbs ≤ d.natAbs := by
  unfold num
  simp only
  have hg : 0 < Nat.gcd n.natAbs d.natAbs := Nat.gcd_pos_of_pos_right _ (by omega)
  generalize Nat.gcd n.natAbs d.natAbs = g at hg
  have key : ∀ z : Int, (z / (g : Int)).natAbs ≤ z.natAbs := fun z => by
    have := Int.natAbs_ediv_le_natAbs z (g : Int)
    exact this
  have e1 : (if d < 0 then -n else n).natAbs = n.natAbs := by split <;> omega
  have e2 : (if d < 0 then -d else d).natAbs = d.natAbs := by split <;> omega
  exact ⟨e1 ▸ key _, e2 ▸ key _⟩
def ConstT (K : PySem.W.Frag) (mg : Str → Option Value) (x : Str) (d : PyData) : Prop := ∃ a, mg x = some (.ref a) ∧ ∀ H, Dt K H (.ref a) d
def OwnL (K : PySem.W.Frag) (h b' : Hp) (u : V) : Prop := ∃ t g kd l bs, u = .ref t ∧ SqT K b' t [g, kd, .ref l] ∧ h l = none ∧ b' l = some (.lst bs) ∧ bs.length ≤ 6
theorem OwnL.up {K : PySem.W.Frag} {h b b' : Hp} {u : V} (x : OwnL K h b u) (e : Ex b b') : OwnL K h b' u := by
  obtain ⟨t, g, kd, l, bs, h1, h2, h3, h4, h5⟩ := x
  exact ⟨t, g, kd, l, bs, h1, ex_t e h2, h3, e _ _ h4, h5⟩
theorem OwnL.of {K : PySem.W.Frag} {h h' b : Hp} {u : V} (x : OwnL K h' b u) (e : Ex h h') : OwnL K h b u := by
  obtain ⟨t, g, kd, l, bs, h1, h2, h3, h4, h5⟩ := x
  exact ⟨t, g, kd, l, bs, h1, h2, fresh_back e h3, h4, h5⟩
def OwnQ (K : PySem.W.Frag) (h : Hp) (p : Addr) (b' : Hp) (u : V) : Prop := ∃ t g kd l bs, u = .ref t ∧ SqT K b' t [g, kd, .ref l] ∧ h l = none ∧ l ≠ p ∧ b' l = some (.lst bs) ∧ bs.length ≤ 6
theorem OwnL.q {K : PySem.W.Frag} {h b : Hp} {u : V} {p : Addr} (x : OwnL K h b u) (n : b p = none) : OwnQ K h p b u := by
  obtain ⟨t, g, kd, l, bs, h1, h2, h3, h4, h5⟩ := x
  exact ⟨t, g, kd, l, bs, h1, h2, h3, ne_of_none h4 n, h4, h5⟩
theorem OwnQ.up {K : PySem.W.Frag} {h b b' : Hp} {u : V} {p : Addr} (x : OwnQ K h p b u) (e : Ex b b') : OwnQ K h p b' u := by
  obtain ⟨t, g, kd, l, bs, h1, h2, h3, h4, h5, h6⟩ := x
  exact ⟨t, g, kd, l, bs, h1, ex_t e h2, h3, h4, e _ _ h5, h6⟩
theorem tyes_of {A B : Hp → Prop} {σ : L2.St} {H : Hp} (h : A H) : tYes σ H (fun k H' => if k = true then A H' else B H') := by
  show (if true = true then A H else B H)
  rw [if_pos rfl]
  exact h
section
variable {K : PySem.W.Frag} {σ : L2.St} {b h : Hp} {te : TE} {ts : TA} {ds : List PyData} {D : Ends} {tz : TS} {sp : Sp} {E : XK}
theorem ev_isiL (x : ED K te σ b (.list ds)) : Ev (tCB (rIsi K) (tCons te (tCons (tC (.ty "list")) tNil))) σ b (.bl true) := fun h e _ q => x h e _ fun v b2 h2 g2 hv => by
  obtain ⟨a, xs, rfl, k1, k2⟩ := hv.listI
  exact ⟨.ref a, .ty "list", .type "list", .type "list", true, rfl, .ty _, .base (.lst (g2.gi _ _ k1)), kit_ty (by decide +kernel), q h2 g2.gh⟩
theorem ev_eqS {ta tb : TE} {v : V} (x : Ev ta σ b v) (y : Ev tb σ b v) (hs : scal v v = true) : Ev (tOp rEq ta tb) σ b (.bl true) := by
  have := ev_op x y (rv_eq hs)
  rwa [decide_eq_true rfl] at this
theorem ev_neS {ta tb : TE} {v : V} (x : Ev ta σ b v) (y : Ev tb σ b v) (hs : scal v v = true) : Ev (tOp rNe ta tb) σ b (.bl false) := by
  have := ev_op x y (rv_ne hs)
  rwa [decide_eq_true rfl] at this
end
end Md
set_option Elab.async false
set_option linter.all false
set_option maxRecDepth 100000
set_option maxHeartbeats 2000000
namespace Md
open PySem PySem.Spec PyProof.Rows L2 Evl
def LawOk (P : Program) (w : World) (K : PySem.W.Frag) (mg : Str → Option Value) (base : Heap) (k : Nat) (f : Addr) (fd : FuncData) (ps : List Str) (sp : Sp) : Prop :=
  ∀ (s : Shared) (H : Hp) (ar : Args) (us : List Value) (vs : List V) (Q : VK), Room k callerA → Env0 P w K mg base callerA [] s H →
    BindsTo s fd ar (ps.zip us) → Vals vs us → sp vs H Q E0 → codeAny (model P w) callerA (.call (.ref f) ar) (CR CX0 [] P w H s Q E0) s
theorem law_ok {P : Program} {w : World} {K : PySem.W.Frag} {mg : Str → Option Value} {base : Heap} {x qual : Str} {st : Stmt} {f : Addr} {fd : FuncData} {N ps : List Str} {k : Nat} {sp : Sp} (F : Fun K x qual st f fd)
    (S : FnScope N ps (defScope st)) (len : ∀ vs H Q E, sp vs H Q E → vs.length = ps.length)
    (body : ∀ (cd : Value) (s : Shared) (H : Hp) (vs : List V) (Q : VK), Room k (callerA.deeper (envOfC qual (defScope st) s.heap.objs.size f cd)) → sp vs H Q E0 →
      ∃ t, PSs (cxOf CX0 P w K mg base N qual (defScope st) f cd callerA [] s H E0).nox (defBody st) t ∧ t { nx := fun _ H' => Q .non H', rt := Q } (start N vs) H) : LawOk P w K mg base (k + 1) f fd ps sp := by
  obtain ⟨oc, od, kV, dc, pm, an, cd, ct, sl, rfl, lk, hcd⟩ := F.ex
  intro s H ar us vs Q room e0 hb rv hs
  have hlen := len _ _ _ _ hs
  have old : ∀ c o, base.get? c = some o → s.heap.get? c = some o := fun c o e => (e0.bs c o e).1
  have kin : K.In s.heap := e0.mod.kin.keeps old
  have nolim : s.heap.NoLimit := e0.mod.nolimit.keeps old
  have kinds : ∀ y ∈ ps.zip us, (defScope st).names.lookup y.1 = some .local ∨ ((defScope st).names.lookup y.1 = some .cell ∧ ((cellsFrom (s.heap.objs.size + 1) (defScope st).names []).lookup y.1).isSome = true) := by
    rintro ⟨n, v⟩ hy
    rcases S.par n (List.of_mem_zip hy).1 with z | z
    · exact .inl z
    · exact .inr ⟨z, PySem.W.cellsFrom_some _ _ _ (.inl z)⟩
  refine codeAny_call_function room.depth (kin _ _ lk) rfl S.co S.gen rfl (PySem.W.codeRec_of kin hcd) (hb _ _ _ _ (wpAny_newFunctionEnv_cells S.kind kinds ?_))
  rintro env rfl s1 call
  refine ⟨nolim.keeps call.toInCall.keep, codeAny_func ?_⟩
  obtain ⟨t, ht, hq⟩ := body cd s H vs Q (room.deeper _) hs
  have start_ : Inv (cxOf CX0 P w K mg base N qual (defScope st) f cd callerA [] s H E0) [] (start N vs) H s1 := inv_start S room.hd e0 hlen rv call
  refine wpAny_mono (ht.nox.run [] s1 (start N vs) H _ start_ hq) ?_ (fun _ _ z => z)
  intro fl s2 z
  cases fl with
  | next =>
    obtain ⟨σ2, H2, J, q⟩ := z
    exact ⟨V.non, H2, J.os, J.bare, J.base, J.hok, rfl, q⟩
  | ret u =>
    obtain ⟨v, σ2, H2, J, r, q⟩ := z
    exact ⟨v, H2, J.os, J.bare, J.base, J.hok, r, q⟩
  | brk =>
    obtain ⟨_, _, _, q⟩ := z
    cases q
  | cont =>
    obtain ⟨_, _, _, q⟩ := z
    cases q
theorem law_run {P : Program} {w : World} {K : PySem.W.Frag} {mg mb : Str → Option Value} {k : Nat} {f a : Addr} {fd : FuncData} {x : Str} {sp : Sp} {s1 : Shared} {us : List Value} {ns : List Int}
    (kx : K.In s1.heap) (gl : s1.heap.Ns mainGlobals mg) (bl : s1.heap.Ns builtinsNs mb) (bb : ∀ y : Str, y ≠ "__name__" → mb y = bootBuiltins y) (nl : s1.heap.NoLimit) (gn : s1.gens = #[])
    (ha : s1.heap.get? a = some { cls := .type "list", data := .seq us.toArray }) (hi : IntsAre us ns) (hz : ns.length ≤ sizeLine) (room : Room k callerA)
    (F : ∀ B : Heap, K.In B → B.Ns mainGlobals mg → LawOk P w K mg B k f fd [x] sp) (hb : ∀ (s : Shared) (u : Value), BindsTo s fd ⟨[u], []⟩ [(x, u)])
    (hsp : ∀ H : Hp, Only H → SqL K H a (ns.map V.int) → sp [.ref a] H (fun v _ => v = .bl true) E0) :
    codeAny (model P w) callerA (.call (.ref f) ⟨[.ref a], []⟩) (fun r s2 => r = .ok (.ret (.bool true)) ∧ OldK s1.heap s2.heap ∧ s2.os = s1.os ∧ AllBare s2.gens) s1 := by
  have rv := vals_ints hi
  have hlen := hi.length
  have key : ∀ H : Hp, Only H → SqL K H a (ns.map V.int) → HOk P w H s1.heap → (∀ c, H c ≠ none → c = a) → (H a ≠ none → K.lookup a = none) →
      codeAny (model P w) callerA (.call (.ref f) ⟨[.ref a], []⟩) (fun r s2 => r = .ok (.ret (.bool true)) ∧ OldK s1.heap s2.heap ∧ s2.os = s1.os ∧ AllBare s2.gens) s1 := by
    intro H only sq ok one out
    have nodict : ∀ {c : Addr} {o : Obj} {es : Array DictEntry} {n : Nat}, s1.heap.get? c = some o → o.data = .dict es n → H c = none := by
      intro c o es n e d
      cases q : H c with
      | none => rfl
      | some u =>
        obtain rfl : c = a := one c (by rw [q]; simp)
        rw [ha] at e
        cases e
        cases d
    have ns_ : ∀ {c : Addr} {m : Str → Option Value}, s1.heap.Ns c m → (hidT s1.heap H).Ns c m := by
      rintro c m ⟨o, es, n, e, d, r⟩
      exact ⟨o, es, n, hidT_get e (nodict e d), d, r⟩
    have kB : K.In (hidT s1.heap H) := fun c o e => hidT_get (kx c o e) (by
      cases q : H c with
      | none => rfl
      | some u =>
        obtain rfl : c = a := one c (by rw [q]; simp)
        rw [out (by rw [q]; simp)] at e
        cases e)
    have lim : (hidT s1.heap H).NoLimit := by
      obtain ⟨mc, h1, h2⟩ := nl
      exact ⟨mc, ns_ h1, h2⟩
    have e0 : Env0 P w K mg (hidT s1.heap H) callerA [] s1 H := ⟨rfl, ⟨kB, ns_ gl, ⟨mb, ns_ bl, bb⟩, lim⟩, fun c o e => of_hidT e, Nat.le_of_eq (hidT_size _ _), trivial, (fun c hc => absurd (show c ∈ ([] : List Addr) from hc) (by simp)), ok, .of_eq gn⟩
    refine codeAny_mono (F _ kB (ns_ gl) s1 H ⟨[.ref a], []⟩ [.ref a] [.ref a] _ room e0 (hb s1 (.ref a)) (.cons rfl .nil) (hsp H only sq)) ?_
    intro r s2 z
    cases r with
    | error e => cases z
    | ok fl =>
      cases fl with
      | next => cases z
      | brk => cases z
      | cont => cases z
      | ret u =>
        obtain ⟨v, H2, os, bare, un, ok2, ru, q⟩ := z
        obtain rfl : v = .bl true := q
        obtain rfl : u = Value.bool true := ru
        refine ⟨rfl, OldK.of_keep (fun c o e => ?_), os, bare⟩
        cases q : H c with
        | none => exact un.keep c o e q (fun z => absurd (show c ∈ ([] : List Addr) from z) (by simp)) (by simp)
        | some u =>
          rcases only c with z | ⟨ob, xs, z⟩
          · rw [q] at z
            cases z
          · obtain ⟨e1, _⟩ := ok c _ z
            obtain ⟨e2, _⟩ := ok2 c _ (un.frzs c ob _ z)
            rw [e] at e1
            cases e1
            exact e2
  cases hk : K.lookup a with
  | some o =>
    have e := kx a o hk
    rw [ha] at e
    cases e
    refine key (fun _ => none) (fun _ => .inl rfl) (.inr ⟨_, us.toArray, _, hk, rfl, rfl, rfl, by rw [List.size_toArray, hlen]; exact hz, by simpa using rv⟩) (fun c u z => ?_) (fun c z => absurd rfl z) (fun z => absurd rfl z)
    cases (show (none : Option HO) = some u from z)
  | none =>
    let O : Obj := { cls := .type "list", data := .seq us.toArray }
    let H0 : Hp := fun c => if c = a then some (.frz O (.lst (ns.map V.int))) else none
    have at_a : H0 a = some (.frz O (.lst (ns.map V.int))) := if_pos rfl
    have off : ∀ c, c ≠ a → H0 c = none := fun c hc => if_neg hc
    refine key H0 (fun c => ?_) (.inl (.inr ⟨O, at_a⟩)) (fun c u z => ?_) (fun c z => ?_) (fun _ => hk)
    · by_cases hc : c = a
      · exact .inr ⟨O, ns.map V.int, by rw [hc]; exact at_a⟩
      · exact .inl (off c hc)
    · by_cases hc : c = a
      · subst hc
        rw [at_a] at z
        cases z
        exact ⟨ha, by rw [List.length_map]; exact hz, us, _, rv, ha⟩
      · rw [off c hc] at z
        cases z
    · by_cases hc : c = a
      · exact hc
      · exact absurd (off c hc) z
theorem law_walk {l : PySem.W.OpenLaw} {k : Nat} {q : Program} {loose : List Str} {XP : (Str → Option Value) → Heap → Prop} {YP : World → Heap → Prop} {d : DefRec} {K : Params → PySem.W.Frag} {sp : PySem.W.Frag → Sp} {x : Str}
    (hn : l.most = some 63) (hdf : d.params.defaults = []) (room : Room k callerA) (hY : ∀ (w : World) (h : Heap), YP w h → (K w.params).In h)
    (F : ∀ (w : World) (mg : Str → Option Value) (fa : Addr) (h : Heap), (K w.params).In h → h.Ns mainGlobals mg → mg d.name = some (.ref fa) →
      ∃ fd : FuncData, (∀ (s : Shared) (u : Value), BindsTo s fd ⟨[u], []⟩ [(x, u)]) ∧ ∀ B : Heap, (K w.params).In B → B.Ns mainGlobals mg → LawOk l.prog w (K w.params) mg B k fa fd [x] (sp (K w.params)))
    (hsp : ∀ (K : PySem.W.Frag) (H : Hp) (a : Addr) (ns : List Int), ns.length ≤ 63 → Only H → SqL K H a (ns.map V.int) → sp K [.ref a] H (fun v _ => v = .bl true) E0) :
    PySem.W.WalkO q loose XP YP l.row.toRowW d [] (fun f vs => PySem.call f vs) := by
  refine Att.attach_call hn hdf fun w s₀ s₁ mg mb fa o pm cd doc a vs ns G Y ho hd hcd hmg hobj hints hlen hg => ?_
  have kx := hY w _ Y
  obtain ⟨fd, hb, hF⟩ := F w mg fa _ kx G.T.g hmg
  exact law_run kx G.T.g G.T.b G.T.builtins G.T.nolimit hg hobj hints (Nat.le_trans hlen (by decide)) room hF hb fun H only sq => hsp _ H a ns hlen only sq
def spLaw (K : PySem.W.Frag) : Sp := fun vs H Q _ => ∃ (a : Addr) (ns : List Int), vs = [.ref a] ∧ SqL K H a (ns.map V.int) ∧ ns.length ≤ 63 ∧ ∀ H', Q (.bl true) H'
end Md
set_option Elab.async false
set_option linter.all false
set_option maxRecDepth 100000
set_option maxHeartbeats 2000000
namespace Md
open PySem L2 Evl
section
variable {X : Cx} {CX : CXT} {k : Nat} {f : Addr} {fd : FuncData} {ps ks : List Str} {sp : Sp} {E : L2.St → XK} {x : Str} {p pos : Pos} {e : Expr} {es : List Expr} {kws : List Keyword} {t tk : TA} {g : List Value → List Value → List Value} {gV : List V → List V → List V}
end
def NBAt (H : Hp) (C : Addr) (n : Int) (E : XK) : Prop := ∀ d h', Ex H h' → H d = none → h' d = some (.xd [(("at" : Str), .int n)]) → E (.ref C) (some d) h'
theorem NBAt.up {H H' : Hp} {C : Addr} {n : Int} {E : XK} (x : NBAt H C n E) (e : Ex H H') : NBAt H' C n E := fun d h' e' nd hd => x d h' (e.trans e') (fresh_back e nd) hd
def Pl.tg : Pl → List Int
  | .draw _ bs => bs.map (·.2)
  | .side _ _ ts => ts
def plAt (G : List Pl) (x : Nat) : Pl := G.getD x (.side (0, 1) true [])
def stepT (G : List Pl) (x : Nat) (n : Int) : Nat := ((plAt G x).tg.getD n.toNat 0).toNat
def okB (G : List Pl) (x : Nat) (n : Int) : Prop := 0 ≤ n ∧ n < ((plAt G x).tg.length : Int)
instance (G : List Pl) (x : Nat) (n : Int) : Decidable (okB G x n) := by unfold okB; exact inferInstance
def lastF (G : List Pl) : Nat → List Int → Nat
  | x, [] => x
  | x, n :: r => lastF G (stepT G x n) r
def pathF (G : List Pl) : Nat → List Int → List Nat
  | x, [] => [x]
  | x, n :: r => x :: pathF G (stepT G x n) r
def OkTo (G : List Pl) (x : Nat) (r : List Int) (i : Nat) : Prop := ∀ j n, j < i → r[j]? = some n → okB G (lastF G x (r.take j)) n
theorem OkTo.take {G : List Pl} {x : Nat} {r : List Int} {i : Nat} (h : OkTo G x r i) (hi : i ≤ r.length) : OkTo G x (r.take i) (r.take i).length := fun j n hj hn => by
  rw [List.length_take, Nat.min_eq_left hi] at hj
  rw [List.getElem?_take_of_lt hj] at hn
  rw [List.take_take, Nat.min_eq_left (Nat.le_of_lt hj)]
  exact h j n hj hn
def intsD (l : List Int) : PyData := .list (l.map PyData.int)
def natsD (l : List Nat) : PyData := .list (l.map fun x : Nat => PyData.int (x : Int))
section
variable {K : PySem.W.Frag} {σ : L2.St} {b h : Hp} {te ta tb tc : TE} {ts : TA} {ds : List PyData} {E : XK}
theorem ev_isiI {i : Int} {T : String} {r : Bool} (x : Ev te σ b (.int i)) (hk : kitB "int" T = some r) : Ev (tCB (rIsi K) (tCons te (tCons (tC (.ty T)) tNil))) σ b (.bl r) := fun h e _ q => x h e _ fun h2 e2 =>
  ⟨.int i, .ty T, .type "int", .type T, r, rfl, .ty _, .base (.int i), kit_ty hk, q h2 e2⟩
end
theorem take_more1 {α : Type} {l : List α} {i : Nat} {x : α} (h : l[i]? = some x) : l.take (i + 1) = l.take i ++ [x] := by
  rw [List.take_succ, h]
  rfl
theorem DtA.boolsI {K : PySem.W.Frag} {b : Hp} : ∀ {bs : List Bool} {vs : List V}, DtA K b vs (bs.map PyData.bool) → vs = bs.map V.bl
  | [], _, h => by cases h; rfl
  | n :: ns, _, h => by
    cases h with
    | cons h1 h2 => rw [h1.boolI, h2.boolsI]; rfl
theorem ev_all {K : PySem.W.Frag} {σ : L2.St} {b : Hp} {te : TE} {bs : List Bool} (x : ED K te σ b (.list (bs.map PyData.bool))) : Ev (tCB (rAll K) (tCons te tNil)) σ b (.bl (bs.all id)) := fun h e _ q => x h e _ fun v b2 h2 g2 hv => by
  obtain ⟨a, xs, rfl, k1, k2⟩ := hv.listI
  rw [k2.boolsI] at k1
  exact ⟨a, bs, rfl, sq_of (g2.gi _ _ k1), q h2 g2.gh⟩
def eK (G : List Pl) (S : List (Option Nat)) (x : Nat) (r : List Int) (k : Nat) : Bool := decide (V.int (r.getD k 0) = svV (S.getD (lastF G x (r.take k)) none))
def gK (n m : Nat) {α : Type} (us ws : List α) : List α := if us.length = n ∧ ws.length = m then us ++ ws else []
section
variable {K : PySem.W.Frag} {σ : L2.St} {b b' h : Hp} {te t1 t2 : TE} {ts tk : TA} {E : XK} {P P1 P2 : PyData → Prop}
theorem EX.up (x : EX K te σ b P) (e : Ex b b') : EX K te σ b' P := fun h e1 _ q => x h (e.trans e1) _ fun v b2 h2 d g hp hv => by
  obtain ⟨b3, g3, e3, _⟩ := g.back e e1
  exact q v b3 h2 d g3 hp (hv.up e3)
end
end Md
set_option Elab.async false
set_option linter.all false
set_option maxRecDepth 100000
set_option maxHeartbeats 2000000
namespace Md
open PySem L2 Evl
theorem cast_dvd {g : Nat} {n : Int} (h : g ∣ n.natAbs) : (g : Int) ∣ n := Int.natAbs_dvd_natAbs.mp (by rw [Int.natAbs_natCast]; exact h)
def Red (p : Int × Int) : Prop := 1 ≤ p.2 ∧ Nat.gcd p.1.natAbs p.2.natAbs = 1
theorem red_small {p : Int × Int} (h : SmallN p) : Red p := ⟨h.1, h.2.2.2⟩
theorem num_pos {n d : Int} (h : 0 < d) : num n d = (n / ((Nat.gcd n.natAbs d.natAbs : Nat) : Int), d / ((Nat.gcd n.natAbs d.natAbs : Nat) : Int)) := by
  unfold num
  rw [if_neg (by omega), if_neg (by omega)]
theorem num_cross {n d : Int} (h : 0 < d) : (num n d).1 * d = n * (num n d).2 := by
  rw [num_pos h]
  show n / ((Nat.gcd n.natAbs d.natAbs : Nat) : Int) * d = n * (d / ((Nat.gcd n.natAbs d.natAbs : Nat) : Int))
  have h1 : ((Nat.gcd n.natAbs d.natAbs : Nat) : Int) ∣ n := cast_dvd (Nat.gcd_dvd_left _ _)
  have h2 : ((Nat.gcd n.natAbs d.natAbs : Nat) : Int) ∣ d := cast_dvd (Nat.gcd_dvd_right _ _)
  have g0 : ((Nat.gcd n.natAbs d.natAbs : Nat) : Int) ≠ 0 := by
    have := Nat.gcd_pos_of_pos_right n.natAbs (show 0 < d.natAbs by omega)
    omega
  generalize ((Nat.gcd n.natAbs d.natAbs : Nat) : Int) = g at h1 h2 g0
  obtain ⟨a, rfl⟩ := h1
  obtain ⟨c, rfl⟩ := h2
  rw [Int.mul_ediv_cancel_left _ g0, Int.mul_ediv_cancel_left _ g0]
  rw [Int.mul_left_comm, Int.mul_assoc]
theorem num_red {n d : Int} (h : 0 < d) : Red (num n d) := by
  rw [num_pos h]
  have hg := Nat.gcd_pos_of_pos_right n.natAbs (show 0 < d.natAbs by omega)
  obtain ⟨a, ha⟩ := Nat.gcd_dvd_left n.natAbs d.natAbs
  obtain ⟨c, hc⟩ := Nat.gcd_dvd_right n.natAbs d.natAbs
  generalize hgg : Nat.gcd n.natAbs d.natAbs = g at *
  have hac : Nat.gcd a c = 1 := by
    have := Nat.gcd_mul_left g a c
    rw [← ha, ← hc, hgg] at this
    exact Nat.eq_of_mul_eq_mul_left hg (by omega)
  have e1 : (n / (g : Int)).natAbs = a := by
    rcases Int.natAbs_eq n with z | z
    · rw [z, ha, Int.natCast_mul, Int.mul_ediv_cancel_left _ (by omega), Int.natAbs_natCast]
    · rw [z, ha, Int.natCast_mul, ← Int.mul_neg, Int.mul_ediv_cancel_left _ (by omega), Int.natAbs_neg, Int.natAbs_natCast]
  have e2 : d / (g : Int) = (c : Int) := by
    have z : d = ((d.natAbs : Nat) : Int) := by omega
    rw [z, hc, Int.natCast_mul, Int.mul_ediv_cancel_left _ (by omega)]
  have hc0 : 0 < c := by
    rcases Nat.eq_zero_or_pos c with z | z
    · subst z; omega
    · exact z
  refine ⟨?_, ?_⟩
  · show 1 ≤ d / (g : Int)
    rw [e2]
    omega
  · show Nat.gcd (n / (g : Int)).natAbs (d / (g : Int)).natAbs = 1
    rw [e1, e2, Int.natAbs_natCast]
    exact hac
theorem red_ext {p q : Int × Int} (hp : Red p) (hq : Red q) (h : p.1 * q.2 = q.1 * p.2) : p = q := by
  obtain ⟨p1, p2⟩ := hp
  obtain ⟨q1, q2⟩ := hq
  have hn : p.1.natAbs * q.2.natAbs = q.1.natAbs * p.2.natAbs := by rw [← Int.natAbs_mul, ← Int.natAbs_mul, h]
  have d1 : p.2.natAbs ∣ q.2.natAbs := by
    have c : Nat.Coprime p.2.natAbs p.1.natAbs := by rw [Nat.coprime_comm]; exact p2
    exact c.dvd_of_dvd_mul_left ⟨q.1.natAbs, by rw [hn, Nat.mul_comm]⟩
  have d2 : q.2.natAbs ∣ p.2.natAbs := by
    have c : Nat.Coprime q.2.natAbs q.1.natAbs := by rw [Nat.coprime_comm]; exact q2
    exact c.dvd_of_dvd_mul_left ⟨p.1.natAbs, by rw [← hn, Nat.mul_comm]⟩
  have e : p.2.natAbs = q.2.natAbs := Nat.dvd_antisymm d1 d2
  have e2 : p.2 = q.2 := by omega
  rw [e2] at h
  have e1 : p.1 = q.1 := Int.eq_of_mul_eq_mul_right (by omega) h
  exact Prod.ext e1 e2
def plusN (a b : Int × Int) : Int × Int := num (a.1 * b.2 + b.1 * a.2) (a.2 * b.2)
def timesN (a b : Int × Int) : Int × Int := num (a.1 * b.1) (a.2 * b.2)
def sumN (l : List (Int × Int)) : Int × Int := l.foldl plusN (0, 1)
theorem mul_pos' {a b : Int} (ha : 1 ≤ a) (hb : 1 ≤ b) : 0 < a * b := Int.mul_pos (by omega) (by omega)
theorem plusN_red {a b : Int × Int} (ha : Red a) (hb : Red b) : Red (plusN a b) := num_red (mul_pos' ha.1 hb.1)
theorem timesN_red {a b : Int × Int} (ha : Red a) (hb : Red b) : Red (timesN a b) := num_red (mul_pos' ha.1 hb.1)
def Big (k : Nat) (p : Int × Int) : Prop := p.1.natAbs < 2 ^ k ∧ p.2.natAbs < 2 ^ k
theorem Big.mono {j k : Nat} {p : Int × Int} (h : Big j p) (hk : j ≤ k) : Big k p := ⟨Nat.lt_of_lt_of_le h.1 (Nat.pow_le_pow_right (by decide) hk), Nat.lt_of_lt_of_le h.2 (Nat.pow_le_pow_right (by decide) hk)⟩
theorem pow_mul_lt {a b j k : Nat} (ha : a < 2 ^ j) (hb : b < 2 ^ k) : a * b < 2 ^ (j + k) := by
  rw [Nat.pow_add]
  exact Nat.mul_lt_mul'' ha hb
theorem big_plus_raw {j k : Nat} {a b : Int × Int} (ha : Big j a) (hb : Big k b) : (a.1 * b.2 + b.1 * a.2).natAbs < 2 ^ (j + k + 1) ∧ (a.2 * b.2).natAbs < 2 ^ (j + k) := by
  have h1 : (a.1 * b.2).natAbs < 2 ^ (j + k) := by rw [Int.natAbs_mul]; exact pow_mul_lt ha.1 hb.2
  have h2 : (b.1 * a.2).natAbs < 2 ^ (j + k) := by rw [Int.natAbs_mul, Nat.mul_comm]; exact pow_mul_lt ha.2 hb.1
  have h3 : (a.2 * b.2).natAbs < 2 ^ (j + k) := by rw [Int.natAbs_mul]; exact pow_mul_lt ha.2 hb.2
  refine ⟨?_, h3⟩
  rw [Nat.pow_succ]
  have := Int.natAbs_add_le (a.1 * b.2) (b.1 * a.2)
  omega
def spLowest (K : PySem.W.Frag) : Sp := fun vs h Q _ => ∃ (b : Hp) (n d : Int), Ex b h ∧ DtA K b vs [.int n, .int d] ∧ 0 < d ∧ d.natAbs < 2 ^ 8000 ∧ ∀ v b' h', Gr b h b' h' → Dt K b' v (nD (num n d)) → Q v h'
def numsD (l : List (Int × Int)) : PyData := .list (l.map nD)
section
variable {K : PySem.W.Frag} {σ : L2.St} {b h : Hp} {te ta tb : TE} {ts : TA} {E : XK} {p q : Int × Int} {l : List (Int × Int)}
theorem ed_lowest {n d : Int} (x : Ev ta σ b (.int n)) (y : Ev tb σ b (.int d)) (h0 : 0 < d) (h1 : d.natAbs < 2 ^ 8000) : ED K (tCall (spLowest K) [] E (tCons ta (tCons tb tNil))) σ b (nD (num n d)) := fun h e _ qq =>
  eda_cons (ed_int x) (eda_cons (ed_int y) eda_nil) h e _ fun vs b2 h2 g2 hv => ⟨b2, n, d, g2.gi, by rw [List.append_nil]; exact hv, h0, h1, fun v b3 h3 g3 hv3 => qq v b3 h3 (g2.trans g3) hv3⟩
theorem ev_num0 (x : ED K te σ b (nD p)) : Ev (tOp (rIxT K) te (tC (V.int 0))) σ b (.int p.1) := ev_int (ed_ixT x ev_c (by rfl))
theorem ev_num1 (x : ED K te σ b (nD p)) : Ev (tOp (rIxT K) te (tC (V.int 1))) σ b (.int p.2) := ev_int (ed_ixT x ev_c (by rfl))
theorem rGcd_ev {i j : Int} (x : Ev ta σ b (.int i)) (y : Ev tb σ b (.int j)) : Ev (tCB rGcd (tCons ta (tCons tb tNil))) σ b (.int ((Nat.gcd i.natAbs j.natAbs : Nat) : Int)) := fun h e _ q => x h e _ fun h2 e2 => y h2 (e.trans e2) _ fun h3 e3 => ⟨i, j, rfl, q h3 (e2.trans e3)⟩
end
theorem one_red : Red (0, 1) := ⟨by decide, by decide⟩
end Md
set_option Elab.async false
set_option linter.all false
set_option maxRecDepth 100000
set_option maxHeartbeats 2000000
namespace Md
open PySem L2 Evl
def kindD : PyData → String
  | .none => "NoneType" | .bool _ => "bool" | .int _ => "int" | .str _ => "str" | .list _ => "list" | .tuple _ => "tuple" | .dict _ => "dict"
def isNo : PyData → Bool
  | .none => true
  | _ => false
theorem Dt.ty {K : PySem.W.Frag} {H : Hp} : ∀ {d : PyData} {v : V}, Dt K H v d → TyX K H v (.type (kindD d))
  | .none, _, h => by cases h; exact .base .non
  | .bool b, _, h => by cases h; exact .base (.bl b)
  | .int i, _, h => by cases h; exact .base (.int i)
  | .str x, _, h => by cases h; exact .base (.str x)
  | .list ds, _, h => by
    cases h with
    | list h1 h2 => exact .base (.lst h1)
  | .tuple ds, _, h => by
    cases h with
    | tuple h1 h2 =>
      rcases h1 with (h1 | ⟨o, h1⟩) | ⟨o, its, n, h1, h3, _⟩
      · exact .base (.tup h1)
      · exact .fTuple h1
      · exact .kTuple h1 h3
  | .dict _, _, h => by cases h
section
variable {K : PySem.W.Frag} {σ : L2.St} {b h : Hp} {te ta tb : TE} {d : PyData} {ds : List PyData} {E : XK} {ts : TA}
theorem ev_isiD {T : String} {r : Bool} (x : ED K te σ b d) (hk : kitB (kindD d) T = some r) : Ev (tCB (rIsi K) (tCons te (tCons (tC (.ty T)) tNil))) σ b (.bl r) := fun h e _ q => x h e _ fun v b2 h2 g2 hv =>
  ⟨v, .ty T, .type (kindD d), .type T, r, rfl, .ty _, (hv.up g2.gi).ty, kit_ty hk, q h2 g2.gh⟩
theorem ev_isN (x : ED K te σ b d) {r : Bool} (hr : isNo d = r) : Ev (tOp rIsN te (tC .non)) σ b (.bl r) := fun h e _ q => x h e _ fun v b2 h2 g2 hv => by
  refine ⟨rfl, ?_⟩
  have e1 : decide (v = V.non) = r := by
    rw [← hr]
    cases d with
    | none => rw [hv.noneI] <;> rfl
    | bool k => rw [hv.boolI] <;> rfl
    | int k => rw [hv.intI] <;> rfl
    | str k => rw [hv.strI] <;> rfl
    | list k => obtain ⟨a, xs, rfl, _⟩ := hv.listI; rfl
    | tuple k => obtain ⟨a, xs, rfl, _⟩ := hv.tupleI; rfl
    | dict k => cases hv
  rw [e1]
  exact q h2 g2.gh
theorem all_true (n : Nat) : ((List.range n).map fun _ => true).all id = true := by
  rw [List.all_eq_true]
  intro x hx
  obtain ⟨_, _, rfl⟩ := List.mem_map.mp hx
  rfl
theorem givenD_true (n : Nat) : givenD n (fun _ => true) (fun _ => PyData.bool true) = ((List.range n).map fun _ => true).map PyData.bool := by
  rw [givenD_all, List.map_map]
  rfl
end
def rIsX (K : PySem.W.Frag) (D a : Addr) (cls : Value) (d : Option Addr) : List V → Hp → VK → Prop := fun xs H Q => ∃ (c : V) (cv : Value) (b : Bool) (dd : Addr) (fs : List (Str × V)), xs = [.ref a, c] ∧ (∀ u, RelV c u → u = cv) ∧ cls = .ref D ∧ d = some dd ∧ H dd = some (.xd fs) ∧
  PySem.W.kitOne K (.ref D) cv = some b ∧ Q (.bl b) H
theorem call_isX {X : Cx} {a D : Addr} {oe : Obj} {cls : Value} {d : Option Addr} {pn : List (Addr × Obj)} (C : ExcC X.K D) (hz : Zc cls d oe) (hf : ∃ vs, oe.data = .fields vs) : CallR (X.suite a ((a, oe) :: pn)) (.builtin "isinstance") (rIsX X.K D a cls d) := by
  intro pins s σ H xs us Q I r h
  obtain ⟨c, cv, b, dd, fs, rfl, hcv, rfl, rfl, hx, e, q⟩ := h
  obtain ⟨u1, u2, rfl, r1, r2⟩ := vals2 r
  obtain rfl : u1 = Value.ref a := r1
  obtain rfl := hcv _ r2
  obtain ⟨ha, _⟩ := I.pin (a, oe) (List.mem_append_left _ List.mem_cons_self)
  obtain ⟨vs, hd⟩ := hf
  obtain ⟨mA, hns, _⟩ := I.hok dd _ hx
  obtain ⟨od, ho, _⟩ := lookIn_ns hns
  have J : PySem.W.InstAt s.heap a oe D (some od) := ⟨ha, hz.1, by unfold PySem.W.notCls; rw [hd], by rw [hz.2]; exact ho⟩
  have hcl : (PySem.W.clsIn X.K D).isSome = true := by
    obtain ⟨cd, hc, _⟩ := PySem.W.any_some C.hd
    rw [hc]
    rfl
  exact PySem.W.kia_one (PySem.W.kitx_exc hcl C.hg C.hk C.hs C.ha C.hn C.ht C.hm) I.kIn J e (fun z => nomatch z) fun tk => ⟨.bl b, H, I.kept (t' := tk) fun _ _ z => z, rfl, q⟩
theorem isX_K {X : Cx} {K : PySem.W.Frag} {a D : Addr} {oe : Obj} {cls : Value} {d : Option Addr} {pn : List (Addr × Obj)} (h : X.K = K) (C : ExcC K D) (hz : Zc cls d oe) (hf : ∃ vs, oe.data = .fields vs) : CallR (X.suite a ((a, oe) :: pn)) (.builtin "isinstance") (rIsX K D a cls d) := by
  subst h
  exact call_isX C hz hf
def gainsF (G : List Pl) (x : Nat) (r : List Int) : List (Int × Int) := ((pathF G x r).take r.length).map fun y => (plAt G y).gain
end Md
namespace Md
open PySem L2 Evl
theorem map_getDn {α β : Type} (l : List α) (d : α) (f : α → β) : (List.range l.length).map (fun i => f (l.getD i d)) = l.map f := by
  refine List.ext_getElem? fun i => ?_
  rw [List.getElem?_map, List.getElem?_map]
  by_cases h : i < l.length
  · rw [List.getElem?_range h, List.getElem?_eq_getElem h]
    show some (f (l.getD i d)) = some (f l[i])
    rw [List.getD_eq_getElem?_getD, List.getElem?_eq_getElem h]
    rfl
  · rw [List.getElem?_eq_none (by rw [List.length_range]; omega), List.getElem?_eq_none (by omega)]
    rfl
theorem en_mapD {K : PySem.W.Frag} {σ : L2.St} {b : Hp} {tl te : TE} {j : Nat} {vs : List Nat} {α : Type} {D f : α → PyData} {l : List α} (x : ED K tl σ b (.list (l.map D))) (hz : l.length ≤ 40000) (hw : ∀ x, wipe ((wipe σ vs).set j (some x)) vs = wipe σ vs)
    (hs : ∀ y ∈ l, ∀ v b2, Ex b b2 → Dt K b2 v (D y) → ED K te ((wipe σ vs).set j (some v)) b2 (f y)) : EN K (tLc (iList K tl) (gName j) tYes te vs) σ b (l.map f) := by
  by_cases hl : l = []
  · subst hl
    exact en_lcL x hz (fun _ => true) (fun _ => .none) hw fun i d v b2 e hd _ => by
      rw [List.map_nil] at hd
      simp at hd
  · obtain ⟨a0, ha0⟩ : ∃ a0, a0 ∈ l := List.exists_mem_of_ne_nil l hl
    have e : givenD (l.map D).length (fun _ => true) (fun i => f (l.getD i a0)) = l.map f := by
      rw [givenD_all, List.length_map, map_getDn]
    rw [← e]
    refine en_lcL x (by rw [List.length_map]; exact hz) (fun _ => true) _ hw fun i d v b2 e hd hv => ⟨et_yes, fun _ => ?_⟩
    rw [List.getElem?_map] at hd
    cases z : l[i]? with
    | none => rw [z] at hd; cases hd
    | some y =>
      rw [z] at hd
      cases hd
      have e2 : l.getD i a0 = y := by rw [List.getD_eq_getElem?_getD, z] <;> rfl
      rw [e2]
      exact hs y (List.mem_of_getElem? z) v b2 e hv
end Md
namespace Md
open PySem L2 Evl
structure NBIs (K : PySem.W.Frag) (mg : Str → Option Value) (C cg : Addr) : Prop where
  mG : mg "GainError" = some (.ref cg)
  mV : mg "ValueError" = none
  ec : ExcC K C
  kG : PySem.W.kitOne K (.ref C) (.ref cg) = some true
  kV : PySem.W.kitOne K (.ref C) (.type "ValueError") = some true
section
variable {K : PySem.W.Frag} {σ : L2.St} {b h : Hp} {te ta : TE} {C cg a : Addr} {cls : Value} {d : Option Addr} {dd : Addr} {fs : List (Str × V)}
end
end Md
namespace Md
open PySem L2 Evl
section
variable {K : PySem.W.Frag} {σ : L2.St} {b : Hp} {ts : TA} {E : XK} {G : List Pl} {x m : Nat} {r : List Int}
end
end Md
namespace Md
open PySem L2 Evl
end Md
set_option Elab.async false
set_option linter.all false
set_option maxRecDepth 100000
set_option maxHeartbeats 2000000
namespace Md
open PySem L2 Evl
def qN (p : Int × Int) : Rat := (p.1 : Rat) / (p.2 : Rat)
theorem cast_ne {z : Int} (h : z ≠ 0) : (z : Rat) ≠ 0 := fun e => h (Rat.intCast_inj.mp (by rw [e]; rfl))
theorem red_ne {p : Int × Int} (h : Red p) : (p.2 : Rat) ≠ 0 := cast_ne (by have := h.1; omega)
theorem div_eq_of {a b c d : Rat} (hb : b ≠ 0) (hd : d ≠ 0) (h : a * d = c * b) : a / b = c / d := by grind
theorem cross_of_div {a b c d : Rat} (hb : b ≠ 0) (hd : d ≠ 0) (h : a / b = c / d) : a * d = c * b := by grind
theorem q_inj {p r : Int × Int} (hp : Red p) (hr : Red r) (h : qN p = qN r) : p = r := by
  refine red_ext hp hr ?_
  have h1 := cross_of_div (red_ne hp) (red_ne hr) h
  rw [← Rat.intCast_mul, ← Rat.intCast_mul] at h1
  exact Rat.intCast_inj.mp h1
theorem q_num {n d : Int} (h : 0 < d) : qN (num n d) = (n : Rat) / (d : Rat) := by
  refine div_eq_of (red_ne (num_red h)) (cast_ne (by omega)) ?_
  rw [← Rat.intCast_mul, ← Rat.intCast_mul, num_cross h]
theorem q_plus {a b : Int × Int} (ha : Red a) (hb : Red b) : qN (plusN a b) = qN a + qN b := by
  unfold plusN
  rw [q_num (mul_pos' ha.1 hb.1), Rat.intCast_add, Rat.intCast_mul, Rat.intCast_mul, Rat.intCast_mul]
  have h1 := red_ne ha
  have h2 := red_ne hb
  unfold qN
  grind
theorem q_times {a b : Int × Int} (ha : Red a) (hb : Red b) : qN (timesN a b) = qN a * qN b := by
  unfold timesN
  rw [q_num (mul_pos' ha.1 hb.1), Rat.intCast_mul, Rat.intCast_mul]
  have h1 := red_ne ha
  have h2 := red_ne hb
  unfold qN
  grind
theorem q_zero : qN (0, 1) = 0 := by
  unfold qN
  rw [Rat.div_def]
  exact Rat.zero_mul _
def divN (a b : Int × Int) : Int × Int := num (a.1 * b.2) (a.2 * b.1)
end Md
set_option Elab.async false
set_option linter.all false
set_option maxRecDepth 100000
set_option maxHeartbeats 4000000
namespace Md
open PySem PySem.Spec PyProof.Rows L2 Evl
end Md
set_option Elab.async false
set_option linter.all false
set_option maxRecDepth 100000
set_option maxHeartbeats 2000000
namespace Md
open PySem L2 Evl
def okA (G : List Pl) : Nat → List Int → Prop
  | _, [] => True
  | x, n :: r => okB G x n ∧ okA G (stepT G x n) r
def gainsR (G : List Pl) : Nat → List Int → List (Int × Int)
  | _, [] => []
  | x, n :: r => (plAt G x).gain :: gainsR G (stepT G x n) r
theorem okTo_of {G : List Pl} : ∀ {r : List Int} {x : Nat}, okA G x r → OkTo G x r r.length
  | [], _, _ => fun j n hj => absurd hj (Nat.not_lt_zero _)
  | n :: r, x, h => fun j m hj hm => by
    cases j with
    | zero =>
      simp only [List.getElem?_cons_zero, Option.some.injEq] at hm
      subst hm
      exact h.1
    | succ j =>
      simp only [List.getElem?_cons_succ] at hm
      exact okTo_of h.2 j m (Nat.lt_of_succ_lt_succ hj) hm
def gainAns (G : List Pl) (y : Nat) (s : List Int) : Int × Int := divN (sumN (gainsF G y s)) ((s.length : Int), 1)
def qSum (G : List Pl) (y : Nat) (s : List Int) : Rat := ((gainsR G y s).map qN).sum
end Md
namespace Md
open PySem L2 Evl
structure NCs (K : PySem.W.Frag) (mg : Str → Option Value) (N C : Addr) : Prop where
  mN : mg "NoCircle" = some (.ref N)
  ex : PySem.W.excIn K N [.type "ValueError", .type "Exception", .type "BaseException", .type "object"] "ValueError.__new__" = true
  kp : PySem.W.keepIn K (.ref N) = true
  sb : PySem.W.subIn K (.ref N) (.type "BaseException") = some true
  ty : PySem.W.typeIn K (.ref N) = some (.type "type")
def NCAt (h : Hp) (N : Addr) (E : XK) : Prop := ∀ h', Ex h h' → E (.ref N) none h'
theorem NCAt.up {H H' : Hp} {N : Addr} {E : XK} (x : NCAt H N E) (e : Ex H H') : NCAt H' N E := fun h' e' => x h' (e.trans e')
def NoC (G : List Pl) (x : Nat) (r s : List Int) : Prop := okA G x (r ++ s) ∧ (s = [] ∨ lastF G x (r ++ s) ≠ lastF G x r)
def BadAt (G : List Pl) (x : Nat) (r : List Int) (j : Nat) : Prop := ∃ n, r[j]? = some n ∧ OkTo G x r j ∧ ¬ okB G (lastF G x (r.take j)) n
theorem bad_ok {G : List Pl} {x : Nat} {r : List Int} {j : Nat} (h : BadAt G x r j) (ho : okA G x r) : False := by
  obtain ⟨n, hj, _, hb⟩ := h
  exact hb (okTo_of ho j n (List.getElem?_eq_some_iff.mp hj).1 hj)
theorem bad_det {G : List Pl} {x : Nat} {r : List Int} {i j : Nat} (h : BadAt G x r i) (h2 : BadAt G x r j) : i = j := by
  obtain ⟨n, hj, ho, hb⟩ := h
  obtain ⟨m, hj2, ho2, hb2⟩ := h2
  rcases Nat.lt_trichotomy i j with z | z | z
  · exact absurd (ho2 i n z hj) hb
  · exact z
  · exact absurd (ho j m z hj2) hb2
inductive Res5 (G : List Pl) (x : Nat) (r s : List Int) : PyData → Prop
  | good : okA G x (r ++ s) → s ≠ [] → lastF G x (r ++ s) = lastF G x r → Res5 G x r s (nD (gainAns G (lastF G x r) s))
  | circle : NoC G x r s → Res5 G x r s (.tuple [.str "raised", .str "circle"])
  | branch (j : Nat) : BadAt G x (r ++ s) j → Res5 G x r s (.tuple [.str "raised", .str "branch", .int (j : Int)])
theorem Res5.det {G : List Pl} {x : Nat} {r s : List Int} {d e : PyData} (h : Res5 G x r s d) (h2 : Res5 G x r s e) : d = e := by
  cases h with
  | good a1 a2 a3 =>
    cases h2 with
    | good _ _ _ => rfl
    | circle c => rcases c.2 with z | z
                  · exact absurd z a2
                  · exact absurd a3 z
    | branch j c => exact (bad_ok c a1).elim
  | circle a =>
    cases h2 with
    | good b1 b2 b3 => rcases a.2 with z | z
                       · exact absurd z b2
                       · exact absurd b3 z
    | circle _ => rfl
    | branch j c => exact (bad_ok c a.1).elim
  | branch i a =>
    cases h2 with
    | good b1 _ _ => exact (bad_ok a b1).elim
    | circle c => exact (bad_ok a c.1).elim
    | branch j c => rw [bad_det a c]
section
variable {K : PySem.W.Frag} {σ : L2.St} {b : Hp} {ts : TA} {E : XK} {G : List Pl} {x : Nat} {r s : List Int} {d : PyData} {p q : Int × Int}
end
end Md
namespace Md
open PySem L2 Evl
end Md
set_option Elab.async false
set_option linter.all false
set_option maxRecDepth 100000
set_option maxHeartbeats 2000000
namespace Md
open PySem L2 Evl
theorem pigeon : ∀ (n N : Nat) (p : Nat → Nat), (∀ i, i < N → p i < n) → (∀ i j, i < j → j < N → p i ≠ p j) → N ≤ n
  | 0, N, p, h, _ => by
    rcases Nat.eq_zero_or_pos N with z | z
    · omega
    · exact absurd (h 0 z) (Nat.not_lt_zero _)
  | n + 1, N, p, h, d => by
    by_cases hx : ∃ i, i < N ∧ p i = n
    · obtain ⟨i0, h0, e0⟩ := hx
      have ih := pigeon n (N - 1) (fun j => if j < i0 then p j else p (j + 1)) (fun j hj => ?_) (fun i j hij hj => ?_)
      · omega
      · show (if j < i0 then p j else p (j + 1)) < n
        split
        · rename_i z
          have h1 := h j (by omega)
          have h2 := d j i0 z h0
          omega
        · rename_i z
          have h1 := h (j + 1) (by omega)
          have h2 := d i0 (j + 1) (by omega) (by omega)
          omega
      · show (if i < i0 then p i else p (i + 1)) ≠ (if j < i0 then p j else p (j + 1))
        split
        · split
          · exact d i j hij (by omega)
          · exact d i (j + 1) (by omega) (by omega)
        · rw [if_neg (by omega)]
          exact d (i + 1) (j + 1) (by omega) (by omega)
    · have ih := pigeon n N p (fun i hi => ?_) d
      · omega
      · have h1 := h i hi
        have h2 : p i ≠ n := fun z => hx ⟨i, hi, z⟩
        omega
def atK (G : List Pl) (x : Nat) (r : List Int) (k : Nat) : Nat := lastF G x (r.take k)
section
variable {K : PySem.W.Frag} {σ : L2.St} {b : Hp} {te ta tb : TE} {l : List Nat} {x : Nat}
theorem ev_min {ns : List Int} {m : Int} (hl : ED K te σ b (.list (ns.map PyData.int))) (hm : m ∈ ns) (hle : ∀ y ∈ ns, m ≤ y) : Ev (tCB (rMin K) (tCons te tNil)) σ b (.int m) := fun hh e _ q => hl hh e _ fun v b2 h2 g2 hv => by
  obtain ⟨a, xs, rfl, k1, k2⟩ := hv.listI
  have hxs := k2.intsI
  subst hxs
  refine ⟨a, ns, rfl, sq_of (g2.gi _ _ k1), List.length_pos_of_mem hm, fun m' hm' hle' => ?_⟩
  have e1 := hle m' hm'
  have e2 := hle' m hm
  have : m' = m := by omega
  rw [this]
  exact q h2 g2.gh
end
end Md
namespace Md
open PySem L2 Evl
section
variable {K : PySem.W.Frag} {σ : L2.St} {b h : Hp} {te ta tb : TE} {ts : TA} {E : XK} {D : Ends} {tz : TS} {d1 d2 : PyData}
end
end Md
set_option Elab.async false
set_option linter.all false
set_option maxRecDepth 100000
set_option maxHeartbeats 2000000
namespace Md
open PySem L2 Evl
def NoDraw (G : List Pl) : Prop := ∀ p ∈ G, p.kind ≠ "draw"
def tbr (So St : List (Option Nat)) (p : Pl) (y : Nat) : Nat := if p.kind = "ours" then (So.getD y none).getD 0 else (St.getD y none).getD 0
def playR (G : List Pl) (So St : List (Option Nat)) (x : Nat) : Nat → List Int
  | 0 => []
  | n + 1 => playR G So St x n ++ [((tbr So St (plAt G (lastF G x (playR G So St x n))) (lastF G x (playR G So St x n)) : Nat) : Int)]
def hereR (G : List Pl) (So St : List (Option Nat)) (x n : Nat) : Nat := lastF G x (playR G So St x n)
structure Two (G : List Pl) (So St : List (Option Nat)) : Prop where
  wf : WfG G
  nd : NoDraw G
  so : WfS "ours" G So
  st : WfS "theirs" G St
section
variable {G : List Pl} {So St : List (Option Nat)} {x : Nat}
structure Lp (G : List Pl) (So St : List (Option Nat)) (x m f : Nat) : Prop where
  lt : f < m
  le : m ≤ G.length
  eq : hereR G So St x f = hereR G So St x m
  di : ∀ i k, i < k → k < m → hereR G So St x i ≠ hereR G So St x k
end
end Md
namespace Md
open PySem L2 Evl
def HasK (P : Program) (w : World) (K : PySem.W.Frag) (mg : Str → Option Value) (base : Heap) (k : Nat) (x : Str) (ps ks : List Str) (n m : Nat) (sp : Sp) : Prop :=
  ∃ f fd, FnOk P w K mg base CX0 k f fd ps sp ∧ mg x = some (.ref f) ∧ PySem.W.keepIn K (.ref f) = true ∧ KBinds K fd ps ks (gK n m) (gK n m)
end Md
namespace Md
open PySem L2 Evl
section
variable {K : PySem.W.Frag} {σ : L2.St} {b h : Hp} {te ta tb t1 t2 : TE} {ts tk : TA} {D : Ends} {tz : TS} {ds1 ds2 : List PyData} {E : XK}
end
section
variable {G : List Pl} {So St : List (Option Nat)} {x m f : Nat}
end
end Md
namespace Md
open PySem L2 Evl
section
variable {K : PySem.W.Frag} {σ : L2.St} {b h : Hp} {te t1 t2 : TE} {D : Ends} {tz : TS} {E : XK} {P1 P2 : PyData → Prop}
end
end Md
namespace Md
open PySem L2 Evl
end Md
set_option Elab.async false
set_option linter.all false
set_option maxRecDepth 100000
set_option maxHeartbeats 2000000
namespace Md
open PySem L2 Evl
abbrev US := List Int × List (Nat × List Int)
structure Circ (G : List Pl) (n : Nat) (p : Nat × List Int) : Prop where
  lt : p.1 < G.length
  ok : okA G p.1 p.2
  cy : lastF G p.1 p.2 = p.1
  di : ∀ i k, i < k → k < p.2.length → atK G p.1 p.2 i ≠ atK G p.1 p.2 k
  le : p.2.length ≤ n
def cSum (G : List Pl) (C : List (Nat × List Int)) : Rat := (C.map fun p => qSum G p.1 p.2).sum
def cLen (C : List (Nat × List Int)) : Nat := (C.map fun p => p.2.length).sum
structure UInv (G : List Pl) (x : Nat) (r : List Int) (s : US) : Prop where
  ok : okA G x s.1
  di : ∀ i k, i < k → k ≤ s.1.length → atK G x s.1 i ≠ atK G x s.1 k
  last : lastF G x s.1 = lastF G x r
  len : s.1.length + cLen s.2 = r.length
  sum : qSum G x s.1 + cSum G s.2 = qSum G x r
  circ : ∀ p ∈ s.2, Circ G r.length p
  many : s.2.length ≤ r.length
theorem sum_snoc (l : List Rat) (a : Rat) : (l ++ [a]).sum = l.sum + a := by
  rw [List.sum_append, List.sum_cons, List.sum_nil, Rat.add_zero]
end Md
namespace Md
open PySem L2 Evl
def OwnC (K : PySem.W.Frag) (h b' : Hp) (v : V) : Prop := ∃ t c us y, v = V.ref t ∧ SqT K b' t [.int y, .ref c] ∧ h c = none ∧ b' c = some (.lst us) ∧ us.length ≤ 60
theorem OwnC.up {K : PySem.W.Frag} {h b b' : Hp} {v : V} (x : OwnC K h b v) (e : Ex b b') : OwnC K h b' v := by
  obtain ⟨t, c, us, y, h1, h2, h3, h4, h5⟩ := x
  exact ⟨t, c, us, y, h1, ex_t e h2, h3, e _ _ h4, h5⟩
theorem OwnC.back {K : PySem.W.Frag} {h h1 b : Hp} {v : V} (x : OwnC K h1 b v) (e : Ex h h1) : OwnC K h b v := by
  obtain ⟨t, c, us, y, q1, q2, q3, q4, q5⟩ := x
  exact ⟨t, c, us, y, q1, q2, fresh_back e q3, q4, q5⟩
section
variable {K : PySem.W.Frag} {σ : L2.St} {b h : Hp} {te ta t1 t2 : TE} {ts : TA} {E : XK} {D : Ends} {tz : TS} {ds : List PyData} {y : Int} {q : Addr} {us : List V}
end
end Md
namespace Md
open PySem L2 Evl
end Md
namespace Md
open PySem L2 Evl
end Md
namespace Md
open PySem L2 Evl
section
variable {K : PySem.W.Frag} {σ : L2.St} {b : Hp} {te : TE} {ts : TA} {E : XK} {G : List Pl} {x : Nat} {r : List Int}
end
end Md
set_option Elab.async false
set_option linter.all false
set_option maxRecDepth 100000
set_option maxHeartbeats 2000000
namespace L2
open PySem PySem.Spec PyProof.Rows
section
variable {X : Cx}
def rLcm : List V → Hp → VK → Prop := fun vs H Q => ∃ a b : Int, vs = [.int a, .int b] ∧ a.natAbs < 2 ^ 13000 ∧ b.natAbs < 2 ^ 13000 ∧ Q (.int ((Nat.lcm a.natAbs b.natAbs : Nat) : Int)) H
theorem lcm_lt {a b j : Nat} (h1 : a < 2 ^ j) (h2 : b < 2 ^ j) : Nat.lcm a b < 2 ^ (j + j) := by
  have h : Nat.lcm a b ≤ a * b := Nat.div_le_self _ _
  rcases Nat.eq_zero_or_pos (a * b) with z | z
  · have := Nat.two_pow_pos (j + j)
    omega
  · have : a * b < 2 ^ j * 2 ^ j := Nat.mul_lt_mul'' h1 h2
    rw [Nat.pow_add]
    omega
theorem cr_lcm : CallR X (.builtin "math.lcm") rLcm := by
  intro pins s σ H vs us Q I r h
  obtain ⟨a, b, rfl, ha, hb, q⟩ := h
  obtain ⟨t, u, rfl⟩ := Vals.int2 r
  have h1 : (max 1 a.natAbs).log2 ≤ 12999 := PySem.W.mg_log (by
    have : (1 : Nat) < 2 ^ (12999 + 1) := Nat.lt_of_lt_of_le (by decide : 1 < 2 ^ 1) (Nat.pow_le_pow_right (by decide) (by decide))
    have ha' : a.natAbs < 2 ^ (12999 + 1) := ha
    generalize 2 ^ (12999 + 1) = N at this ha'
    omega)
  have h2 : (max a.natAbs b.natAbs).log2 ≤ 12999 := PySem.W.mg_log (by
    have ha' : a.natAbs < 2 ^ (12999 + 1) := ha
    have hb' : b.natAbs < 2 ^ (12999 + 1) := hb
    generalize 2 ^ (12999 + 1) = N at ha' hb'
    omega)
  have e1 : (Nat.lcm 1 a.natAbs).lcm b.natAbs = Nat.lcm a.natAbs b.natAbs := by rw [Nat.lcm_one_left]
  have hsz : ((((Nat.lcm 1 a.natAbs).lcm b.natAbs : Nat) : Int)).natAbs.log2 < bitsLine := by
    rw [e1, Int.natAbs_natCast]
    have h3 : (Nat.lcm a.natAbs b.natAbs).log2 ≤ 25999 := PySem.W.mg_log (lcm_lt ha hb)
    exact Nat.lt_of_le_of_lt h3 (by decide)
  refine call_function_meets PySem.W.MGF.kind_lcm PySem.W.MGF.plain_lcm PySem.W.MGF.entry_lcm (PySem.W.MGF.args_lcm _ _) (PySem.W.mg_run_lcm a t b u (by omega) (by omega) hsz).meets ?_
  rw [e1]
  exact ⟨.int _, H, I.tok _, ⟨_, rfl⟩, q⟩
end
end L2
namespace Md
open PySem L2 Evl
section
variable {K : PySem.W.Frag} {σ : L2.St} {b h : Hp} {te tl tl1 ta tb : TE} {ts : TA} {E : XK} {D : Ends} {tz : TS} {d : PyData} {ds : List PyData}
theorem rLcm_ev {i j : Int} (x : Ev ta σ b (.int i)) (y : Ev tb σ b (.int j)) (hi : i.natAbs < 2 ^ 13000) (hj : j.natAbs < 2 ^ 13000) : Ev (tCB rLcm (tCons ta (tCons tb tNil))) σ b (.int ((Nat.lcm i.natAbs j.natAbs : Nat) : Int)) := fun h e _ q => x h e _ fun h2 e2 => y h2 (e.trans e2) _ fun h3 e3 => ⟨i, j, rfl, hi, hj, q h3 (e2.trans e3)⟩
theorem pi_tupK {X : Cx} {tg e : Expr} {tl : TE} (h : X.K = K) (hl : PE X e tl) : PI X tg e (iTup K tl) := h ▸ pi_tup hl
theorem sortedI_K {X : Cx} (h : X.K = K) : CallR X (.builtin "sorted") (rSortedI K) := h ▸ cr_sortedI
theorem flat_rep {α : Type} (n : Nat) (a : α) : (List.replicate n [a]).flatten = List.replicate n a := by
  induction n with
  | zero => rfl
  | succ n ih =>
    rw [List.replicate_succ, List.flatten_cons, ih]
    rfl
theorem r_forT {g : TG} {tu : TS} {h0 : Hp} (x : ED K tl σ b (.tuple ds)) (e : Ex b h0)
    (k : ∀ a xs b1 h1, Gr b h0 b1 h1 → SqT K b1 a xs → DtA K b1 xs ds → ∃ Pv : Nat → L2.St → Hp → Prop, Pv 0 σ h1 ∧ (∀ i σ' h', Pv i σ' h' → Ex b1 h') ∧
      (∀ i d x σ' h', ds[i]? = some d → Dt K b1 x d → Pv i σ' h' → g x σ' h' fun σ2 h2 => tu { D with nx := Pv (i + 1), ct := Pv (i + 1), bk := D.nx } σ2 h2) ∧ ∀ σ' h', Pv ds.length σ' h' → D.nx σ' h') :
    tFor (iTup K tl) g tu D σ h0 := x h0 e _ fun v b1 h1 g1 hv => by
  obtain ⟨a, xs, rfl, k1, k2⟩ := hv.tupleI
  obtain ⟨Pv, p0, pe, ps, pd⟩ := k a xs b1 h1 g1 k1 k2
  refine ⟨a, rfl, ⟨xs, ex_t g1.gi k1⟩, for_tup Pv p0 (fun i σ' h' _ p => ex_t (pe i σ' h' p) k1) (fun i y σ' h' hy p => ?_) (fun σ' h' p => pd σ' h' (by rw [← k2.length]; exact p))⟩
  obtain ⟨dd, hdd, hx⟩ := k2.getV hy
  exact ps i dd y σ' h' hdd hx p
end
end Md
set_option Elab.async false
set_option linter.all false
set_option maxRecDepth 100000
set_option maxHeartbeats 2000000
namespace Md
open PySem L2 Evl
abbrev BrC := (Int × Int) × Nat
structure PlC where
  g : Int × Int
  bs : List BrC
def brC (q : BrC) : PyData := .tuple [nD q.1, .int (q.2 : Int)]
def PlC.D (p : PlC) : PyData := .tuple [nD p.g, .str "draw", .list (p.bs.map brC)]
def chD (C : List PlC) : PyData := .list (C.map PlC.D)
structure WfB (n : Nat) (p : PlC) : Prop where
  g : SmallN p.g
  l1 : 1 ≤ p.bs.length
  l6 : p.bs.length ≤ 6
  q : ∀ q ∈ p.bs, SmallN q.1 ∧ 0 < q.1.1 ∧ q.2 < n
  w : ∃ W : Nat, 0 < W ∧ W ≤ 360 ∧ ∀ q ∈ p.bs, q.1.2.natAbs ∣ W
  s : (p.bs.map fun q => qN q.1).sum = 1
structure WfC (C : List PlC) : Prop where
  l1 : 1 ≤ C.length
  l12 : C.length ≤ 12
  p : ∀ p ∈ C, WfB C.length p
def plC (C : List PlC) (k : Nat) : PlC := C.getD k ⟨(0, 1), []⟩
theorem plC_get {C : List PlC} {k : Nat} (h : k < C.length) : C[k]? = some (plC C k) := by
  unfold plC
  rw [List.getD_eq_getElem?_getD, List.getElem?_eq_getElem h]
  rfl
theorem plC_wf {C : List PlC} (h : WfC C) {k : Nat} (hk : k < C.length) : WfB C.length (plC C k) := h.p _ (List.mem_of_getElem? (plC_get hk))
def sumR (n : Nat) (f : Nat → Rat) : Rat := ((List.range n).map f).sum
theorem sumR_zero (f : Nat → Rat) : sumR 0 f = 0 := rfl
theorem sumR_succ (n : Nat) (f : Nat → Rat) : sumR (n + 1) f = sumR n f + f n := by
  unfold sumR
  rw [List.range_succ, List.map_append, List.map_cons, List.map_nil, sum_snoc]
theorem sumR_congr {n : Nat} {f g : Nat → Rat} (h : ∀ i, i < n → f i = g i) : sumR n f = sumR n g := by
  induction n with
  | zero => rfl
  | succ n ih => rw [sumR_succ, sumR_succ, ih fun i hi => h i (Nat.lt_succ_of_lt hi), h n (Nat.lt_succ_self n)]
theorem sumR_add (n : Nat) (f g : Nat → Rat) : sumR n (fun i => f i + g i) = sumR n f + sumR n g := by
  induction n with
  | zero => rw [sumR_zero, sumR_zero, sumR_zero, Rat.add_zero]
  | succ n ih => rw [sumR_succ, sumR_succ, sumR_succ, ih]; grind
theorem sumR_mul (n : Nat) (c : Rat) (f : Nat → Rat) : sumR n (fun i => c * f i) = c * sumR n f := by
  induction n with
  | zero => rw [sumR_zero, sumR_zero, Rat.mul_zero]
  | succ n ih => rw [sumR_succ, sumR_succ, ih]; grind
theorem sumR_const0 (n : Nat) : sumR n (fun _ => 0) = 0 := by
  induction n with
  | zero => rfl
  | succ n ih => rw [sumR_succ, ih, Rat.add_zero]
theorem sumR_one {n k : Nat} (a : Rat) (h : k < n) : sumR n (fun j => if j = k then a else 0) = a := by
  induction n with
  | zero => omega
  | succ n ih =>
    rw [sumR_succ]
    by_cases e : k = n
    · subst e
      rw [if_pos rfl, sumR_congr (g := fun _ => 0) fun i hi => if_neg (by omega), sumR_const0, Rat.zero_add]
    · rw [ih (by omega), if_neg (fun z => e z.symm), Rat.add_zero]
def wsum (bs : List BrC) (f : Nat → Rat) : Rat := (bs.map fun q => qN q.1 * f q.2).sum
theorem wsum_nil (f : Nat → Rat) : wsum [] f = 0 := rfl
theorem wsum_cons (q : BrC) (bs : List BrC) (f : Nat → Rat) : wsum (q :: bs) f = qN q.1 * f q.2 + wsum bs f := by
  unfold wsum
  rw [List.map_cons, List.sum_cons]
theorem wsum_snoc (q : BrC) (bs : List BrC) (f : Nat → Rat) : wsum (bs ++ [q]) f = wsum bs f + qN q.1 * f q.2 := by
  unfold wsum
  rw [List.map_append, List.map_cons, List.map_nil, sum_snoc]
theorem wsum_congr {bs : List BrC} {f g : Nat → Rat} (h : ∀ q ∈ bs, f q.2 = g q.2) : wsum bs f = wsum bs g := by
  induction bs with
  | nil => rfl
  | cons q bs ih => rw [wsum_cons, wsum_cons, ih fun q hq => h q (List.mem_cons_of_mem _ hq), h q (List.mem_cons_self ..)]
theorem wsum_add (bs : List BrC) (f g : Nat → Rat) : wsum bs (fun j => f j + g j) = wsum bs f + wsum bs g := by
  induction bs with
  | nil => rw [wsum_nil, wsum_nil, wsum_nil, Rat.add_zero]
  | cons q bs ih => rw [wsum_cons, wsum_cons, wsum_cons, ih]; grind
theorem wsum_mul (bs : List BrC) (c : Rat) (f : Nat → Rat) : wsum bs (fun j => c * f j) = c * wsum bs f := by
  induction bs with
  | nil => rw [wsum_nil, wsum_nil, Rat.mul_zero]
  | cons q bs ih => rw [wsum_cons, wsum_cons, ih]; grind
theorem wsum_one (bs : List BrC) : wsum bs (fun _ => 1) = (bs.map fun q => qN q.1).sum := by
  unfold wsum
  congr 1
  exact List.map_congr_left fun q _ => Rat.mul_one _
def meanC (C : List PlC) (f : Nat → Rat) (k : Nat) : Rat := wsum (plC C k).bs f
theorem mean_one {C : List PlC} (h : WfC C) {k : Nat} (hk : k < C.length) : meanC C (fun _ => 1) k = 1 := by
  unfold meanC
  rw [wsum_one]
  exact (plC_wf h hk).s
def gainC (C : List PlC) (k : Nat) : Rat := qN (plC C k).g
def Zt (M : Nat) (r : Rat) : Prop := ∃ z : Int, r * ((M : Int) : Rat) = (z : Rat)
theorem Zt.add {M : Nat} {a b : Rat} (h : Zt M a) (g : Zt M b) : Zt M (a + b) := by
  obtain ⟨x, hx⟩ := h
  obtain ⟨y, hy⟩ := g
  exact ⟨x + y, by rw [Rat.intCast_add]; grind⟩
theorem Zt.mul {M N : Nat} {a b : Rat} (h : Zt M a) (g : Zt N b) : Zt (M * N) (a * b) := by
  obtain ⟨x, hx⟩ := h
  obtain ⟨y, hy⟩ := g
  refine ⟨x * y, ?_⟩
  rw [Int.natCast_mul, Rat.intCast_mul, Rat.intCast_mul, ← hx, ← hy]
  grind
theorem Zt.dvd {M N : Nat} {a : Rat} (h : Zt M a) (d : M ∣ N) : Zt N a := by
  obtain ⟨x, hx⟩ := h
  obtain ⟨c, rfl⟩ := d
  refine ⟨x * c, ?_⟩
  rw [Int.natCast_mul, Rat.intCast_mul, Rat.intCast_mul, ← hx]
  grind
theorem zt_zero (M : Nat) : Zt M 0 := ⟨0, by rw [Rat.zero_mul]; rfl⟩
theorem zt_int (M : Nat) (z : Int) : Zt M (z : Rat) := ⟨z * M, by rw [Rat.intCast_mul]⟩
theorem zt_den {p : Int × Int} (h : Red p) {M : Nat} (d : p.2.natAbs ∣ M) : Zt M (qN p) := by
  obtain ⟨c, rfl⟩ := d
  refine ⟨p.1 * c, ?_⟩
  have e : ((p.2.natAbs * c : Nat) : Int) = p.2 * (c : Int) := by
    rw [Int.natCast_mul, Int.natAbs_of_nonneg (by have := h.1; omega)]
  rw [e, Rat.intCast_mul, Rat.intCast_mul]
  have := red_ne h
  unfold qN
  grind
theorem nat_ne {M : Nat} (h : 0 < M) : ((M : Int) : Rat) ≠ 0 := cast_ne (by omega)
theorem zt_dvd {p : Int × Int} (h : Red p) {M : Nat} (z : Zt M (qN p)) : p.2.natAbs ∣ M := by
  obtain ⟨x, hx⟩ := z
  have hp := red_ne h
  have e : (p.1 : Rat) * ((M : Int) : Rat) = (x : Rat) * (p.2 : Rat) := by
    unfold qN at hx
    grind
  rw [← Rat.intCast_mul, ← Rat.intCast_mul] at e
  have e2 : p.1 * (M : Int) = x * p.2 := Rat.intCast_inj.mp e
  have e3 : p.1.natAbs * M = x.natAbs * p.2.natAbs := by
    have := congrArg Int.natAbs e2
    rwa [Int.natAbs_mul, Int.natAbs_mul, Int.natAbs_natCast] at this
  have d : p.2.natAbs ∣ p.1.natAbs * M := ⟨x.natAbs, by rw [e3, Nat.mul_comm]⟩
  exact Nat.Coprime.dvd_of_dvd_mul_left (show Nat.Coprime p.2.natAbs p.1.natAbs by unfold Nat.Coprime; rw [Nat.gcd_comm]; exact h.2) d
theorem cast_le {a b : Int} (h : (a : Rat) ≤ (b : Rat)) : a ≤ b := Rat.intCast_le_intCast.mp h
theorem le_cast {a b : Int} (h : a ≤ b) : (a : Rat) ≤ (b : Rat) := Rat.intCast_le_intCast.mpr h
theorem cast_pos {a : Int} (h : 0 < a) : (0 : Rat) < (a : Rat) := Rat.intCast_lt_intCast.mpr h
theorem q_mul {p : Int × Int} (h : Red p) : qN p * (p.2 : Rat) = (p.1 : Rat) := by
  have := red_ne h
  unfold qN
  grind
theorem zt_big {p : Int × Int} (h : Red p) {M B : Nat} (hM : 0 < M) (z : Zt M (qN p)) (h1 : -((B : Int) : Rat) ≤ qN p) (h2 : qN p ≤ ((B : Int) : Rat)) : p.2.natAbs ≤ M ∧ p.1.natAbs ≤ B * M := by
  have d := Nat.le_of_dvd hM (zt_dvd h z)
  have hp : (0 : Rat) ≤ (p.2 : Rat) := Rat.le_of_lt (cast_pos (by have := h.1; omega))
  have e := q_mul h
  have u1 := Rat.mul_le_mul_of_nonneg_right h1 hp
  have u2 := Rat.mul_le_mul_of_nonneg_right h2 hp
  rw [e] at u1 u2
  have v2 : p.1 ≤ (B : Int) * p.2 := cast_le (by rw [Rat.intCast_mul]; exact u2)
  have v1 : -((B : Int) * p.2) ≤ p.1 := cast_le (by rw [Rat.intCast_neg, Rat.intCast_mul]; grind)
  have e2 : (p.2.natAbs : Int) = p.2 := Int.natAbs_of_nonneg (by have := h.1; omega)
  have h3 : p.1.natAbs ≤ B * p.2.natAbs := by
    have e3 : ((B * p.2.natAbs : Nat) : Int) = (B : Int) * p.2 := by rw [Int.natCast_mul, e2]
    omega
  exact ⟨d, Nat.le_trans h3 (Nat.mul_le_mul_left B d)⟩
theorem zt_Big {p : Int × Int} (h : Red p) {M B j : Nat} (hM : 0 < M) (z : Zt M (qN p)) (h1 : -((B : Int) : Rat) ≤ qN p) (h2 : qN p ≤ ((B : Int) : Rat)) (hB : 1 ≤ B) (hj : B * M < 2 ^ j) : Big j p := by
  have := zt_big h hM z h1 h2
  have hm : M ≤ B * M := Nat.le_mul_of_pos_left M hB
  exact ⟨by omega, by omega⟩
def denL (l : List (Int × Int)) : Nat := l.foldl (fun d p => Nat.lcm d p.2.natAbs) 1
theorem denL_snoc (l : List (Int × Int)) (p : Int × Int) : denL (l ++ [p]) = Nat.lcm (denL l) p.2.natAbs := by
  unfold denL
  rw [List.foldl_append]
  rfl
theorem denL_from : ∀ (l : List (Int × Int)) (d : Nat), d ∣ l.foldl (fun d p => Nat.lcm d p.2.natAbs) d ∧ ∀ p ∈ l, p.2.natAbs ∣ l.foldl (fun d p => Nat.lcm d p.2.natAbs) d
  | [], d => ⟨Nat.dvd_refl d, fun p hp => (by cases hp)⟩
  | q :: l, d => by
    obtain ⟨h1, h2⟩ := denL_from l (Nat.lcm d q.2.natAbs)
    refine ⟨Nat.dvd_trans (Nat.dvd_lcm_left _ _) h1, fun p hp => ?_⟩
    rcases List.mem_cons.mp hp with rfl | hp
    · exact Nat.dvd_trans (Nat.dvd_lcm_right _ _) h1
    · exact h2 p hp
theorem denL_dvd {l : List (Int × Int)} {p : Int × Int} (h : p ∈ l) : p.2.natAbs ∣ denL l := (denL_from l 1).2 p h
theorem denL_least : ∀ (l : List (Int × Int)) (d M : Nat), d ∣ M → (∀ p ∈ l, p.2.natAbs ∣ M) → l.foldl (fun d p => Nat.lcm d p.2.natAbs) d ∣ M
  | [], d, M, h, _ => h
  | q :: l, d, M, h, g => denL_least l _ M (Nat.lcm_dvd h (g q (List.mem_cons_self ..))) fun p hp => g p (List.mem_cons_of_mem _ hp)
theorem denL_to {l : List (Int × Int)} {M : Nat} (g : ∀ p ∈ l, p.2.natAbs ∣ M) : denL l ∣ M := denL_least l 1 M (Nat.one_dvd M) g
theorem denL_pos : ∀ {l : List (Int × Int)}, (∀ p ∈ l, 1 ≤ p.2) → 0 < denL l := by
  intro l
  unfold denL
  suffices ∀ d, 0 < d → (∀ p ∈ l, 1 ≤ p.2) → 0 < l.foldl (fun d p => Nat.lcm d p.2.natAbs) d from fun h => this 1 (by decide) h
  induction l with
  | nil => exact fun d h _ => h
  | cons q l ih => exact fun d h g => ih _ (Nat.lcm_pos h (by have := g q (List.mem_cons_self ..); omega)) fun p hp => g p (List.mem_cons_of_mem _ hp)
def gainsC (C : List PlC) : List (Int × Int) := C.map (·.g)
theorem unit_le : ∀ {C : List PlC} {n : Nat}, (∀ p ∈ C, WfB n p) → ∃ M : Nat, 0 < M ∧ M ≤ 999 ^ C.length ∧ ∀ c ∈ gainsC C, c.2.natAbs ∣ M
  | [], n, _ => ⟨1, by decide, by decide, fun c h => by cases h⟩
  | p :: C, n, h => by
    obtain ⟨M, h0, h1, h2⟩ := unit_le (C := C) (n := n) fun p hp => h p (List.mem_cons_of_mem _ hp)
    have hg := (h p (List.mem_cons_self ..)).g
    refine ⟨M * p.g.2.natAbs, Nat.mul_pos h0 (by have := hg.1; omega), ?_, fun c hc => ?_⟩
    · rw [List.length_cons, Nat.pow_succ]
      exact Nat.mul_le_mul h1 (by have := hg.1; have := hg.2.1; omega)
    · rcases List.mem_cons.mp hc with rfl | hc
      · exact Nat.dvd_mul_left _ _
      · exact Nat.dvd_trans (h2 c hc) (Nat.dvd_mul_right _ _)
theorem unit_ok {C : List PlC} (h : WfC C) : 0 < denL (gainsC C) ∧ denL (gainsC C) ≤ 999 ^ C.length := by
  obtain ⟨M, h0, h1, h2⟩ := unit_le h.p
  refine ⟨denL_pos fun c hc => ?_, Nat.le_trans (Nat.le_of_dvd h0 (denL_to h2)) h1⟩
  obtain ⟨p, hp, rfl⟩ := List.mem_map.mp hc
  exact (h.p p hp).g.1
end Md
set_option Elab.async false
set_option linter.all false
set_option maxRecDepth 100000
set_option maxHeartbeats 2000000
namespace Md
open PySem L2 Evl
def canon (r : Rat) : Int × Int := (r.num, (r.den : Int))
theorem canon_red (r : Rat) : Red (canon r) := ⟨by have := r.den_pos; show (1 : Int) ≤ (r.den : Int); omega, r.reduced⟩
theorem q_canon (r : Rat) : qN (canon r) = r := by
  show (r.num : Rat) / ((r.den : Int) : Rat) = r
  rw [← Rat.divInt_eq_div]
  exact Rat.num_divInt_den r
theorem canon_of {p : Int × Int} {r : Rat} (h : Red p) (e : qN p = r) : p = canon r := q_inj h (canon_red r) (by rw [e, q_canon])
def nQ (r : Rat) : PyData := nD (canon r)
theorem plus_canon (a b : Rat) : plusN (canon a) (canon b) = canon (a + b) := canon_of (plusN_red (canon_red a) (canon_red b)) (by rw [q_plus (canon_red a) (canon_red b), q_canon, q_canon])
theorem times_canon (a b : Rat) : timesN (canon a) (canon b) = canon (a * b) := canon_of (timesN_red (canon_red a) (canon_red b)) (by rw [q_times (canon_red a) (canon_red b), q_canon, q_canon])
theorem canon_red_self {p : Int × Int} (h : Red p) : p = canon (qN p) := canon_of h rfl
theorem num_canon {n d : Int} (h : 0 < d) : num n d = canon ((n : Rat) / (d : Rat)) := canon_of (num_red h) (q_num h)
theorem canon_zero : canon 0 = (0, 1) := (canon_of one_red q_zero).symm
theorem q_one : qN (1, 1) = 1 := by show ((1 : Int) : Rat) / ((1 : Int) : Rat) = 1; decide +kernel
def listQ (n : Nat) (f : Nat → Rat) : PyData := .list ((List.range n).map fun k => nQ (f k))
theorem listQ_congr {n : Nat} {f g : Nat → Rat} (h : ∀ k, k < n → f k = g k) : listQ n f = listQ n g := by
  unfold listQ
  congr 1
  exact List.map_congr_left fun k hk => by rw [h k (List.mem_range.mp hk)]
theorem listQ_at {n k : Nat} {f : Nat → Rat} (h : k < n) : L2.atI ((List.range n).map fun k => nQ (f k)) (k : Int) = some (nQ (f k)) := atI_nat (by rw [List.getElem?_map, List.getElem?_range h] <;> rfl)
def smZ (S : Nat) (ns : List Int) (bs : List BrC) : Int := (bs.map fun q => q.1.1 * ((S : Int) / q.1.2) * ns.getD q.2 0).sum
theorem getD_range {n k : Nat} (f : Nat → Int) (h : k < n) : ((List.range n).map f).getD k 0 = f k := by
  rw [List.getD_eq_getElem?_getD, List.getElem?_map, List.getElem?_range h]
  rfl
theorem whole_q {p : Int × Int} (h : Red p) {M : Nat} (d : p.2.natAbs ∣ M) : ((p.1 * ((M : Int) / p.2) : Int) : Rat) = qN p * ((M : Int) : Rat) := by
  have d2 : p.2 ∣ (M : Int) := Int.natAbs_dvd_natAbs.mp (by rw [Int.natAbs_natCast]; exact d)
  obtain ⟨c, hc⟩ := d2
  have hp : p.2 ≠ 0 := by have := h.1; omega
  rw [hc, Int.mul_ediv_cancel_left _ hp, Rat.intCast_mul, Rat.intCast_mul, ← Rat.mul_assoc, q_mul h]
theorem smZ_cast {S : Nat} {ns : List Int} {bs : List BrC} {f : Nat → Rat} {c : Rat} (h : ∀ q ∈ bs, Red q.1 ∧ q.1.2.natAbs ∣ S ∧ ((ns.getD q.2 0 : Int) : Rat) = f q.2 * c) : ((smZ S ns bs : Int) : Rat) = wsum bs f * (c * ((S : Int) : Rat)) := by
  induction bs with
  | nil =>
    rw [wsum_nil, Rat.zero_mul]
    rfl
  | cons q bs ih =>
    have e : smZ S ns (q :: bs) = q.1.1 * ((S : Int) / q.1.2) * ns.getD q.2 0 + smZ S ns bs := by
      unfold smZ
      rw [List.map_cons, List.sum_cons]
    obtain ⟨h1, h2, h3⟩ := h q (List.mem_cons_self ..)
    rw [e, Rat.intCast_add, ih fun q hq => h q (List.mem_cons_of_mem _ hq), wsum_cons, Rat.intCast_mul, whole_q h1 h2, h3]
    grind
theorem pow_cast (S : Nat) (t : Nat) : (((S : Int) ^ t : Int) : Rat) = ((S : Int) : Rat) ^ t := by
  induction t with
  | zero => rfl
  | succ t ih => rw [Int.pow_succ, Rat.intCast_mul, ih, Rat.pow_succ]
theorem wsum_le {bs : List BrC} {f g : Nat → Rat} (h : ∀ q ∈ bs, 0 ≤ qN q.1 ∧ f q.2 ≤ g q.2) : wsum bs f ≤ wsum bs g := by
  induction bs with
  | nil => exact Rat.le_refl
  | cons q bs ih =>
    rw [wsum_cons, wsum_cons]
    have h1 := ih fun q hq => h q (List.mem_cons_of_mem _ hq)
    obtain ⟨h2, h3⟩ := h q (List.mem_cons_self ..)
    have := Rat.mul_le_mul_of_nonneg_left h3 h2
    grind
theorem q_pos {p : Int × Int} (h : Red p) (h0 : 0 < p.1) : 0 < qN p := by
  have h1 : (0 : Rat) < (p.2 : Rat) := cast_pos (by have := h.1; omega)
  have h2 : (0 : Rat) < (p.1 : Rat) := cast_pos h0
  unfold qN
  rw [Rat.div_def]
  exact Rat.mul_pos h2 (Rat.inv_pos.mpr h1)
theorem br_pos {C : List PlC} (h : WfC C) {k : Nat} (hk : k < C.length) {q : BrC} (hq : q ∈ (plC C k).bs) : 0 < qN q.1 := q_pos (red_small ((plC_wf h hk).q q hq).1) ((plC_wf h hk).q q hq).2.1
theorem mean_le {C : List PlC} (h : WfC C) {k : Nat} (hk : k < C.length) {f : Nat → Rat} {c : Rat} (hf : ∀ j, j < C.length → f j ≤ c) : meanC C f k ≤ c := by
  have h1 : meanC C f k ≤ meanC C (fun _ => c * 1) k := wsum_le fun q hq => ⟨Rat.le_of_lt (br_pos h hk hq), by rw [Rat.mul_one]; exact hf _ ((plC_wf h hk).q q hq).2.2⟩
  have h2 : meanC C (fun _ => c * 1) k = c * meanC C (fun _ => 1) k := wsum_mul _ _ _
  rw [mean_one h hk] at h2
  grind
theorem mean_ge {C : List PlC} (h : WfC C) {k : Nat} (hk : k < C.length) {f : Nat → Rat} {c : Rat} (hf : ∀ j, j < C.length → c ≤ f j) : c ≤ meanC C f k := by
  have h1 : meanC C (fun _ => c * 1) k ≤ meanC C f k := wsum_le fun q hq => ⟨Rat.le_of_lt (br_pos h hk hq), by rw [Rat.mul_one]; exact hf _ ((plC_wf h hk).q q hq).2.2⟩
  have h2 : meanC C (fun _ => c * 1) k = c * meanC C (fun _ => 1) k := wsum_mul _ _ _
  rw [mean_one h hk] at h2
  grind
theorem div_le' {a b c : Rat} (h : 0 < b) (g : a ≤ c * b) : a / b ≤ c := by
  have : ¬ c < a / b := fun z => by
    rw [Rat.lt_div_iff h] at z
    grind
  grind
theorem le_div' {a b c : Rat} (h : 0 < b) (g : c * b ≤ a) : c ≤ a / b := by
  have : ¬ a / b < c := fun z => by
    rw [Rat.div_lt_iff h] at z
    grind
  grind
theorem q_le {p : Int × Int} (h : Red p) {c : Int} (hc : p.1 ≤ c * p.2) : qN p ≤ (c : Rat) := by
  have h1 : (0 : Rat) < (p.2 : Rat) := cast_pos (by have := h.1; omega)
  unfold qN
  refine div_le' h1 ?_
  rw [← Rat.intCast_mul]
  exact le_cast hc
theorem q_ge {p : Int × Int} (h : Red p) {c : Int} (hc : c * p.2 ≤ p.1) : (c : Rat) ≤ qN p := by
  have h1 : (0 : Rat) < (p.2 : Rat) := cast_pos (by have := h.1; omega)
  unfold qN
  refine le_div' h1 ?_
  rw [← Rat.intCast_mul]
  exact le_cast hc
theorem q_small {p : Int × Int} (h : SmallN p) : -(1000 : Rat) ≤ qN p ∧ qN p ≤ 1000 := by
  obtain ⟨h1, h2, h3, h4⟩ := h
  have hr : Red p := ⟨h1, h4⟩
  constructor
  · have := q_ge hr (c := -1000) (by omega)
    exact this
  · have := q_le hr (c := 1000) (by omega)
    exact this
def spDen (K : PySem.W.Frag) : Sp := fun vs h Q _ => ∃ (b : Hp) (l : List (Int × Int)), Ex b h ∧ DtA K b vs [numsD l] ∧ (∀ p ∈ l, 1 ≤ p.2) ∧ denL l < 2 ^ 13000 ∧ ∀ h', Ex h h' → Q (.int (denL l : Int)) h'
def spWhA (K : PySem.W.Frag) : Sp := fun vs h Q _ => ∃ (b : Hp) (p : Int × Int) (M : Int), Ex b h ∧ DtA K b vs [nD p, .int M] ∧ 1 ≤ p.2 ∧ p.1.natAbs < 2 ^ 13000 ∧ p.2.natAbs < 2 ^ 9000 ∧ M.natAbs < 2 ^ 13000 ∧ ∀ h', Ex h h' → Q (.int (p.1 * (M / p.2))) h'
def OwnF (h b' : Hp) (v : V) : Prop := ∃ p us, v = V.ref p ∧ h p = none ∧ b' p = some (.lst us) ∧ us.length ≤ 60
theorem OwnF.back {h h1 b : Hp} {v : V} (x : OwnF h1 b v) (e : Ex h h1) : OwnF h b v := by
  obtain ⟨p, us, h1, h2, h3, h4⟩ := x
  exact ⟨p, us, h1, fresh_back e h2, h3, h4⟩
section
variable {K : PySem.W.Frag} {σ : L2.St} {b h : Hp} {te tl ta tb : TE} {ts tk : TA} {E : XK} {D : Ends} {tz : TS} {d : PyData} {ds : List PyData} {C : List PlC} {p q : Int × Int} {r s : Rat}
theorem en_mapG {g : TG} {vs : List Nat} {α : Type} {D f : α → PyData} {l : List α} (x : ED K tl σ b (.list (l.map D))) (hz : l.length ≤ 40000)
    (hs : ∀ y ∈ l, ∀ x b2 h2, Ex b b2 → Ex b2 h2 → Dt K b2 x (D y) → ∀ Q : L2.St → Hp → Prop, (∀ σ2, wipe σ2 vs = wipe σ vs → ED K te σ2 b2 (f y) → Q σ2 h2) → g x (wipe σ vs) h2 Q) : EN K (tLc (iList K tl) g tYes te vs) σ b (l.map f) := by
  by_cases hl : l = []
  · subst hl
    exact en_lcG x hz (fun _ => true) (fun _ => .none) fun i d v b2 h2 e e2 hd _ => by
      rw [List.map_nil] at hd
      simp at hd
  · obtain ⟨a, l', rfl⟩ := List.exists_cons_of_ne_nil hl
    have e : (a :: l').map f = givenD ((a :: l').map D).length (fun _ => true) (fun i => f ((a :: l').getD i a)) := by
      rw [givenD_all, List.length_map, map_getDn]
    rw [e]
    refine en_lcG x (by rw [List.length_map]; exact hz) _ _ fun i d v b2 h2 e1 e2 hd hv Q k => ?_
    rw [List.getElem?_map] at hd
    cases hz2 : (a :: l')[i]? with
    | none => rw [hz2] at hd; cases hd
    | some y =>
      rw [hz2] at hd
      cases hd
      refine hs y (List.mem_of_getElem? hz2) v b2 h2 e1 e2 hv Q fun σ2 hw ht => k σ2 hw et_yes fun _ => ?_
      have : (a :: l').getD i a = y := by rw [List.getD_eq_getElem?_getD, hz2]; rfl
      rw [this]
      exact ht
theorem ev_whA {M : Int} (y : EDA K ts σ b [nD p, .int M]) (h1 : 1 ≤ p.2) (h2 : p.1.natAbs < 2 ^ 13000) (h3 : p.2.natAbs < 2 ^ 9000) (h4 : M.natAbs < 2 ^ 13000) : Ev (tCall (spWhA K) [] E ts) σ b (.int (p.1 * (M / p.2))) := fun h e _ qq =>
  y h e _ fun vs b2 h2' g2 hv => ⟨b2, p, M, g2.gi, by rw [List.append_nil]; exact hv, h1, h2, h3, h4, fun h3 e3 => qq h3 (g2.gh.trans e3)⟩
end
end Md
namespace Md
open PySem L2 Evl
def fstD : PyData → PyData
  | .tuple (d :: _) => d
  | d => d
theorem lt_pow_mul {a b c i j : Nat} (h : a ≤ b * c) (hb : b ≤ 2 ^ i) (hc : c < 2 ^ j) : a < 2 ^ (i + j) := by
  rw [Nat.pow_add]
  have h1 : b * c ≤ 2 ^ i * c := Nat.mul_le_mul_right c hb
  have h2 : 2 ^ i * c < 2 ^ i * 2 ^ j := Nat.mul_lt_mul_of_pos_left hc (Nat.two_pow_pos i)
  omega
end Md
namespace Md
open PySem L2 Evl
theorem num_dvd {n d : Int} (h : 0 < d) : (num n d).2.natAbs ∣ d.natAbs := by
  rw [num_pos h]
  show (d / _).natAbs ∣ d.natAbs
  obtain ⟨c, hc⟩ := cast_dvd (g := Nat.gcd n.natAbs d.natAbs) (n := d) (Nat.gcd_dvd_right _ _)
  have hg : 0 < Nat.gcd n.natAbs d.natAbs := Nat.gcd_pos_of_pos_right _ (by omega)
  generalize ((Nat.gcd n.natAbs d.natAbs : Nat) : Int) = g at hc
  rcases Int.lt_or_le 0 g with z | z
  · have e : d / g = c := by rw [hc]; exact Int.mul_ediv_cancel_left _ (by omega)
    rw [e]
    exact ⟨g.natAbs, by rw [hc, Int.natAbs_mul, Nat.mul_comm]⟩
  · rcases Int.lt_or_eq_of_le z with z | z
    · have e : d / g = c := by rw [hc]; exact Int.mul_ediv_cancel_left _ (by omega)
      rw [e]
      exact ⟨g.natAbs, by rw [hc, Int.natAbs_mul, Nat.mul_comm]⟩
    · rw [z, Int.zero_mul] at hc
      omega
end Md
set_option Elab.async false
set_option linter.all false
set_option maxRecDepth 100000
set_option maxHeartbeats 2000000
namespace Md
open PySem L2 Evl
def EDh (K : PySem.W.Frag) (te : TE) (σ : L2.St) (b h : Hp) (d : PyData) : Prop := ∀ h1, Ex h h1 → ∀ Q : VK, (∀ v b' h', Gr b h1 b' h' → Dt K b' v d → Q v h') → te σ h1 Q
def EDAh (K : PySem.W.Frag) (ta : TA) (σ : L2.St) (b h : Hp) (ds : List PyData) : Prop := ∀ h1, Ex h h1 → ∀ Q : List V → Hp → Prop, (∀ vs b' h', Gr b h1 b' h' → DtA K b' vs ds → Q vs h') → ta σ h1 Q
section
variable {K : PySem.W.Frag} {σ : L2.St} {b b' h h' : Hp} {te tr' ta tb : TE} {ts tr : TA} {E : XK} {D : Ends} {tz : TS} {d d' : PyData} {ds : List PyData} {v : V} {i : Int} {p q : Int × Int} {r s : Rat} {us : List V} {a : Addr}
theorem ED.at (x : ED K te σ b d) (e : Ex b h) : EDh K te σ b h d := fun h1 e1 Q q => x h1 (e.trans e1) Q q
theorem EDA.at (x : EDA K ts σ b ds) (e : Ex b h) : EDAh K ts σ b h ds := fun h1 e1 Q q => x h1 (e.trans e1) Q q
theorem DtA.set : ∀ {ds : List PyData} {us : List V} (j : Nat), DtA K b us ds → Dt K b v d → DtA K b (us.set j v) (ds.set j d)
  | [], _, j, h, _ => by
    cases h
    exact DtA.nil
  | _ :: _, _, 0, h, g => by
    cases h with
    | cons h1 h2 => exact DtA.cons g h2
  | _ :: _, _, j + 1, h, g => by
    cases h with
    | cons h1 h2 => exact DtA.cons h1 (DtA.set j h2 g)
end
theorem wsum_take {bs : List BrC} (h : ∀ q ∈ bs, 0 ≤ qN q.1) (i : Nat) : 0 ≤ wsum (bs.take i) (fun _ => 1) ∧ wsum (bs.take i) (fun _ => 1) ≤ wsum bs (fun _ => 1) := by
  induction bs generalizing i with
  | nil => rw [List.take_nil]; exact ⟨Rat.le_refl, Rat.le_refl⟩
  | cons q bs ih =>
    have h1 := h q (List.mem_cons_self ..)
    have h0 := (ih (fun q hq => h q (List.mem_cons_of_mem _ hq)) bs.length).1
    rw [List.take_length] at h0
    cases i with
    | zero =>
      rw [List.take_zero, wsum_nil, wsum_cons]
      grind
    | succ i =>
      have h2 := ih (fun q hq => h q (List.mem_cons_of_mem _ hq)) i
      rw [List.take_succ_cons, wsum_cons, wsum_cons]
      grind
structure Later (C : List PlC) (S : Nat) (m : Nat → Rat) (t k i : Nat) (l : Nat → Rat) : Prop where
  nn : ∀ j, j < C.length → 0 ≤ l j
  zt : ∀ j, j < C.length → Zt (S ^ (t + 1)) (l j)
  dot : ∀ f : Nat → Rat, sumR C.length (fun j => l j * f j) = sumR k (fun j => m j * meanC C f j) + m k * wsum ((plC C k).bs.take i) f
structure Mass (C : List PlC) (S : Nat) (t : Nat) (m : Nat → Rat) : Prop where
  nn : ∀ j, j < C.length → 0 ≤ m j
  zt : ∀ j, j < C.length → Zt (S ^ t) (m j)
  one : sumR C.length m = 1
structure Booked (C : List PlC) (U S : Nat) (T x t k : Nat) (bk : Rat) : Prop where
  zt : Zt (U * S ^ t) bk
  lo : -(((1000 * (t * C.length + k) : Nat) : Int) : Rat) ≤ bk
  hi : bk ≤ (((1000 * (t * C.length + k) : Nat) : Int) : Rat)
end Md
set_option Elab.async false
set_option linter.all false
set_option maxRecDepth 100000
set_option maxHeartbeats 2000000
namespace Md
theorem sumR_neg (n : Nat) (f : Nat → Rat) : sumR n (fun i => -f i) = -sumR n f := by
  induction n with
  | zero => rw [sumR_zero, sumR_zero]; grind
  | succ n ih => rw [sumR_succ, sumR_succ, ih]; grind
theorem sumR_comm (n m : Nat) (f : Nat → Nat → Rat) : sumR n (fun i => sumR m (fun j => f i j)) = sumR m (fun j => sumR n (fun i => f i j)) := by
  induction n with
  | zero =>
    rw [sumR_zero, sumR_congr (f := fun j => sumR 0 fun i => f i j) (g := fun _ => 0) fun j _ => sumR_zero _, sumR_const0]
  | succ n ih =>
    rw [sumR_succ, ih, ← sumR_add]
    exact sumR_congr fun j _ => (sumR_succ _ _).symm
theorem sumR_anti {n : Nat} {w : Nat → Nat → Rat} (h : ∀ i j, i < n → j < n → w i j = -w j i) : sumR n (fun i => sumR n (fun j => w i j)) = 0 := by
  have e : sumR n (fun i => sumR n (fun j => w i j)) = -sumR n (fun i => sumR n (fun j => w i j)) := by
    conv => lhs; rw [sumR_comm]
    rw [← sumR_neg]
    refine sumR_congr fun j hj => ?_
    rw [← sumR_neg]
    exact sumR_congr fun i hi => h i j hi hj
  grind
theorem sumR_only {n k : Nat} {f : Nat → Rat} (hk : k < n) (h : ∀ i, i < n → i ≠ k → f i = 0) : sumR n f = f k := by
  rw [sumR_congr (g := fun i => if i = k then f k else 0) fun i hi => ?_, sumR_one _ hk]
  by_cases e : i = k
  · rw [if_pos e, e]
  · rw [if_neg e, h i hi e]
theorem sumR_zeros {n : Nat} {f : Nat → Rat} (h : ∀ i, i < n → f i = 0) : sumR n f = 0 := by
  rw [sumR_congr (g := fun _ => 0) h, sumR_const0]
def sk (i r : Nat) : Nat := if r < i then r else r + 1
def pd (i j : Nat) : Nat := if j < i then j else j - 1
theorem sk_lt {i r k : Nat} (h : r < k) : sk i r < k + 1 := by
  unfold sk
  split <;> omega
theorem sk_lo {i r : Nat} (h : r < i) : sk i r = r := if_pos h
theorem sk_hi {i r : Nat} (h : i ≤ r) : sk i r = r + 1 := if_neg (by omega)
theorem sk_sk {i j : Nat} (h : j < i) (r : Nat) : sk i (sk j r) = sk j (sk (i - 1) r) := by
  rcases Nat.lt_or_ge r j with z | z
  · rw [sk_lo z, sk_lo (by omega), sk_lo (show r < i - 1 by omega), sk_lo z]
  · rw [sk_hi z]
    rcases Nat.lt_or_ge r (i - 1) with y | y
    · rw [sk_lo (show r + 1 < i by omega), sk_lo y, sk_hi z]
    · rw [sk_hi (show i ≤ r + 1 by omega), sk_hi y, sk_hi (by omega)]
theorem skip_sum {n i : Nat} (g : Nat → Rat) (h : i ≤ n) : sumR n (fun m => g (sk i m)) = sumR (n + 1) (fun j => if j = i then 0 else g j) := by
  induction n with
  | zero =>
    obtain rfl : i = 0 := by omega
    rw [sumR_zero, sumR_succ, sumR_zero, if_pos rfl, Rat.add_zero]
  | succ n ih =>
    by_cases e : i = n + 1
    · subst e
      rw [sumR_succ (n + 1), if_pos rfl, Rat.add_zero]
      refine sumR_congr fun j hj => ?_
      rw [if_neg (by omega)]
      unfold sk
      rw [if_pos hj]
    · rw [sumR_succ, ih (by omega), sumR_succ (n + 1), if_neg (fun z => e z.symm)]
      congr 2
      unfold sk
      rw [if_neg (by omega)]
def sgn (n : Nat) : Rat := if n % 2 = 0 then 1 else -1
theorem sgn_succ (n : Nat) : sgn (n + 1) = -sgn n := by
  unfold sgn
  by_cases h : n % 2 = 0
  · rw [if_pos h, if_neg (by omega)]
  · rw [if_neg h, if_pos (by omega)]
    decide +kernel
theorem sgn_two (n : Nat) : sgn (n + n) = 1 := by
  unfold sgn
  rw [if_pos (by omega)]
def Fd : Nat → (Nat → Nat → Rat) → Rat
  | 0, _ => 1
  | k + 1, c => sumR (k + 1) fun i => sgn (i + k) * (c k i * Fd k (fun col r => c col (sk i r)))
theorem Fd_succ (k : Nat) (c : Nat → Nat → Rat) : Fd (k + 1) c = sumR (k + 1) fun i => sgn (i + k) * (c k i * Fd k (fun col r => c col (sk i r))) := rfl
theorem Fd_congr : ∀ (k : Nat) {c c' : Nat → Nat → Rat}, (∀ col r, col < k → r < k → c col r = c' col r) → Fd k c = Fd k c'
  | 0, _, _, _ => rfl
  | k + 1, c, c', h => by
    rw [Fd_succ, Fd_succ]
    refine sumR_congr fun i hi => ?_
    rw [h k i (Nat.lt_succ_self k) hi, Fd_congr k fun col r h1 h2 => h col (sk i r) (Nat.lt_succ_of_lt h1) (sk_lt h2)]
def upc (c : Nat → Nat → Rat) (j : Nat) (v : Nat → Rat) : Nat → Nat → Rat := fun col => if col = j then v else c col
theorem upc_same (c : Nat → Nat → Rat) (j : Nat) (v : Nat → Rat) : upc c j v j = v := if_pos rfl
theorem upc_ne {c : Nat → Nat → Rat} {j i : Nat} {v : Nat → Rat} (h : i ≠ j) : upc c j v i = c i := if_neg h
theorem upc_rows (c : Nat → Nat → Rat) (j i : Nat) (v : Nat → Rat) : (fun col r => upc c j v col (sk i r)) = upc (fun col r => c col (sk i r)) j (fun r => v (sk i r)) := by
  funext col r
  unfold upc
  split <;> rfl
theorem Fd_lin : ∀ (k : Nat) (c : Nat → Nat → Rat) (j : Nat) (v w : Nat → Rat) (a b : Rat), j < k → Fd k (upc c j (fun r => a * v r + b * w r)) = a * Fd k (upc c j v) + b * Fd k (upc c j w)
  | 0, _, _, _, _, _, _, h => by omega
  | k + 1, c, j, v, w, a, b, h => by
    rw [Fd_succ, Fd_succ, Fd_succ, ← sumR_mul, ← sumR_mul, ← sumR_add]
    refine sumR_congr fun i hi => ?_
    rw [upc_rows, upc_rows, upc_rows]
    by_cases e : j = k
    · subst e
      rw [upc_same, upc_same, upc_same]
      have hc : ∀ u : Nat → Rat, Fd j (upc (fun col r => c col (sk i r)) j u) = Fd j (fun col r => c col (sk i r)) := fun u => Fd_congr j fun col r h1 _ => by rw [upc_ne (by omega)]
      rw [hc, hc, hc]
      grind
    · rw [upc_ne (fun z => e z.symm), upc_ne (fun z => e z.symm), upc_ne (fun z => e z.symm), Fd_lin k _ j _ _ a b (by omega)]
      grind
theorem Fd_add (k : Nat) (c : Nat → Nat → Rat) (j : Nat) (v w : Nat → Rat) (h : j < k) : Fd k (upc c j (fun r => v r + w r)) = Fd k (upc c j v) + Fd k (upc c j w) := by
  have e := Fd_lin k c j v w 1 1 h
  rw [Rat.one_mul, Rat.one_mul] at e
  rw [← e]
  congr 1
  congr 1
  funext r
  rw [Rat.one_mul, Rat.one_mul]
theorem Fd_mul (k : Nat) (c : Nat → Nat → Rat) (j : Nat) (v : Nat → Rat) (a : Rat) (h : j < k) : Fd k (upc c j (fun r => a * v r)) = a * Fd k (upc c j v) := by
  have e := Fd_lin k c j v v a 0 h
  rw [Rat.zero_mul, Rat.add_zero] at e
  rw [← e]
  congr 1
  congr 1
  funext r
  rw [Rat.zero_mul, Rat.add_zero]
def Alt (k : Nat) : Prop := ∀ (c : Nat → Nat → Rat) (i j : Nat), i < j → j < k → (∀ r, r < k → c i r = c j r) → Fd k c = 0
theorem alt_swap {k : Nat} (h : Alt k) (c : Nat → Nat → Rat) {i j : Nat} (hij : i < j) (hj : j < k) : Fd k (upc (upc c i (c j)) j (c i)) = -Fd k c := by
  have z : ∀ v : Nat → Rat, Fd k (upc (upc c i v) j v) = 0 := fun v => h _ i j hij hj fun r _ => by rw [upc_same, upc_ne (by omega), upc_same]
  have comm : ∀ v w : Nat → Rat, upc (upc c i v) j w = upc (upc c j w) i v := fun v w => by
    funext col
    unfold upc
    by_cases e1 : col = j
    · rw [if_pos e1, if_neg (by omega), if_pos e1]
    · rw [if_neg e1]
      by_cases e2 : col = i
      · rw [if_pos e2, if_pos e2]
      · rw [if_neg e2, if_neg e2, if_neg e1]
  have self : upc (upc c i (c i)) j (c j) = c := by
    funext col
    unfold upc
    by_cases e1 : col = j
    · rw [if_pos e1, e1]
    · rw [if_neg e1]
      by_cases e2 : col = i
      · rw [if_pos e2, e2]
      · rw [if_neg e2]
  have e := z (fun r => c i r + c j r)
  rw [Fd_add k _ j _ _ hj, comm, comm, Fd_add k _ i _ _ (by omega), Fd_add k _ i _ _ (by omega), ← comm, ← comm, ← comm, ← comm, z, z, self] at e
  grind
theorem alt_last {k : Nat} {c : Nat → Nat → Rat} (h : ∀ r, r < k + 2 → c k r = c (k + 1) r) : Fd (k + 2) c = 0 := by
  let w : Nat → Nat → Rat := fun i j => if j = i then 0 else sgn (i + (k + 1)) * (c k i * (sgn (pd i j + k) * (c k j * Fd k (fun col r => c col (sk i (sk (pd i j) r))))))
  have e : Fd (k + 2) c = sumR (k + 2) fun i => sumR (k + 2) fun j => w i j := by
    rw [Fd_succ]
    refine sumR_congr fun i hi => ?_
    rw [Fd_succ]
    have hp : ∀ m, pd i (sk i m) = m := fun m => by
      unfold pd sk
      by_cases y : m < i
      · rw [if_pos y, if_pos y]
      · rw [if_neg y, if_neg (show ¬ m + 1 < i by omega)]
        omega
    have e2 : sumR (k + 1) (fun m => sgn (m + k) * (c k (sk i m) * Fd k (fun col r => c col (sk i (sk m r))))) = sumR (k + 1) (fun m => (fun j => sgn (pd i j + k) * (c k j * Fd k (fun col r => c col (sk i (sk (pd i j) r))))) (sk i m)) := by
      refine sumR_congr fun m _ => ?_
      dsimp only
      rw [hp m]
    rw [e2, skip_sum (fun j => sgn (pd i j + k) * (c k j * Fd k (fun col r => c col (sk i (sk (pd i j) r))))) (show i ≤ k + 1 by omega), ← h i hi, ← sumR_mul, ← sumR_mul]
    refine sumR_congr fun j _ => ?_
    show _ = w i j
    show _ = if j = i then (0 : Rat) else _
    by_cases z : j = i
    · rw [if_pos z, if_pos z, Rat.mul_zero, Rat.mul_zero]
    · rw [if_neg z, if_neg z]
  rw [e]
  refine sumR_anti fun i j hi hj => ?_
  show (if j = i then (0 : Rat) else _) = -(if i = j then (0 : Rat) else _)
  by_cases z : j = i
  · rw [if_pos z, if_pos z.symm]
    grind
  · rw [if_neg z, if_neg (fun y => z y.symm)]
    have hr : ∀ r, sk i (sk (pd i j) r) = sk j (sk (pd j i) r) := fun r => by
      unfold pd
      rcases Nat.lt_or_gt_of_ne z with y | y
      · rw [if_pos y, if_neg (show ¬ i < j by omega)]
        exact sk_sk y r
      · rw [if_neg (show ¬ j < i by omega), if_pos y]
        exact (sk_sk y r).symm
    have hF : (fun col r => c col (sk i (sk (pd i j) r))) = fun col r => c col (sk j (sk (pd j i) r)) := by
      funext col r
      rw [hr]
    rw [hF]
    generalize Fd k (fun col r => c col (sk j (sk (pd j i) r))) = G
    have hs : sgn (i + (k + 1)) * sgn (pd i j + k) = -(sgn (j + (k + 1)) * sgn (pd j i + k)) := by
      unfold pd
      rcases Nat.lt_or_gt_of_ne z with y | y
      · rw [if_pos y, if_neg (by omega)]
        obtain ⟨i', rfl⟩ : ∃ i', i = i' + 1 := ⟨i - 1, by omega⟩
        have e1 : i' + 1 + (k + 1) = (i' + 1 - 1 + k) + 1 + 1 := by omega
        have e2 : j + (k + 1) = (j + k) + 1 := by omega
        rw [e1, e2, sgn_succ, sgn_succ, sgn_succ]
        grind
      · rw [if_neg (by omega), if_pos y]
        obtain ⟨j', rfl⟩ : ∃ j', j = j' + 1 := ⟨j - 1, by omega⟩
        have e1 : j' + 1 + (k + 1) = (j' + 1 - 1 + k) + 1 + 1 := by omega
        have e2 : i + (k + 1) = (i + k) + 1 := by omega
        rw [e1, e2, sgn_succ, sgn_succ, sgn_succ]
        grind
    generalize sgn (i + (k + 1)) = s1 at hs
    generalize sgn (pd i j + k) = s2 at hs
    generalize sgn (j + (k + 1)) = s3 at hs
    generalize sgn (pd j i + k) = s4 at hs
    have : s1 * (c k i * (s2 * (c k j * G))) = s1 * s2 * (c k i * c k j * G) := by grind
    rw [this, hs]
    grind
theorem alt_all : ∀ k, Alt k
  | 0 => fun _ _ _ _ h _ => by omega
  | k + 1 => fun c i j hij hj hr => by
    have ih := alt_all k
    rcases Nat.lt_or_ge j k with z | z
    · rw [Fd_succ]
      refine sumR_zeros fun m _ => ?_
      rw [ih (fun col r => c col (sk m r)) i j hij z fun r h => hr _ (sk_lt h), Rat.mul_zero, Rat.mul_zero]
    · obtain rfl : j = k := by omega
      obtain ⟨k', rfl⟩ : ∃ k', j = k' + 1 := ⟨j - 1, by omega⟩
      rcases Nat.lt_or_ge i k' with y | y
      · -- first bring the column i to the place k'
        have e : Fd (k' + 2) (upc (upc c i (c k')) k' (c i)) = -Fd (k' + 2) c := by
          rw [Fd_succ, Fd_succ, ← sumR_neg]
          refine sumR_congr fun m _ => ?_
          rw [upc_ne (by omega), upc_ne (by omega), upc_rows, upc_rows]
          have := alt_swap ih (fun col r => c col (sk m r)) y (Nat.lt_succ_self k')
          rw [this]
          grind
        have z2 : Fd (k' + 2) (upc (upc c i (c k')) k' (c i)) = 0 := alt_last fun r h => by
          rw [upc_same, upc_ne (by omega), upc_ne (by omega)]
          exact hr r h
        rw [z2] at e
        grind
      · obtain rfl : i = k' := by omega
        exact alt_last hr
theorem Fd_alt {k : Nat} {c : Nat → Nat → Rat} {i j : Nat} (hi : i < k) (hj : j < k) (hij : i ≠ j) (h : ∀ r, r < k → c i r = c j r) : Fd k c = 0 := by
  rcases Nat.lt_or_gt_of_ne hij with z | z
  · exact alt_all k c i j z hj h
  · exact alt_all k c j i z hi fun r hr => (h r hr).symm
theorem Fd_col0 (k : Nat) (c : Nat → Nat → Rat) (j : Nat) (h : j < k) : Fd k (upc c j (fun _ => 0)) = 0 := by
  have e := Fd_mul k c j (fun _ => 0) 0 h
  have e2 : (fun _ : Nat => (0 : Rat) * 0) = fun _ => 0 := by
    funext r
    exact Rat.mul_zero 0
  rw [e2] at e
  exact e.trans (Rat.zero_mul _)
theorem Fd_sum (k n : Nat) (c : Nat → Nat → Rat) (j : Nat) (t : Nat → Rat) (w : Nat → Nat → Rat) (h : j < k) : Fd k (upc c j (fun r => sumR n fun i => t i * w i r)) = sumR n fun i => t i * Fd k (upc c j (w i)) := by
  induction n with
  | zero =>
    rw [sumR_zero]
    exact Fd_col0 k c j h
  | succ n ih =>
    rw [sumR_succ, ← ih, ← Fd_mul k c j (w n) (t n) h, ← Fd_add k c j _ _ h]
    congr 1
    congr 1
    funext r
    rw [sumR_succ]
theorem cramer {k : Nat} {c : Nat → Nat → Rat} {t v : Nat → Rat} {d : Rat} (h : ∀ r, r < k → (sumR k fun i => t i * c i r) = d * v r) {j : Nat} (hj : j < k) : d * Fd k (upc c j v) = t j * Fd k c := by
  rw [← Fd_mul k c j v d hj]
  have e : Fd k (upc c j (fun r => d * v r)) = Fd k (upc c j (fun r => sumR k fun i => t i * c i r)) := Fd_congr k fun col r hc hr => by
    by_cases z : col = j
    · subst z
      rw [upc_same, upc_same]
      exact (h r hr).symm
    · rw [upc_ne z, upc_ne z]
  rw [e, Fd_sum k k c j t c hj, sumR_only hj]
  · congr 1
    congr 1
    funext col
    by_cases z : col = j
    · rw [z, upc_same]
    · rw [upc_ne z]
  · intro i hi hij
    rw [Fd_alt hi hj hij fun r _ => by rw [upc_ne hij, upc_same], Rat.mul_zero]
theorem Fd_unit {k : Nat} {c : Nat → Nat → Rat} {u : Rat} (h0 : ∀ r, r < k → c k r = 0) (h1 : c k k = u) : Fd (k + 1) c = u * Fd k c := by
  rw [Fd_succ, sumR_succ, sumR_zeros fun i hi => by rw [h0 i hi, Rat.zero_mul, Rat.mul_zero], Rat.zero_add, sgn_two, Rat.one_mul, h1]
  congr 1
  exact Fd_congr k fun col r _ hr => by
    unfold sk
    rw [if_pos hr]
theorem Zt1 {r : Rat} (h : Zt 1 r) : ∃ z : Int, r = (z : Rat) := by
  obtain ⟨z, hz⟩ := h
  refine ⟨z, ?_⟩
  rw [← hz]
  show r = r * ((1 : Int) : Rat)
  exact (Rat.mul_one r).symm
theorem zt_sum {M n : Nat} {f : Nat → Rat} (h : ∀ i, i < n → Zt M (f i)) : Zt M (sumR n f) := by
  induction n with
  | zero => exact zt_zero M
  | succ n ih =>
    rw [sumR_succ]
    exact (ih fun i hi => h i (Nat.lt_succ_of_lt hi)).add (h n (Nat.lt_succ_self n))
theorem zt_sgn (n : Nat) : Zt 1 (sgn n) := by
  unfold sgn
  split
  · exact (show Zt 1 ((1 : Int) : Rat) from zt_int 1 1)
  · exact (show Zt 1 ((-1 : Int) : Rat) from zt_int 1 (-1))
theorem Fd_int : ∀ (k : Nat) {c : Nat → Nat → Rat}, (∀ col r, col < k → r < k → Zt 1 (c col r)) → Zt 1 (Fd k c)
  | 0, _, _ => (show Zt 1 ((1 : Int) : Rat) from zt_int 1 1)
  | k + 1, c, h => by
    rw [Fd_succ]
    refine zt_sum fun i hi => ?_
    have := (zt_sgn (i + k)).mul ((h k i (Nat.lt_succ_self k) hi).mul (Fd_int k fun col r h1 h2 => h col (sk i r) (Nat.lt_succ_of_lt h1) (sk_lt h2)))
    exact this
theorem mul_bd {x y a b : Rat} (h1 : -a ≤ x) (h2 : x ≤ a) (h3 : -b ≤ y) (h4 : y ≤ b) : -(a * b) ≤ x * y ∧ x * y ≤ a * b := by
  have p1 := Rat.mul_nonneg (show 0 ≤ a - x by grind) (show 0 ≤ b + y by grind)
  have p2 := Rat.mul_nonneg (show 0 ≤ a + x by grind) (show 0 ≤ b - y by grind)
  have p3 := Rat.mul_nonneg (show 0 ≤ a - x by grind) (show 0 ≤ b - y by grind)
  have p4 := Rat.mul_nonneg (show 0 ≤ a + x by grind) (show 0 ≤ b + y by grind)
  constructor <;> grind
theorem sum_bd {n : Nat} {f : Nat → Rat} {a : Rat} (h : ∀ i, i < n → -a ≤ f i ∧ f i ≤ a) : -(((n : Int) : Rat) * a) ≤ sumR n f ∧ sumR n f ≤ ((n : Int) : Rat) * a := by
  induction n with
  | zero =>
    rw [sumR_zero]
    have : (((0 : Nat) : Int) : Rat) = 0 := rfl
    rw [this, Rat.zero_mul]
    constructor <;> grind
  | succ n ih =>
    rw [sumR_succ]
    have e : (((n + 1 : Nat) : Int) : Rat) = ((n : Int) : Rat) + 1 := by rw [Int.natCast_add, Rat.intCast_add]; rfl
    have h1 := ih fun i hi => h i (Nat.lt_succ_of_lt hi)
    have h2 := h n (Nat.lt_succ_self n)
    rw [e]
    constructor <;> grind
def fbd (B : Rat) : Nat → Rat
  | 0 => 1
  | k + 1 => (((k + 1 : Nat) : Int) : Rat) * (B * fbd B k)
theorem Fd_bd {B : Rat} : ∀ (k : Nat) {c : Nat → Nat → Rat}, (∀ col r, col < k → r < k → -B ≤ c col r ∧ c col r ≤ B) → -fbd B k ≤ Fd k c ∧ Fd k c ≤ fbd B k
  | 0, _, _ => ⟨by show -(1 : Rat) ≤ 1; decide +kernel, Rat.le_refl⟩
  | k + 1, c, h => by
    rw [Fd_succ]
    refine sum_bd fun i hi => ?_
    have h1 := h k i (Nat.lt_succ_self k) hi
    have h2 := Fd_bd k (c := fun col r => c col (sk i r)) fun col r h1 h2 => h col (sk i r) (Nat.lt_succ_of_lt h1) (sk_lt h2)
    have h3 := mul_bd h1.1 h1.2 h2.1 h2.2
    unfold sgn
    split
    · rw [Rat.one_mul]
      exact h3
    · constructor <;> grind
end Md
set_option Elab.async false
set_option linter.all false
set_option maxRecDepth 100000
set_option maxHeartbeats 2000000
namespace Md
def qa (a : Nat → Nat → Int) (r l : Nat) : Rat := ((a r l : Int) : Rat)
structure Elim (n : Nat) (a : Nat → Nat → Int) (k : Nat) (T : Nat → Nat → Int) (d : Int) : Prop where
  pos : 0 < d
  det : (d : Rat) = Fd k (fun col r => qa a r col)
  top : ∀ r l, r < k → l ≤ n → sumR k (fun j => qa T j l * qa a r j) = (d : Rat) * qa a r l
  bot : ∀ r l, k ≤ r → r < n → l ≤ n → qa T r l = (d : Rat) * qa a r l - sumR k (fun j => qa T j l * qa a r j)
def elimT (k : Nat) (T : Nat → Nat → Int) (d : Int) : Nat → Nat → Int := fun j l => if j = k then T k l else (T k k * T j l - T j k * T k l) / d
theorem elim_start (n : Nat) (a : Nat → Nat → Int) : Elim n a 0 a 1 := ⟨by decide, rfl, fun r l h => by omega, fun r l _ _ _ => by
  rw [sumR_zero]
  have : ((1 : Int) : Rat) = 1 := rfl
  rw [this]
  grind⟩
theorem elim_step {n : Nat} {a : Nat → Nat → Int} {k : Nat} {T : Nat → Nat → Int} {d : Int} (h : Elim n a k T d) (hk : k < n) (hp : 0 < T k k) :
    Elim n a (k + 1) (elimT k T d) (T k k) ∧ ∀ j l, j < n → l ≤ n → j ≠ k → d ∣ T k k * T j l - T j k * T k l := by
  have d0 : (d : Rat) ≠ 0 := cast_ne (by have := h.pos; omega)
  have p0 : ((T k k : Int) : Rat) ≠ 0 := cast_ne (by omega)
  let R : Nat → Nat → Rat := fun j l => if j = k then qa T k l else (qa T k k * qa T j l - qa T j k * qa T k l) / (d : Rat)
  have Rk : ∀ l, R k l = qa T k l := fun l => if_pos rfl
  have Rne : ∀ j l, j ≠ k → R j l = (qa T k k * qa T j l - qa T j k * qa T k l) / (d : Rat) := fun j l e => if_neg e
  have hsum : ∀ r l, sumR k (fun j => R j l * qa a r j) = (qa T k k * sumR k (fun j => qa T j l * qa a r j) - qa T k l * sumR k (fun j => qa T j k * qa a r j)) / (d : Rat) := fun r l => by
    have e : ∀ j, j < k → R j l * qa a r j = (qa T k k / (d : Rat)) * (qa T j l * qa a r j) + (-(qa T k l / (d : Rat))) * (qa T j k * qa a r j) := fun j hj => by
      rw [Rne j l (by omega)]
      grind
    rw [sumR_congr e, sumR_add, sumR_mul, sumR_mul]
    grind
  have top' : ∀ r l, r < k + 1 → l ≤ n → sumR (k + 1) (fun j => R j l * qa a r j) = qa T k k * qa a r l := fun r l hr hl => by
    rw [sumR_succ, hsum, Rk]
    rcases Nat.lt_or_ge r k with z | z
    · rw [h.top r l z hl, h.top r k z (by omega)]
      grind
    · obtain rfl : r = k := by omega
      have e1 := h.bot r l (Nat.le_refl _) hk hl
      have e2 := h.bot r r (Nat.le_refl _) hk (by omega)
      generalize sumR r (fun j => qa T j l * qa a r j) = S1 at *
      generalize sumR r (fun j => qa T j r * qa a r j) = S2 at *
      grind
  have bot' : ∀ r l, k + 1 ≤ r → r < n → l ≤ n → R r l = qa T k k * qa a r l - sumR (k + 1) (fun j => R j l * qa a r j) := fun r l hr hrn hl => by
    rw [sumR_succ, hsum, Rk, Rne r l (by omega)]
    have e1 := h.bot r l (by omega) hrn hl
    have e2 := h.bot r k (by omega) hrn (by omega)
    generalize sumR k (fun j => qa T j l * qa a r j) = S1 at *
    generalize sumR k (fun j => qa T j k * qa a r j) = S2 at *
    grind
  have det' : ((T k k : Int) : Rat) = Fd (k + 1) (fun col r => qa a r col) := by
    let c : Nat → Nat → Rat := fun col r => qa a r col
    show _ = Fd (k + 1) c
    let e : Nat → Rat := fun r => if r = k then qa T k k else 0
    have f1 : (d : Rat) * Fd (k + 1) c = Fd (k + 1) (upc c k (fun r => (d : Rat) * c k r)) := by
      rw [Fd_mul (k + 1) c k (c k) _ (Nat.lt_succ_self k)]
      congr 2
      funext col
      by_cases z : col = k
      · rw [z, upc_same]
      · rw [upc_ne z]
    have f2 : Fd (k + 1) (upc c k (fun r => (d : Rat) * c k r)) = Fd (k + 1) (upc c k (fun r => (sumR k fun j => qa T j k * c j r) + e r)) := Fd_congr _ fun col r hc hr => by
      by_cases z : col = k
      · subst z
        rw [upc_same, upc_same]
        show (d : Rat) * qa a r col = (sumR col fun j => qa T j col * qa a r j) + e r
        rcases Nat.lt_or_ge r col with y | y
        · rw [h.top r col y (by omega)]
          show _ = _ + (if r = col then _ else (0 : Rat))
          rw [if_neg (by omega), Rat.add_zero]
        · obtain rfl : r = col := by omega
          have := h.bot r r (Nat.le_refl _) hk (by omega)
          show _ = _ + (if r = r then _ else (0 : Rat))
          rw [if_pos rfl]
          grind
      · rw [upc_ne z, upc_ne z]
    rw [Fd_add _ _ _ _ _ (Nat.lt_succ_self k), Fd_sum _ _ _ _ _ _ (Nat.lt_succ_self k)] at f2
    have f3 : (sumR k fun i => qa T i k * Fd (k + 1) (upc c k (c i))) = 0 := sumR_zeros fun i hi => by
      rw [Fd_alt (i := i) (j := k) (by omega) (Nat.lt_succ_self k) (by omega) fun r _ => by rw [upc_ne (by omega), upc_same], Rat.mul_zero]
    have f4 : Fd (k + 1) (upc c k e) = qa T k k * (d : Rat) := by
      rw [Fd_unit (u := qa T k k) (fun r hr => by rw [upc_same]; exact if_neg (by omega)) (by rw [upc_same]; exact if_pos rfl), h.det]
      congr 1
      exact Fd_congr _ fun col r hc _ => by rw [upc_ne (by omega)]
    rw [f3, f4, Rat.zero_add] at f2
    rw [f2] at f1
    have e3 : (d : Rat) * Fd (k + 1) c = (d : Rat) * qa T k k := by rw [f1, Rat.mul_comm]
    have e4 := congrArg (fun z => (d : Rat)⁻¹ * z) e3
    rw [← Rat.mul_assoc, ← Rat.mul_assoc, Rat.inv_mul_cancel _ d0, Rat.one_mul, Rat.one_mul] at e4
    exact e4.symm
  have int1 : ∀ j l, j < k + 1 → l ≤ n → Zt 1 (R j l) := fun j l hj hl => by
    have e := cramer (k := k + 1) (c := fun col r => qa a r col) (t := fun i => R i l) (v := fun r => qa a r l) (d := qa T k k) (fun r hr => top' r l hr hl) hj
    rw [← det'] at e
    have e2 : R j l = Fd (k + 1) (upc (fun col r => qa a r col) j fun r => qa a r l) := by
      show R j l = _
      have e3 := congrArg (fun z => ((T k k : Int) : Rat)⁻¹ * z) e
      have e4 : qa T k k = ((T k k : Int) : Rat) := rfl
      rw [e4, ← Rat.mul_assoc, Rat.inv_mul_cancel _ p0, Rat.one_mul] at e3
      rw [e3]
      grind
    rw [e2]
    refine Fd_int _ fun col r _ _ => ?_
    by_cases z : col = j
    · rw [z, upc_same]
      exact zt_int 1 _
    · rw [upc_ne z]
      exact zt_int 1 _
  have int2 : ∀ j l, j < n → l ≤ n → Zt 1 (R j l) := fun j l hj hl => by
    rcases Nat.lt_or_ge j (k + 1) with z | z
    · exact int1 j l z hl
    · rw [bot' j l z hj hl]
      have s1 : Zt 1 (sumR (k + 1) fun i => R i l * qa a j i) := zt_sum fun i hi => (int1 i l hi hl).mul (show Zt 1 (qa a j i) from zt_int 1 _)
      have s2 : Zt 1 (qa T k k * qa a j l) := (show Zt 1 (qa T k k) from zt_int 1 _).mul (show Zt 1 (qa a j l) from zt_int 1 _)
      have s3 : Zt 1 ((-1 : Rat) * sumR (k + 1) fun i => R i l * qa a j i) := (show Zt 1 (((-1 : Int) : Rat)) from zt_int 1 (-1)).mul s1
      have : qa T k k * qa a j l - sumR (k + 1) (fun i => R i l * qa a j i) = qa T k k * qa a j l + (-1 : Rat) * sumR (k + 1) (fun i => R i l * qa a j i) := by grind
      rw [this]
      exact s2.add s3
  have dv : ∀ j l, j < n → l ≤ n → j ≠ k → ∃ z : Int, R j l = (z : Rat) ∧ T k k * T j l - T j k * T k l = d * z := fun j l hj hl hjk => by
    obtain ⟨z, hz⟩ := Zt1 (int2 j l hj hl)
    refine ⟨z, hz, ?_⟩
    rw [Rne j l hjk] at hz
    have e : (qa T k k * qa T j l - qa T j k * qa T k l) = (d : Rat) * (z : Rat) := by grind
    have e2 : ((T k k * T j l - T j k * T k l : Int) : Rat) = ((d * z : Int) : Rat) := by
      rw [Rat.intCast_sub, Rat.intCast_mul, Rat.intCast_mul, Rat.intCast_mul]
      exact e
    exact Rat.intCast_inj.mp e2
  have RT : ∀ j l, j < n → l ≤ n → qa (elimT k T d) j l = R j l := fun j l hj hl => by
    by_cases z : j = k
    · subst z
      rw [Rk]
      show (((if j = j then T j l else _) : Int) : Rat) = _
      rw [if_pos rfl]
      rfl
    · obtain ⟨y, h1, h2⟩ := dv j l hj hl z
      rw [h1]
      show (((if j = k then T k l else (T k k * T j l - T j k * T k l) / d) : Int) : Rat) = _
      rw [if_neg z, h2, Int.mul_ediv_cancel_left _ (by have := h.pos; omega)]
  refine ⟨⟨hp, det', fun r l hr hl => ?_, fun r l hr hrn hl => ?_⟩, fun j l hj hl hjk => ?_⟩
  · rw [sumR_congr fun j hj => by rw [RT j l (by omega) hl]]
    exact top' r l hr hl
  · rw [RT r l hrn hl, sumR_congr fun j hj => by rw [RT j l (by omega) hl]]
    exact bot' r l hr hrn hl
  · obtain ⟨y, _, h2⟩ := dv j l hj hl hjk
    exact ⟨y, h2⟩
theorem elim_pivot {n : Nat} {a : Nat → Nat → Int} {k : Nat} {T : Nat → Nat → Int} {d : Int} (h : Elim n a k T d) (hk : k < n) :
    let w : Nat → Rat := fun j => if j = k then (d : Rat) else -qa T j k
    (∀ r, r < k → sumR (k + 1) (fun j => qa a r j * w j) = 0) ∧ sumR (k + 1) (fun j => qa a k j * w j) = qa T k k := by
  intro w
  have hw : ∀ r, sumR (k + 1) (fun j => qa a r j * w j) = (d : Rat) * qa a r k - sumR k (fun j => qa T j k * qa a r j) := fun r => by
    rw [sumR_succ]
    have e : sumR k (fun j => qa a r j * w j) = -sumR k (fun j => qa T j k * qa a r j) := by
      rw [← sumR_neg]
      refine sumR_congr fun j hj => ?_
      show qa a r j * (if j = k then (d : Rat) else -qa T j k) = _
      rw [if_neg (by omega)]
      grind
    have e2 : w k = (d : Rat) := if_pos rfl
    rw [e, e2]
    grind
  refine ⟨fun r hr => ?_, ?_⟩
  · rw [hw, h.top r k hr (by omega)]
    grind
  · rw [hw, h.bot k k (Nat.le_refl _) hk (by omega)]
theorem elim_end {n : Nat} {a : Nat → Nat → Int} {T : Nat → Nat → Int} {d : Int} (h : Elim n a n T d) (r : Nat) (hr : r < n) : sumR n (fun j => qa a r j * (qa T j n / (d : Rat))) = qa a r n := by
  have d0 : (d : Rat) ≠ 0 := cast_ne (by have := h.pos; omega)
  have e := h.top r n hr (Nat.le_refl _)
  have e2 : sumR n (fun j => qa a r j * (qa T j n / (d : Rat))) = (1 / (d : Rat)) * sumR n (fun j => qa T j n * qa a r j) := by
    rw [← sumR_mul]
    exact sumR_congr fun j _ => by grind
  rw [e2, e]
  grind
end Md
set_option Elab.async false
set_option linter.all false
set_option maxRecDepth 100000
set_option maxHeartbeats 2000000
namespace Md
def Out (C : List PlC) (L : List Nat) : Prop := ∀ Z : Nat → Prop, (∃ x, Z x) → (∀ x, Z x → x ∈ L) → ∃ x, Z x ∧ ∃ q ∈ (plC C x).bs, ¬ Z q.2
theorem Out.sub {C : List PlC} {L L' : List Nat} (h : Out C L) (hs : ∀ x ∈ L', x ∈ L) : Out C L' := fun Z h1 h2 => h Z h1 fun x hx => hs x (h2 x hx)
theorem max_list (f : Nat → Rat) : ∀ {L : List Nat}, L ≠ [] → ∃ x ∈ L, ∀ y ∈ L, f y ≤ f x
  | [], h => absurd rfl h
  | [x], _ => ⟨x, List.mem_singleton.mpr rfl, fun y hy => by
    rw [List.mem_singleton] at hy
    rw [hy]
    exact Rat.le_refl⟩
  | x :: y :: L, _ => by
    obtain ⟨z, h1, h2⟩ := max_list f (L := y :: L) (by simp)
    by_cases h : f x ≤ f z
    · exact ⟨z, List.mem_cons_of_mem _ h1, fun u hu => by
        rcases List.mem_cons.mp hu with rfl | hu
        · exact h
        · exact h2 u hu⟩
    · exact ⟨x, List.mem_cons_self .., fun u hu => by
        rcases List.mem_cons.mp hu with rfl | hu
        · exact Rat.le_refl
        · have := h2 u hu
          grind⟩
theorem mean_max {bs : List BrC} {f : Nat → Rat} {M : Rat} (hp : ∀ q ∈ bs, 0 < qN q.1) (hf : ∀ q ∈ bs, f q.2 ≤ M) (h : M * wsum bs (fun _ => 1) ≤ wsum bs f) : ∀ q ∈ bs, f q.2 = M := by
  induction bs with
  | nil => intro q hq; cases hq
  | cons b bs ih =>
    rw [wsum_cons, wsum_cons] at h
    have p := hp b (List.mem_cons_self ..)
    have f1 := hf b (List.mem_cons_self ..)
    have hle : wsum bs f ≤ M * wsum bs (fun _ => 1) := by
      rw [← wsum_mul]
      refine wsum_le fun q hq => ⟨Rat.le_of_lt (hp q (List.mem_cons_of_mem _ hq)), ?_⟩
      rw [Rat.mul_one]
      exact hf q (List.mem_cons_of_mem _ hq)
    have u1 := Rat.mul_le_mul_of_nonneg_left f1 (Rat.le_of_lt p)
    have e1 : qN b.1 * f b.2 = qN b.1 * M := by grind
    have e2 : f b.2 = M := by
      have := congrArg (fun z => (qN b.1)⁻¹ * z) e1
      rw [← Rat.mul_assoc, ← Rat.mul_assoc, Rat.inv_mul_cancel _ (by grind), Rat.one_mul, Rat.one_mul] at this
      exact this
    intro q hq
    rcases List.mem_cons.mp hq with rfl | hq
    · exact e2
    · exact ih (fun q hq => hp q (List.mem_cons_of_mem _ hq)) (fun q hq => hf q (List.mem_cons_of_mem _ hq)) (by grind) q hq
theorem max_closed {C : List PlC} (hW : WfC C) {L : List Nat} (hL : ∀ x ∈ L, x < C.length) (hO : Out C L) {f : Nat → Rat} (h0 : ∀ y, y < C.length → y ∉ L → f y ≤ 0) (hf : ∀ x ∈ L, f x ≤ meanC C f x) : ∀ x ∈ L, f x ≤ 0 := by
  intro x hx
  obtain ⟨m, hm, hmax⟩ := max_list f (L := L) (List.ne_nil_of_mem hx)
  have hxm := hmax x hx
  by_cases hM : f m ≤ 0
  · grind
  · exfalso
    obtain ⟨z, ⟨hz, hzm⟩, q, hq, hnz⟩ := hO (fun y => y ∈ L ∧ f y = f m) ⟨m, hm, rfl⟩ fun y hy => hy.1
    have hzl := hL z hz
    have hw := plC_wf hW hzl
    have hall : ∀ y, y < C.length → f y ≤ f m := fun y hy => by
      by_cases hyL : y ∈ L
      · exact hmax y hyL
      · have := h0 y hy hyL
        grind
    have h1 : wsum (plC C z).bs (fun _ => 1) = 1 := mean_one hW hzl
    have e := mean_max (bs := (plC C z).bs) (f := f) (M := f m) (fun q hq => br_pos hW hzl hq) (fun q hq => hall _ (hw.q q hq).2.2) (by
      rw [h1, Rat.mul_one, ← hzm]
      exact hf z hz) q hq
    refine hnz ⟨?_, e⟩
    by_cases hqL : q.2 ∈ L
    · exact hqL
    · have := h0 _ (hw.q q hq).2.2 hqL
      grind
structure IsFill (C : List PlC) (L : List Nat) (e kn f : Nat → Rat) : Prop where
  eq : ∀ x ∈ L, f x = e x + meanC C f x
  out : ∀ y, y ∉ L → f y = kn y
theorem mean_sub (C : List PlC) (f g : Nat → Rat) (k : Nat) : meanC C (fun y => f y - g y) k = meanC C f k - meanC C g k := by
  have e : (fun y => f y - g y) = fun y => f y + (-1) * g y := by
    funext y
    grind
  unfold meanC
  rw [e, wsum_add, wsum_mul]
  grind
theorem fill_unique {C : List PlC} (hW : WfC C) {L : List Nat} (hL : ∀ x ∈ L, x < C.length) (hO : Out C L) {e kn f g : Nat → Rat} (hf : IsFill C L e kn f) (hg : IsFill C L e kn g) : ∀ y, f y = g y := by
  have key : ∀ {f g : Nat → Rat}, IsFill C L e kn f → IsFill C L e kn g → ∀ x ∈ L, f x - g x ≤ 0 := fun {f g} hf hg => max_closed hW hL hO (f := fun y => f y - g y) (fun y _ hy => by
    rw [hf.out y hy, hg.out y hy]
    grind) fun x hx => by
      rw [mean_sub, hf.eq x hx, hg.eq x hx]
      grind
  intro y
  by_cases hy : y ∈ L
  · have h1 := key hf hg y hy
    have h2 := key hg hf y hy
    grind
  · rw [hf.out y hy, hg.out y hy]
def scaleC (C : List PlC) (x : Nat) : Nat := denL ((plC C x).bs.map (·.1))
def cz (s : Nat) (q : BrC) : Int := q.1.1 * ((s : Int) / q.1.2)
def rowZ (C : List PlC) (L : List Nat) (x y : Nat) : Int := (if y = x then (scaleC C x : Int) else 0) - ((plC C x).bs.map fun q => if q.2 = y then cz (scaleC C x) q else 0).sum
theorem scaleC_ok {C : List PlC} (h : WfC C) {x : Nat} (hx : x < C.length) : 0 < scaleC C x ∧ scaleC C x ≤ 360 ∧ ∀ q ∈ (plC C x).bs, q.1.2.natAbs ∣ scaleC C x := by
  have w := plC_wf h hx
  obtain ⟨W, h1, h2, h3⟩ := w.w
  refine ⟨denL_pos fun p hp => ?_, Nat.le_trans (Nat.le_of_dvd h1 (denL_to fun p hp => ?_)) h2, fun q hq => denL_dvd (List.mem_map.mpr ⟨q, hq, rfl⟩)⟩
  · obtain ⟨q, hq, rfl⟩ := List.mem_map.mp hp
    exact (w.q q hq).1.1
  · obtain ⟨q, hq, rfl⟩ := List.mem_map.mp hp
    exact h3 q hq
theorem cz_cast {s : Nat} {q : BrC} (h : Red q.1) (d : q.1.2.natAbs ∣ s) : ((cz s q : Int) : Rat) = qN q.1 * ((s : Int) : Rat) := whole_q h d
theorem rowZ_cast {C : List PlC} (h : WfC C) (L : List Nat) {x : Nat} (hx : x < C.length) (y : Nat) : ((rowZ C L x y : Int) : Rat) = ((scaleC C x : Int) : Rat) * ((if y = x then 1 else 0) - meanC C (fun z => if z = y then 1 else 0) x) := by
  obtain ⟨s0, s1, s2⟩ := scaleC_ok h hx
  have w := plC_wf h hx
  unfold rowZ meanC
  generalize scaleC C x = s at *
  have e : ∀ bs : List BrC, (∀ q ∈ bs, Red q.1 ∧ q.1.2.natAbs ∣ s) → (((bs.map fun q => if q.2 = y then cz s q else 0).sum : Int) : Rat) = ((s : Int) : Rat) * wsum bs (fun z => if z = y then 1 else 0) := by
    intro bs
    induction bs with
    | nil => intro _; rw [wsum_nil, Rat.mul_zero]; rfl
    | cons q bs ih =>
      intro hq
      have h1 := hq q (List.mem_cons_self ..)
      rw [List.map_cons, List.sum_cons, wsum_cons, Rat.intCast_add, ih fun q hq' => hq q (List.mem_cons_of_mem _ hq')]
      by_cases z : q.2 = y
      · rw [if_pos z, if_pos z, cz_cast h1.1 h1.2]
        grind
      · rw [if_neg z, if_neg z]
        have : ((0 : Int) : Rat) = 0 := rfl
        rw [this]
        grind
  rw [Rat.intCast_sub, e _ fun q hq => ⟨red_small (w.q q hq).1, s2 q hq⟩]
  by_cases z : y = x
  · rw [if_pos z, if_pos z]
    grind
  · rw [if_neg z, if_neg z]
    have : ((0 : Int) : Rat) = 0 := rfl
    rw [this]
    grind
def wt (L : List Nat) (m : Nat) (w : Nat → Rat) (y : Nat) : Rat := sumR m fun j => if y = L.getD j 0 then w j else 0
theorem nodup_getD {L : List Nat} (h : L.Nodup) {i j : Nat} (hi : i < L.length) (hj : j < L.length) (e : L.getD i 0 = L.getD j 0) : i = j := by
  rw [List.getD_eq_getElem?_getD, List.getD_eq_getElem?_getD, List.getElem?_eq_getElem hi, List.getElem?_eq_getElem hj] at e
  exact (List.getElem_inj h).mp (Option.some.inj (congrArg some e))
theorem wt_at {L : List Nat} (h : L.Nodup) {m r : Nat} (hm : m ≤ L.length) (hr : r < m) (w : Nat → Rat) : wt L m w (L.getD r 0) = w r := by
  unfold wt
  rw [sumR_only hr, if_pos rfl]
  intro i hi hir
  rw [if_neg]
  exact fun e => hir (nodup_getD h (by omega) (by omega) e.symm)
theorem getD_mem {L : List Nat} {j : Nat} (h : j < L.length) : L.getD j 0 ∈ L := by
  rw [List.getD_eq_getElem?_getD, List.getElem?_eq_getElem h]
  exact List.getElem_mem h
theorem getD_take {L : List Nat} {j m : Nat} (h : j < m) (hm : m ≤ L.length) : L.getD j 0 ∈ L.take m := by
  have : (L.take m)[j]? = some (L.getD j 0) := by
    rw [List.getElem?_take, if_pos h, List.getD_eq_getElem?_getD, List.getElem?_eq_getElem (by omega)]
    rfl
  exact List.mem_of_getElem? this
theorem take_getD {L : List Nat} {m x : Nat} (h : x ∈ L.take m) : ∃ j, j < m ∧ j < L.length ∧ L.getD j 0 = x := by
  obtain ⟨j, hj, e⟩ := List.mem_iff_getElem.mp h
  rw [List.length_take] at hj
  refine ⟨j, by omega, by omega, ?_⟩
  rw [List.getElem_take] at e
  rw [List.getD_eq_getElem?_getD, List.getElem?_eq_getElem (by omega)]
  exact e
theorem wt_out {L : List Nat} {m y : Nat} (hm : m ≤ L.length) (w : Nat → Rat) (h : y ∉ L.take m) : wt L m w y = 0 := sumR_zeros fun j hj => if_neg fun e => h (by
  rw [e]
  exact getD_take hj hm)
theorem mean_wt (C : List PlC) (L : List Nat) (m x : Nat) (w : Nat → Rat) : meanC C (wt L m w) x = sumR m fun j => meanC C (fun z => if z = L.getD j 0 then 1 else 0) x * w j := by
  induction m with
  | zero =>
    rw [sumR_zero]
    unfold meanC
    have : wt L 0 w = fun _ => 0 * 1 := by
      funext y
      rw [Rat.zero_mul]
      rfl
    rw [this, wsum_mul, Rat.zero_mul]
  | succ m ih =>
    rw [sumR_succ, ← ih]
    unfold meanC
    have : wt L (m + 1) w = fun y => wt L m w y + w m * (if y = L.getD m 0 then 1 else 0) := by
      funext y
      unfold wt
      rw [sumR_succ]
      by_cases z : y = L.getD m 0
      · rw [if_pos z, if_pos z, Rat.mul_one]
      · rw [if_neg z, if_neg z, Rat.mul_zero]
    rw [this, wsum_add, wsum_mul]
    grind
theorem row_dot {C : List PlC} (h : WfC C) {L : List Nat} (hn : L.Nodup) (hL : ∀ x ∈ L, x < C.length) {m r : Nat} (hm : m ≤ L.length) (hr : r < m) (w : Nat → Rat) :
    sumR m (fun j => ((rowZ C L (L.getD r 0) (L.getD j 0) : Int) : Rat) * w j) = ((scaleC C (L.getD r 0) : Int) : Rat) * (w r - meanC C (wt L m w) (L.getD r 0)) := by
  have hx := hL _ (getD_mem (L := L) (j := r) (by omega))
  have e : ∀ j, j < m → ((rowZ C L (L.getD r 0) (L.getD j 0) : Int) : Rat) * w j = ((scaleC C (L.getD r 0) : Int) : Rat) * ((if L.getD r 0 = L.getD j 0 then w j else 0) + (-1) * (meanC C (fun z => if z = L.getD j 0 then 1 else 0) (L.getD r 0) * w j)) := fun j hj => by
    rw [rowZ_cast h L hx]
    by_cases z : L.getD j 0 = L.getD r 0
    · rw [if_pos z, if_pos z.symm]
      grind
    · rw [if_neg z, if_neg fun y => z y.symm]
      grind
  rw [sumR_congr e, sumR_mul, sumR_add, sumR_mul, ← mean_wt]
  have := wt_at hn hm hr w
  unfold wt at this
  rw [this]
  grind
def matA (C : List PlC) (L : List Nat) (kr : Nat → Rat) (U : Nat) : Nat → Nat → Int := fun r l => if l < L.length then rowZ C L (L.getD r 0) (L.getD l 0) else (canon (kr r)).1 * ((U : Int) / (canon (kr r)).2)
theorem matA_lo {C : List PlC} {L : List Nat} {kr : Nat → Rat} {U r l : Nat} (h : l < L.length) : matA C L kr U r l = rowZ C L (L.getD r 0) (L.getD l 0) := if_pos h
theorem pivot_pos {C : List PlC} (h : WfC C) {L : List Nat} (hn : L.Nodup) (hL : ∀ x ∈ L, x < C.length) (hO : Out C L) {kr : Nat → Rat} {U k : Nat} {T : Nat → Nat → Int} {d : Int} (hE : Elim L.length (matA C L kr U) k T d) (hk : k < L.length) : 0 < T k k := by
  obtain ⟨p1, p2⟩ := elim_pivot hE hk
  generalize hw : (fun j => if j = k then (d : Rat) else -qa T j k) = w at p1 p2
  have hwk : w k = (d : Rat) := by rw [← hw]; exact if_pos rfl
  have hrow : ∀ r, r < k + 1 → sumR (k + 1) (fun j => qa (matA C L kr U) r j * w j) = ((scaleC C (L.getD r 0) : Int) : Rat) * (w r - meanC C (wt L (k + 1) w) (L.getD r 0)) := fun r hr => by
    rw [← row_dot h hn hL hk hr w]
    refine sumR_congr fun j hj => ?_
    unfold qa
    rw [matA_lo (by omega)]
  rcases Int.lt_or_le 0 (T k k) with z | z
  · exact z
  · exfalso
    have zq : qa T k k ≤ 0 := le_cast z
    have hle : ∀ r, r < k + 1 → w r ≤ meanC C (wt L (k + 1) w) (L.getD r 0) := fun r hr => by
      have hx := hL _ (getD_mem (L := L) (j := r) (by omega))
      have s0 : (0 : Rat) < ((scaleC C (L.getD r 0) : Int) : Rat) := cast_pos (by have := (scaleC_ok h hx).1; omega)
      have e := hrow r hr
      have e2 : sumR (k + 1) (fun j => qa (matA C L kr U) r j * w j) ≤ 0 := by
        rcases Nat.lt_or_ge r k with y | y
        · rw [p1 r y]
          exact Rat.le_refl
        · obtain rfl : r = k := by omega
          rw [p2]
          exact zq
      rw [e] at e2
      rcases (Rat.le_total : w r ≤ meanC C (wt L (k + 1) w) (L.getD r 0) ∨ _) with y | y
      · exact y
      · by_cases y2 : w r - meanC C (wt L (k + 1) w) (L.getD r 0) = 0
        · grind
        · have := Rat.mul_pos s0 (show 0 < w r - meanC C (wt L (k + 1) w) (L.getD r 0) by grind)
          grind
    have hsub : ∀ x ∈ L.take (k + 1), x ∈ L := fun x hx => List.mem_of_mem_take hx
    have key := max_closed h (L := L.take (k + 1)) (fun x hx => hL x (hsub x hx)) (hO.sub hsub) (f := wt L (k + 1) w) (fun y _ hy => by rw [wt_out hk w hy]; exact Rat.le_refl) (fun x hx => by
      obtain ⟨j, h1, h2, rfl⟩ := take_getD hx
      rw [wt_at hn hk h1]
      exact hle j h1) (L.getD k 0) (getD_take (Nat.lt_succ_self k) hk)
    rw [wt_at hn hk (Nat.lt_succ_self k), hwk] at key
    have : (0 : Rat) < (d : Rat) := cast_pos hE.pos
    grind
end Md
set_option Elab.async false
set_option linter.all false
set_option maxRecDepth 100000
set_option maxHeartbeats 2000000
namespace Md
open PySem L2 Evl
def natR (n : Nat) : Rat := ((n : Int) : Rat)
theorem natR_add (a b : Nat) : natR (a + b) = natR a + natR b := by unfold natR; rw [Int.natCast_add, Rat.intCast_add]
theorem natR_mul (a b : Nat) : natR (a * b) = natR a * natR b := by unfold natR; rw [Int.natCast_mul, Rat.intCast_mul]
theorem natR_le {a b : Nat} (h : a ≤ b) : natR a ≤ natR b := le_cast (by omega)
theorem natR_nonneg (a : Nat) : 0 ≤ natR a := Rat.intCast_nonneg.mpr (by omega)
theorem natR_pos {a : Nat} (h : 0 < a) : 0 < natR a := cast_pos (by omega)
structure NB (M B : Nat) (r : Rat) : Prop where
  zt : Zt M r
  lo : -natR B ≤ r
  hi : r ≤ natR B
theorem NB.mono {M B M' B' : Nat} {r : Rat} (h : NB M B r) (hM : M ∣ M') (hB : B ≤ B') : NB M' B' r := ⟨h.zt.dvd hM, by have := natR_le hB; have := h.lo; grind, by have := natR_le hB; have := h.hi; grind⟩
theorem NB.big {M B j : Nat} {r : Rat} (h : NB M B r) (hM : 0 < M) (hB : 1 ≤ B) (hj : B * M < 2 ^ j) : Big j (canon r) := zt_Big (canon_red r) hM (by rw [q_canon]; exact h.zt) (by rw [q_canon]; exact h.lo) (by rw [q_canon]; exact h.hi) hB hj
theorem nb_zero (M B : Nat) : NB M B 0 := ⟨zt_zero M, by have := natR_nonneg B; grind, natR_nonneg B⟩
theorem natR_one : natR 1 = 1 := rfl
theorem nb_one {M B : Nat} (h : 1 ≤ B) : NB M B 1 := ⟨(show Zt M ((1 : Int) : Rat) from zt_int M 1), by have := natR_le h; rw [natR_one] at this; grind, by have := natR_le h; rw [natR_one] at this; exact this⟩
theorem part_bd {bs : List BrC} {f : Nat → Rat} {B : Nat} (hp : ∀ q ∈ bs, 0 ≤ qN q.1) (hf : ∀ q ∈ bs, -natR B ≤ f q.2 ∧ f q.2 ≤ natR B) (h1 : wsum bs (fun _ => 1) ≤ 1) : -natR B ≤ wsum bs f ∧ wsum bs f ≤ natR B := by
  have u1 : wsum bs f ≤ wsum bs (fun _ => natR B * 1) := wsum_le fun q hq => ⟨hp q hq, by rw [Rat.mul_one]; exact (hf q hq).2⟩
  have u2 : wsum bs (fun _ => -natR B * 1) ≤ wsum bs f := wsum_le fun q hq => ⟨hp q hq, by rw [Rat.mul_one]; exact (hf q hq).1⟩
  rw [wsum_mul] at u1 u2
  have u3 := Rat.mul_le_mul_of_nonneg_left h1 (natR_nonneg B)
  constructor <;> grind
theorem part_zt {bs : List BrC} {f : Nat → Rat} {M W : Nat} (hq : ∀ q ∈ bs, Red q.1 ∧ q.1.2.natAbs ∣ W ∧ Zt M (f q.2)) : Zt (M * W) (wsum bs f) := by
  induction bs with
  | nil => exact zt_zero _
  | cons q bs ih =>
    rw [wsum_cons]
    obtain ⟨h1, h2, h3⟩ := hq q (List.mem_cons_self ..)
    refine Zt.add ?_ (ih fun q hq' => hq q (List.mem_cons_of_mem _ hq'))
    rw [Nat.mul_comm]
    exact (zt_den h1 h2).mul h3
theorem nb_part {n : Nat} {p : PlC} (hw : WfB n p) {f : Nat → Rat} {M B : Nat} (hf : ∀ q ∈ p.bs, NB M B (f q.2)) (i : Nat) : NB (M * denL (p.bs.map (·.1))) B (wsum (p.bs.take i) f) := by
  have hp : ∀ q ∈ p.bs, 0 ≤ qN q.1 := fun q hq => Rat.le_of_lt (q_pos (red_small (hw.q q hq).1) (hw.q q hq).2.1)
  have h1 := (wsum_take hp i).2
  have h2 : wsum p.bs (fun _ => 1) = 1 := by rw [wsum_one]; exact hw.s
  rw [h2] at h1
  have b := part_bd (bs := p.bs.take i) (f := f) (B := B) (fun q hq => hp q (List.mem_of_mem_take hq)) (fun q hq => ⟨(hf q (List.mem_of_mem_take hq)).lo, (hf q (List.mem_of_mem_take hq)).hi⟩) h1
  exact ⟨part_zt fun q hq => ⟨red_small (hw.q q (List.mem_of_mem_take hq)).1, denL_dvd (List.mem_map.mpr ⟨q, List.mem_of_mem_take hq, rfl⟩), (hf q (List.mem_of_mem_take hq)).zt⟩, b.1, b.2⟩
theorem nb_mean {C : List PlC} (hW : WfC C) {x : Nat} (hx : x < C.length) {f : Nat → Rat} {M B : Nat} (hf : ∀ y, y < C.length → NB M B (f y)) : NB (M * scaleC C x) B (meanC C f x) := by
  have hw := plC_wf hW hx
  have := nb_part hw (f := f) (M := M) (B := B) (fun q hq => hf _ (hw.q q hq).2.2) (plC C x).bs.length
  rw [List.take_length] at this
  exact this
def fbN (B : Nat) : Nat → Nat
  | 0 => 1
  | k + 1 => (k + 1) * (B * fbN B k)
theorem fbd_nat (B : Nat) : ∀ k, fbd (natR B) k = natR (fbN B k)
  | 0 => rfl
  | k + 1 => by
    show natR (k + 1) * (natR B * fbd (natR B) k) = natR ((k + 1) * (B * fbN B k))
    rw [fbd_nat B k, natR_mul, natR_mul]
theorem fbN_le {B k : Nat} (h : k ≤ 12) : fbN B k ≤ (12 * B) ^ k := by
  induction k with
  | zero => exact Nat.le_refl _
  | succ k ih =>
    show (k + 1) * (B * fbN B k) ≤ (12 * B) ^ (k + 1)
    rw [Nat.pow_succ, ← Nat.mul_assoc, Nat.mul_comm ((12 * B) ^ k)]
    exact Nat.mul_le_mul (Nat.mul_le_mul_right B h) (ih (by omega))
theorem elim_col {n : Nat} {a : Nat → Nat → Int} {k : Nat} {T : Nat → Nat → Int} {d : Int} (h : Elim n a k T d) {j l : Nat} (hj : j < k) (hl : l ≤ n) : qa T j l = Fd k (upc (fun col r => qa a r col) j fun r => qa a r l) := by
  have d0 : (d : Rat) ≠ 0 := cast_ne (by have := h.pos; omega)
  have e := cramer (k := k) (c := fun col r => qa a r col) (t := fun i => qa T i l) (v := fun r => qa a r l) (d := (d : Rat)) (fun r hr => h.top r l hr hl) hj
  rw [← h.det] at e
  have e3 := congrArg (fun z => (d : Rat)⁻¹ * z) e
  rw [← Rat.mul_assoc, Rat.inv_mul_cancel _ d0, Rat.one_mul] at e3
  rw [e3]
  grind
theorem pow_le12 {b k : Nat} (hb : 1 ≤ b) (h : k ≤ 12) : b ^ k ≤ b ^ 12 := Nat.pow_le_pow_right hb h
theorem elim_d {n : Nat} {a : Nat → Nat → Int} {k : Nat} {T : Nat → Nat → Int} {d : Int} (h : Elim n a k T d) (hn : n ≤ 12) (hk : k ≤ n) {B : Nat} (hB : 1 ≤ B) (ha : ∀ r l, r < n → l < n → (a r l).natAbs ≤ B) : d ≤ ((12 * B) ^ 12 : Nat) := by
  have := (Fd_bd (B := natR B) k (c := fun col r => qa a r col) fun col r h1 h2 => by
    have := ha r col (by omega) (by omega)
    constructor
    · have e : -natR B = (((-(B : Int)) : Int) : Rat) := by rw [Rat.intCast_neg]; rfl
      rw [e]
      exact le_cast (by omega)
    · exact le_cast (by omega)).2
  rw [← h.det, fbd_nat] at this
  have e := cast_le this
  have e2 := Nat.le_trans (fbN_le (B := B) (k := k) (by omega)) (pow_le12 (by omega) (by omega))
  omega
theorem abs_of {z : Int} {X : Nat} (h1 : -natR X ≤ (z : Rat)) (h2 : (z : Rat) ≤ natR X) : z.natAbs ≤ X := by
  have e1 : z ≤ (X : Int) := cast_le h2
  have e2 : -(X : Int) ≤ z := cast_le (by rw [Rat.intCast_neg]; exact h1)
  omega
theorem abs_to {z : Int} {X : Nat} (h : z.natAbs ≤ X) : -natR X ≤ (z : Rat) ∧ (z : Rat) ≤ natR X := by
  constructor
  · have e : -natR X = (((-(X : Int)) : Int) : Rat) := by rw [Rat.intCast_neg]; rfl
    rw [e]
    exact le_cast (by omega)
  · exact le_cast (by omega)
theorem rowZ_bd {C : List PlC} (h : WfC C) (L : List Nat) {x : Nat} (hx : x < C.length) (y : Nat) : (rowZ C L x y).natAbs ≤ 360 := by
  obtain ⟨s0, s1, _⟩ := scaleC_ok h hx
  have e := rowZ_cast h L hx y
  have w := plC_wf h hx
  have m1 : 0 ≤ meanC C (fun z => if z = y then 1 else 0) x := mean_ge h hx fun j _ => by split <;> decide +kernel
  have m2 : meanC C (fun z => if z = y then 1 else 0) x ≤ 1 := mean_le h hx fun j _ => by split <;> decide +kernel
  have b : -(1 : Rat) ≤ (if y = x then 1 else 0) - meanC C (fun z => if z = y then 1 else 0) x ∧ (if y = x then 1 else 0) - meanC C (fun z => if z = y then 1 else 0) x ≤ 1 := by
    split <;> constructor <;> grind
  have s : -natR 360 ≤ ((scaleC C x : Int) : Rat) ∧ ((scaleC C x : Int) : Rat) ≤ natR 360 := abs_to (by omega)
  have := mul_bd s.1 s.2 b.1 b.2
  rw [← e, Rat.mul_one] at this
  exact abs_of this.1 this.2
theorem fill_of {C : List PlC} (hW : WfC C) {L : List Nat} (hn : L.Nodup) (hL : ∀ x ∈ L, x < C.length) {e kn : Nat → Rat} (hk0 : ∀ x ∈ L, kn x = 0) {U : Nat} (hU : 0 < U) {T : Nat → Nat → Int} {d : Int}
    (hd : ∀ r, r < L.length → (canon ((e (L.getD r 0) + meanC C kn (L.getD r 0)) * ((scaleC C (L.getD r 0) : Int) : Rat))).2.natAbs ∣ U)
    (hE : Elim L.length (matA C L (fun r => (e (L.getD r 0) + meanC C kn (L.getD r 0)) * ((scaleC C (L.getD r 0) : Int) : Rat)) U) L.length T d) :
    IsFill C L e kn (fun y => wt L L.length (fun j => qa T j L.length / ((d : Rat) * natR U)) y + kn y) := by
  have d0 : (d : Rat) ≠ 0 := cast_ne (by have := hE.pos; omega)
  have u0 : natR U ≠ 0 := nat_ne hU
  have hLt : ∀ y, y ∉ L → y ∉ L.take L.length := fun y hy => by rw [List.take_length]; exact hy
  refine ⟨fun x hx => ?_, fun y hy => by rw [wt_out (Nat.le_refl _) _ (hLt y hy), Rat.zero_add]⟩
  obtain ⟨r, hr, _, rfl⟩ := take_getD (m := L.length) (by rw [List.take_length]; exact hx)
  have hxl := hL _ hx
  have s0 : ((scaleC C (L.getD r 0) : Int) : Rat) ≠ 0 := cast_ne (by have := (scaleC_ok hW hxl).1; omega)
  rw [wt_at hn (Nat.le_refl _) hr, hk0 _ hx, Rat.add_zero]
  have em : meanC C (fun y => wt L L.length (fun j => qa T j L.length / ((d : Rat) * natR U)) y + kn y) (L.getD r 0) = meanC C (wt L L.length fun j => qa T j L.length / ((d : Rat) * natR U)) (L.getD r 0) + meanC C kn (L.getD r 0) := wsum_add _ _ _
  rw [em]
  have e1 := elim_end hE r hr
  have e2 : qa (matA C L (fun r => (e (L.getD r 0) + meanC C kn (L.getD r 0)) * ((scaleC C (L.getD r 0) : Int) : Rat)) U) r L.length = (e (L.getD r 0) + meanC C kn (L.getD r 0)) * ((scaleC C (L.getD r 0) : Int) : Rat) * natR U := by
    unfold qa matA
    rw [if_neg (Nat.lt_irrefl _), whole_q (canon_red _) (hd r hr), q_canon]
    rfl
  have e3 := row_dot hW hn hL (Nat.le_refl _) hr fun j => qa T j L.length / ((d : Rat) * natR U)
  have e4 : sumR L.length (fun j => ((rowZ C L (L.getD r 0) (L.getD j 0) : Int) : Rat) * (qa T j L.length / ((d : Rat) * natR U))) = (1 / natR U) * sumR L.length (fun j => qa (matA C L (fun r => (e (L.getD r 0) + meanC C kn (L.getD r 0)) * ((scaleC C (L.getD r 0) : Int) : Rat)) U) r j * (qa T j L.length / (d : Rat))) := by
    rw [← sumR_mul]
    refine sumR_congr fun j hj => ?_
    have : qa (matA C L (fun r => (e (L.getD r 0) + meanC C kn (L.getD r 0)) * ((scaleC C (L.getD r 0) : Int) : Rat)) U) r j = ((rowZ C L (L.getD r 0) (L.getD j 0) : Int) : Rat) := by
      unfold qa
      rw [matA_lo hj]
    rw [this]
    grind
  rw [e4, e1, e2] at e3
  generalize qa T r L.length / ((d : Rat) * natR U) = t at *
  generalize meanC C (wt L L.length fun j => qa T j L.length / ((d : Rat) * natR U)) (L.getD r 0) = m1 at *
  generalize meanC C kn (L.getD r 0) = m2 at *
  generalize e (L.getD r 0) = ee at *
  generalize ((scaleC C (L.getD r 0) : Int) : Rat) = s at *
  have e5 : (1 / natR U) * ((ee + m2) * s * natR U) = (ee + m2) * s := by grind
  rw [e5] at e3
  grind
end Md
set_option Elab.async false
set_option linter.all false
set_option maxRecDepth 100000
set_option maxHeartbeats 2000000
namespace L2
open PySem PySem.Spec PyProof.Rows
end L2
namespace Md
open PySem L2 Evl
theorem cmulL {i j : Int} (hi : i.natAbs < 2 ^ 4000) (hj : j.natAbs < 2 ^ 4000) : CMulW i j := wide_mul (a := 4000) (b := 4000) hi hj (by decide) (by decide) (by decide)
def ratsD (l : List Rat) : PyData := .list (l.map nQ)
def rowD (n : Nat) (T : Nat → Nat → Int) (j : Nat) : PyData := .list ((List.range (n + 1)).map fun l => PyData.int (T j l))
def tabD (n : Nat) (T : Nat → Nat → Int) : PyData := .list ((List.range n).map (rowD n T))
def placeK (L : List Nat) (kx : Nat → Rat) : Nat → Rat := fun r => kx (L.getD r 0)
def unitK (L : List Nat) (kx : Nat → Rat) : Nat := denL (L.map fun x => canon (kx x))
section
variable {K : PySem.W.Frag} {σ : L2.St} {b h : Hp} {te tl ta tb : TE} {ts tk : TA} {E : XK} {C : List PlC} {p q : Int × Int} {r s : Rat}
end
end Md
namespace Md
open PySem L2 Evl
section
variable {K : PySem.W.Frag} {σ : L2.St} {b h0 : Hp} {tl ta tb : TE} {ts : TA} {D : Ends} {tu : TS} {ds es : List PyData} {i j : Nat}
end
end Md
namespace Md
open PySem L2 Evl
end Md
namespace Md
open PySem L2 Evl
theorem elim_exists {C : List PlC} (h : WfC C) {L : List Nat} (hn : L.Nodup) (hL : ∀ x ∈ L, x < C.length) (hO : Out C L) (kr : Nat → Rat) (U : Nat) : ∀ k, k ≤ L.length → ∃ T d, Elim L.length (matA C L kr U) k T d
  | 0, _ => ⟨_, 1, elim_start _ _⟩
  | k + 1, hk => by
    obtain ⟨T, d, hE⟩ := elim_exists h hn hL hO kr U k (by omega)
    exact ⟨_, _, (elim_step hE hk (pivot_pos h hn hL hO hE hk)).1⟩
theorem zt_scale {M s : Nat} {r : Rat} (h : Zt (M * s) r) : Zt M (r * natR s) := by
  obtain ⟨z, hz⟩ := h
  refine ⟨z, ?_⟩
  rw [Int.natCast_mul, Rat.intCast_mul] at hz
  rw [← hz]
  unfold natR
  grind
def constK (C : List PlC) (e kn : Nat → Rat) (x : Nat) : Rat := (e x + meanC C kn x) * ((scaleC C x : Int) : Rat)
theorem const_nb {C : List PlC} (hW : WfC C) {e kn : Nat → Rat} {M B x : Nat} (hx : x < C.length) (he : NB M B (e x)) (hk : ∀ y, y < C.length → NB M B (kn y)) : NB (M * scaleC C x) (2 * B) (e x + meanC C kn x) ∧ NB M (720 * B) (constK C e kn x) := by
  have m := nb_mean hW hx hk
  obtain ⟨s0, s1, _⟩ := scaleC_ok hW hx
  have z : Zt (M * scaleC C x) (e x + meanC C kn x) := (he.zt.dvd (Nat.dvd_mul_right _ _)).add m.zt
  have b2 : natR (2 * B) = natR B + natR B := by rw [natR_mul]; have : natR 2 = 2 := rfl; rw [this]; grind
  have l1 := he.lo
  have l2 := he.hi
  have l3 := m.lo
  have l4 := m.hi
  have lo : -natR (2 * B) ≤ e x + meanC C kn x := by rw [b2]; grind
  have hi : e x + meanC C kn x ≤ natR (2 * B) := by rw [b2]; grind
  refine ⟨⟨z, lo, hi⟩, zt_scale z, ?_, ?_⟩
  · have := (mul_bd lo hi (show -natR 360 ≤ natR (scaleC C x) by have := natR_nonneg (scaleC C x); have := natR_nonneg 360; grind) (natR_le s1)).1
    rw [← natR_mul] at this
    have e48 : 2 * B * 360 = 720 * B := by omega
    rw [e48] at this
    exact this
  · have := (mul_bd lo hi (show -natR 360 ≤ natR (scaleC C x) by have := natR_nonneg (scaleC C x); have := natR_nonneg 360; grind) (natR_le s1)).2
    rw [← natR_mul] at this
    have e48 : 2 * B * 360 = 720 * B := by omega
    rw [e48] at this
    exact this
end Md
namespace Md
open PySem L2 Evl
section
variable {K : PySem.W.Frag} {σ : L2.St} {b h : Hp} {te tl ta tb : TE} {ts tk : TA} {E : XK} {C : List PlC}
end
end Md
namespace Md
theorem nodup_len {L : List Nat} {n : Nat} (h : L.Nodup) (hL : ∀ x ∈ L, x < n) : L.length ≤ n := by
  refine pigeon n L.length (fun i => L.getD i 0) (fun i hi => hL _ (getD_mem hi)) fun i j hij hj e => ?_
  have := nodup_getD h (by omega) hj e
  omega
end Md
namespace Md
open PySem L2 Evl
section
variable {K : PySem.W.Frag} {σ : L2.St} {b h : Hp} {ts : TA} {E : XK} {D : Ends} {tz : TS} {ds : List PyData} {sp : Sp} {u : V} {du : PyData}
end
end Md
set_option Elab.async false
set_option linter.all false
set_option maxRecDepth 100000
set_option maxHeartbeats 2000000
namespace Md
open PySem L2 Evl
inductive Reach (C : List PlC) (x : Nat) : Nat → Prop
  | refl : Reach C x x
  | step {y : Nat} {q : BrC} : Reach C x y → q ∈ (plC C y).bs → Reach C x q.2
theorem Reach.trans {C : List PlC} {x y z : Nat} (h : Reach C x y) (g : Reach C y z) : Reach C x z := by
  induction g with
  | refl => exact h
  | step _ hq ih => exact ih.step hq
theorem Reach.lt {C : List PlC} (h : WfC C) {x y : Nat} (hx : x < C.length) (g : Reach C x y) : y < C.length := by
  induction g with
  | refl => exact hx
  | step _ hq ih => exact ((plC_wf h ih).q _ hq).2.2
noncomputable def reachL (C : List PlC) (x : Nat) : List Nat := (List.range C.length).filter fun y => @decide (Reach C x y) (Classical.propDecidable _)
theorem mem_reachL {C : List PlC} (h : WfC C) {x y : Nat} (hx : x < C.length) : y ∈ reachL C x ↔ Reach C x y := by
  unfold reachL
  rw [List.mem_filter, List.mem_range]
  exact ⟨fun z => @of_decide_eq_true _ (Classical.propDecidable _) z.2, fun z => ⟨z.lt h hx, @decide_eq_true _ (Classical.propDecidable _) z⟩⟩
theorem range_sorted (n : Nat) : (List.range n).Pairwise (· < ·) := List.pairwise_lt_range
theorem sorted_ext : ∀ {l m : List Int}, l.Pairwise (· < ·) → m.Pairwise (· < ·) → (∀ y, y ∈ l ↔ y ∈ m) → l = m
  | [], [], _, _, _ => rfl
  | [], b :: m, _, _, h => by
    have := (h b).mpr (List.mem_cons_self ..)
    cases this
  | a :: l, [], _, _, h => by
    have := (h a).mp (List.mem_cons_self ..)
    cases this
  | a :: l, b :: m, hl, hm, h => by
    rw [List.pairwise_cons] at hl hm
    have e : a = b := by
      have h1 := (h a).mp (List.mem_cons_self ..)
      have h2 := (h b).mpr (List.mem_cons_self ..)
      rcases List.mem_cons.mp h1 with z | z
      · exact z
      · rcases List.mem_cons.mp h2 with y | y
        · exact y.symm
        · have := hl.1 b y
          have := hm.1 a z
          omega
    subst e
    congr 1
    refine sorted_ext hl.2 hm.2 fun y => ⟨fun hy => ?_, fun hy => ?_⟩
    · rcases List.mem_cons.mp ((h y).mp (List.mem_cons_of_mem _ hy)) with z | z
      · have := hl.1 y hy
        omega
      · exact z
    · rcases List.mem_cons.mp ((h y).mpr (List.mem_cons_of_mem _ hy)) with z | z
      · have := hm.1 y hy
        omega
      · exact z
theorem small11 : SmallN (1, 1) := ⟨by decide, by decide, by decide, by decide⟩
section
variable {K : PySem.W.Frag} {σ : L2.St} {b h : Hp} {te tl ta tb : TE} {t : TT} {ts tk : TA} {E : XK} {D : Ends} {tz : TS} {C : List PlC} {d : PyData} {ds : List PyData} {a : Addr} {us : List V}
theorem ed_if {c : Bool} (x : EvT t σ b c) (h1 : c = true → ED K ta σ b d) (h2 : c = false → ED K tb σ b d) : ED K (tIf t ta tb) σ b d := fun h e Q q => x h e _ fun h' e' => by
  cases c with
  | true => exact h1 rfl h' (e.trans e') Q fun v b2 h2 g hv => q v b2 h2 ((Gr.stay e e').trans g) hv
  | false => exact h2 rfl h' (e.trans e') Q fun v b2 h2 g hv => q v b2 h2 ((Gr.stay e e').trans g) hv
end
section
variable {K : PySem.W.Frag} {σ : L2.St} {b h : Hp} {ts : TA} {E : XK} {C : List PlC} {x : Nat}
end
end Md
namespace Md
open PySem L2 Evl
end Md
namespace Md
open PySem L2 Evl
end Md
namespace Md
open PySem L2 Evl
theorem okD {P : Program} {w : World} {K : PySem.W.Frag} {mg : Str → Option Value} {base : Heap} {x : Str} {st : Stmt} {f : Addr} {fd : FuncData} {N ps : List Str} {k : Nat} {sp : Sp} {dvs : List V} (F : FunD K x x (defArgs st) (defBody st) (defScope st) dvs [] f fd) (S : FnScope N ps (defScope st)) (len : ∀ vs H Q E, sp vs H Q E → vs.length = ps.length)
    (hbody : ∀ (cdv : Value) (A : PySem.Around) (outer : List Env) (s : Shared) (H : Hp) (vs : List V) (Q : VK) (E : XK), Room k (A.deeper (PyProof.Rows.envOfC x (defScope st) s.heap.objs.size f cdv)) → sp vs H Q E →
      ∃ t, PSs (cxOf CX0 P w K mg base N x (defScope st) f cdv A outer s H E).nox (defBody st) t ∧ t { nx := fun _ H' => Q .non H', rt := Q } (start N vs) H) : FnOk P w K mg base CX0 (k + 1) f fd ps sp :=
  F.ok S len fun cdv A outer s H vs Q E hr hsp => by
    obtain ⟨t, h, q⟩ := hbody cdv A outer s H vs Q E hr hsp
    exact ⟨t, h.nox, q⟩
end Md
set_option Elab.async false
set_option linter.all false
set_option maxRecDepth 100000
set_option maxHeartbeats 2000000
namespace Md
open PySem L2 Evl
inductive Back (g : Nat → Bool) (tg : Nat → List Nat) (n : Nat) (S : List Nat) : Nat → Prop
  | base {y : Nat} : y ∈ S → Back g tg n S y
  | step {k t : Nat} : k < n → g k = true → t ∈ tg k → Back g tg n S t → Back g tg n S k
structure PInv (g : Nat → Bool) (tg : Nat → List Nat) (n : Nat) (S0 S : List Nat) : Prop where
  nd : S.Nodup
  lt : ∀ y ∈ S, y < n
  sub : ∀ y ∈ S0, y ∈ S
  bk : ∀ y ∈ S, Back g tg n S0 y
variable {g : Nat → Bool} {tg : Nat → List Nat} {n : Nat} {S0 S : List Nat}
end Md
namespace Md
open PySem L2 Evl
section
variable {K : PySem.W.Frag} {σ : L2.St} {b h : Hp} {ts : TA} {E : XK} {C : List PlC} {x : Nat} {r s : Rat}
end
theorem wf_sure_one {n t : Nat} {g : Int × Int} (hg : SmallN g) (h : t < n) : WfB n ⟨g, [((1, 1), t)]⟩ := by
  refine ⟨hg, by show 1 ≤ 1; decide, by show 1 ≤ 6; decide, fun q hq => ?_, ⟨1, by decide, by decide, fun q hq => ?_⟩, ?_⟩
  · have : q = ((1, 1), t) := List.mem_singleton.mp hq
    rw [this]
    exact ⟨small11, (show (0 : Int) < 1 by decide), h⟩
  · have : q = ((1, 1), t) := List.mem_singleton.mp hq
    rw [this]
    exact Nat.dvd_refl 1
  · show (qN (1, 1) + 0 : Rat) = 1
    rw [q_one, Rat.add_zero]
end Md
set_option Elab.async false
set_option linter.all false
set_option maxRecDepth 100000
set_option maxHeartbeats 2000000
namespace Md
open PySem L2 Evl
section
variable {K : PySem.W.Frag} {σ : L2.St} {b h : Hp} {ts : TA} {ta tb te : TE} {E : XK} {C : List PlC} {x : Nat} {r s : Rat} {p : Addr} {us : List V} {d : PyData} {ds : List PyData}
end
end Md
set_option Elab.async false
set_option linter.all false
set_option maxRecDepth 100000
set_option maxHeartbeats 2000000
namespace Md
open PySem L2 Evl
theorem gain_nb {C : List PlC} (h : WfC C) {y : Nat} (hy : y < C.length) : NB (denL (gainsC C)) 1000 (gainC C y) := by
  have hw := plC_wf h hy
  have c := q_small hw.g
  exact ⟨zt_den (red_small hw.g) (denL_dvd (List.mem_map.mpr ⟨plC C y, List.mem_of_getElem? (plC_get hy), rfl⟩)), c.1, c.2⟩
theorem unit_lt {C : List PlC} (h : WfC C) : 0 < denL (gainsC C) ∧ denL (gainsC C) < 2 ^ 120 := by
  refine ⟨(unit_ok h).1, Nat.lt_of_le_of_lt (unit_ok h).2 ?_⟩
  exact Nat.lt_of_le_of_lt (Nat.pow_le_pow_right (by decide) h.l12) (by decide +kernel)
section
variable {K : PySem.W.Frag} {σ : L2.St} {b h : Hp} {ts ts1 ts2 : TA} {ta tb te : TE} {E : XK} {C : List PlC} {x : Nat} {r s : Rat} {p : Addr} {us : List V} {d : PyData} {ds : List PyData} {D : Ends} {tz : TS}
end
end Md
set_option Elab.async false
set_option linter.all false
set_option maxRecDepth 100000
set_option maxHeartbeats 2000000
namespace Md
open PySem L2 Evl
def isHead (C : List PlC) (R : Nat → List Nat) (x : Nat) : Bool := (R x).getD 0 0 == x && (R x).all fun y => R y == R x
noncomputable def headsL (C : List PlC) : List Nat := (List.range C.length).filter (isHead C (reachL C))
noncomputable def groupsL (C : List PlC) : List (List Nat) := (headsL C).map (reachL C)
noncomputable def passL (C : List PlC) : List Nat := (List.range C.length).filter fun x => !decide (x ∈ (groupsL C).flatten)
theorem reach_nodup (C : List PlC) (x : Nat) : (reachL C x).Nodup := List.nodup_range.filter _
theorem reach_lt {C : List PlC} {x y : Nat} (h : y ∈ reachL C x) : y < C.length := by
  unfold reachL at h
  exact List.mem_range.mp (List.mem_filter.mp h).1
variable {C : List PlC}
theorem self_mem (h : WfC C) {x : Nat} (hx : x < C.length) : x ∈ reachL C x := (mem_reachL h hx).mpr .refl
structure IsGrp (C : List PlC) (x : Nat) (L : List Nat) : Prop where
  nd : (x :: L).Nodup
  lt : ∀ y ∈ x :: L, y < C.length
  al : ∀ y ∈ x :: L, reachL C y = x :: L
theorem mem_heads {x : Nat} : x ∈ headsL C ↔ x < C.length ∧ (reachL C x).getD 0 0 = x ∧ ∀ y ∈ reachL C x, reachL C y = reachL C x := by
  unfold headsL isHead
  rw [List.mem_filter, List.mem_range, Bool.and_eq_true, beq_iff_eq, List.all_eq_true]
  exact ⟨fun ⟨a, b, c⟩ => ⟨a, b, fun y hy => eq_of_beq (c y hy)⟩, fun ⟨a, b, c⟩ => ⟨a, b, fun y hy => beq_iff_eq.mpr (c y hy)⟩⟩
theorem head_grp (h : WfC C) {x : Nat} (hx : x ∈ headsL C) : ∃ L, reachL C x = x :: L ∧ IsGrp C x L := by
  obtain ⟨h1, h2, h3⟩ := mem_heads.mp hx
  have hs := self_mem h h1
  cases e : reachL C x with
  | nil => rw [e] at hs; cases hs
  | cons a L =>
    rw [e] at h2 h3
    have h2' : a = x := h2
    subst h2'
    refine ⟨L, rfl, by rw [← e]; exact reach_nodup C a, fun y hy => reach_lt (by rw [e]; exact hy), h3⟩
theorem grp_closed (h : WfC C) {x : Nat} {L : List Nat} (g : IsGrp C x L) {y : Nat} (hy : y ∈ x :: L) {q : BrC} (hq : q ∈ (plC C y).bs) : q.2 ∈ x :: L := by
  rw [← g.al y hy]
  exact (mem_reachL h (g.lt y hy)).mpr (Reach.refl.step hq)
theorem closed_reach {Z : Nat → Prop} (hZ : ∀ x, Z x → ∀ q ∈ (plC C x).bs, Z q.2) {x y : Nat} (hx : Z x) (r : Reach C x y) : Z y := by
  induction r with
  | refl => exact hx
  | step _ hq ih => exact hZ _ ih _ hq
theorem out_tail (h : WfC C) {x : Nat} {L : List Nat} (g : IsGrp C x L) : Out C L := fun Z ⟨z, hz⟩ hsub => by
  refine Classical.byContradiction fun hno => ?_
  have hcl : ∀ w, Z w → ∀ q ∈ (plC C w).bs, Z q.2 := fun w hw q hq => Classical.byContradiction fun hn => hno ⟨w, hw, q, hq, hn⟩
  have hzm := List.mem_cons_of_mem x (hsub z hz)
  have r : Reach C z x := (mem_reachL h (g.lt z hzm)).mp (by rw [g.al z hzm]; exact List.mem_cons_self ..)
  have hxL := hsub x (closed_reach hcl hz r)
  exact (List.nodup_cons.mp g.nd).1 hxL
theorem mem_pass {x : Nat} : x ∈ passL C ↔ x < C.length ∧ ∀ y ∈ headsL C, x ∉ reachL C y := by
  unfold passL groupsL
  rw [List.mem_filter, List.mem_range, Bool.not_eq_true', decide_eq_false_iff_not, List.mem_flatten]
  constructor
  · rintro ⟨a, b⟩
    exact ⟨a, fun y hy hx => b ⟨_, List.mem_map.mpr ⟨y, hy, rfl⟩, hx⟩⟩
  · rintro ⟨a, b⟩
    refine ⟨a, ?_⟩
    rintro ⟨l, hl, hx⟩
    obtain ⟨y, hy, rfl⟩ := List.mem_map.mp hl
    exact b y hy hx
theorem reach_sub (h : WfC C) {z w : Nat} (hz : z < C.length) (r : Reach C z w) : ∀ y ∈ reachL C w, y ∈ reachL C z := fun y hy => (mem_reachL h hz).mpr (r.trans ((mem_reachL h (r.lt h hz)).mp hy))
theorem filter_eq_of {n : Nat} {p q : Nat → Bool} (h1 : ∀ y ∈ (List.range n).filter p, y ∈ (List.range n).filter q) (h2 : ((List.range n).filter q).length ≤ ((List.range n).filter p).length) : (List.range n).filter p = (List.range n).filter q := by
  have hs : ∀ y ∈ (List.range n).filter q, y ∈ (List.range n).filter p := fun y hy => Classical.byContradiction fun hn => by
    have hnd : (y :: (List.range n).filter p).Nodup := List.nodup_cons.mpr ⟨hn, List.nodup_range.filter _⟩
    have := hnd.length_le_of_subset (l₂ := (List.range n).filter q) (fun a ha => by
      rcases List.mem_cons.mp ha with rfl | ha
      · exact hy
      · exact h1 a ha)
    rw [List.length_cons] at this
    omega
  refine List.filter_congr fun y hy => ?_
  rw [Bool.eq_iff_iff]
  exact ⟨fun z => (List.mem_filter.mp (h1 y (List.mem_filter.mpr ⟨hy, z⟩))).2, fun z => (List.mem_filter.mp (hs y (List.mem_filter.mpr ⟨hy, z⟩))).2⟩
theorem leastZ (f : Nat → Nat) {Z : Nat → Prop} : ∀ (k z : Nat), f z ≤ k → Z z → ∃ w, Z w ∧ ∀ v, Z v → f w ≤ f v
  | 0, z, h, hz => ⟨z, hz, fun v _ => by omega⟩
  | k + 1, z, h, hz => by
    by_cases c : ∃ v, Z v ∧ f v ≤ k
    · obtain ⟨v, hv, hk⟩ := c
      exact leastZ f k v hk hv
    · exact ⟨z, hz, fun v hv => Nat.le_of_not_lt fun hlt => c ⟨v, hv, by omega⟩⟩
theorem grp_in (h : WfC C) {Z : Nat → Prop} {z : Nat} (hz : Z z) (hlt : ∀ x, Z x → x < C.length) (hcl : ∀ w, Z w → ∀ q ∈ (plC C w).bs, Z q.2) : ∃ w x, Z w ∧ x ∈ headsL C ∧ w ∈ reachL C x := by
  obtain ⟨w, hw, hmin⟩ := leastZ (fun x => (reachL C x).length) _ z (Nat.le_refl _) hz
  have hwl := hlt w hw
  have key : ∀ y ∈ reachL C w, reachL C y = reachL C w := fun y hy => by
    have r := (mem_reachL h hwl).mp hy
    exact filter_eq_of (reach_sub h hwl r) (hmin y (closed_reach hcl hw r))
  have hs := self_mem h hwl
  cases e : reachL C w with
  | nil => rw [e] at hs; cases hs
  | cons a L =>
    have ha : a ∈ reachL C w := by rw [e]; exact List.mem_cons_self ..
    have ea := key a ha
    refine ⟨w, a, hw, mem_heads.mpr ⟨reach_lt ha, by rw [ea, e]; rfl, fun y hy => ?_⟩, by rw [ea]; exact hs⟩
    rw [ea] at hy
    rw [key y hy, ea]
theorem out_pass (h : WfC C) : Out C (passL C) := fun Z ⟨z, hz⟩ hsub => by
  refine Classical.byContradiction fun hno => ?_
  have hcl : ∀ w, Z w → ∀ q ∈ (plC C w).bs, Z q.2 := fun w hw q hq => Classical.byContradiction fun hn => hno ⟨w, hw, q, hq, hn⟩
  obtain ⟨w, x, hw, hx, hm⟩ := grp_in h hz (fun x hx => (mem_pass.mp (hsub x hx)).1) hcl
  exact (mem_pass.mp (hsub w hw)).2 x hx hm
theorem heads_one (h : WfC C) {x y z : Nat} (hx : x ∈ headsL C) (hy : y ∈ headsL C) (h1 : z ∈ reachL C x) (h2 : z ∈ reachL C y) : x = y := by
  obtain ⟨a1, a2, a3⟩ := mem_heads.mp hx
  obtain ⟨b1, b2, b3⟩ := mem_heads.mp hy
  rw [← a2, ← b2, ← a3 z h1, ← b3 z h2]
theorem pass_lt : ∀ x ∈ passL C, x < C.length := fun x hx => (mem_pass.mp hx).1
theorem pass_nodup : (passL C).Nodup := List.nodup_range.filter _
theorem heads_nodup : (headsL C).Nodup := List.nodup_range.filter _
theorem pass_or {x : Nat} (hx : x < C.length) : x ∈ passL C ∨ ∃ y ∈ headsL C, x ∈ reachL C y := by
  by_cases c : ∃ y ∈ headsL C, x ∈ reachL C y
  · exact .inr c
  · exact .inl (mem_pass.mpr ⟨hx, fun y hy hm => c ⟨y, hy, hm⟩⟩)
theorem mean_congr (h : WfC C) {x : Nat} {f g : Nat → Rat} (e : ∀ q ∈ (plC C x).bs, f q.2 = g q.2) : meanC C f x = meanC C g x := wsum_congr e
theorem mean_mulC (c : Rat) (f : Nat → Rat) (x : Nat) : meanC C (fun y => c * f y) x = c * meanC C f x := wsum_mul _ _ _
theorem mean_addC (f g : Nat → Rat) (x : Nat) : meanC C (fun y => f y + g y) x = meanC C f x + meanC C g x := wsum_add _ _ _
theorem mean_const (h : WfC C) (c : Rat) {x : Nat} (hx : x < C.length) : meanC C (fun _ => c) x = c := by
  have e : (fun _ : Nat => c) = fun y => c * (fun _ => (1 : Rat)) y := by
    funext y
    grind
  rw [e, mean_mulC, mean_one h hx, Rat.mul_one]
structure GrpMean (C : List PlC) (x : Nat) (L : List Nat) (e : Nat → Rat) (m : Rat) : Prop where
  ex : ∃ s t, IsFill C L e (fun _ => 0) s ∧ IsFill C L (fun _ => 1) (fun _ => 0) t ∧ m = (e x + meanC C s x) / (1 + meanC C t x)
theorem steps_nn (h : WfC C) {x : Nat} {L : List Nat} (g : IsGrp C x L) {t : Nat → Rat} (ht : IsFill C L (fun _ => 1) (fun _ => 0) t) : (∀ y, 0 ≤ t y) ∧ ∀ k, k < C.length → 0 ≤ meanC C t k := by
  have hL : ∀ y ∈ L, y < C.length := fun y hy => g.lt y (List.mem_cons_of_mem x hy)
  have key := max_closed h hL (out_tail h g) (f := fun y => (-1) * t y) (fun y _ hy => by
    show (-1) * t y ≤ 0
    rw [ht.out y hy]
    grind) fun y hy => by
      rw [mean_mulC]
      have e := ht.eq y hy
      grind
  have nn : ∀ y, 0 ≤ t y := fun y => by
    by_cases hy : y ∈ L
    · have k := key y hy
      have k' : (-1) * t y ≤ 0 := k
      grind
    · rw [ht.out y hy]
      exact Rat.le_refl
  exact ⟨nn, fun k hk => mean_ge h hk fun j _ => nn j⟩
theorem grp_round (h : WfC C) {x : Nat} {L : List Nat} (g : IsGrp C x L) {e : Nat → Rat} {m : Rat} (hm : GrpMean C x L e m) {s : Nat → Rat} (hs : IsFill C L (fun y => e y - m) (fun _ => 0) s) : (e x - m) + meanC C s x = 0 := by
  obtain ⟨s1, t, h1, h2, h3⟩ := hm.ex
  have hL : ∀ y ∈ L, y < C.length := fun y hy => g.lt y (List.mem_cons_of_mem x hy)
  have e1 : IsFill C L (fun y => e y - m) (fun _ => 0) (fun y => s1 y - m * t y) := ⟨fun y hy => by
    rw [mean_sub, mean_mulC]
    have a := h1.eq y hy
    have b := h2.eq y hy
    grind, fun y hy => by
    show s1 y - m * t y = 0
    rw [h1.out y hy, h2.out y hy]
    grind⟩
  have e2 := fill_unique h hL (out_tail h g) hs e1
  have e3 : meanC C s x = meanC C s1 x - m * meanC C t x := by
    rw [← mean_mulC, ← mean_sub]
    exact wsum_congr fun q _ => e2 q.2
  have ht := (steps_nn h g h2).2 x (g.lt x (List.mem_cons_self ..))
  have hT : 1 + meanC C t x ≠ 0 := by grind
  rw [e3]
  have : m * (1 + meanC C t x) = e x + meanC C s1 x := by
    rw [h3]
    grind
  grind
structure LongOk (C : List PlC) (g : Nat → Rat) : Prop where
  grp : ∀ x ∈ headsL C, ∀ L, reachL C x = x :: L → ∃ m, GrpMean C x L (gainC C) m ∧ ∀ y ∈ x :: L, g y = m
  pas : ∀ x ∈ passL C, g x = meanC C g x
structure LeadOk (C : List PlC) (g f : Nat → Rat) : Prop where
  grp : ∀ x ∈ headsL C, ∀ L, reachL C x = x :: L → ∃ s m, IsFill C L (fun y => gainC C y - g y) (fun _ => 0) s ∧ GrpMean C x L s m ∧ ∀ y ∈ x :: L, f y = s y - m
  pas : ∀ x ∈ passL C, f x = gainC C x - g x + meanC C f x
theorem long_mean (h : WfC C) {g : Nat → Rat} (hg : LongOk C g) {x : Nat} (hx : x < C.length) : g x = meanC C g x := by
  rcases pass_or hx with hp | ⟨z, hz, hm⟩
  · exact hg.pas x hp
  · obtain ⟨L, e, G⟩ := head_grp h hz
    obtain ⟨m, _, h2⟩ := hg.grp z hz L e
    rw [e] at hm
    rw [h2 x hm, mean_congr h (g := fun _ => m) fun q hq => h2 _ (grp_closed h G hm hq), mean_const h m hx]
theorem lead_eq (h : WfC C) {g f : Nat → Rat} (hg : LongOk C g) (hf : LeadOk C g f) {x : Nat} (hx : x < C.length) : g x + f x = gainC C x + meanC C f x := by
  rcases pass_or hx with hp | ⟨z, hz, hm⟩
  · have := hf.pas x hp
    grind
  · obtain ⟨L, e, G⟩ := head_grp h hz
    obtain ⟨m, hm1, h2⟩ := hg.grp z hz L e
    obtain ⟨s, m2, hs, _, h3⟩ := hf.grp z hz L e
    rw [e] at hm
    have em : meanC C f x = meanC C s x - m2 := by
      rw [mean_congr h (g := fun y => s y - m2) fun q hq => h3 _ (grp_closed h G hm hq), mean_sub, mean_const h m2 hx]
    have hs' : IsFill C L (fun y => gainC C y - m) (fun _ => 0) s := ⟨fun y hy => by
      have := hs.eq y hy
      rw [h2 y (List.mem_cons_of_mem z hy)] at this
      exact this, hs.out⟩
    rw [h3 x hm, em, h2 x hm]
    rcases List.mem_cons.mp hm with rfl | hxL
    · have r := grp_round h G hm1 hs'
      have s0 := hs.out x (List.nodup_cons.mp G.nd).1
      grind
    · have := hs'.eq x hxL
      grind
end Md
set_option Elab.async false
set_option linter.all false
set_option maxRecDepth 100000
set_option maxHeartbeats 2000000
namespace Md
open PySem L2 Evl
def detC (C : List PlC) (L : List Nat) : Rat := Fd L.length fun col r => ((rowZ C L (L.getD r 0) (L.getD col 0) : Int) : Rat)
theorem elim_dS {n : Nat} {a : Nat → Nat → Int} {k : Nat} {T : Nat → Nat → Int} {d : Int} (h : Elim n a k T d) (hn : n ≤ 12) (hk : k ≤ n) {B : Nat} (hB : 1 ≤ B) (ha : ∀ r l, r < n → l < n → (a r l).natAbs ≤ B) : d ≤ ((12 * B) ^ k : Nat) := by
  have := (Fd_bd (B := natR B) k (c := fun col r => qa a r col) fun col r h1 h2 => by
    have := ha r col (by omega) (by omega)
    constructor
    · have e : -natR B = (((-(B : Int)) : Int) : Rat) := by rw [Rat.intCast_neg]; rfl
      rw [e]
      exact le_cast (by omega)
    · exact le_cast (by omega)).2
  rw [← h.det, fbd_nat] at this
  have e := cast_le this
  have e2 := fbN_le (B := B) (k := k) (by omega)
  omega
theorem fill_nbS {C : List PlC} (hW : WfC C) {L : List Nat} (hn : L.Nodup) (hl : L.length ≤ 12) (hL : ∀ x ∈ L, x < C.length) {kr : Nat → Rat} {U M B : Nat} (hU : 0 < U) (hUM : U ∣ M) {T : Nat → Nat → Int} {d : Int} (hB : 1 ≤ B)
    (hd : ∀ r, r < L.length → (canon (kr r)).2.natAbs ∣ U) (hk : ∀ r, r < L.length → -natR B ≤ kr r ∧ kr r ≤ natR B) (hE : Elim L.length (matA C L kr U) L.length T d) :
    d.toNat ≤ 4320 ^ L.length ∧ ∀ j, j < L.length → NB (M * d.toNat) (B * 4320 ^ L.length) (qa T j L.length / ((d : Rat) * natR U)) := by
  have hp := hE.pos
  have d0 : (d : Rat) ≠ 0 := cast_ne (by omega)
  have u0 : natR U ≠ 0 := nat_ne hU
  have hlo : ∀ r l, r < L.length → l < L.length → (matA C L kr U r l).natAbs ≤ 360 := fun r l h1 h2 => by
    rw [matA_lo h2]
    exact rowZ_bd hW L (hL _ (getD_mem h1)) _
  have hdl := elim_dS hE hl (Nat.le_refl _) (B := 360) (by decide) hlo
  have hdn : d.toNat ≤ 4320 ^ L.length := by
    have : (12 * 360) = 4320 := rfl
    rw [this] at hdl
    omega
  have ed : ((d.toNat : Nat) : Int) = d := Int.toNat_of_nonneg (by omega)
  refine ⟨hdn, fun j hj => ?_⟩
  -- the column of the constants, made small
  have hv : ∀ r, r < L.length → qa (matA C L kr U) r L.length = natR (U * B) * (kr r / natR B) := fun r hr => by
    have b0 : natR B ≠ 0 := nat_ne hB
    unfold qa matA
    rw [if_neg (Nat.lt_irrefl _), whole_q (canon_red _) (hd r hr), q_canon, natR_mul]
    show kr r * natR U = _
    grind
  have e1 := elim_col hE hj (Nat.le_refl L.length)
  have e2 : Fd L.length (upc (fun col r => qa (matA C L kr U) r col) j fun r => qa (matA C L kr U) r L.length) = natR (U * B) * Fd L.length (upc (fun col r => qa (matA C L kr U) r col) j fun r => kr r / natR B) := by
    rw [← Fd_mul _ _ _ _ _ hj]
    refine Fd_congr _ fun col r h1 h2 => ?_
    by_cases z : col = j
    · rw [z, upc_same, upc_same]
      exact hv r h2
    · rw [upc_ne z, upc_ne z]
  have bF := Fd_bd (B := natR 360) L.length (c := upc (fun col r => qa (matA C L kr U) r col) j fun r => kr r / natR B) fun col r h1 h2 => by
    by_cases z : col = j
    · rw [z, upc_same]
      have hBp := natR_pos hB
      have h3 := hk r h2
      have c1 : kr r / natR B ≤ 1 := div_le' hBp (by rw [Rat.one_mul]; exact h3.2)
      have c2 : (-1 : Rat) ≤ kr r / natR B := le_div' hBp (by grind)
      have : natR 360 = 360 := rfl
      rw [this]
      constructor <;> grind
    · rw [upc_ne z]
      exact abs_to (hlo r col h2 h1)
  rw [fbd_nat] at bF
  have f288 : natR (fbN 360 L.length) ≤ natR (4320 ^ L.length) := natR_le (fbN_le (B := 360) hl)
  generalize hFe : Fd L.length (upc (fun col r => qa (matA C L kr U) r col) j fun r => kr r / natR B) = FF at *
  have et : qa T j L.length / ((d : Rat) * natR U) = natR B * FF * (1 / (d : Rat)) := by
    rw [e1, e2, natR_mul]
    grind
  have dpos : (0 : Rat) < (d : Rat) := cast_pos hp
  have done : (1 : Rat) ≤ (d : Rat) := (show ((1 : Int) : Rat) ≤ (d : Rat) from le_cast (by omega))
  have i1 : 1 / (d : Rat) ≤ 1 := div_le' dpos (by rw [Rat.one_mul]; exact done)
  have i0 : -(1 : Rat) ≤ 1 / (d : Rat) := le_div' dpos (by grind)
  have b1 := natR_nonneg B
  have m1 := mul_bd (x := natR B) (a := natR B) (y := FF) (b := natR (4320 ^ L.length)) (by grind) Rat.le_refl (by grind) (by grind)
  have m2 := mul_bd m1.1 m1.2 i0 i1
  rw [Rat.mul_one, ← natR_mul, ← et] at m2
  refine ⟨?_, m2.1, m2.2⟩
  obtain ⟨c, rfl⟩ := hUM
  refine Zt.dvd (M := U * d.toNat) ⟨T j L.length, ?_⟩ ⟨c, by rw [Nat.mul_assoc, Nat.mul_comm c, ← Nat.mul_assoc]⟩
  rw [Int.natCast_mul, ed, Rat.intCast_mul]
  show qa T j L.length / ((d : Rat) * natR U) * (natR U * (d : Rat)) = qa T j L.length
  grind
theorem matA_bdS {C : List PlC} (h : WfC C) {L : List Nat} (hL : ∀ x ∈ L, x < C.length) {kx : Nat → Rat} {M B : Nat} (hk : ∀ x ∈ L, NB M B (kx x)) (hM : 0 < M) (hB : 1 ≤ B) (hMB : B * M < 2 ^ 1500) :
    unitK L kx ∣ M ∧ 0 < unitK L kx ∧ (∀ r, r < L.length → (canon (placeK L kx r)).2.natAbs ∣ unitK L kx) ∧ ∀ r l, r < L.length → l ≤ L.length → (matA C L (placeK L kx) (unitK L kx) r l).natAbs ≤ 2 ^ 1500 := by
  have hmem : ∀ c ∈ L.map fun x => canon (kx x), ∃ x ∈ L, c = canon (kx x) := fun c hc => by
    obtain ⟨x, hx, rfl⟩ := List.mem_map.mp hc
    exact ⟨x, hx, rfl⟩
  have u1 : unitK L kx ∣ M := denL_to fun c hc => by
    obtain ⟨x, hx, rfl⟩ := hmem c hc
    exact zt_dvd (canon_red _) (by rw [q_canon]; exact (hk x hx).zt)
  have u2 : 0 < unitK L kx := denL_pos fun c hc => by
    obtain ⟨x, hx, rfl⟩ := hmem c hc
    exact (canon_red _).1
  have u3 : ∀ r, r < L.length → (canon (placeK L kx r)).2.natAbs ∣ unitK L kx := fun r hr => denL_dvd (List.mem_map.mpr ⟨_, getD_mem hr, rfl⟩)
  refine ⟨u1, u2, u3, fun r l hr hl => ?_⟩
  unfold matA
  split
  · exact Nat.le_trans (rowZ_bd h L (hL _ (getD_mem hr)) _) (Nat.le_trans (by decide : 360 ≤ 2 ^ 9) (Nat.pow_le_pow_right (by decide) (by decide)))
  · have e := whole_q (canon_red (placeK L kx r)) (u3 r hr)
    rw [q_canon] at e
    have b := hk _ (getD_mem hr)
    have hUM := Nat.le_of_dvd hM u1
    have m := mul_bd b.lo b.hi (show -natR (unitK L kx) ≤ (((unitK L kx : Nat) : Int) : Rat) by have := natR_nonneg (unitK L kx); have e : (((unitK L kx : Nat) : Int) : Rat) = natR (unitK L kx) := rfl; grind) (Rat.le_refl)
    have e2 : (((unitK L kx : Nat) : Int) : Rat) = natR (unitK L kx) := rfl
    have ek : placeK L kx r = kx (L.getD r 0) := rfl
    rw [ek] at e
    rw [e2] at m e
    rw [← natR_mul, ← e] at m
    have := abs_of m.1 m.2
    have h2 : B * unitK L kx ≤ B * M := Nat.mul_le_mul_left B hUM
    exact Nat.le_trans this (Nat.le_of_lt (Nat.lt_of_le_of_lt h2 hMB))
theorem fill_dataS {C : List PlC} (hW : WfC C) {L : List Nat} (hn : L.Nodup) (hl : L.length ≤ 12) (hL : ∀ x ∈ L, x < C.length) (hO : Out C L) {e kn : Nat → Rat} {M B : Nat} (hM : 0 < M) (hB : 1 ≤ B) (hMB : B * M < 2 ^ 1400)
    (he : ∀ x ∈ L, NB M B (e x)) (hk : ∀ y, y < C.length → NB M B (kn y)) (h0 : ∀ x ∈ L, kn x = 0) :
    ∃ f D, IsFill C L e kn f ∧ 0 < D ∧ (D ≤ 4320 ^ L.length ∧ natR D = detC C L) ∧ (∀ y, y < C.length → NB (M * D) (B * 4320 ^ (L.length + 1)) (f y)) ∧
      ∀ T d, Elim L.length (matA C L (placeK L (constK C e kn)) (unitK L (constK C e kn))) L.length T d → ((List.range L.length).map fun j => qa T j L.length / ((d : Rat) * natR (unitK L (constK C e kn)))) = L.map f := by
  have hc : ∀ x ∈ L, NB M (720 * B) (constK C e kn x) := fun x hx => (const_nb hW (hL x hx) (he x hx) hk).2
  obtain ⟨u1, u2, u3, u4⟩ := matA_bdS hW hL hc hM (by omega) (by
    rw [Nat.mul_assoc]
    exact Nat.lt_of_lt_of_le (lt_pow_mul (i := 10) (Nat.le_refl _) (by decide) hMB) (Nat.pow_le_pow_right (by decide) (by decide)))
  obtain ⟨T0, d0, hE0⟩ := elim_exists hW hn hL hO (placeK L (constK C e kn)) (unitK L (constK C e kn)) L.length (Nat.le_refl _)
  have hf0 := fill_of hW hn hL h0 u2 u3 hE0
  obtain ⟨hd, hnb⟩ := fill_nbS hW hn hl hL u2 u1 (by omega : 1 ≤ 720 * B) u3 (fun r hr => ⟨(hc _ (getD_mem hr)).lo, (hc _ (getD_mem hr)).hi⟩) hE0
  have hdp : 0 < d0.toNat := by have := hE0.pos; omega
  have hdet : natR d0.toNat = detC C L := by
    have e1 := hE0.det
    have e2 : natR d0.toNat = (d0 : Rat) := by
      unfold natR
      rw [Int.toNat_of_nonneg (by have := hE0.pos; omega)]
    rw [e2, e1]
    unfold detC
    refine Fd_congr _ fun col r h1 h2 => ?_
    unfold qa
    rw [matA_lo h1]
  refine ⟨_, d0.toNat, hf0, hdp, ⟨hd, hdet⟩, fun y hy => ?_, fun T d hE => ?_⟩
  · by_cases hyL : y ∈ L
    · obtain ⟨j, hj, _, rfl⟩ := take_getD (m := L.length) (by rw [List.take_length]; exact hyL)
      show NB _ _ (wt L L.length _ (L.getD j 0) + kn (L.getD j 0))
      rw [wt_at hn (Nat.le_refl _) hj, h0 _ hyL, Rat.add_zero]
      refine (hnb j hj).mono (Nat.dvd_refl _) ?_
      have : 720 * 4320 ^ L.length ≤ 4320 ^ (L.length + 1) := by
        rw [Nat.pow_succ, Nat.mul_comm]
        exact Nat.mul_le_mul_left _ (by decide)
      have h2 := Nat.mul_le_mul_left B this
      have e2 : 720 * B * 4320 ^ L.length = B * (720 * 4320 ^ L.length) := by rw [Nat.mul_comm 720 B, Nat.mul_assoc]
      rw [e2]
      exact h2
    · show NB _ _ (wt L L.length _ y + kn y)
      rw [wt_out (Nat.le_refl _) _ (by rw [List.take_length]; exact hyL), Rat.zero_add]
      exact (hk y hy).mono (Nat.dvd_mul_right _ _) (Nat.le_mul_of_pos_right B (Nat.pow_pos (by decide)))
  · have hf := fill_of hW hn hL h0 u2 u3 hE
    have key := fill_unique hW hL hO hf hf0
    rw [← map_getDn L 0]
    refine List.map_congr_left fun j hj => ?_
    have hj := List.mem_range.mp hj
    have e1 := key (L.getD j 0)
    rw [wt_at hn (Nat.le_refl _) hj, h0 _ (getD_mem hj), Rat.add_zero] at e1
    show _ = _ + kn (L.getD j 0)
    rw [h0 _ (getD_mem hj)]
    exact e1
section
variable {K : PySem.W.Frag} {σ : L2.St} {b h : Hp} {te tl ta tb : TE} {ts tk : TA} {E : XK} {C : List PlC} {p q : Int × Int} {r s : Rat}
end
end Md
set_option Elab.async false
set_option linter.all false
set_option maxRecDepth 100000
set_option maxHeartbeats 2000000
namespace Md
open PySem L2 Evl
variable {C : List PlC}
theorem fill_le (h : WfC C) {x : Nat} {L : List Nat} (G : IsGrp C x L) {e s t : Nat → Rat} {B : Rat} (he : ∀ y, y < C.length → e y ≤ B) (hs : IsFill C L e (fun _ => 0) s) (ht : IsFill C L (fun _ => 1) (fun _ => 0) t) : ∀ y, s y ≤ B * t y := by
  have hL : ∀ y ∈ L, y < C.length := fun y hy => G.lt y (List.mem_cons_of_mem x hy)
  have key := max_closed h hL (out_tail h G) (f := fun y => s y - B * t y) (fun y _ hy => by
    show s y - B * t y ≤ 0
    rw [hs.out y hy, ht.out y hy]
    grind) fun y hy => by
      rw [mean_sub, mean_mulC]
      have a := hs.eq y hy
      have b := ht.eq y hy
      have c := he y (hL y hy)
      have d : B * t y = B + B * meanC C t y := by
        rw [b]
        grind
      show s y - B * t y ≤ _
      generalize B * t y = u1 at *
      generalize B * meanC C t y = u2 at *
      grind
  intro y
  by_cases hy : y ∈ L
  · have k : s y - B * t y ≤ 0 := key y hy
    grind
  · rw [hs.out y hy, ht.out y hy]
    grind
theorem neg_fill {L : List Nat} {e s : Nat → Rat} (hs : IsFill C L e (fun _ => 0) s) : IsFill C L (fun y => (-1) * e y) (fun _ => 0) (fun y => (-1) * s y) := ⟨fun y hy => by
  rw [mean_mulC]
  have := hs.eq y hy
  grind, fun y hy => by
  show (-1) * s y = 0
  rw [hs.out y hy]
  grind⟩
theorem grp_mean_le (h : WfC C) {x : Nat} {L : List Nat} (G : IsGrp C x L) {e : Nat → Rat} {m B : Rat} (he : ∀ y, y < C.length → e y ≤ B) (hm : GrpMean C x L e m) : m ≤ B := by
  obtain ⟨s, t, hs, ht, hq⟩ := hm.ex
  have k := fill_le h G he hs ht
  have hx := G.lt x (List.mem_cons_self ..)
  have tn := (steps_nn h G ht).2 x hx
  have a1 : meanC C s x ≤ B * meanC C t x := by
    rw [← mean_mulC]
    exact wsum_le fun q hq => ⟨Rat.le_of_lt (br_pos h hx hq), k q.2⟩
  rw [hq]
  have := he x hx
  exact div_le' (by grind) (by grind)
theorem grp_mean_neg {x : Nat} {L : List Nat} {e : Nat → Rat} {m : Rat} (hm : GrpMean C x L e m) : GrpMean C x L (fun y => (-1) * e y) ((-1) * m) := by
  obtain ⟨s, t, hs, ht, hq⟩ := hm.ex
  refine ⟨_, t, neg_fill hs, ht, ?_⟩
  rw [hq, mean_mulC]
  grind
theorem grp_mean_bd (h : WfC C) {x : Nat} {L : List Nat} (G : IsGrp C x L) {e : Nat → Rat} {m : Rat} {B : Nat} (he : ∀ y, y < C.length → -natR B ≤ e y ∧ e y ≤ natR B) (hm : GrpMean C x L e m) : -natR B ≤ m ∧ m ≤ natR B := by
  have a := grp_mean_le h G (fun y hy => (he y hy).2) hm
  have b := grp_mean_le h G (B := natR B) (fun y hy => by have := (he y hy).1; grind) (grp_mean_neg hm)
  exact ⟨by grind, a⟩
theorem fill_same (h : WfC C) {L : List Nat} (hL : ∀ y ∈ L, y < C.length) (hO : Out C L) {kn f : Nat → Rat} {B : Rat} (hB : 0 ≤ B) (hk : ∀ y, y < C.length → kn y ≤ B) (hf : IsFill C L (fun _ => 0) kn f) : ∀ y, y < C.length → f y ≤ B := by
  have key := max_closed h hL hO (f := fun y => f y - (fun _ => B) y) (fun y hy hn => by
    show f y - B ≤ 0
    rw [hf.out y hn]
    have := hk y hy
    grind) fun y hy => by
      rw [mean_sub, mean_const h B (hL y hy)]
      have := hf.eq y hy
      grind
  intro y hy
  by_cases hm : y ∈ L
  · have k : f y - B ≤ 0 := key y hm
    grind
  · rw [hf.out y hm]
    exact hk y hy
theorem fill_same_bd (h : WfC C) {L : List Nat} (hL : ∀ y ∈ L, y < C.length) (hO : Out C L) {kn f : Nat → Rat} {B : Nat} (hk : ∀ y, y < C.length → -natR B ≤ kn y ∧ kn y ≤ natR B) (hf : IsFill C L (fun _ => 0) kn f) : ∀ y, y < C.length → -natR B ≤ f y ∧ f y ≤ natR B := fun y hy => by
  have a := fill_same h hL hO (natR_nonneg B) (fun y hy => (hk y hy).2) hf y hy
  have hn : IsFill C L (fun _ => 0) (fun y => (-1) * kn y) (fun y => (-1) * f y) := ⟨fun y hy => by
    rw [mean_mulC]
    have := hf.eq y hy
    grind, fun y hy => by
    show (-1) * f y = (-1) * kn y
    rw [hf.out y hy]⟩
  have b := fill_same h hL hO (natR_nonneg B) (fun y hy => by have := (hk y hy).1; grind) hn y hy
  exact ⟨by grind, a⟩
theorem grp_mean_zt (h : WfC C) {x : Nat} {L : List Nat} (G : IsGrp C x L) {e s t : Nat → Rat} {M B D E : Nat} (hs : ∀ y, y < C.length → NB (M * D) B (s y)) (he : Zt M (e x)) (hD : 0 < D) (hDl : D ≤ 4320 ^ L.length) (hDE : D = E)
    (ht : ∀ y, y < C.length → NB (1 * E) (1 * 4320 ^ (L.length + 1)) (t y)) (htf : IsFill C L (fun _ => 1) (fun _ => 0) t) : ∃ Z : Nat, 0 < Z ∧ Z ≤ 4320 ^ (2 * (L.length + 1)) ∧ Zt (M * Z) ((e x + meanC C s x) / (1 + meanC C t x)) := by
  subst hDE
  have hx := G.lt x (List.mem_cons_self ..)
  have tn := (steps_nn h G htf).2 x hx
  have nS := nb_mean h hx hs
  have nT := nb_mean h hx ht
  obtain ⟨s0, s1, _⟩ := scaleC_ok h hx
  have zS : Zt (M * D * scaleC C x) (e x + meanC C s x) := (he.dvd (by rw [Nat.mul_assoc]; exact Nat.dvd_mul_right _ _)).add nS.zt
  have zT : Zt (1 * D * scaleC C x) (1 + meanC C t x) := (show Zt _ ((1 : Int) : Rat) from zt_int _ 1).add nT.zt
  obtain ⟨z1, h1⟩ := zS
  obtain ⟨z2, h2⟩ := zT
  have sc0 : 0 < scaleC C x := by omega
  have e1 : (((M * D * scaleC C x : Nat) : Int) : Rat) = natR M * natR D * natR (scaleC C x) := by
    show natR (M * D * scaleC C x) = _
    rw [natR_mul, natR_mul]
  have e2 : (((1 * D * scaleC C x : Nat) : Int) : Rat) = natR D * natR (scaleC C x) := by
    show natR (1 * D * scaleC C x) = _
    rw [Nat.one_mul, natR_mul]
  rw [e1] at h1
  rw [e2] at h2
  have pD := natR_pos hD
  have pS := natR_pos sc0
  have pp : 0 < natR D * natR (scaleC C x) := Rat.mul_pos pD pS
  have hT : 0 < 1 + meanC C t x := by grind
  have z2p : (0 : Rat) < (z2 : Rat) := by
    rw [← h2]
    exact Rat.mul_pos hT pp
  have z2q : 0 < z2 := by
    have : ((0 : Int) : Rat) < (z2 : Rat) := z2p
    exact Rat.intCast_lt_intCast.mp this
  have ez : ((z2.toNat : Nat) : Int) = z2 := Int.toNat_of_nonneg (by omega)
  refine ⟨z2.toNat, by omega, ?_, z1, ?_⟩
  · have hi : meanC C t x ≤ natR (4320 ^ (L.length + 1)) := by
      have := nT.hi
      rwa [Nat.one_mul] at this
    have b1 : 1 + meanC C t x ≤ natR (1 + 4320 ^ (L.length + 1)) := by
      rw [natR_add, natR_one]
      grind
    have b2 : (z2 : Rat) ≤ natR ((1 + 4320 ^ (L.length + 1)) * (D * scaleC C x)) := by
      rw [← h2, natR_mul, natR_mul]
      exact Rat.mul_le_mul_of_nonneg_right b1 (Rat.le_of_lt pp)
    have b3 : z2 ≤ (((1 + 4320 ^ (L.length + 1)) * (D * scaleC C x) : Nat) : Int) := cast_le b2
    have b4 : (1 + 4320 ^ (L.length + 1)) * (D * scaleC C x) ≤ (1 + 4320 ^ (L.length + 1)) * (4320 ^ L.length * 360) := Nat.mul_le_mul_left _ (Nat.mul_le_mul hDl s1)
    have b5 : (1 + 4320 ^ (L.length + 1)) * (4320 ^ L.length * 360) ≤ 4320 ^ (2 * (L.length + 1)) := by
      have e : 4320 ^ (2 * (L.length + 1)) = 4320 ^ L.length * 4320 * (4320 ^ L.length * 4320) := by
        rw [Nat.two_mul, Nat.pow_add, Nat.pow_succ]
      rw [e, Nat.pow_succ]
      have p1 : 1 ≤ 4320 ^ L.length := Nat.pow_pos (by decide)
      generalize 4320 ^ L.length = P at *
      have : 1 + P * 4320 ≤ P * 4320 * 2 := by omega
      calc (1 + P * 4320) * (P * 360) ≤ (P * 4320 * 2) * (P * 360) := Nat.mul_le_mul_right _ this
        _ = P * 4320 * (P * 720) := by
          rw [Nat.mul_assoc (P * 4320) 2, Nat.mul_comm 2 (P * 360), Nat.mul_assoc P 360 2]
        _ ≤ P * 4320 * (P * 4320) := Nat.mul_le_mul_left _ (Nat.mul_le_mul_left _ (by decide))
    omega
  · have e3 : (((M * z2.toNat : Nat) : Int) : Rat) = natR M * (z2 : Rat) := by
      rw [Int.natCast_mul, ez, Rat.intCast_mul]
      rfl
    rw [e3, ← h2, ← h1]
    have hT0 : 1 + meanC C t x ≠ 0 := by grind
    grind
theorem natR_inj {a b : Nat} (h : natR a = natR b) : a = b := by
  have h1 : ((a : Int) : Rat) = ((b : Int) : Rat) := h
  have := Rat.intCast_inj.mp h1
  omega
theorem nb_add {M A B : Nat} {r s : Rat} (h : NB M A r) (g : NB M B s) : NB M (A + B) (r + s) := by
  have e := natR_add A B
  have := h.lo
  have := h.hi
  have := g.lo
  have := g.hi
  exact ⟨h.zt.add g.zt, by rw [e]; grind, by rw [e]; grind⟩
theorem nb_neg {M B : Nat} {s : Rat} (g : NB M B s) : NB M B (-s) := by
  have := g.lo
  have := g.hi
  refine ⟨?_, by grind, by grind⟩
  obtain ⟨z, hz⟩ := g.zt
  refine ⟨-z, ?_⟩
  rw [Rat.intCast_neg, ← hz]
  grind
theorem nb_sub {M A B : Nat} {r s : Rat} (h : NB M A r) (g : NB M B s) : NB M (A + B) (r - s) := by
  have : r - s = r + -s := by grind
  rw [this]
  exact nb_add h (nb_neg g)
theorem grp_len {x : Nat} {L : List Nat} (h : WfC C) (G : IsGrp C x L) : L.length + 1 ≤ C.length := nodup_len G.nd G.lt
def spMinusR (K : PySem.W.Frag) : Sp := fun vs h Q _ => ∃ (b : Hp) (r s : Rat), Ex b h ∧ DtA K b vs [nQ r, nQ s] ∧ Big 3000 (canon r) ∧ Big 3000 (canon s) ∧ ∀ v b' h', Gr b h b' h' → Dt K b' v (nQ (r - s)) → Q v h'
section
variable {K : PySem.W.Frag} {σ : L2.St} {b h : Hp} {ts : TA} {ta tb te : TE} {E : XK} {x : Nat} {r s : Rat} {L : List Nat} {d : PyData} {ds : List PyData} {p q : Int × Int}
end
end Md
set_option Elab.async false
set_option linter.all false
set_option maxRecDepth 100000
set_option maxHeartbeats 2000000
namespace Md
open PySem L2 Evl
variable {C : List PlC}
theorem flat_nodup (f : Nat → List Nat) : ∀ {H : List Nat}, H.Nodup → (∀ x ∈ H, (f x).Nodup) → (∀ x ∈ H, ∀ y ∈ H, ∀ z, z ∈ f x → z ∈ f y → x = y) → ((H.map f).flatten).Nodup
  | [], _, _, _ => List.nodup_nil
  | a :: H, h1, h2, h3 => by
    obtain ⟨n1, n2⟩ := List.nodup_cons.mp h1
    rw [List.map_cons, List.flatten_cons, List.nodup_append]
    refine ⟨h2 a (List.mem_cons_self ..), flat_nodup f n2 (fun x hx => h2 x (List.mem_cons_of_mem a hx)) (fun x hx y hy => h3 x (List.mem_cons_of_mem a hx) y (List.mem_cons_of_mem a hy)), fun p hp q hq e => ?_⟩
    subst e
    obtain ⟨l, hl, hq⟩ := List.mem_flatten.mp hq
    obtain ⟨y, hy, rfl⟩ := List.mem_map.mp hl
    have := h3 a (List.mem_cons_self ..) y (List.mem_cons_of_mem a hy) p hp hq
    rw [this] at n1
    exact n1 hy
noncomputable def sizeG (C : List PlC) (n : Nat) : Nat := ((((headsL C).take n).map (reachL C)).flatten).length
theorem size_all (h : WfC C) : sizeG C (headsL C).length + (passL C).length ≤ C.length := by
  unfold sizeG
  rw [List.take_length, ← List.length_append]
  refine nodup_len ?_ fun x hx => ?_
  · rw [List.nodup_append]
    refine ⟨flat_nodup _ heads_nodup (fun x _ => reach_nodup C x) (fun x hx y hy z => heads_one h hx hy), pass_nodup, fun p hp q hq e => ?_⟩
    subst e
    obtain ⟨l, hl, hp⟩ := List.mem_flatten.mp hp
    obtain ⟨y, hy, rfl⟩ := List.mem_map.mp hl
    exact (mem_pass.mp hq).2 y hy hp
  · rcases List.mem_append.mp hx with z | z
    · obtain ⟨l, hl, hp⟩ := List.mem_flatten.mp z
      obtain ⟨y, hy, rfl⟩ := List.mem_map.mp hl
      exact reach_lt hp
    · exact pass_lt x z
theorem take_snoc {n x : Nat} {H : List Nat} (e : H[n]? = some x) : H.take (n + 1) = H.take n ++ [x] := by
  rw [List.take_add_one, e]
  rfl
theorem size_succ {n x : Nat} (e : (headsL C)[n]? = some x) : sizeG C (n + 1) = sizeG C n + (reachL C x).length := by
  unfold sizeG
  rw [take_snoc e, List.map_append, List.flatten_append, List.length_append]
  congr 1
  show ([reachL C x].flatten).length = _
  rw [List.flatten_cons, List.flatten_nil, List.append_nil]
theorem take_other {n x : Nat} (h : WfC C) (e : (headsL C)[n]? = some x) {z y : Nat} (hz : z ∈ (headsL C).take n) (hy : y ∈ reachL C z) : y ∉ reachL C x := fun hyx => by
  have hxm := List.mem_of_getElem? e
  have hzm := List.mem_of_mem_take hz
  have := heads_one h hzm hxm hy hyx
  subst this
  have hnd : ((headsL C).take (n + 1)).Nodup := (List.take_sublist (n + 1) _).nodup heads_nodup
  rw [take_snoc e, List.nodup_append] at hnd
  exact hnd.2.2 z hz z (List.mem_singleton.mpr rfl) rfl
structure GInv (C : List PlC) (R : Nat → List Nat → (Nat → Rat) → Prop) (M : Nat) (B k : Nat) (n : Nat) (kn : Nat → Rat) (Z : Nat) : Prop where
  z0 : 0 < Z
  z1 : Z ≤ 4320 ^ (k * sizeG C n)
  nb : ∀ y, NB (M * Z) B (kn y)
  grp : ∀ x ∈ (headsL C).take n, ∀ L, reachL C x = x :: L → R x L kn
  out : ∀ y, (∀ x ∈ (headsL C).take n, y ∉ reachL C x) → kn y = 0
theorem ginv_zero {R : Nat → List Nat → (Nat → Rat) → Prop} {M B k : Nat} : GInv C R M B k 0 (fun _ => 0) 1 := ⟨by decide, Nat.pow_pos (by decide), fun _ => nb_zero _ _, fun x hx => (by rw [List.take_zero] at hx; cases hx), fun _ _ => rfl⟩
theorem ginv_step (h : WfC C) {R : Nat → List Nat → (Nat → Rat) → Prop} (hR : ∀ x L f g, R x L f → (∀ y ∈ x :: L, g y = f y) → R x L g) {M B k n x Z Zg : Nat} {kn nw : Nat → Rat} (g : GInv C R M B k n kn Z) {L : List Nat} (e : (headsL C)[n]? = some x) (hL : reachL C x = x :: L) (z0 : 0 < Zg) (z1 : Zg ≤ 4320 ^ (k * (L.length + 1)))
    (nb : ∀ y ∈ x :: L, NB (M * Zg) B (nw y)) (hr : R x L nw) : GInv C R M B k (n + 1) (fun y => if y ∈ x :: L then nw y else kn y) (Z * Zg) := by
  refine ⟨Nat.mul_pos g.z0 z0, ?_, fun y => ?_, fun z hz Lz hLz => ?_, fun y hy => ?_⟩
  · rw [size_succ e, hL, Nat.mul_add, Nat.pow_add]
    exact Nat.mul_le_mul g.z1 z1
  · show NB _ _ (if y ∈ x :: L then nw y else kn y)
    by_cases hy : y ∈ x :: L
    · rw [if_pos hy]
      exact (nb y hy).mono ⟨Z, by rw [Nat.mul_comm Z Zg, ← Nat.mul_assoc]⟩ (Nat.le_refl _)
    · rw [if_neg hy]
      exact (g.nb y).mono ⟨Zg, by rw [← Nat.mul_assoc]⟩ (Nat.le_refl _)
  · rw [take_snoc e] at hz
    rcases List.mem_append.mp hz with hz | hz
    · refine hR z Lz kn _ (g.grp z hz Lz hLz) fun y hy => ?_
      have := take_other h e hz (y := y) (by rw [hLz]; exact hy)
      rw [hL] at this
      exact if_neg this
    · obtain rfl := List.mem_singleton.mp hz
      rw [hL] at hLz
      injection hLz with _ hLz
      subst hLz
      exact hR z L nw _ hr fun y hy => if_pos hy
  · have h1 : y ∉ x :: L := by
      rw [← hL]
      exact hy x (by rw [take_snoc e]; exact List.mem_append_right _ (List.mem_singleton.mpr rfl))
    show (if y ∈ x :: L then nw y else kn y) = 0
    rw [if_neg h1]
    exact g.out y fun z hz => hy z (by rw [take_snoc e]; exact List.mem_append_left _ hz)
theorem ginv_pass {R : Nat → List Nat → (Nat → Rat) → Prop} {M B k Z : Nat} {kn : Nat → Rat} (g : GInv C R M B k (headsL C).length kn Z) : (∀ x ∈ passL C, kn x = 0) ∧ ∀ x ∈ headsL C, ∀ L, reachL C x = x :: L → R x L kn := by
  refine ⟨fun x hx => g.out x fun z hz => ?_, fun x hx L hL => g.grp x (by rw [List.take_length]; exact hx) L hL⟩
  rw [List.take_length] at hz
  exact (mem_pass.mp hx).2 z hz
theorem pass_out (h : WfC C) {x : Nat} {L : List Nat} (hx : x ∈ headsL C) (hL : reachL C x = x :: L) {y : Nat} (hy : y ∈ x :: L) : y ∉ passL C := fun z => (mem_pass.mp z).2 x hx (by rw [hL]; exact hy)
def RLong (C : List PlC) (x : Nat) (L : List Nat) (f : Nat → Rat) : Prop := ∃ m, GrpMean C x L (gainC C) m ∧ ∀ y ∈ x :: L, f y = m
def RLead (C : List PlC) (g : Nat → Rat) (x : Nat) (L : List Nat) (f : Nat → Rat) : Prop := ∃ s m, IsFill C L (fun y => gainC C y - g y) (fun _ => 0) s ∧ GrpMean C x L s m ∧ ∀ y ∈ x :: L, f y = s y - m
theorem rlong_mono (x : Nat) (L : List Nat) (f g : Nat → Rat) (h : RLong C x L f) (e : ∀ y ∈ x :: L, g y = f y) : RLong C x L g := by
  obtain ⟨m, h1, h2⟩ := h
  exact ⟨m, h1, fun y hy => (e y hy).trans (h2 y hy)⟩
theorem rlead_mono {g0 : Nat → Rat} (x : Nat) (L : List Nat) (f g : Nat → Rat) (h : RLead C g0 x L f) (e : ∀ y ∈ x :: L, g y = f y) : RLead C g0 x L g := by
  obtain ⟨s, m, h1, h2, h3⟩ := h
  exact ⟨s, m, h1, h2, fun y hy => (e y hy).trans (h3 y hy)⟩
theorem mean_unique {x : Nat} {L : List Nat} (h : WfC C) (G : IsGrp C x L) {e : Nat → Rat} {m m' : Rat} (h1 : GrpMean C x L e m) (h2 : GrpMean C x L e m') : m = m' := by
  obtain ⟨s, t, a1, a2, a3⟩ := h1.ex
  obtain ⟨s', t', b1, b2, b3⟩ := h2.ex
  have hL : ∀ y ∈ L, y < C.length := fun y hy => G.lt y (List.mem_cons_of_mem x hy)
  have e1 := fill_unique h hL (out_tail h G) a1 b1
  have e2 := fill_unique h hL (out_tail h G) a2 b2
  rw [a3, b3, mean_congr h (f := s) (g := s') fun q _ => e1 q.2, mean_congr h (f := t) (g := t') fun q _ => e2 q.2]
theorem long_unique (h : WfC C) {f g : Nat → Rat} (hf : LongOk C f) (hg : LongOk C g) : ∀ y, y < C.length → f y = g y := by
  have hgr : ∀ x ∈ headsL C, ∀ y ∈ reachL C x, f y = g y := fun x hx y hy => by
    obtain ⟨L, e, G⟩ := head_grp h hx
    obtain ⟨m, a1, a2⟩ := hf.grp x hx L e
    obtain ⟨m', b1, b2⟩ := hg.grp x hx L e
    rw [e] at hy
    rw [a2 y hy, b2 y hy, mean_unique h G a1 b1]
  -- both fill the same
  have two : ∀ {f g : Nat → Rat}, LongOk C f → LongOk C g → (∀ x ∈ headsL C, ∀ y ∈ reachL C x, f y = g y) → ∀ x ∈ passL C, f x - g x ≤ 0 := fun {f g} hf hg hgr => max_closed h pass_lt (out_pass h) (f := fun y => f y - g y) (fun y hy hn => by
    show f y - g y ≤ 0
    rcases pass_or (C := C) hy with z | ⟨x, hx, hm⟩
    · exact absurd z hn
    · rw [hgr x hx y hm]
      grind) fun x hx => by
      rw [mean_sub, ← hf.pas x hx, ← hg.pas x hx]
      exact Rat.le_refl
  intro y hy
  rcases pass_or (C := C) hy with z | ⟨x, hx, hm⟩
  · have a := two hf hg hgr y z
    have b := two hg hf (fun x hx y hy => (hgr x hx y hy).symm) y z
    grind
  · exact hgr x hx y hm
end Md
set_option Elab.async false
set_option linter.all false
set_option maxRecDepth 100000
set_option maxHeartbeats 2000000
namespace Md
open PySem L2 Evl
variable {C : List PlC}
theorem mean_exists (h : WfC C) {x : Nat} {L : List Nat} (G : IsGrp C x L) {e : Nat → Rat} {M B : Nat} (hM : 0 < M) (hB : 1 ≤ B) (hMB : B * M < 2 ^ 1400) (he : ∀ y, y < C.length → NB M B (e y)) : ∃ m Z, GrpMean C x L e m ∧ 0 < Z ∧ Z ≤ 4320 ^ (2 * (L.length + 1)) ∧ NB (M * Z) B m := by
  have hx := G.lt x (List.mem_cons_self ..)
  have hLl := grp_len h G
  have h12 := h.l12
  have hLn : L.Nodup := (List.nodup_cons.mp G.nd).2
  have hLt : ∀ y ∈ L, y < C.length := fun y hy => G.lt y (List.mem_cons_of_mem x hy)
  obtain ⟨s, D1, hS, a1, a2, a3, _⟩ := fill_dataS h hLn (by omega) hLt (out_tail h G) (e := e) (kn := fun _ => 0) hM hB hMB (fun y hy => he y (hLt y hy)) (fun _ _ => nb_zero _ _) (fun _ _ => rfl)
  obtain ⟨t, D2, hT, b1, b2, b3, _⟩ := fill_dataS h hLn (by omega) hLt (out_tail h G) (e := fun _ => 1) (kn := fun _ => 0) (M := 1) (B := 1) (by decide) (by decide) (by decide +kernel) (fun _ _ => nb_one (by decide)) (fun _ _ => nb_zero _ _) (fun _ _ => rfl)
  obtain ⟨Z, c1, c2, c3⟩ := grp_mean_zt h G (e := e) a3 (he x hx).zt a1 a2.1 (natR_inj (by rw [a2.2, b2.2])) b3 hT
  have hGM : GrpMean C x L e ((e x + meanC C s x) / (1 + meanC C t x)) := ⟨s, t, hS, hT, rfl⟩
  have hbd := grp_mean_bd h G (B := B) (fun y hy => ⟨(he y hy).lo, (he y hy).hi⟩) hGM
  exact ⟨_, Z, hGM, c1, c2, c3, hbd.1, hbd.2⟩
theorem head_at {n : Nat} (hn : n < (headsL C).length) : ∃ x, (headsL C)[n]? = some x := ⟨_, List.getElem?_eq_getElem hn⟩
theorem unit_lt13 (h : WfC C) {j : Nat} {Z a : Nat} (hZ : Z ≤ 2 ^ a) : denL (gainsC C) * Z < 2 ^ (a + 120) := by
  rw [Nat.mul_comm]
  exact lt_pow_mul (Nat.le_refl _) hZ (unit_lt h).2
theorem pow288 {k a : Nat} (h : k ≤ a) : 4320 ^ k ≤ 2 ^ (13 * a) := by
  refine Nat.le_trans (Nat.pow_le_pow_right (by decide) h) ?_
  rw [Nat.pow_mul]
  exact Nat.pow_le_pow_left (by decide) a
theorem long_ginv (h : WfC C) : ∀ n, n ≤ (headsL C).length → ∃ kn Z, GInv C (RLong C) (denL (gainsC C)) 1000 2 n kn Z
  | 0, _ => ⟨_, _, ginv_zero⟩
  | n + 1, hn => by
    obtain ⟨kn, Z, g⟩ := long_ginv h n (by omega)
    obtain ⟨x, hx⟩ := head_at (C := C) (n := n) (by omega)
    obtain ⟨L, e, G⟩ := head_grp h (List.mem_of_getElem? hx)
    obtain ⟨m, Zg, a1, a2, a3, a4⟩ := mean_exists h G (e := gainC C) (M := denL (gainsC C)) (B := 1000) (unit_lt h).1 (by decide) (Nat.lt_of_lt_of_le (lt_pow_mul (i := 10) (Nat.le_refl _) (by decide) (unit_lt h).2) (Nat.pow_le_pow_right (by decide) (by decide))) fun y hy => gain_nb h hy
    exact ⟨_, _, ginv_step h rlong_mono g hx e a2 a3 (nw := fun _ => m) (fun _ _ => a4) ⟨m, a1, fun _ _ => rfl⟩⟩
theorem long_exists (h : WfC C) : ∃ g Z, LongOk C g ∧ 0 < Z ∧ Z ≤ 4320 ^ (2 * C.length) ∧ ∀ y, y < C.length → NB (denL (gainsC C) * Z) 1000 (g y) := by
  obtain ⟨kn, Z, inv⟩ := long_ginv h _ (Nat.le_refl _)
  obtain ⟨ip, ig⟩ := ginv_pass inv
  have hsz := size_all h
  have h12 := h.l12
  have hz2 : Z ≤ 4320 ^ (2 * C.length) := Nat.le_trans inv.z1 (Nat.pow_le_pow_right (by decide) (by omega))
  have hz3 : Z ≤ 2 ^ (13 * 24) := Nat.le_trans hz2 (pow288 (by omega))
  have hpl := nodup_len (pass_nodup (C := C)) pass_lt
  obtain ⟨f, D, hF, d0, d1, d2, _⟩ := fill_dataS h pass_nodup (by omega) pass_lt (out_pass h) (e := fun _ => 0) (kn := kn) (M := denL (gainsC C) * Z) (B := 1000) (Nat.mul_pos (unit_lt h).1 inv.z0) (by decide) (Nat.lt_of_lt_of_le (lt_pow_mul (i := 10) (Nat.le_refl _) (by decide) (unit_lt13 (j := 0) h hz3)) (Nat.pow_le_pow_right (by decide) (by decide))) (fun _ _ => nb_zero _ _) (fun y _ => inv.nb y) ip
  have hbd := fill_same_bd h pass_lt (out_pass h) (B := 1000) (fun y _ => ⟨(inv.nb y).lo, (inv.nb y).hi⟩) hF
  refine ⟨f, Z * D, ⟨fun x hx L hL => ?_, fun x hx => ?_⟩, Nat.mul_pos inv.z0 d0, ?_, fun y hy => ⟨?_, (hbd y hy).1, (hbd y hy).2⟩⟩
  · obtain ⟨m, a1, a2⟩ := ig x hx L hL
    exact ⟨m, a1, fun y hy => by rw [hF.out y (pass_out h hx hL hy)]; exact a2 y hy⟩
  · have := hF.eq x hx
    rwa [Rat.zero_add] at this
  · refine Nat.le_trans (Nat.mul_le_mul inv.z1 d1.1) ?_
    rw [← Nat.pow_add]
    exact Nat.pow_le_pow_right (by decide) (by omega)
  · have := (d2 y hy).zt
    rwa [Nat.mul_assoc] at this
open Classical in
noncomputable def longC (C : List PlC) : Nat → Rat := if h : ∃ g, LongOk C g then h.choose else fun _ => 0
theorem long_ok (h : WfC C) : LongOk C (longC C) := by
  obtain ⟨g, Z, a, _⟩ := long_exists h
  have e : ∃ g, LongOk C g := ⟨g, a⟩
  unfold longC
  rw [dif_pos e]
  exact e.choose_spec
theorem long_nb (h : WfC C) : ∃ Z, 0 < Z ∧ Z ≤ 4320 ^ (2 * C.length) ∧ ∀ y, y < C.length → NB (denL (gainsC C) * Z) 1000 (longC C y) := by
  obtain ⟨g, Z, a, b, c, d⟩ := long_exists h
  exact ⟨Z, b, c, fun y hy => by rw [long_unique h (long_ok h) a y hy]; exact d y hy⟩
theorem lead_unique (h : WfC C) {g f f' : Nat → Rat} (hf : LeadOk C g f) (hf' : LeadOk C g f') : ∀ y, y < C.length → f y = f' y := by
  have hgr : ∀ x ∈ headsL C, ∀ y ∈ reachL C x, f y = f' y := fun x hx y hy => by
    obtain ⟨L, e, G⟩ := head_grp h hx
    obtain ⟨s, m, a1, a2, a3⟩ := hf.grp x hx L e
    obtain ⟨s', m', b1, b2, b3⟩ := hf'.grp x hx L e
    have hL : ∀ y ∈ L, y < C.length := fun y hy => G.lt y (List.mem_cons_of_mem x hy)
    have es : s = s' := funext (fill_unique h hL (out_tail h G) a1 b1)
    subst es
    rw [e] at hy
    rw [a3 y hy, b3 y hy, mean_unique h G a2 b2]
  have two : ∀ {f f' : Nat → Rat}, LeadOk C g f → LeadOk C g f' → (∀ x ∈ headsL C, ∀ y ∈ reachL C x, f y = f' y) → ∀ x ∈ passL C, f x - f' x ≤ 0 := fun {f f'} hf hf' hgr => max_closed h pass_lt (out_pass h) (f := fun y => f y - f' y) (fun y hy hn => by
    show f y - f' y ≤ 0
    rcases pass_or (C := C) hy with z | ⟨x, hx, hm⟩
    · exact absurd z hn
    · rw [hgr x hx y hm]
      grind) fun x hx => by
      have a := hf.pas x hx
      have b := hf'.pas x hx
      rw [mean_sub]
      show f x - f' x ≤ _
      grind
  intro y hy
  rcases pass_or (C := C) hy with z | ⟨x, hx, hm⟩
  · have a := two hf hf' hgr y z
    have b := two hf' hf (fun x hx y hy => (hgr x hx y hy).symm) y z
    grind
  · exact hgr x hx y hm
theorem grp_pass_len (h : WfC C) {x : Nat} {L : List Nat} (hx : x ∈ headsL C) (hL : reachL C x = x :: L) (G : IsGrp C x L) : L.length + 1 + (passL C).length ≤ C.length := by
  have : ((x :: L) ++ passL C).Nodup := by
    rw [List.nodup_append]
    exact ⟨G.nd, pass_nodup, fun a ha b hb e => pass_out h hx hL ha (by rw [e]; exact hb)⟩
  have := nodup_len this fun y hy => by
    rcases List.mem_append.mp hy with z | z
    · exact G.lt y z
    · exact pass_lt y z
  rw [List.length_append] at this
  exact this
theorem ahead_nb (h : WfC C) {Z : Nat} (hg : ∀ y, y < C.length → NB (denL (gainsC C) * Z) 1000 (longC C y)) : ∀ y, y < C.length → NB (denL (gainsC C) * Z) 2000 (gainC C y - longC C y) := fun y hy => nb_sub ((gain_nb h hy).mono (Nat.dvd_mul_right _ _) (Nat.le_refl _)) (hg y hy)
theorem lead_size (h : WfC C) {x : Nat} {L : List Nat} (hx : x ∈ headsL C) (hL : reachL C x = x :: L) (G : IsGrp C x L) {M D Zg : Nat} {s : Nat → Rat} {m : Rat} (hD : D ≤ 4320 ^ L.length) (hZ : Zg ≤ 4320 ^ (2 * (L.length + 1))) (hs : ∀ y, y < C.length → NB (M * D) (2000 * 4320 ^ (L.length + 1)) (s y)) (hm : NB (M * D * Zg) (2000 * 4320 ^ (L.length + 1)) m) :
    D * Zg ≤ 4320 ^ (3 * (L.length + 1)) ∧ ∀ y ∈ x :: L, NB (M * (D * Zg)) (4000 * 4320 ^ (C.length - (passL C).length)) (s y - m) := by
  have hl := grp_pass_len h hx hL G
  refine ⟨?_, fun y hy => ?_⟩
  · refine Nat.le_trans (Nat.mul_le_mul hD hZ) ?_
    rw [← Nat.pow_add]
    exact Nat.pow_le_pow_right (by decide) (by omega)
  · have a := nb_sub ((hs y (G.lt y hy)).mono (Nat.dvd_mul_right _ Zg) (Nat.le_refl _)) hm
    rw [Nat.mul_assoc] at a
    refine a.mono (Nat.dvd_refl _) ?_
    have : 4320 ^ (L.length + 1) ≤ 4320 ^ (C.length - (passL C).length) := Nat.pow_le_pow_right (by decide) (by omega)
    omega
theorem sz_raise {U0 : Nat} (h : WfC C) {Z : Nat} (hZ : Z ≤ 4320 ^ (2 * C.length)) : 2000 * (denL (gainsC C) * Z) < 2 ^ 1400 := by
  have h12 := h.l12
  have hz3 : Z ≤ 2 ^ (13 * 24) := Nat.le_trans hZ (pow288 (by omega))
  exact Nat.lt_of_lt_of_le (lt_pow_mul (i := 11) (Nat.le_refl _) (by decide) (unit_lt13 (j := 0) h hz3)) (Nat.pow_le_pow_right (by decide) (by decide))
theorem sz_mean (h : WfC C) {Z D l : Nat} (hZ : Z ≤ 4320 ^ (2 * C.length)) (hl : l + 1 ≤ C.length) (hD : D ≤ 4320 ^ l) : 2000 * 4320 ^ (l + 1) * (denL (gainsC C) * Z * D) < 2 ^ 1400 := by
  have h12 := h.l12
  have a : 4320 ^ (2 * C.length) * 4320 ^ l ≤ 4320 ^ (2 * C.length + l) := by rw [← Nat.pow_add]; exact Nat.le_refl _
  have b : Z * D ≤ 2 ^ (13 * 36) := Nat.le_trans (Nat.le_trans (Nat.mul_le_mul hZ hD) a) (pow288 (by omega))
  have c : 2000 * 4320 ^ (l + 1) ≤ 2 ^ (11 + 13 * 12) := by
    have c1 : 4320 ^ (l + 1) ≤ 2 ^ (13 * 12) := pow288 (k := l + 1) (a := 12) (by omega)
    generalize 4320 ^ (l + 1) = P at *
    rw [Nat.pow_add]
    exact Nat.mul_le_mul (by decide) c1
  rw [Nat.mul_assoc (denL (gainsC C))]
  exact Nat.lt_of_lt_of_le (lt_pow_mul (Nat.le_refl _) c (unit_lt13 (j := 0) h b)) (Nat.pow_le_pow_right (by decide) (by decide))
theorem sz_last (h : WfC C) {Z W : Nat} (hZ : Z ≤ 4320 ^ (2 * C.length)) (hW : W ≤ 4320 ^ (3 * C.length)) : 4000 * 4320 ^ (C.length - (passL C).length) * (denL (gainsC C) * Z * W) < 2 ^ 1400 := by
  have h12 := h.l12
  have a : 4320 ^ (2 * C.length) * 4320 ^ (3 * C.length) ≤ 4320 ^ (2 * C.length + 3 * C.length) := by rw [← Nat.pow_add]; exact Nat.le_refl _
  have b : Z * W ≤ 2 ^ (13 * 60) := Nat.le_trans (Nat.le_trans (Nat.mul_le_mul hZ hW) a) (pow288 (by omega))
  have c : 4000 * 4320 ^ (C.length - (passL C).length) ≤ 2 ^ (12 + 13 * 12) := by
    rw [Nat.pow_add]
    exact Nat.mul_le_mul (by decide) (pow288 (by omega))
  rw [Nat.mul_assoc (denL (gainsC C))]
  exact Nat.lt_of_lt_of_le (lt_pow_mul (Nat.le_refl _) c (unit_lt13 (j := 0) h b)) (Nat.pow_le_pow_right (by decide) (by decide))
theorem lead_last (h : WfC C) {Z0 W D : Nat} {kn f : Nat → Rat} (z0 : 0 < Z0) (z1 : Z0 ≤ 4320 ^ (2 * C.length)) (inv : GInv C (RLead C (longC C)) (denL (gainsC C) * Z0) (4000 * 4320 ^ (C.length - (passL C).length)) 3 (headsL C).length kn W) (d0 : 0 < D) (d1 : D ≤ 4320 ^ (passL C).length)
    (hF : IsFill C (passL C) (fun y => gainC C y - longC C y) kn f) (hNf : ∀ y, y < C.length → NB (denL (gainsC C) * Z0 * W * D) (4000 * 4320 ^ (C.length - (passL C).length) * 4320 ^ ((passL C).length + 1)) (f y)) :
    LeadOk C (longC C) f ∧ 0 < Z0 * W * D ∧ Z0 * W * D ≤ 4320 ^ (5 * C.length) ∧ ∀ y, y < C.length → NB (denL (gainsC C) * (Z0 * W * D)) (4000 * 4320 ^ (C.length + 1)) (f y) := by
  obtain ⟨ip, ig⟩ := ginv_pass inv
  have hsz := size_all h
  refine ⟨⟨fun x hx L hL => ?_, fun x hx => hF.eq x hx⟩, Nat.mul_pos (Nat.mul_pos z0 inv.z0) d0, ?_, fun y hy => ?_⟩
  · obtain ⟨s, m, a1, a2, a3⟩ := ig x hx L hL
    exact ⟨s, m, a1, a2, fun y hy => by rw [hF.out y (pass_out h hx hL hy)]; exact a3 y hy⟩
  · refine Nat.le_trans (Nat.mul_le_mul (Nat.mul_le_mul z1 inv.z1) d1) ?_
    rw [← Nat.pow_add, ← Nat.pow_add]
    exact Nat.pow_le_pow_right (by decide) (by omega)
  · have a := hNf y hy
    rw [Nat.mul_assoc 4000, ← Nat.pow_add] at a
    have e1 : C.length - (passL C).length + ((passL C).length + 1) = C.length + 1 := by omega
    have e2 : denL (gainsC C) * Z0 * W * D = denL (gainsC C) * (Z0 * W * D) := by simp only [Nat.mul_assoc]
    rw [e1, e2] at a
    exact a
theorem lead_ginv (h : WfC C) {Z0 : Nat} (z0 : 0 < Z0) (z1 : Z0 ≤ 4320 ^ (2 * C.length)) (hg : ∀ y, y < C.length → NB (denL (gainsC C) * Z0) 1000 (longC C y)) : ∀ n, n ≤ (headsL C).length → ∃ kn W, GInv C (RLead C (longC C)) (denL (gainsC C) * Z0) (4000 * 4320 ^ (C.length - (passL C).length)) 3 n kn W
  | 0, _ => ⟨_, _, ginv_zero⟩
  | n + 1, hn => by
    obtain ⟨kn, W, g⟩ := lead_ginv h z0 z1 hg n (by omega)
    obtain ⟨x, hx⟩ := head_at (C := C) (n := n) (by omega)
    have hxm := List.mem_of_getElem? hx
    obtain ⟨L, e, G⟩ := head_grp h hxm
    have hLl := grp_len h G
    have h12 := h.l12
    have hLn : L.Nodup := (List.nodup_cons.mp G.nd).2
    have hLt : ∀ y ∈ L, y < C.length := fun y hy => G.lt y (List.mem_cons_of_mem x hy)
    have M0 : 0 < denL (gainsC C) * Z0 := Nat.mul_pos (unit_lt h).1 z0
    obtain ⟨s, D, a1, a2, a3, a4, _⟩ := fill_dataS h hLn (by omega) hLt (out_tail h G) (e := fun y => gainC C y - longC C y) (kn := fun _ => 0) (B := 2000) M0 (by decide) (sz_raise (U0 := 0) h z1) (fun y hy => ahead_nb h hg y (hLt y hy)) (fun _ _ => nb_zero _ _) (fun _ _ => rfl)
    obtain ⟨m, Zg, b1, b2, b3, b4⟩ := mean_exists h G (e := s) (Nat.mul_pos M0 a2) (Nat.mul_pos (by decide) (Nat.pow_pos (by decide))) (sz_mean h z1 hLl a3.1) a4
    obtain ⟨c1, c2⟩ := lead_size h hxm e G a3.1 b3 a4 b4
    exact ⟨_, _, ginv_step h rlead_mono g hx e (Nat.mul_pos a2 b2) c1 (nw := fun y => s y - m) c2 ⟨s, m, a1, b1, fun _ _ => rfl⟩⟩
theorem lead_exists (h : WfC C) : ∃ f Z, LeadOk C (longC C) f ∧ 0 < Z ∧ Z ≤ 4320 ^ (5 * C.length) ∧ ∀ y, y < C.length → NB (denL (gainsC C) * Z) (4000 * 4320 ^ (C.length + 1)) (f y) := by
  obtain ⟨Z0, z0, z1, hg⟩ := long_nb h
  obtain ⟨kn, W, inv⟩ := lead_ginv h z0 z1 hg _ (Nat.le_refl _)
  obtain ⟨ip, ig⟩ := ginv_pass inv
  have hsz := size_all h
  have h12 := h.l12
  have hpl := nodup_len (pass_nodup (C := C)) pass_lt
  have hW2 : W ≤ 4320 ^ (3 * C.length) := Nat.le_trans inv.z1 (Nat.pow_le_pow_right (by decide) (by omega))
  obtain ⟨f, D, hF, d0, d1, d2, _⟩ := fill_dataS h pass_nodup (by omega) pass_lt (out_pass h) (e := fun y => gainC C y - longC C y) (kn := kn) (M := denL (gainsC C) * Z0 * W) (B := 4000 * 4320 ^ (C.length - (passL C).length)) (Nat.mul_pos (Nat.mul_pos (unit_lt h).1 z0) inv.z0) (Nat.mul_pos (by decide) (Nat.pow_pos (by decide))) (sz_last h z1 hW2)
    (fun y hy => (ahead_nb h hg y (pass_lt y hy)).mono (Nat.dvd_mul_right _ _) (Nat.le_trans (by decide : 2000 ≤ 4000 * 1) (Nat.mul_le_mul_left 4000 (Nat.pow_pos (by decide))))) (fun y _ => inv.nb y) ip
  obtain ⟨c1, c2, c3, c4⟩ := lead_last h z0 z1 inv d0 d1.1 hF d2
  exact ⟨f, _, c1, c2, c3, c4⟩
open Classical in
noncomputable def leadC (C : List PlC) : Nat → Rat := if h : ∃ f, LeadOk C (longC C) f then h.choose else fun _ => 0
theorem lead_ok (h : WfC C) : LeadOk C (longC C) (leadC C) := by
  obtain ⟨g, Z, a, _⟩ := lead_exists h
  have e : ∃ f, LeadOk C (longC C) f := ⟨g, a⟩
  unfold leadC
  rw [dif_pos e]
  exact e.choose_spec
section
variable {K : PySem.W.Frag} {σ : L2.St} {b h : Hp} {ts : TA} {E : XK}
end
end Md
set_option Elab.async false
set_option linter.all false
set_option maxRecDepth 100000
set_option maxHeartbeats 2000000
namespace Md
open PySem L2 Evl
variable {C : List PlC}
theorem nb_big {M B j i k : Nat} {r : Rat} (h : NB M B r) (hM : 0 < M) (hB : 1 ≤ B) (h1 : B ≤ 2 ^ i) (h2 : M < 2 ^ k) (hj : i + k ≤ j) : Big j (canon r) := h.big hM hB (Nat.lt_of_lt_of_le (lt_pow_mul (Nat.le_refl _) h1 h2) (Nat.pow_le_pow_right (by decide) hj))
theorem pow288' {k : Nat} (h : k ≤ 60) : 4320 ^ k ≤ 2 ^ 726 := Nat.le_trans (Nat.pow_le_pow_right (by decide) h) (by decide +kernel)
theorem nb_mul {M N A B : Nat} {r s : Rat} (h : NB M A r) (g : NB N B s) : NB (M * N) (A * B) (r * s) := by
  have m := mul_bd h.lo h.hi g.lo g.hi
  rw [← natR_mul] at m
  exact ⟨h.zt.mul g.zt, m.1, m.2⟩
theorem wsum_ring (t : Nat) (f : Nat → Rat) : wsum [((1, 1), t)] f = f t := by
  rw [wsum_cons, wsum_nil, q_one]
  show 1 * f t + 0 = f t
  grind
section
variable {K : PySem.W.Frag} {σ : L2.St} {b h : Hp} {ts : TA} {E : XK} {ds : List PyData} {D : Ends} {tz : TS}
end
end Md
set_option Elab.async false
set_option linter.all false
set_option maxRecDepth 100000
set_option maxHeartbeats 2000000
namespace Md
open PySem L2 Evl
def hiQ (f : Nat → Rat) : Nat → Rat
  | 0 => f 0
  | k + 1 => if decide (hiQ f k < f k) = true then f k else hiQ f k
def loQ (f : Nat → Rat) : Nat → Rat
  | 0 => f 0
  | k + 1 => if decide (f k < loQ f k) = true then f k else loQ f k
theorem hi_mem {f : Nat → Rat} {n : Nat} (hn : 0 < n) : ∀ k, k ≤ n → ∃ j, j < n ∧ hiQ f k = f j
  | 0, _ => ⟨0, hn, rfl⟩
  | k + 1, hk => by
    obtain ⟨j, h1, h2⟩ := hi_mem hn k (by omega)
    show ∃ j, j < n ∧ (if decide (hiQ f k < f k) = true then f k else hiQ f k) = f j
    by_cases c : decide (hiQ f k < f k) = true
    · rw [if_pos c]
      exact ⟨k, by omega, rfl⟩
    · rw [if_neg c]
      exact ⟨j, h1, h2⟩
theorem lo_mem {f : Nat → Rat} {n : Nat} (hn : 0 < n) : ∀ k, k ≤ n → ∃ j, j < n ∧ loQ f k = f j
  | 0, _ => ⟨0, hn, rfl⟩
  | k + 1, hk => by
    obtain ⟨j, h1, h2⟩ := lo_mem hn k (by omega)
    show ∃ j, j < n ∧ (if decide (f k < loQ f k) = true then f k else loQ f k) = f j
    by_cases c : decide (f k < loQ f k) = true
    · rw [if_pos c]
      exact ⟨k, by omega, rfl⟩
    · rw [if_neg c]
      exact ⟨j, h1, h2⟩
theorem hi_ge {f : Nat → Rat} : ∀ {k j : Nat}, j < k → f j ≤ hiQ f k
  | k + 1, j, h => by
    show f j ≤ (if decide (hiQ f k < f k) = true then f k else hiQ f k)
    by_cases c : decide (hiQ f k < f k) = true
    · rw [if_pos c]
      have c := of_decide_eq_true c
      rcases Nat.lt_or_ge j k with z | z
      · have := hi_ge (f := f) z
        grind
      · obtain rfl : j = k := by omega
        exact Rat.le_refl
    · rw [if_neg c]
      have c : ¬ hiQ f k < f k := fun z => c (decide_eq_true z)
      rcases Nat.lt_or_ge j k with z | z
      · exact hi_ge z
      · obtain rfl : j = k := by omega
        grind
theorem lo_le {f : Nat → Rat} : ∀ {k j : Nat}, j < k → loQ f k ≤ f j
  | k + 1, j, h => by
    show (if decide (f k < loQ f k) = true then f k else loQ f k) ≤ f j
    by_cases c : decide (f k < loQ f k) = true
    · rw [if_pos c]
      have c := of_decide_eq_true c
      rcases Nat.lt_or_ge j k with z | z
      · have := lo_le (f := f) z
        grind
      · obtain rfl : j = k := by omega
        exact Rat.le_refl
    · rw [if_neg c]
      have c : ¬ f k < loQ f k := fun z => c (decide_eq_true z)
      rcases Nat.lt_or_ge j k with z | z
      · exact lo_le z
      · obtain rfl : j = k := by omega
        grind
theorem less_canon (r s : Rat) : decide ((canon r).1 * (canon s).2 < (canon s).1 * (canon r).2) = decide (r < s) := by
  have a := q_canon r
  have c := q_canon s
  unfold qN at a c
  have p1 := (canon_red r).1
  have p2 := (canon_red s).1
  have n1 : (0 : Rat) < (((canon r).2 : Int) : Rat) := cast_pos (by omega)
  have n2 : (0 : Rat) < (((canon s).2 : Int) : Rat) := cast_pos (by omega)
  have e1 : (((canon r).1 * (canon s).2 : Int) : Rat) = r * ((((canon r).2 : Int) : Rat) * (((canon s).2 : Int) : Rat)) := by
    rw [Rat.intCast_mul]
    generalize (((canon r).1 : Int) : Rat) = A at *
    generalize (((canon r).2 : Int) : Rat) = A2 at *
    generalize (((canon s).2 : Int) : Rat) = S2 at *
    rw [← a]
    grind
  have e2 : (((canon s).1 * (canon r).2 : Int) : Rat) = s * ((((canon r).2 : Int) : Rat) * (((canon s).2 : Int) : Rat)) := by
    rw [Rat.intCast_mul]
    generalize (((canon s).1 : Int) : Rat) = A at *
    generalize (((canon r).2 : Int) : Rat) = A2 at *
    generalize (((canon s).2 : Int) : Rat) = S2 at *
    rw [← c]
    grind
  have pp := Rat.mul_pos n1 n2
  generalize ((((canon r).2 : Int) : Rat) * (((canon s).2 : Int) : Rat)) = P at *
  rw [Bool.eq_iff_iff, decide_eq_true_iff, decide_eq_true_iff]
  constructor
  · intro h
    have h2 : (((canon r).1 * (canon s).2 : Int) : Rat) < (((canon s).1 * (canon r).2 : Int) : Rat) := Rat.intCast_lt_intCast.mpr h
    rw [e1, e2] at h2
    refine Classical.byContradiction fun hn => ?_
    have : s ≤ r := by grind
    have := Rat.mul_le_mul_of_nonneg_right this (Rat.le_of_lt pp)
    grind
  · intro h
    refine Rat.intCast_lt_intCast.mp ?_
    rw [e1, e2]
    exact Rat.mul_lt_mul_of_pos_right h pp
def spLess (K : PySem.W.Frag) (j : Nat) : Sp := fun vs h Q _ => ∃ (b : Hp) (r s : Rat), Ex b h ∧ DtA K b vs [nQ r, nQ s] ∧ Big j (canon r) ∧ Big j (canon s) ∧ ∀ h', Ex h h' → Q (.bl (decide (r < s))) h'
section
variable {K : PySem.W.Frag} {σ : L2.St} {b h : Hp} {ts : TA} {E : XK} {C : List PlC} {r s : Rat} {n : Nat} {f : Nat → Rat}
end
end Md
set_option Elab.async false
set_option linter.all false
set_option maxRecDepth 100000
set_option maxHeartbeats 2000000
namespace Md
open PySem L2 Evl
def hgtR (c : Rat) (g : Nat → Int) : Nat → Rat
  | 0 => 0
  | k + 1 => hgtR c g k + (c - (g k : Rat))
section
variable {n : Nat} {g : Nat → Int}
end
end Md
set_option Elab.async false
set_option linter.all false
set_option maxRecDepth 100000
set_option maxHeartbeats 2000000
namespace Md
open PySem L2 Evl
section
variable {a b : Int} {m : Nat}
end
end Md
set_option Elab.async false
set_option linter.all false
set_option maxRecDepth 100000
set_option maxHeartbeats 2000000
namespace Md
open PySem L2 Evl
section
variable {n : Nat} {g : Nat → Int}
structure RngS (n : Nat) (g : Nat → Int) (c : Rat) : Prop where
  G : ∀ k, k < n → Big 900 (canon (g k : Rat))
  A : ∀ i, i ≤ n → Big 900 (canon (sumR i fun j => (g j : Rat)))
  B : Big 900 (canon c)
  C : ∀ k, k < n → Big 900 (canon (c - (g k : Rat)))
  D : ∀ k, k ≤ n → Big 900 (canon (hgtR c g k))
  E : ∀ i, i ≤ n → Big 900 (canon (sumR i (hgtR c g)))
  F : Big 900 (canon (sumR n (hgtR c g) / natR n))
  I : Big 900 (canon (1 / natR n))
end
end Md
set_option Elab.async false
set_option linter.all false
set_option maxRecDepth 100000
set_option maxHeartbeats 2000000
namespace Md
open PySem L2 Evl
section
variable {K : PySem.W.Frag} {σ : L2.St} {b h : Hp} {ta te : TE} {ts : TA} {t : TT} {vs : List Nat} {E : XK} {D : Ends} {d : PyData} {us : List V} {q : Addr} {r s : Rat}
end
end Md
set_option Elab.async false
set_option linter.all false
set_option maxRecDepth 100000
set_option maxHeartbeats 2000000
namespace Md
open PySem L2 Evl
def EucW (g i x y : Nat) : Prop := Nat.gcd x y = g ∧ (if i = 0 then y = 0 ∨ y < 2 ^ 1998 * g else y < x ∧ x * y * 2 ^ (i - 1) < 2 ^ 3996 * (g * g))
theorem eucW_turn {g i x y : Nat} (h : EucW g i x y) (h0 : 0 < y) : EucW g (i + 1) y (x % y) := by
  obtain ⟨h1, h2⟩ := h
  refine ⟨by rw [← h1, Nat.gcd_comm x y, Nat.gcd_rec y x, Nat.gcd_comm], ?_⟩
  have hm := Nat.mod_lt x h0
  rw [if_neg (by omega)]
  refine ⟨hm, ?_⟩
  by_cases hi : i = 0
  · rw [if_pos hi] at h2
    subst hi
    have h3 : y < 2 ^ 1998 * g := h2.resolve_left (by omega)
    show y * (x % y) * 2 ^ 0 < 2 ^ 3996 * (g * g)
    rw [Nat.pow_zero, Nat.mul_one, show (3996 : Nat) = 1998 + 1998 from rfl, Nat.pow_add]
    have := Nat.mul_lt_mul'' h3 (Nat.lt_trans hm h3)
    rwa [Nat.mul_mul_mul_comm] at this
  · rw [if_neg hi] at h2
    obtain ⟨h3, h4⟩ := h2
    obtain ⟨j, rfl⟩ : ∃ j, i = j + 1 := ⟨i - 1, by omega⟩
    show y * (x % y) * 2 ^ (j + 1) < 2 ^ 3996 * (g * g)
    refine Nat.lt_of_le_of_lt ?_ h4
    show y * (x % y) * 2 ^ (j + 1) ≤ x * y * 2 ^ j
    have h5 : x % y * 2 ≤ x := mod_twice (Nat.le_of_lt h3) h0
    calc y * (x % y) * 2 ^ (j + 1) = y * (x % y * 2) * 2 ^ j := by rw [Nat.pow_succ]; simp [Nat.mul_comm, Nat.mul_left_comm, Nat.mul_assoc]
      _ ≤ y * x * 2 ^ j := Nat.mul_le_mul_right _ (Nat.mul_le_mul_left _ h5)
      _ = x * y * 2 ^ j := by rw [Nat.mul_comm y x]
theorem eucW_end {g x y : Nat} (h : EucW g 4000 x y) : y = 0 := by
  obtain ⟨h1, h2⟩ := h
  rw [if_neg (by decide)] at h2
  obtain ⟨h3, h4⟩ := h2
  rcases Nat.eq_zero_or_pos y with z | z
  · exact z
  · exfalso
    have dx : g ≤ x := by rw [← h1]; exact Nat.le_of_dvd (by omega) (Nat.gcd_dvd_left x y)
    have dy : g ≤ y := by rw [← h1]; exact Nat.le_of_dvd z (Nat.gcd_dvd_right x y)
    have h5 : g * g ≤ x * y := Nat.mul_le_mul dx dy
    have h6 : g * g * 2 ^ (4000 - 1) ≤ x * y * 2 ^ (4000 - 1) := Nat.mul_le_mul_right _ h5
    have h7 : g * g * 2 ^ 3996 ≤ g * g * 2 ^ (4000 - 1) := Nat.mul_le_mul_left _ (Nat.pow_le_pow_right (by decide) (by decide))
    rw [Nat.mul_comm (2 ^ 3996)] at h4
    exact absurd (Nat.lt_of_lt_of_le h4 (Nat.le_trans h7 h6)) (Nat.lt_irrefl _)
theorem eucW_zero {g i x : Nat} (h : EucW g i x 0) : x = g := by
  have := h.1
  rwa [Nat.gcd_zero_right] at this
def spGcdW (K : PySem.W.Frag) : Sp := SpF K 2 (fun ds => ∃ a b : Int, ds = [.int a, .int b] ∧ (b.natAbs = 0 ∨ b.natAbs < 2 ^ 1998 * Nat.gcd a.natAbs b.natAbs)) (fun ds d => ∀ a b : Int, ds = [.int a, .int b] → d = .int ((Nat.gcd a.natAbs b.natAbs : Nat) : Int))
def spNumberW (K : PySem.W.Frag) : Sp := SpF K 2 (fun ds => ∃ n d : Int, ds = [.int n, .int d] ∧ d ≠ 0 ∧ n.natAbs < 2 ^ 8100 ∧ d.natAbs < 2 ^ 8100 ∧ d.natAbs < 2 ^ 1998 * Nat.gcd n.natAbs d.natAbs) (fun ds r => ∀ n d : Int, ds = [.int n, .int d] → r = nD (num n d))
theorem small_gcd {a b : Nat} (h : b < 2 ^ 1900) : b = 0 ∨ b < 2 ^ 1998 * Nat.gcd a b := by
  rcases Nat.eq_zero_or_pos b with z | z
  · exact .inl z
  · refine .inr ?_
    have h1 := Nat.gcd_pos_of_pos_right a z
    have h2 : 2 ^ 1998 * 1 ≤ 2 ^ 1998 * Nat.gcd a b := Nat.mul_le_mul_left _ h1
    have h3 : b < 2 ^ 1998 := Nat.lt_of_lt_of_le h (Nat.pow_le_pow_right (by decide) (by decide))
    rw [Nat.mul_one] at h2
    exact Nat.lt_of_lt_of_le h3 h2
theorem Has.imp {P : Program} {w : World} {K : PySem.W.Frag} {mg : Str → Option Value} {base : Heap} {k : Nat} {x : Str} {ps : List Str} {sp sp' : Sp} (H : Has P w K mg base k x ps sp) (h : ∀ vs h Q E, sp' vs h Q E → sp vs h Q E) : Has P w K mg base k x ps sp' := by
  obtain ⟨f, fd, F, h1, h2, h3⟩ := H
  exact ⟨f, fd, F.imp h, h1, h2, h3⟩
theorem numberW_weak {P : Program} {w : World} {K : PySem.W.Frag} {mg : Str → Option Value} {base : Heap} {k : Nat} {x : Str} {ps : List Str} (H : Has P w K mg base k x ps (spNumberW K)) : Has P w K mg base k x ps (spNumber K) :=
  H.imp fun vs h Q E q => by
    obtain ⟨b, ds, h1, h2, h3, ⟨x, y, e, h0, hx, hy⟩, h5⟩ := q
    exact ⟨b, ds, h1, h2, h3, ⟨x, y, e, h0, Nat.lt_of_lt_of_le hx (Nat.pow_le_pow_right (by decide) (by decide)), Nat.lt_of_lt_of_le hy (Nat.pow_le_pow_right (by decide) (by decide)), (small_gcd hy).resolve_left (by omega)⟩, h5⟩
theorem num_den {n d : Int} (h : 0 < d) : d.natAbs = (num n d).2.natAbs * Nat.gcd n.natAbs d.natAbs := by
  rw [num_pos h]
  show d.natAbs = (d / ((Nat.gcd n.natAbs d.natAbs : Nat) : Int)).natAbs * Nat.gcd n.natAbs d.natAbs
  obtain ⟨c, hc⟩ := Nat.gcd_dvd_right n.natAbs d.natAbs
  have g0 : 0 < Nat.gcd n.natAbs d.natAbs := Nat.gcd_pos_of_pos_right _ (by omega)
  generalize Nat.gcd n.natAbs d.natAbs = g at *
  have hd : d = (g : Int) * (c : Int) := by
    have : d = (d.natAbs : Int) := by omega
    rw [this, hc, Int.natCast_mul]
  have e : d / (g : Int) = (c : Int) := by
    rw [hd]
    exact Int.mul_ediv_cancel_left _ (by omega)
  rw [e, Int.natAbs_natCast, hc, Nat.mul_comm]
def spPlusW (K : PySem.W.Frag) : Sp := fun vs h Q _ => ∃ (b : Hp) (r s : Rat), Ex b h ∧ DtA K b vs [nQ r, nQ s] ∧ Big 4000 (canon r) ∧ Big 4000 (canon s) ∧ (r + s).den < 2 ^ 1998 ∧ ∀ v b' h', Gr b h b' h' → Dt K b' v (nQ (r + s)) → Q v h'
def spTimesW (K : PySem.W.Frag) : Sp := fun vs h Q _ => ∃ (b : Hp) (r s : Rat), Ex b h ∧ DtA K b vs [nQ r, nQ s] ∧ Big 4000 (canon r) ∧ Big 4000 (canon s) ∧ (r * s).den < 2 ^ 1998 ∧ ∀ v b' h', Gr b h b' h' → Dt K b' v (nQ (r * s)) → Q v h'
def spTotW (K : PySem.W.Frag) : Sp := fun vs h Q _ => ∃ (b : Hp) (l : List Rat), Ex b h ∧ DtA K b vs [ratsD l] ∧ l.length ≤ 1000 ∧ (∀ i, i ≤ l.length → Big 4000 (canon (l.take i).sum) ∧ (l.take i).sum.den < 2 ^ 1998) ∧ (∀ r ∈ l, Big 4000 (canon r)) ∧ ∀ v b' h', Gr b h b' h' → Dt K b' v (nQ l.sum) → Q v h'
theorem den_gcd {n d : Int} {r : Rat} (h : 0 < d) (e : num n d = canon r) (hr : r.den < 2 ^ 1998) : d.natAbs < 2 ^ 1998 * Nat.gcd n.natAbs d.natAbs := by
  have h1 := num_den (n := n) h
  rw [e] at h1
  have h2 : (canon r).2.natAbs = r.den := Int.natAbs_natCast _
  rw [h2] at h1
  have g0 : 0 < Nat.gcd n.natAbs d.natAbs := Nat.gcd_pos_of_pos_right _ (by omega)
  generalize Nat.gcd n.natAbs d.natAbs = g at *
  rw [h1]
  exact Nat.mul_lt_mul_of_pos_right hr g0
section
variable {K : PySem.W.Frag} {σ : L2.St} {b h : Hp} {ts : TA} {E : XK} {r s : Rat}
theorem ed_plusW (y : EDA K ts σ b [nQ r, nQ s]) (h1 : Big 4000 (canon r)) (h2 : Big 4000 (canon s)) (h3 : (r + s).den < 2 ^ 1998) : ED K (tCall (spPlusW K) [] E ts) σ b (nQ (r + s)) := fun h e _ qq =>
  y h e _ fun vs b2 h2' g2 hv => ⟨b2, r, s, g2.gi, by rw [List.append_nil]; exact hv, h1, h2, h3, fun v b3 h3 g3 hv3 => qq v b3 h3 (g2.trans g3) hv3⟩
end
end Md
set_option Elab.async false
set_option linter.all false
set_option maxRecDepth 100000
set_option maxHeartbeats 2000000
namespace Md
open PySem L2 Evl
structure PlV where
  g : Int × Int
  k : Option Bool
  bs : List BrC
def kdV : Option Bool → Str
  | none => "draw"
  | some true => "ours"
  | some false => "theirs"
def PlV.el (p : PlV) : List PyData := match p.k with
  | none => p.bs.map brC
  | some _ => p.bs.map fun q => PyData.int (q.2 : Int)
def PlV.D (p : PlV) : PyData := .tuple [nD p.g, .str (kdV p.k), .list p.el]
def gvD (G : List PlV) : PyData := .list (G.map PlV.D)
theorem el_len (p : PlV) : p.el.length = p.bs.length := by
  unfold PlV.el
  split <;> exact List.length_map _
def tkQ (o : Bool) (l : List Rat) : Rat := if o = true then hiQ (fun j => l.getD j 0) l.length else loQ (fun j => l.getD j 0) l.length
theorem getDq_mem {l : List Rat} {j : Nat} (h : j < l.length) : l.getD j 0 ∈ l := by
  rw [List.getD_eq_getElem?_getD, List.getElem?_eq_getElem h]
  exact List.getElem_mem h
theorem tk_mem {o : Bool} {l : List Rat} (h : 0 < l.length) : tkQ o l ∈ l := by
  unfold tkQ
  split
  · obtain ⟨j, h1, h2⟩ := hi_mem (f := fun j => l.getD j 0) h l.length (Nat.le_refl _)
    rw [h2]
    exact getDq_mem h1
  · obtain ⟨j, h1, h2⟩ := lo_mem (f := fun j => l.getD j 0) h l.length (Nat.le_refl _)
    rw [h2]
    exact getDq_mem h1
theorem mem_getD {l : List Rat} {y : Rat} (h : y ∈ l) : ∃ j, j < l.length ∧ l.getD j 0 = y := by
  obtain ⟨j, hj, rfl⟩ := List.mem_iff_getElem.mp h
  exact ⟨j, hj, by rw [List.getD_eq_getElem?_getD, List.getElem?_eq_getElem hj]; rfl⟩
theorem tk_hi {l : List Rat} {y : Rat} (h : y ∈ l) : y ≤ tkQ true l := by
  obtain ⟨j, hj, e⟩ := mem_getD h
  show y ≤ hiQ _ _
  have := hi_ge (f := fun j => l.getD j 0) hj
  rw [← e]
  exact this
theorem tk_lo {l : List Rat} {y : Rat} (h : y ∈ l) : tkQ false l ≤ y := by
  obtain ⟨j, hj, e⟩ := mem_getD h
  show loQ _ _ ≤ y
  have := lo_le (f := fun j => l.getD j 0) hj
  rw [← e]
  exact this
theorem tk_is {o : Bool} {l : List Rat} {m : Rat} (hm : m ∈ l) (h : ∀ y ∈ l, if o = true then y ≤ m else m ≤ y) : tkQ o l = m := by
  have h0 := h _ (tk_mem (o := o) (List.length_pos_of_mem hm))
  cases o with
  | true =>
    have h1 := tk_hi hm
    rw [if_pos rfl] at h0
    grind
  | false =>
    have h1 := tk_lo hm
    rw [if_neg (by decide)] at h0
    grind
theorem tk_mul {o : Bool} {l : List Rat} {c : Rat} (hl : 0 < l.length) (hc : 0 ≤ c) : tkQ o (l.map fun x => x * c) = tkQ o l * c := by
  refine tk_is (List.mem_map.mpr ⟨_, tk_mem hl, rfl⟩) fun y hy => ?_
  obtain ⟨x, hx, rfl⟩ := List.mem_map.mp hy
  cases o with
  | true =>
    rw [if_pos rfl]
    exact Rat.mul_le_mul_of_nonneg_right (tk_hi hx) hc
  | false =>
    rw [if_neg (by decide)]
    exact Rat.mul_le_mul_of_nonneg_right (tk_lo hx) hc
def vW (p : PlV) (f : Nat → Rat) : Rat := match p.k with
  | none => wsum p.bs f
  | some o => tkQ o (p.bs.map fun q => f q.2)
structure WfV (w n : Nat) (p : PlV) : Prop where
  g : SmallN p.g
  l1 : 1 ≤ p.bs.length
  l6 : p.bs.length ≤ 6
  t : ∀ q ∈ p.bs, q.2 < n
  c : p.k = none → ∀ q ∈ p.bs, SmallN q.1 ∧ 0 ≤ q.1.1
  w : p.k = none → ∃ W : Nat, 0 < W ∧ W ≤ w ∧ ∀ q ∈ p.bs, q.1.2.natAbs ∣ W
  s : p.k = none → (p.bs.map fun q => qN q.1).sum = 1
structure WfVG (w : Nat) (G : List PlV) : Prop where
  l1 : 1 ≤ G.length
  l12 : G.length ≤ 12
  p : ∀ p ∈ G, WfV w G.length p
def vl (G : List PlV) (k : Nat) : PlV := G.getD k ⟨(0, 1), some true, []⟩
theorem vl_get {G : List PlV} {k : Nat} (h : k < G.length) : G[k]? = some (vl G k) := by
  unfold vl
  rw [List.getD_eq_getElem?_getD, List.getElem?_eq_getElem h]
  rfl
theorem vl_mem {G : List PlV} {k : Nat} (h : k < G.length) : vl G k ∈ G := List.mem_of_getElem? (vl_get h)
theorem vl_wf {w : Nat} {G : List PlV} (h : WfVG w G) {k : Nat} (hk : k < G.length) : WfV w G.length (vl G k) := h.p _ (vl_mem hk)
theorem map_vl {β : Type} (G : List PlV) (f : PlV → β) : (List.range G.length).map (fun i => f (vl G i)) = G.map f := map_getDn G _ f
theorem vW_congr {p : PlV} {f g : Nat → Rat} (h : ∀ q ∈ p.bs, f q.2 = g q.2) : vW p f = vW p g := by
  unfold vW
  split
  · exact wsum_congr h
  · congr 1
    exact List.map_congr_left h
theorem vW_mul {w n : Nat} {p : PlV} (hw : WfV w n p) {c : Rat} (hc : 0 ≤ c) (f : Nat → Rat) : vW p (fun j => f j * c) = vW p f * c := by
  unfold vW
  split
  · have : wsum p.bs (fun j => f j * c) = wsum p.bs (fun j => c * f j) := wsum_congr fun q _ => Rat.mul_comm _ _
    rw [this, wsum_mul, Rat.mul_comm]
  · rw [← tk_mul (by rw [List.length_map]; exact hw.l1) hc, List.map_map]
    rfl
theorem qN_nonneg {p : Int × Int} (h : Red p) (h0 : 0 ≤ p.1) : 0 ≤ qN p := by
  rcases Int.lt_or_eq_of_le h0 with z | z
  · exact Rat.le_of_lt (q_pos h z)
  · unfold qN
    rw [← z, Rat.div_def]
    show (0 : Rat) ≤ ((0 : Int) : Rat) * _
    have : ((0 : Int) : Rat) = 0 := rfl
    rw [this, Rat.zero_mul]
    exact Rat.le_refl
theorem nb_vW {w n M B S : Nat} {p : PlV} {f : Nat → Rat} (hw : WfV w n p) (hS : p.k = none → ∀ q ∈ p.bs, q.1.2.natAbs ∣ S) (hf : ∀ q ∈ p.bs, NB M B (f q.2)) : NB (M * S) B (vW p f) := by
  unfold vW
  split
  · rename_i hk
    have hc := hw.c hk
    have b := part_bd (bs := p.bs) (f := f) (B := B) (fun q hq => qN_nonneg (red_small (hc q hq).1) (hc q hq).2) (fun q hq => ⟨(hf q hq).lo, (hf q hq).hi⟩) (by rw [wsum_one, hw.s hk]; exact Rat.le_refl)
    exact ⟨part_zt fun q hq => ⟨red_small (hc q hq).1, hS hk q hq, (hf q hq).zt⟩, b.1, b.2⟩
  · rename_i o hk
    obtain ⟨q, hq, e⟩ := List.mem_map.mp (tk_mem (o := o) (l := p.bs.map fun q => f q.2) (by rw [List.length_map]; exact hw.l1))
    rw [← e]
    exact (hf q hq).mono (Nat.dvd_mul_right _ _) (Nat.le_refl _)
def wG (G : List PlV) (d : Rat) : Nat → Nat → Rat
  | 0, _ => 0
  | t + 1, k => qN (vl G k).g + d * vW (vl G k) (wG G d t)
theorem disc_le {dn dd : Nat} (h1 : dn ≤ dd) (h2 : 1 ≤ dd) : 0 ≤ natR dn / natR dd ∧ natR dn / natR dd ≤ 1 ∧ Zt dd (natR dn / natR dd) := by
  have p := natR_pos (a := dd) h2
  have h := natR_le h1
  have h0 := natR_nonneg dn
  refine ⟨le_div' p (by grind), div_le' p (by grind), (dn : Int), ?_⟩
  have : natR dd ≠ 0 := by grind
  show natR dn / natR dd * natR dd = natR dn
  exact Rat.div_mul_cancel this
theorem nb_wG {w U S dn dd : Nat} {G : List PlV} (hW : WfVG w G) (hU : ∀ p ∈ G, p.g.2.natAbs ∣ U) (hS : ∀ p ∈ G, p.k = none → ∀ q ∈ p.bs, q.1.2.natAbs ∣ S) (h1 : dn ≤ dd) (h2 : 1 ≤ dd) :
    ∀ t k, k < G.length → NB (U * (S * dd) ^ t) (1000 * t) (wG G (natR dn / natR dd) t k)
  | 0, k, _ => nb_zero _ _
  | t + 1, k, hk => by
    have hw := vl_wf hW hk
    have hm := vl_mem hk
    have ih := nb_wG hW hU hS h1 h2 t
    have a := nb_vW (f := wG G (natR dn / natR dd) t) hw (hS _ hm) fun q hq => ih q.2 (hw.t q hq)
    obtain ⟨d0, d1, dz⟩ := disc_le h1 h2
    have g := q_small hw.g
    have eM : U * (S * dd) ^ (t + 1) = dd * (U * (S * dd) ^ t * S) := by
      rw [Nat.pow_succ]
      simp [Nat.mul_comm, Nat.mul_left_comm, Nat.mul_assoc]
    have eB : natR (1000 * (t + 1)) = natR (1000 * t) + 1000 := by
      rw [Nat.mul_add, natR_add]
      rfl
    have n0 := natR_nonneg (1000 * t)
    have lo := a.lo
    have hi := a.hi
    generalize hv : vW (vl G k) (wG G (natR dn / natR dd) t) = v at *
    have dv : -natR (1000 * t) ≤ natR dn / natR dd * v ∧ natR dn / natR dd * v ≤ natR (1000 * t) := by
      generalize natR dn / natR dd = d at *
      have u1 := Rat.mul_le_mul_of_nonneg_left hi d0
      have u2 := Rat.mul_le_mul_of_nonneg_left lo d0
      have u3 := Rat.mul_le_mul_of_nonneg_right d1 n0
      constructor <;> grind
    show NB _ _ (qN (vl G k).g + natR dn / natR dd * vW (vl G k) (wG G (natR dn / natR dd) t))
    rw [hv]
    refine ⟨Zt.add ((zt_den (red_small hw.g) (hU _ hm)).dvd (Nat.dvd_mul_right _ _)) (by rw [eM]; exact dz.mul a.zt), ?_, ?_⟩
    · rw [eB]; grind
    · rw [eB]; grind
def gainsV (G : List PlV) : List (Int × Int) := G.map (·.g)
def chp (p : PlV) : List (Int × Int) := match p.k with
  | none => p.bs.map (·.1)
  | some _ => []
def chancesV (G : List PlV) : List (Int × Int) := (G.map chp).flatten
theorem chv_mem {G : List PlV} {p : PlV} {q : BrC} (hp : p ∈ G) (hk : p.k = none) (hq : q ∈ p.bs) : q.1 ∈ chancesV G := List.mem_flatten.mpr ⟨_, List.mem_map.mpr ⟨p, hp, rfl⟩, by
  unfold chp
  rw [hk]
  exact List.mem_map.mpr ⟨q, hq, rfl⟩⟩
theorem mem_chv {G : List PlV} {c : Int × Int} (h : c ∈ chancesV G) : ∃ p ∈ G, p.k = none ∧ ∃ q ∈ p.bs, q.1 = c := by
  obtain ⟨l, hl, hc⟩ := List.mem_flatten.mp h
  obtain ⟨p, hp, rfl⟩ := List.mem_map.mp hl
  unfold chp at hc
  split at hc
  · rename_i hk
    obtain ⟨q, hq, rfl⟩ := List.mem_map.mp hc
    exact ⟨p, hp, hk, q, hq, rfl⟩
  · cases hc
theorem denV_le {w : Nat} (hw1 : 1 ≤ w) : ∀ {G : List PlV} {n : Nat}, (∀ p ∈ G, WfV w n p) → ∃ M : Nat, 0 < M ∧ M ≤ w ^ G.length ∧ ∀ c ∈ chancesV G, c.2.natAbs ∣ M
  | [], n, _ => ⟨1, by decide, by show 1 ≤ w ^ 0; rw [Nat.pow_zero]; exact Nat.le_refl 1, fun c h => by
    obtain ⟨p, hp, _⟩ := mem_chv h
    cases hp⟩
  | p :: G, n, h => by
    obtain ⟨M, h0, h1, h2⟩ := denV_le hw1 (G := G) (n := n) fun p hp => h p (List.mem_cons_of_mem _ hp)
    have hp := h p (List.mem_cons_self ..)
    obtain ⟨W, w0, w1, w2⟩ : ∃ W : Nat, 0 < W ∧ W ≤ w ∧ (p.k = none → ∀ q ∈ p.bs, q.1.2.natAbs ∣ W) := by
      by_cases hk : p.k = none
      · obtain ⟨W, a, b, c⟩ := hp.w hk
        exact ⟨W, a, b, fun _ => c⟩
      · exact ⟨1, by decide, hw1, fun z => absurd z hk⟩
    refine ⟨M * W, Nat.mul_pos h0 w0, ?_, fun c hc => ?_⟩
    · rw [List.length_cons, Nat.pow_succ]
      exact Nat.mul_le_mul h1 w1
    · obtain ⟨p', hp', hk, q, hq, rfl⟩ := mem_chv hc
      rcases List.mem_cons.mp hp' with rfl | hp'
      · exact Nat.dvd_trans (w2 hk q hq) (Nat.dvd_mul_left _ _)
      · exact Nat.dvd_trans (h2 _ (chv_mem hp' hk hq)) (Nat.dvd_mul_right _ _)
theorem scaleV_ok {w : Nat} (hw1 : 1 ≤ w) {G : List PlV} (h : WfVG w G) : 0 < denL (chancesV G) ∧ denL (chancesV G) ≤ w ^ G.length := by
  obtain ⟨M, h0, h1, h2⟩ := denV_le hw1 h.p
  refine ⟨denL_pos fun c hc => ?_, Nat.le_trans (Nat.le_of_dvd h0 (denL_to h2)) h1⟩
  obtain ⟨p, hp, hk, q, hq, rfl⟩ := mem_chv hc
  exact ((h.p p hp).c hk q hq).1.1
theorem num_cast (z : Int) : ((z : Rat)).num = z := rfl
theorem nb_abs {M B : Nat} {r : Rat} {z : Int} (h : NB M B r) (e : (z : Rat) = r * natR M) : z.natAbs ≤ B * M := by
  have hp := natR_nonneg M
  have u1 := Rat.mul_le_mul_of_nonneg_right h.lo hp
  have u2 := Rat.mul_le_mul_of_nonneg_right h.hi hp
  rw [← e] at u1 u2
  have v2 : z ≤ ((B : Nat) : Int) * ((M : Nat) : Int) := cast_le (by rw [Rat.intCast_mul]; exact u2)
  have v1 : -(((B : Nat) : Int) * ((M : Nat) : Int)) ≤ z := cast_le (by rw [Rat.intCast_neg, Rat.intCast_mul]; have : natR B * natR M = ((B : Int) : Rat) * ((M : Int) : Rat) := rfl; grind)
  have e3 : ((B * M : Nat) : Int) = ((B : Nat) : Int) * ((M : Nat) : Int) := Int.natCast_mul _ _
  rw [← e3] at v1 v2
  omega
end Md
set_option Elab.async false
set_option linter.all false
set_option maxRecDepth 100000
set_option maxHeartbeats 2000000
namespace Md
open PySem L2 Evl
section
variable {K : PySem.W.Frag} {σ : L2.St} {b h : Hp} {te tl tl1 ta tb : TE} {ts : TA} {E : XK} {D : Ends} {tz : TS} {d : PyData} {ds : List PyData}
theorem en_lc2F {t : TT} {g g1 : TG} {vs vs1 : List Nat} (x : ED K tl σ b (.list ds)) (hz : ds.length ≤ 100) (es : Nat → List PyData) (r : PyData → PyData) (hel : ∀ i, (es i).length ≤ 100) (f : Nat → Bool) (hfe : ∀ i, f i = false → es i = [])
    (hs : ∀ (i : Nat) (d : PyData) (x : V) (b2 h2 : Hp), Ex b b2 → Ex b2 h2 → ds[i]? = some d → Dt K b2 x d → ∀ Q : L2.St → Hp → Prop, (∀ σ2, wipe σ2 vs = wipe σ vs → EvT t σ2 b2 (f i) → (f i = true → ED K tl1 σ2 b2 (.list (es i))) →
      (∀ (j : Nat) (e : PyData) (y : V) (b3 h3 : Hp), Ex b2 b3 → Ex b3 h3 → (es i)[j]? = some e → Dt K b3 y e → ∀ Q1 : L2.St → Hp → Prop, (∀ σ3, wipe σ3 vs1 = wipe σ2 vs1 → ED K te σ3 b3 (r e) → Q1 σ3 h3) → g1 y (wipe σ2 vs1) h3 Q1) → Q σ2 h2) → g x (wipe σ vs) h2 Q) :
    EN K (tLc2 (iList K tl) g t (iList K tl1) g1 tYes te vs vs1) σ b (((List.range ds.length).map fun i => (es i).map r).flatten) := fun h e _ q => x h e _ fun v b1 h1 g1' hv => by
  obtain ⟨a, xs, rfl, k1, k2⟩ := hv.listI
  refine ⟨a, rfl, ⟨xs, sq_of (g1'.gi _ _ k1)⟩, fun Dl hD => ?_⟩
  let acc : Nat → List PyData := fun n => ((List.range n).map fun i => (es i).map r).flatten
  have acc1 : ∀ n, acc (n + 1) = acc n ++ (es n).map r := fun n => by
    show ((List.range (n + 1)).map _).flatten = _
    rw [List.range_succ, List.map_append, List.flatten_append]
    simp [acc]
  have accl : ∀ n, (acc n).length ≤ 100 * n := by
    intro n
    induction n with
    | zero => exact Nat.le_refl _
    | succ n ih =>
      rw [acc1, List.length_append, List.length_map]
      have := hel n
      omega
  have hxl : xs.length = ds.length := k2.length
  let Inv : Nat → Hp → Prop := fun i H => ∃ b2 us, Gr b1 h1 b2 H ∧ b2 Dl = none ∧ H Dl = some (.lst us) ∧ DtA K b2 us (acc i)
  refine ⟨fun i m H => m = ds.length - i ∧ i ≤ ds.length ∧ Inv i H, ⟨ds.length, by simp, Nat.zero_le _, b1, [], Gr.hid g1'.gi hD, none_of g1'.gi hD, upd_same, DtA.nil⟩, ?_⟩
  rintro i m H ⟨rfl, hi, b2, us, g2, nb, hu, hA⟩
  have sqx : SqL K H a xs := sq_of (g2.gh _ _ (g1'.gi _ _ k1))
  by_cases hlt : i < ds.length
  · refine .inr ⟨walk_list.goes i H (by omega) sqx, Inv (i + 1), fun H' p' => ⟨ds.length - (i + 1), by omega, rfl, hlt, p'⟩, fun y H' hy => ?_⟩
    have hy2 := (walk_list (K := K) (a := a) (xs := xs)).yields i H y H' (by omega) sqx hy
    obtain rfl : H' = H := hy2.1
    replace hy : xs[i]? = some y := hy2.2
    obtain ⟨dd, hdd, hx⟩ := k2.getV hy
    refine hs i dd y b2 _ (g1'.gb.trans g2.gb) g2.gi hdd (hx.up g2.gb) _ fun σ2 hw hT htl hin => ⟨hw, ?_⟩
    refine hT _ g2.gi _ fun Ht eT => ?_
    have gT := Gr.stay g2.gi eT
    cases hf : f i with
    | false =>
      rw [if_neg (by decide)]
      refine ⟨b2, us, g2.trans gT, nb, eT _ _ hu, ?_⟩
      rw [acc1, hfe i hf, List.map_nil, List.append_nil]
      exact hA
    | true =>
    rw [if_pos rfl]
    refine htl hf _ gT.gi _ fun v1 b3 h3 g3' hv1 => ?_
    have g3 := gT.trans g3'
    obtain ⟨a1, xs1, rfl, q1, q2⟩ := hv1.listI
    have hl1 : xs1.length = (es i).length := q2.length
    refine ⟨a1, rfl, ⟨xs1, sq_of (g3.gi _ _ q1)⟩, ?_⟩
    have G3 := g2.trans g3
    have nb3 : b3 Dl = none := g3.gf Dl nb (by rw [hu]; intro z; cases z)
    have hu3 := g3.gh _ _ hu
    let Inv1 : Nat → Hp → Prop := fun j H => ∃ b4 us, Gr b3 h3 b4 H ∧ b4 Dl = none ∧ H Dl = some (.lst us) ∧ DtA K b4 us (acc i ++ ((es i).take j).map r)
    have hDl3 : h3 Dl ≠ none := by
      rw [hu3]
      intro z
      cases z
    refine ⟨fun j k H => k = (es i).length - j ∧ j ≤ (es i).length ∧ (∃ b4 us, Gr b1 h1 b4 H ∧ Ex b3 b4 ∧ b4 Dl = none ∧ H Dl = some (.lst us) ∧ DtA K b4 us (acc i ++ ((es i).take j).map r)), ⟨(es i).length, by simp, Nat.zero_le _, b3, us, G3, Ex.refl _, nb3, hu3, by rw [List.take_zero, List.map_nil, List.append_nil]; exact hA.up g3.gb⟩, ?_⟩
    rintro j k H ⟨rfl, hj, b4, us4, g4, e4, nb4, hu4, hA4⟩
    have sq1 : SqL K H a1 xs1 := sq_of (g4.gi _ _ (e4 _ _ q1))
    by_cases hjlt : j < (es i).length
    · refine .inr ⟨walk_list.goes j H (by omega) sq1, fun H' => (∃ b4 us, Gr b1 h1 b4 H' ∧ Ex b3 b4 ∧ b4 Dl = none ∧ H' Dl = some (.lst us) ∧ DtA K b4 us (acc i ++ ((es i).take (j + 1)).map r)), fun H' p' => ⟨(es i).length - (j + 1), by omega, rfl, hjlt, p'⟩, fun y H' hy => ?_⟩
      have hy2 := (walk_list (K := K) (a := a1) (xs := xs1)).yields j H y H' (by omega) sq1 hy
      obtain rfl : H' = H := hy2.1
      replace hy : xs1[j]? = some y := hy2.2
      obtain ⟨ee, hee, hx1⟩ := q2.getV hy
      refine hin j ee y b4 _ (g3.gb.trans e4) g4.gi hee (hx1.up e4) _ fun σ3 hw3 hte => ⟨hw3, ?_⟩
      refine tyes_of ?_
      refine hte _ g4.gi _ fun y5 b5 h5 g5 hy5 => ⟨us4, g5.gh _ _ hu4, sz_lt ?_, ?_⟩
      · rw [hA4.length, List.length_append, List.length_map, List.length_take]
        have := accl i
        have := hel i
        omega
      · have nb5 : b5 Dl = none := g5.gf Dl nb4 (by rw [hu4]; intro z; cases z)
        refine ⟨b5, us4 ++ [y5], (g4.trans g5).mut hD nb5, e4.trans g5.gb, nb5, upd_same, ?_⟩
        rw [take_more1 hee, List.map_append, ← List.append_assoc]
        exact (hA4.up g5.gb).append (DtA.one hy5)
    · have e : j = (es i).length := by omega
      subst e
      refine .inl ⟨?_, ?_⟩
      · have := (walk_list (K := K) (a := a1) (xs := xs1)).stops H sq1
        rw [hl1] at this
        exact this
      · refine ⟨b4, us4, g4, nb4, hu4, ?_⟩
        rw [acc1]
        rw [List.take_length] at hA4
        exact hA4
  · have e : i = ds.length := by omega
    subst e
    refine .inl ⟨?_, ?_⟩
    · have := (walk_list (K := K) (a := a) (xs := xs)).stops H sqx
      rw [hxl] at this
      exact this
    · exact q Dl us b2 H (gone g1' hD) nb (g1'.trans g2) hu hA
end
def spGainsV (K : PySem.W.Frag) : Sp := fun vs h Q _ => ∃ (b : Hp) (G : List PlV), Ex b h ∧ DtA K b vs [gvD G] ∧ G.length ≤ 100 ∧ ∀ v b' h', Gr b h b' h' → Dt K b' v (numsD (gainsV G)) → Q v h'
def spChV (K : PySem.W.Frag) : Sp := fun vs h Q _ => ∃ (b : Hp) (G : List PlV), Ex b h ∧ DtA K b vs [gvD G] ∧ G.length ≤ 100 ∧ (∀ p ∈ G, p.bs.length ≤ 6) ∧ ∀ v b' h', Gr b h b' h' → Dt K b' v (numsD (chancesV G)) → Q v h'
def spTgV (K : PySem.W.Frag) : Sp := fun vs h Q _ => ∃ (b : Hp) (p : PlV), Ex b h ∧ DtA K b vs [p.D] ∧ p.bs.length ≤ 6 ∧ ∀ v b' h', Gr b h b' h' → Dt K b' v (natsD (p.bs.map (·.2))) → Q v h'
def spSW (K : PySem.W.Frag) : Sp := fun vs h Q _ => ∃ (b : Hp) (p : PlV) (ns : List Int) (S n w : Nat), Ex b h ∧ DtA K b vs [p.D, .list (ns.map PyData.int), .int (S : Int)] ∧ WfV w n p ∧ n ≤ ns.length ∧ S < 2 ^ 13000 ∧ (p.k = none → ∀ q ∈ p.bs, q.1.2.natAbs ∣ S) ∧
  (∀ q ∈ p.bs, (ns.getD q.2 0).natAbs < 2 ^ 26000) ∧ ∀ (z : Int) h', Ex h h' → (z : Rat) = vW p (fun j => ((ns.getD j 0 : Int) : Rat)) * natR S → Q (.int z) h'
section
variable {K : PySem.W.Frag} {σ : L2.St} {b h : Hp} {te tl tl1 ta tb : TE} {ts : TA} {E : XK} {G : List PlV} {p : PlV}
theorem ed_tgV (y : EDA K ts σ b [p.D]) (h1 : p.bs.length ≤ 6) : ED K (tCall (spTgV K) [] E ts) σ b (natsD (p.bs.map (·.2))) := fun h e _ qq =>
  y h e _ fun vs b2 h2' g2 hv => ⟨b2, p, g2.gi, by rw [List.append_nil]; exact hv, h1, fun v b3 h3 g3 hv3 => qq v b3 h3 (g2.trans g3) hv3⟩
theorem ev_max {ns : List Int} {m : Int} (hl : ED K te σ b (.list (ns.map PyData.int))) (hm : m ∈ ns) (hle : ∀ y ∈ ns, y ≤ m) : Ev (tCB (rMax K) (tCons te tNil)) σ b (.int m) := fun hh e _ q => hl hh e _ fun v b2 h2 g2 hv => by
  obtain ⟨a, xs, rfl, k1, k2⟩ := hv.listI
  have hxs := k2.intsI
  subst hxs
  refine ⟨a, ns, rfl, sq_of (g2.gi _ _ k1), List.length_pos_of_mem hm, fun m' hm' hle' => ?_⟩
  have e1 := hle m' hm'
  have e2 := hle' m hm
  have : m' = m := by omega
  rw [this]
  exact q h2 g2.gh
end
theorem exists_max : ∀ {l : List Int}, l ≠ [] → ∃ m ∈ l, ∀ y ∈ l, y ≤ m
  | [a], _ => ⟨a, List.mem_singleton.mpr rfl, fun y hy => by rw [List.mem_singleton.mp hy]; exact Int.le_refl a⟩
  | a :: c :: l, _ => by
    obtain ⟨m, hm, hle⟩ := exists_max (l := c :: l) (by simp)
    by_cases z : a ≤ m
    · exact ⟨m, List.mem_cons_of_mem _ hm, fun y hy => by
        rcases List.mem_cons.mp hy with rfl | hy
        · exact z
        · exact hle y hy⟩
    · exact ⟨a, List.mem_cons_self .., fun y hy => by
        rcases List.mem_cons.mp hy with rfl | hy
        · exact Int.le_refl _
        · have := hle y hy
          omega⟩
theorem exists_min {l : List Int} (h : l ≠ []) : ∃ m ∈ l, ∀ y ∈ l, m ≤ y := by
  obtain ⟨m, hm, hle⟩ := exists_max (l := l.map fun x => -x) (by cases l with | nil => exact absurd rfl h | cons a l => simp)
  obtain ⟨x, hx, rfl⟩ := List.mem_map.mp hm
  refine ⟨x, hx, fun y hy => ?_⟩
  have := hle (-y) (List.mem_map.mpr ⟨y, hy, rfl⟩)
  omega
theorem tk_cast {o : Bool} {l : List Int} {m : Int} (hm : m ∈ l) (h : ∀ y ∈ l, if o = true then y ≤ m else m ≤ y) : tkQ o (l.map fun z : Int => (z : Rat)) = (m : Rat) := by
  refine tk_is (List.mem_map.mpr ⟨m, hm, rfl⟩) fun y hy => ?_
  obtain ⟨z, hz, rfl⟩ := List.mem_map.mp hy
  have := h z hz
  split
  · rename_i c
    rw [if_pos c] at this
    exact le_cast this
  · rename_i c
    rw [if_neg c] at this
    exact le_cast this
def ofC (p : PlC) : PlV := ⟨p.g, none, p.bs⟩
theorem ofC_D (C : List PlC) : gvD (C.map ofC) = chD C := by
  unfold gvD chD
  rw [List.map_map]
  rfl
theorem ofC_wf {C : List PlC} (h : WfC C) : WfVG 360 (C.map ofC) := by
  refine ⟨by rw [List.length_map]; exact h.l1, by rw [List.length_map]; exact h.l12, fun p hp => ?_⟩
  obtain ⟨p, hp1, rfl⟩ := List.mem_map.mp hp
  have w := h.p p hp1
  rw [List.length_map]
  exact ⟨w.g, w.l1, w.l6, fun q hq => (w.q q hq).2.2, fun _ q hq => ⟨(w.q q hq).1, by have := (w.q q hq).2.1; show 0 ≤ q.1.1; omega⟩, fun _ => w.w, fun _ => w.s⟩
end Md
namespace Md
open PySem L2 Evl
theorem kd_draw (k : Option Bool) : decide (V.str (kdV k) = V.str "draw") = decide (k = none) := by
  cases k with
  | none => rfl
  | some o => cases o <;> rfl
theorem el_draw {p : PlV} (h : p.k = none) : p.el = p.bs.map brC := by unfold PlV.el; rw [h]
theorem el_side {p : PlV} (h : ¬ p.k = none) : p.el = p.bs.map fun q => PyData.int (q.2 : Int) := by
  unfold PlV.el
  split
  · rename_i e; exact absurd e h
  · rfl
theorem chancesV_data (G : List PlV) : ((List.range (G.map PlV.D).length).map fun i => (if decide ((vl G i).k = none) = true then (vl G i).bs.map brC else []).map fstD).flatten = (chancesV G).map nD := by
  rw [List.length_map, map_vl G fun p => (if decide (p.k = none) = true then p.bs.map brC else []).map fstD]
  unfold chancesV
  rw [List.map_flatten, List.map_map]
  congr 1
  refine List.map_congr_left fun p _ => ?_
  show (if decide (p.k = none) = true then p.bs.map brC else []).map fstD = (chp p).map nD
  unfold chp
  split
  · rename_i c
    rw [of_decide_eq_true c]
    show (p.bs.map brC).map fstD = (p.bs.map (·.1)).map nD
    rw [List.map_map, List.map_map]
    rfl
  · rename_i c
    split
    · rename_i e
      exact absurd (decide_eq_true e) c
    · rfl
theorem ed_chancesV {K : PySem.W.Frag} {σ : L2.St} {b : Hp} {G : List PlV} {tl tl1 te : TE} {t : TT} {g g1 : TG} {vs vs1 : List Nat} (x : ED K tl σ b (.list (G.map PlV.D))) (h1 : G.length ≤ 100) (h2 : ∀ p ∈ G, p.bs.length ≤ 6)
    (hs : ∀ (p : PlV) (x : V) (b2 h2 : Hp), Ex b b2 → Ex b2 h2 → p ∈ G → Dt K b2 x p.D → ∀ Q : L2.St → Hp → Prop, (∀ σ2, wipe σ2 vs = wipe σ vs → EvT t σ2 b2 (decide (p.k = none)) → (p.k = none → ED K tl1 σ2 b2 (.list (p.bs.map brC))) →
      (∀ (q : BrC) (y : V) (b3 h3 : Hp), Ex b2 b3 → Ex b3 h3 → q ∈ p.bs → Dt K b3 y (brC q) → ∀ Q1 : L2.St → Hp → Prop, (∀ σ3, wipe σ3 vs1 = wipe σ2 vs1 → ED K te σ3 b3 (nD q.1) → Q1 σ3 h3) → g1 y (wipe σ2 vs1) h3 Q1) → Q σ2 h2) → g x (wipe σ vs) h2 Q) :
    ED K (tLc2 (iList K tl) g t (iList K tl1) g1 tYes te vs vs1) σ b (numsD (chancesV G)) := by
  unfold numsD
  rw [← chancesV_data]
  refine EN.ed (en_lc2F x (by rw [List.length_map]; exact h1) (fun i => if decide ((vl G i).k = none) = true then (vl G i).bs.map brC else []) fstD (fun i => ?_) (fun i => decide ((vl G i).k = none)) (fun i hi => by show (if decide ((vl G i).k = none) = true then _ else _) = _; rw [hi, if_neg (by decide)]) fun i d x b2 h3 e1 e2 hd hx Q k => ?_)
  · split
    · rw [List.length_map]
      rcases Nat.lt_or_ge i G.length with z | z
      · have := h2 _ (vl_mem z)
        omega
      · have : vl G i = ⟨(0, 1), some true, []⟩ := by
          unfold vl
          rw [List.getD_eq_getElem?_getD, List.getElem?_eq_none z]
          rfl
        rw [this]
        exact Nat.zero_le _
    · exact Nat.zero_le _
  · have hi : i < G.length := by
      have := (List.getElem?_eq_some_iff.mp hd).1
      rwa [List.length_map] at this
    have hp := vl_get hi
    rw [List.getElem?_map, hp] at hd
    cases hd
    refine hs (vl G i) x b2 h3 e1 e2 (vl_mem hi) hx Q fun σ2 w1 wT w2 w3 => k σ2 w1 wT (fun hc => ?_) fun j e y b4 h4 e3 e4 he hy Q1 k1 => ?_
    · rw [if_pos hc]
      exact w2 (of_decide_eq_true hc)
    · by_cases hc : decide ((vl G i).k = none) = true
      · rw [if_pos hc, List.getElem?_map] at he
        cases hz : (vl G i).bs[j]? with
        | none => rw [hz] at he; cases he
        | some q =>
          rw [hz] at he
          cases he
          exact w3 q y b4 h4 e3 e4 (List.mem_of_getElem? hz) hy Q1 k1
      · rw [if_neg hc] at he
        simp at he
end Md
namespace Md
open PySem L2 Evl
end Md
set_option Elab.async false
set_option linter.all false
set_option maxRecDepth 100000
set_option maxHeartbeats 2000000
namespace Md
open PySem L2 Evl
def spIsNW (K : PySem.W.Frag) : Sp := fun vs h Q _ => ∃ (b : Hp) (p : Int × Int), Ex b h ∧ DtA K b vs [nD p] ∧ Red p ∧ p.2.natAbs < 2 ^ 1998 ∧ ∀ h', Ex h h' → Q (.bl true) h'
def spIsLW (K : PySem.W.Frag) : Sp := fun vs h Q _ => ∃ (b : Hp) (l : List (Int × Int)), Ex b h ∧ DtA K b vs [numsD l] ∧ l.length ≤ 1000 ∧ (∀ p ∈ l, Red p ∧ p.2.natAbs < 2 ^ 1998) ∧ ∀ h', Ex h h' → Q (.bl true) h'
def onw (G : List PlV) (d : Rat) (f : Nat → Rat) (k : Nat) : Rat := qN (vl G k).g + d * vW (vl G k) f
section
variable {K : PySem.W.Frag} {σ : L2.St} {b h : Hp} {ts : TA} {E : XK}
theorem ev_isNW {p : Int × Int} (y : EDA K ts σ b [nD p]) (h1 : Red p) (h2 : p.2.natAbs < 2 ^ 1998) : Ev (tCall (spIsNW K) [] E ts) σ b (.bl true) := fun h e _ qq =>
  y h e _ fun vs b2 h2' g2 hv => ⟨b2, p, g2.gi, by rw [List.append_nil]; exact hv, h1, h2, fun h3 e3 => qq h3 (g2.gh.trans e3)⟩
end
theorem zt_den_dvd {M : Nat} {r : Rat} (h : Zt M r) : r.den ∣ M := by
  have := zt_dvd (canon_red r) (M := M) (by rw [q_canon]; exact h)
  have e : (canon r).2.natAbs = r.den := Int.natAbs_natCast _
  rwa [e] at this
theorem nb_big4 {M B : Nat} {r : Rat} (h : NB M B r) (hM : 0 < M) (h1 : M < 2 ^ 1998) (hB : B ≤ 2 ^ 1000) : Big 4000 (canon r) := by
  have h2 : NB M (2 ^ 1000) r := h.mono (Nat.dvd_refl _) hB
  refine h2.big hM (Nat.one_le_two_pow) ?_
  have : 2 ^ 1000 * M < 2 ^ 1000 * 2 ^ 1998 := Nat.mul_lt_mul_of_pos_left h1 (Nat.two_pow_pos _)
  rw [← Nat.pow_add] at this
  exact Nat.lt_of_lt_of_le this (Nat.pow_le_pow_right (by decide) (by decide))
theorem nb_den {M B : Nat} {r : Rat} (h : NB M B r) (hM : 0 < M) (h1 : M < 2 ^ 1998) : r.den < 2 ^ 1998 := Nat.lt_of_le_of_lt (Nat.le_of_dvd hM (zt_den_dvd h.zt)) h1
def ofP : Pl → PlV
  | .draw g bs => ⟨g, none, bs.map fun q => (q.1, q.2.toNat)⟩
  | .side g o ts => ⟨g, some o, ts.map fun t => ((0, 1), t.toNat)⟩
theorem ofP_D {many : Int} {p : Pl} (h : WfP many p) : (ofP p).D = p.D := by
  cases p with
  | draw g bs =>
    obtain ⟨_, _, _, h4, _⟩ := h
    show PyData.tuple [nD g, .str "draw", .list ((bs.map fun q => (q.1, q.2.toNat)).map brC)] = .tuple [nD g, .str "draw", .list (bs.map brD)]
    have e0 : (bs.map fun q => (q.1, q.2.toNat)).map brC = bs.map brD := by
      rw [List.map_map]
      refine List.map_congr_left fun q hq => ?_
      show PyData.tuple [nD q.1, .int ((q.2.toNat : Nat) : Int)] = .tuple [nD q.1, .int q.2]
      rw [Int.toNat_of_nonneg (h4 q hq).1]
    rw [e0]
  | side g o ts =>
    obtain ⟨_, _, _, h4⟩ := h
    show PyData.tuple [nD g, .str (kdV (some o)), .list ((ts.map fun t => ((0, 1), t.toNat)).map fun q : BrC => PyData.int (q.2 : Int))] = .tuple [nD g, .str (if o then "ours" else "theirs"), .list (ts.map PyData.int)]
    have e0 : ((ts.map fun t => ((0, 1), t.toNat)).map fun q : BrC => PyData.int (q.2 : Int)) = ts.map PyData.int := by
      rw [List.map_map]
      refine List.map_congr_left fun t ht => ?_
      show PyData.int ((t.toNat : Nat) : Int) = .int t
      rw [Int.toNat_of_nonneg (h4 t ht).1]
    rw [e0]
    cases o <;> rfl
theorem ofG_D {G : List Pl} (h : WfG G) : gvD (G.map ofP) = gameD G := by
  unfold gvD gameD
  congr 1
  rw [List.map_map]
  exact List.map_congr_left fun p hp => ofP_D (h.2.2 p hp)
theorem sum_cast (ws : List Int) (c : Rat) : (ws.map fun w : Int => (w : Rat) / c).sum = ((ws.sum : Int) : Rat) / c := by
  induction ws with
  | nil =>
    show (0 : Rat) = ((0 : Int) : Rat) / c
    have : ((0 : Int) : Rat) = 0 := rfl
    rw [this, Rat.div_def, Rat.zero_mul]
  | cons w ws ih =>
    rw [List.map_cons, List.sum_cons, List.sum_cons, ih, Rat.intCast_add, Rat.div_def, Rat.div_def, Rat.div_def]
    grind
theorem ofP_wf {n : Nat} {p : Pl} (h : WfP (n : Int) p) : WfV 30 n (ofP p) := by
  cases p with
  | draw g bs =>
    obtain ⟨h1, h2, h3, h4, ws, w1, w2, w3⟩ := h
    have hsum := sum_small w2
    have hpos := sum_pos w2
    have hs1 : 1 ≤ ws.sum := by omega
    have hc : ∀ q ∈ bs, ∃ w : Int, 1 ≤ w ∧ w ≤ 5 ∧ q.1 = num w ws.sum := fun q hq => by
      have : q.1 ∈ bs.map (·.1) := List.mem_map.mpr ⟨q, hq, rfl⟩
      rw [w3] at this
      obtain ⟨w, hw, e⟩ := List.mem_map.mp this
      exact ⟨w, (w2 w hw).1, (w2 w hw).2, e.symm⟩
    refine ⟨h1, by show 1 ≤ (bs.map _).length; rw [List.length_map]; exact h2, by show (bs.map _).length ≤ 6; rw [List.length_map]; exact h3, fun q hq => ?_, fun _ q hq => ?_, fun _ => ⟨ws.sum.natAbs, by omega, by omega, fun q hq => ?_⟩, fun _ => ?_⟩
    · obtain ⟨q', hq', rfl⟩ := List.mem_map.mp hq
      have := h4 q' hq'
      show q'.2.toNat < n
      omega
    · obtain ⟨q', hq', rfl⟩ := List.mem_map.mp hq
      obtain ⟨w, a, b, e⟩ := hc q' hq'
      show SmallN q'.1 ∧ 0 ≤ q'.1.1
      rw [e]
      refine ⟨num_small (by omega) (by omega) (by omega), ?_⟩
      rw [num_pos (by omega)]
      show 0 ≤ w / _
      exact Int.ediv_nonneg (by omega) (by omega)
    · obtain ⟨q', hq', rfl⟩ := List.mem_map.mp hq
      obtain ⟨w, a, b, e⟩ := hc q' hq'
      show q'.1.2.natAbs ∣ _
      rw [e]
      exact num_dvd (by omega)
    · show ((bs.map fun q => (q.1, q.2.toNat)).map fun q : BrC => qN q.1).sum = 1
      rw [List.map_map]
      have e1 : (bs.map ((fun q : BrC => qN q.1) ∘ fun q => (q.1, q.2.toNat))) = (bs.map (·.1)).map qN := by
        rw [List.map_map]
        rfl
      rw [e1, w3, List.map_map]
      have e2 : (ws.map (qN ∘ fun w => num w ws.sum)) = ws.map fun w : Int => (w : Rat) / ((ws.sum : Int) : Rat) := List.map_congr_left fun w _ => q_num (by omega)
      rw [e2, sum_cast]
      rw [Rat.div_def]
      exact Rat.mul_inv_cancel _ (cast_ne (by omega))
  | side g o ts =>
    obtain ⟨h1, h2, h3, h4⟩ := h
    refine ⟨h1, by show 1 ≤ (ts.map _).length; rw [List.length_map]; exact h2, by show (ts.map _).length ≤ 6; rw [List.length_map]; exact h3, fun q hq => ?_, (fun z => by cases z), (fun z => by cases z), (fun z => by cases z)⟩
    obtain ⟨t, ht, rfl⟩ := List.mem_map.mp hq
    have := h4 t ht
    show t.toNat < n
    omega
theorem ofG_wf {G : List Pl} (h : WfG G) : WfVG 30 (G.map ofP) := by
  refine ⟨by rw [List.length_map]; exact h.1, by rw [List.length_map]; exact h.2.1, fun p hp => ?_⟩
  obtain ⟨p, hp1, rfl⟩ := List.mem_map.mp hp
  rw [List.length_map]
  exact ofP_wf (h.2.2 p hp1)
theorem ofP_g (p : Pl) : (ofP p).g = p.gain := by cases p <;> rfl
end Md
namespace Md
open PySem L2 Evl
end Md
set_option Elab.async false
set_option linter.all false
set_option maxRecDepth 100000
set_option maxHeartbeats 2000000
namespace Md
open PySem L2 Evl
structure Dis (dn dd : Nat) : Prop where
  a : 1 ≤ dn
  b : dn < dd
  c : dd ≤ 1000001
  r : Red ((dn : Int), (dd : Int))
theorem Dis.q2 {dn dd : Nat} (h : Dis dn dd) : qN ((dd : Int), ((dd - dn : Nat) : Int)) = 1 / (1 - natR dn / natR dd) := by
  have hb := h.b
  have p1 := natR_pos (a := dd) (by omega)
  have p2 := natR_pos (a := dd - dn) (by omega)
  have e : natR dd = natR (dd - dn) + natR dn := by
    rw [← natR_add]
    congr 1
    omega
  show natR dd / natR (dd - dn) = _
  have h1 : 1 - natR dn / natR dd = natR (dd - dn) / natR dd := by
    rw [Rat.div_def, Rat.div_def]
    have := Rat.mul_inv_cancel (natR dd) (by grind)
    grind
  rw [h1]
  have a1 : natR dd ≠ 0 := by grind
  have a2 : natR (dd - dn) ≠ 0 := by grind
  generalize natR dd = x at *
  generalize natR (dd - dn) = y at *
  rw [Rat.div_def, Rat.div_def, Rat.div_def, Rat.inv_mul_rev]
  grind
theorem NB.mul {M N B C : Nat} {r s : Rat} (h : NB M B r) (g : NB N C s) : NB (M * N) (B * C) (r * s) := by
  refine ⟨h.zt.mul g.zt, ?_, ?_⟩
  · rw [natR_mul]
    have a1 := h.lo
    have a2 := h.hi
    have c1 := g.lo
    have c2 := g.hi
    have b0 := natR_nonneg B
    have c0 := natR_nonneg C
    generalize natR B = x at *
    generalize natR C = y at *
    rcases Rat.le_total (a := 0) (b := s) with z | z
    · have u1 := Rat.mul_le_mul_of_nonneg_right a1 z
      have u2 := Rat.mul_le_mul_of_nonneg_left c2 b0
      grind
    · have z' : 0 ≤ -s := by grind
      have u1 := Rat.mul_le_mul_of_nonneg_right a2 z'
      have u2 := Rat.mul_le_mul_of_nonneg_left (show -s ≤ y by grind) b0
      grind
  · rw [natR_mul]
    have a1 := h.lo
    have a2 := h.hi
    have c1 := g.lo
    have c2 := g.hi
    have b0 := natR_nonneg B
    have c0 := natR_nonneg C
    generalize natR B = x at *
    generalize natR C = y at *
    rcases Rat.le_total (a := 0) (b := s) with z | z
    · have u1 := Rat.mul_le_mul_of_nonneg_right a2 z
      have u2 := Rat.mul_le_mul_of_nonneg_left c2 b0
      grind
    · have z' : 0 ≤ -s := by grind
      have u1 := Rat.mul_le_mul_of_nonneg_right a1 z'
      have u2 := Rat.mul_le_mul_of_nonneg_left (show -s ≤ y by grind) b0
      grind
section
variable {K : PySem.W.Frag} {σ : L2.St} {b h : Hp} {ts tk : TA} {E : XK} {r s : Rat}
end
end Md
namespace Md
open PySem L2 Evl
end Md
set_option Elab.async false
set_option linter.all false
set_option maxRecDepth 100000
set_option maxHeartbeats 2000000
namespace Md
open PySem L2 Evl
def PoolAt (h : Hp) (q : Addr) : Prop := ∃ pl : List Int, h q = some (.lst (pl.map V.int)) ∧ 2 ≤ pl.length ∧ pl.length ≤ 100000
structure GrQ (q : Addr) (b h b' h' : Hp) : Prop where
  gb : Ex b b'
  gh : ∀ a o, a ≠ q → h a = some o → h' a = some o
  gi : Ex b' h'
  gf : ∀ a, b a = none → h a ≠ none → b' a = none
  pl : PoolAt h' q
theorem PoolAt.some {h : Hp} {q : Addr} (p : PoolAt h q) : h q ≠ none := by
  obtain ⟨pl, e, _⟩ := p
  rw [e]
  intro z
  cases z
theorem PoolAt.up {h h' : Hp} {q : Addr} (p : PoolAt h q) (e : Ex h h') : PoolAt h' q := by
  obtain ⟨pl, e1, e2⟩ := p
  exact ⟨pl, e _ _ e1, e2⟩
section
variable {q : Addr} {b h b1 h1 b2 h2 b' h' : Hp}
theorem Gr.toQ (g : Gr b h b' h') (p : PoolAt h q) : GrQ q b h b' h' := ⟨g.gb, fun a o _ e => g.gh a o e, g.gi, g.gf, p.up g.gh⟩
theorem GrQ.nq (g : GrQ q b h b' h') (p : PoolAt h q) (n : b q = none) : b' q = none := g.gf q n p.some
theorem GrQ.nn (g : GrQ q b h b1 h1) {a : Addr} (p : PoolAt h q) (z : h a ≠ none) : h1 a ≠ none := by
  by_cases e : a = q
  · rw [e]
    exact g.pl.some
  · cases e2 : h a with
    | none => exact absurd e2 z
    | some o =>
      rw [g.gh a o e e2]
      intro z
      cases z
theorem GrQ.trans (p : PoolAt h q) (x : GrQ q b h b1 h1) (y : GrQ q b1 h1 b2 h2) : GrQ q b h b2 h2 := ⟨x.gb.trans y.gb, fun a o n e => y.gh a o n (x.gh a o n e), y.gi, fun a z n => y.gf a (x.gf a z n) (x.nn p n), y.pl⟩
theorem GrQ.stay (e : Ex b h) (p : PoolAt h q) : GrQ q b h b h := (Gr.refl e).toQ p
theorem GrQ.back (e : Ex b b1) (g : GrQ q b h b2 h1) (e1 : Ex b1 h) (n : b1 q = none) : ∃ b3, GrQ q b1 h b3 h1 ∧ Ex b2 b3 ∧ ∀ a, b2 a = none → b1 a = none → b3 a = none := by
  have nq : ∀ {a : Addr} {o : HO}, b1 a = some o → a ≠ q := fun {a o} e z => by
    rw [z, n] at e
    cases e
  refine ⟨fun a => match b2 a with | some o => some o | none => b1 a, ⟨fun a o q1 => ?_, g.gh, fun a o q1 => ?_, fun a q1 n => ?_, g.pl⟩, fun a o q => ?_, fun a z1 z2 => by simp only [z1, z2]⟩
  · cases z : b2 a with
    | none => simpa [z] using q1
    | some u =>
      have h1 := g.gi a u z
      have h2 := g.gh a o (nq q1) (e1 a o q1)
      rw [h1] at h2
      simp [z, h2]
  · cases z : b2 a with
    | none =>
      simp only [z] at q1
      exact g.gh a o (nq q1) (e1 a o q1)
    | some u =>
      simp only [z] at q1
      rw [← q1]
      exact g.gi a u z
  · have z : b2 a = none := g.gf a (fresh_back e q1) n
    simp only [z]
    exact q1
  · simp only [q]
theorem GrQ.mut {p : Addr} {o : HO} (g : GrQ q b h b1 h1) (n : h p = none) (nb : b1 p = none) (np : p ≠ q) : GrQ q b h b1 (upd h1 p o) := by
  refine ⟨g.gb, fun a u na e => ?_, Ex.mut g.gi nb, g.gf, ?_⟩
  · have : a ≠ p := fun z => by rw [z, n] at e; cases e
    rw [upd_ne this]
    exact g.gh a u na e
  · obtain ⟨pl, e1, e2⟩ := g.pl
    exact ⟨pl, by rw [upd_ne (fun z => np z.symm)]; exact e1, e2⟩
theorem GrQ.hid {p : Addr} {o : HO} (g : GrQ q b h b1 h1) (n : h1 p = none) : GrQ q b h b1 (upd h1 p o) := by
  have np : p ≠ q := fun z => g.pl.some (by rw [← z]; exact n)
  refine ⟨g.gb, fun a u na e => ?_, g.gi.trans (Ex.new n), g.gf, ?_⟩
  · have h2 := g.gh a u na e
    have : a ≠ p := fun z => by rw [z, n] at h2; cases h2
    rw [upd_ne this]
    exact h2
  · obtain ⟨pl, e1, e2⟩ := g.pl
    exact ⟨pl, by rw [upd_ne (fun z => np z.symm)]; exact e1, e2⟩
theorem GrQ.tell {p : Addr} {o : HO} (g : GrQ q b h b1 h1) (n : h p = none) (nb : b1 p = none) (hp : h1 p = some o) : GrQ q b h (upd b1 p o) h1 := by
  refine ⟨g.gb.trans (Ex.new nb), g.gh, fun a u q1 => ?_, fun a q1 z => ?_, g.pl⟩
  · by_cases ha : a = p
    · subst ha
      rw [upd_same] at q1
      rw [hp]
      exact q1
    · rw [upd_ne ha] at q1
      exact g.gi a u q1
  · rw [upd_ne (fun ha => z (by rw [ha]; exact n))]
    exact g.gf a q1 z
theorem GrQ.gone (g : GrQ q b h b1 h1) (p : PoolAt h q) {a : Addr} (n : h1 a = none) : h a = none := by
  cases e : h a with
  | none => rfl
  | some o => exact absurd n (g.nn p (by rw [e]; intro z; cases z))
end
def EXQ (K : PySem.W.Frag) (q : Addr) (te : TE) (σ : L2.St) (b : Hp) (R : PyData → Prop) : Prop := ∀ h, Ex b h → PoolAt h q → ∀ Q : VK, (∀ v b' h' d, GrQ q b h b' h' → R d → Dt K b' v d → Q v h') → te σ h Q
def EAQ (K : PySem.W.Frag) (q : Addr) (ta : TA) (σ : L2.St) (b : Hp) (R : List PyData → Prop) : Prop := ∀ h, Ex b h → PoolAt h q → ∀ Q : List V → Hp → Prop, (∀ vs b' h' ds, GrQ q b h b' h' → R ds → DtA K b' vs ds → Q vs h') → ta σ h Q
def IntR (R : Int → Prop) : PyData → Prop := fun d => ∃ i, d = .int i ∧ R i
section
variable {K : PySem.W.Frag} {q : Addr} {σ : L2.St} {b b' h : Hp} {te ta tb : TE} {ts tr : TA} {R S T : PyData → Prop} {RI SI : Int → Prop} {d : PyData}
theorem EXQ.up (x : EXQ K q te σ b R) (e : Ex b b') (n : b' q = none) : EXQ K q te σ b' R := fun h e1 p _ k => x h (e.trans e1) p _ fun v b2 h2 d g r hv => by
  obtain ⟨b3, g3, e3, _⟩ := g.back e e1 n
  exact k v b3 h2 d g3 r (hv.up e3)
theorem EAQ.up {R : List PyData → Prop} (x : EAQ K q ts σ b R) (e : Ex b b') (n : b' q = none) : EAQ K q ts σ b' R := fun h e1 p _ k => x h (e.trans e1) p _ fun v b2 h2 d g r hv => by
  obtain ⟨b3, g3, e3, _⟩ := g.back e e1 n
  exact k v b3 h2 d g3 r (hv.up e3)
theorem EXQ.imp (x : EXQ K q te σ b R) (i : ∀ d, R d → S d) : EXQ K q te σ b S := fun h e p _ k => x h e p _ fun v b2 h2 d g r hv => k v b2 h2 d g (i d r) hv
theorem EX.toQ (x : EX K te σ b R) : EXQ K q te σ b R := fun h e p _ k => x h e _ fun v b2 h2 d g r hv => k v b2 h2 d (g.toQ p) r hv
theorem ED.toQ (x : ED K te σ b d) : EXQ K q te σ b (· = d) := fun h e p _ k => x h e _ fun v b2 h2 g hv => k v b2 h2 d (g.toQ p) rfl hv
theorem Ev.toQ {i : Int} (x : Ev te σ b (.int i)) : EXQ K q te σ b (IntR (· = i)) := (ED.toQ (K := K) (ed_int x)).imp fun d e => ⟨i, e, rfl⟩
end
section
variable {K : PySem.W.Frag} {q : Addr} {σ : L2.St} {b b' h : Hp} {te ta tb : TE} {ts tr : TA} {R S T : PyData → Prop} {RI SI : Int → Prop} {d : PyData} {E : XK}
end
end Md
namespace Md
open PySem L2 Evl
section
variable {K : PySem.W.Frag} {q : Addr} {σ : L2.St} {b b' h : Hp} {te ta tb : TE} {ts tr : TA} {R S T : PyData → Prop} {RI SI : Int → Prop} {d : PyData} {E : XK} {vs : List Nat}
end
end Md
namespace Md
open PySem L2 Evl
end Md
namespace Md
open PySem L2 Evl
end Md
namespace Md
open PySem L2 Evl
end Md
namespace Md
open PySem L2 Evl
section
variable {K : PySem.W.Frag} {σ : L2.St} {b h : Hp} {ts : TA} {D : Ends} {d1 d2 : PyData}
end
end Md
namespace Md
open PySem L2 Evl
section
variable {K : PySem.W.Frag} {q : Addr} {σ : L2.St} {b h : Hp} {ta : TE} {ts : TA} {E : XK} {r s : Rat}
end
end Md
namespace Md
open PySem L2 Evl
end Md
namespace Md
open PySem L2 Evl
end Md
set_option Elab.async false
set_option linter.all false
set_option maxRecDepth 100000
set_option maxHeartbeats 2000000
namespace Md
open PySem L2 Evl
section
variable {K : PySem.W.Frag} {σ : L2.St} {b h : Hp} {ts : TA} {E : XK} {n x t : Nat} {g l : Nat → Rat}
end
end Md
namespace Md
open PySem L2 Evl
section
variable {K : PySem.W.Frag} {q : Addr} {σ : L2.St} {b b' h : Hp} {te tl ta tb : TE} {ts tr : TA} {R S T : PyData → Prop} {RI SI : Int → Prop} {d : PyData} {E : XK} {vs : List Nat} {D : Ends} {tu tw : TS}
theorem GrQ.drop {b1 h1 : Hp} (g : GrQ q b h b1 h1) : GrQ q b h b h1 := ⟨Ex.refl b, g.gh, g.gb.trans g.gi, fun _ z _ => z, g.pl⟩
end
end Md
namespace Md
open PySem L2 Evl
end Md
set_option Elab.async false
set_option linter.all false
set_option maxRecDepth 100000
set_option maxHeartbeats 2000000
namespace Md
open PySem L2 Evl
section
variable {K : PySem.W.Frag} {q p : Addr} {σ : L2.St} {b h : Hp} {te ta tb t1 t2 t3 : TE} {ts : TA} {E : XK} {R : PyData → Prop} {d d1 d2 d3 : PyData} {ds : List PyData} {us : List V} {D : Ends} {tz : TS}
theorem EDh.up {b' : Hp} (x : EDh K te σ b h d) (e : Ex b b') (e2 : Ex b' h) : EDh K te σ b' h d := fun h1 e1 _ q => x h1 e1 _ fun v b2 h2 g hv => by
  obtain ⟨b3, g3, e3, _⟩ := g.back e (e2.trans e1)
  exact q v b3 h2 g3 (hv.up e3)
end
end Md
namespace Md
open PySem L2 Evl
end Md
set_option Elab.async false
set_option linter.all false
set_option maxRecDepth 100000
set_option maxHeartbeats 2000000
namespace Md
open PySem L2 Evl
theorem nice_kdV (k : Option Bool) : Nice 0 20 (.str (kdV k)) := by
  cases k with
  | none => exact nice_kind (.draw (0, 1) [])
  | some o => cases o with
    | true => exact nice_kind (.side (0, 1) true [])
    | false => exact nice_kind (.side (0, 1) false [])
theorem nice_pv {w n : Nat} {p : PlV} (h : WfV w n p) (hn : n ≤ 12) : Nice 4 2000 p.D := by
  have small : ∀ {c : Nat}, c < n → (((c : Nat) : Int)).natAbs < 10 ^ 18 := fun {c} hc => Nat.lt_trans (show (((c : Nat) : Int)).natAbs < 100 by rw [Int.natAbs_natCast]; omega) (by decide +kernel)
  have hl : Nice 3 616 (.list p.el) := by
    cases hk : p.k with
    | none =>
      rw [el_draw hk]
      refine (nice_list (k := 2) (L := 100) (n := 6) (fun d hd => ?_) (by rw [List.length_map]; exact h.l6)).mono (by decide) (by decide)
      obtain ⟨q, hq, rfl⟩ := List.mem_map.mp hd
      refine (nice_tup (k := 1) (L := 46) (n := 2) (fun d hd => ?_) (by show 2 ≤ 2; decide)).mono (by decide) (by decide)
      simp only [List.mem_cons, List.not_mem_nil, or_false] at hd
      rcases hd with rfl | rfl
      · exact nice_num (ok_small (h.c hk q hq).1)
      · exact (nice_int (small (h.t q hq))).mono (by decide) (by decide)
    | some o =>
      rw [el_side (by rw [hk]; intro z; cases z)]
      refine (nice_list (k := 0) (L := 19) (n := 6) (fun d hd => ?_) (by rw [List.length_map]; exact h.l6)).mono (by decide) (by decide)
      obtain ⟨q, hq, rfl⟩ := List.mem_map.mp hd
      exact nice_int (small (h.t q hq))
  refine (nice_tup (k := 3) (L := 616) (n := 3) (fun d hd => ?_) (by show 3 ≤ 3; decide)).mono (by decide) (by decide)
  simp only [List.mem_cons, List.not_mem_nil, or_false] at hd
  rcases hd with rfl | rfl | rfl
  · exact (nice_num (ok_small h.g)).mono (by decide) (by decide)
  · exact (nice_kdV p.k).mono (by decide) (by decide)
  · exact hl
theorem nice_gv {w : Nat} {G : List PlV} (h : WfVG w G) : Nice 5 25000 (gvD G) := by
  refine (nice_list (k := 4) (L := 2000) (n := 12) (fun d hd => ?_) (by rw [List.length_map]; exact h.l12)).mono (by decide) (by decide)
  obtain ⟨p, hp, rfl⟩ := List.mem_map.mp hd
  exact nice_pv (h.p p hp) h.l12
section
variable {K : PySem.W.Frag} {q : Addr} {σ : L2.St} {b h : Hp} {te ta tb : TE} {ts : TA} {E : XK} {ds : List PyData} {D : Ends} {tu tz : TS} {g : TG} {RI : Int → Prop}
end
end Md
set_option Elab.async false
set_option linter.all false
set_option maxRecDepth 100000
set_option maxHeartbeats 2000000
namespace Md
open PySem L2 Evl
structure LaY (k : Nat) (d : PyData) : Prop where
  lay : d.canLay0 = true
  dep : d.depth ≤ k
theorem laYAll {k : Nat} : ∀ {ds : List PyData}, (∀ d ∈ ds, LaY k d) → PyData.canLayAll0 ds = true ∧ PyData.depthAll ds ≤ k
  | [], _ => ⟨rfl, Nat.zero_le _⟩
  | d :: ds, h => by
    have h1 := h d (List.mem_cons_self ..)
    have h2 := laYAll fun e he => h e (List.mem_cons_of_mem _ he)
    refine ⟨?_, ?_⟩
    · show (d.canLay0 && PyData.canLayAll0 ds) = true
      rw [h1.lay, h2.1]
      rfl
    · show max d.depth (PyData.depthAll ds) ≤ k
      have := h1.dep
      have := h2.2
      omega
theorem laY_list {k : Nat} {ds : List PyData} (h : ∀ d ∈ ds, LaY k d) : LaY (k + 1) (.list ds) := ⟨(laYAll h).1, by have := (laYAll h).2; show PyData.depthAll ds + 1 ≤ k + 1; omega⟩
theorem laY_int (i : Int) : LaY 0 (.int i) := ⟨rfl, Nat.le_refl _⟩
theorem LaY.mono {k l : Nat} {d : PyData} (h : LaY k d) (hl : k ≤ l) : LaY l d := ⟨h.lay, Nat.le_trans h.dep hl⟩
theorem LaY.shaped {k : Nat} {d : PyData} (h : LaY k d) (hk : k ≤ 64) : SeqAt.shaped d = true := by
  unfold SeqAt.shaped
  rw [h.lay, decide_eq_true (Nat.le_trans h.dep hk)]
  rfl
structure RowB (n : Nat) (g l : Nat → Rat) : Prop where
  g : ∀ k, k < n → NB 42 2000000000000 (g k)
  l : ∀ k, k < n → NB 42 2000000000000 (l k)
theorem RowB.big {n : Nat} {g l : Nat → Rat} (h : RowB n g l) {k : Nat} (hk : k < n) : Big 62 (canon (g k)) ∧ Big 62 (canon (l k)) := ⟨(h.g k hk).big (by decide) (by decide) (by decide), (h.l k hk).big (by decide) (by decide) (by decide)⟩
def OwnS (K : PySem.W.Frag) (h b' : Hp) (p : Addr) (u : V) : Prop := (∃ a xs, u = .ref a ∧ h a = none ∧ a ≠ p ∧ b' a = some (.lst xs)) ∨ ∃ t xs, u = .ref t ∧ SqT K b' t xs
def OwnAt (G : List PlV) (h b' : Hp) (p : Addr) (us : List V) : Prop := ∀ j u, us[j]? = some u → (vl G j).k ≠ none → ∃ a xs, u = .ref a ∧ h a = none ∧ a ≠ p ∧ b' a = some (.lst xs)
theorem OwnAt.up {G : List PlV} {h b b' : Hp} {p : Addr} {us : List V} (x : OwnAt G h b p us) (e : Ex b b') : OwnAt G h b' p us := fun j u hj hk => by
  obtain ⟨a, xs, h1, h2, h3, h4⟩ := x j u hj hk
  exact ⟨a, xs, h1, h2, h3, e _ _ h4⟩
theorem OwnAt.of {G : List PlV} {h h0 b : Hp} {p : Addr} {us : List V} (x : OwnAt G h b p us) (e : Ex h0 h) : OwnAt G h0 b p us := fun j u hj hk => by
  obtain ⟨a, xs, h1, h2, h3, h4⟩ := x j u hj hk
  exact ⟨a, xs, h1, fresh_back e h2, h3, h4⟩
section
variable {K : PySem.W.Frag} {σ : L2.St} {b h : Hp} {ts : TA} {E : XK}
end
end Md
namespace Md
open PySem L2 Evl
section
variable {K : PySem.W.Frag} {σ : L2.St} {b h : Hp} {ts : TA} {E : XK}
end
end Md
namespace Md
open PySem L2 Evl
end Md
namespace Md
open PySem L2 Evl
theorem OwnS.up {K : PySem.W.Frag} {h b b' : Hp} {p : Addr} {u : V} (x : OwnS K h b p u) (e : Ex b b') : OwnS K h b' p u := by
  rcases x with ⟨a, xs, rfl, n, np, k⟩ | ⟨t, xs, rfl, k⟩
  · exact Or.inl ⟨a, xs, rfl, n, np, e _ _ k⟩
  · exact Or.inr ⟨t, xs, rfl, ex_t e k⟩
end Md
namespace Md
open PySem L2 Evl
section
variable {K : PySem.W.Frag} {σ : L2.St} {b h : Hp} {ts : TA} {E : XK} {ta tb : TE} {q a t : Addr} {xs ys : List V} {o : HO}
end
end Md
set_option Elab.async false
set_option linter.all false
set_option maxRecDepth 100000
set_option maxHeartbeats 2000000
namespace Md
open PySem L2 Evl
section
variable {C : List PlC}
end
section
variable {K : PySem.W.Frag} {σ : L2.St} {b h : Hp} {ts : TA} {E : XK} {r s : Rat}
end
end Md
namespace Md
open PySem L2 Evl
section
variable {K : PySem.W.Frag} {σ : L2.St} {b h : Hp} {ts tk : TA} {E : XK} {C : List PlC}
end
end Md
set_option Elab.async false
set_option linter.all false
set_option maxRecDepth 100000
set_option maxHeartbeats 2000000
namespace Md
open PySem L2 Evl
structure WfM (C : List PlC) : Prop where
  l1 : 1 ≤ C.length
  q : ∀ x, x < C.length → ∀ q ∈ (plC C x).bs, 0 ≤ qN q.1 ∧ q.2 < C.length
  s : ∀ x, x < C.length → wsum (plC C x).bs (fun _ => 1) = 1
theorem meanM_le {C : List PlC} (h : WfM C) {k : Nat} (hk : k < C.length) {f : Nat → Rat} {c : Rat} (hf : ∀ j, j < C.length → f j ≤ c) : meanC C f k ≤ c := by
  have a : meanC C f k ≤ wsum (plC C k).bs (fun j => c * 1) := wsum_le fun q hq => ⟨(h.q k hk q hq).1, by
    have := hf q.2 (h.q k hk q hq).2
    grind⟩
  have b := wsum_mul (plC C k).bs c (fun _ => 1)
  have d := h.s k hk
  rw [b, d] at a
  grind
theorem meanM_mono {C : List PlC} (h : WfM C) {k : Nat} (hk : k < C.length) {f g : Nat → Rat} (hf : ∀ j, j < C.length → f j ≤ g j) : meanC C f k ≤ meanC C g k := wsum_le fun q hq => ⟨(h.q k hk q hq).1, hf q.2 (h.q k hk q hq).2⟩
theorem WfC.toM {C : List PlC} (h : WfC C) : WfM C := ⟨h.l1, fun x hx q hq => by
  have := (plC_wf h hx).q q hq
  exact ⟨qN_nonneg (red_small this.1) (Int.le_of_lt this.2.1), this.2.2⟩, fun x hx => mean_one h hx⟩
section
variable {C : List PlC} {β : Rat}
def IsWor (C : List PlC) (β : Rat) (e f : Nat → Rat) : Prop := ∀ x, x < C.length → f x = e x + β * meanC C f x
theorem sub_le (h : WfM C) (h0 : 0 ≤ β) (h1 : β < 1) {d : Nat → Rat} (hd : ∀ x, x < C.length → d x ≤ β * meanC C d x) : ∀ x, x < C.length → d x ≤ 0 := by
  have hn := h.l1
  obtain ⟨j, hj, e⟩ := hi_mem (f := d) (by omega : 0 < C.length) C.length (Nat.le_refl _)
  have hm : meanC C d j ≤ d j := meanM_le h hj fun i hi => by
    rw [← e]
    exact hi_ge hi
  have h2 := hd j hj
  have h3 : β * meanC C d j ≤ β * d j := Rat.mul_le_mul_of_nonneg_left hm h0
  have h4 : d j ≤ 0 := by
    rcases (Rat.le_total (a := d j) (b := 0)) with z | z
    · exact z
    · have h5 : 0 ≤ (1 - β) * d j := Rat.mul_nonneg (by grind) z
      have h6 : (1 - β) * d j ≤ 0 := by grind
      have h7 : (1 - β) * d j = 0 := Rat.le_antisymm h6 h5
      rcases Rat.mul_eq_zero.mp h7 with y | y
      · grind
      · grind
  intro x hx
  have : d x ≤ hiQ d C.length := hi_ge hx
  rw [e] at this
  exact Rat.le_trans this h4
theorem wor_ge (h : WfM C) (h0 : 0 ≤ β) (h1 : β < 1) {e f g : Nat → Rat} (hf : ∀ x, x < C.length → f x ≤ e x + β * meanC C f x) (hg : IsWor C β e g) : ∀ x, x < C.length → f x ≤ g x := by
  have := sub_le h h0 h1 (d := fun x => f x - g x) fun x hx => by
    have a := hf x hx
    have b := hg x hx
    rw [mean_sub C f g x]
    grind
  intro x hx
  have := this x hx
  grind
theorem wor_le (h : WfM C) (h0 : 0 ≤ β) (h1 : β < 1) {e f g : Nat → Rat} (hf : ∀ x, x < C.length → e x + β * meanC C f x ≤ f x) (hg : IsWor C β e g) : ∀ x, x < C.length → g x ≤ f x := by
  have := sub_le h h0 h1 (d := fun x => g x - f x) fun x hx => by
    have a := hf x hx
    have b := hg x hx
    rw [mean_sub C g f x]
    grind
  intro x hx
  have := this x hx
  grind
theorem wor_unique (h : WfM C) (h0 : 0 ≤ β) (h1 : β < 1) {e f g : Nat → Rat} (hf : IsWor C β e f) (hg : IsWor C β e g) : ∀ x, x < C.length → f x = g x := fun x hx =>
  Rat.le_antisymm (wor_ge h h0 h1 (fun y hy => by rw [← hf y hy]; exact Rat.le_refl) hg x hx) (wor_ge h h0 h1 (fun y hy => by rw [← hg y hy]; exact Rat.le_refl) hf x hx)
theorem wor_lt (h : WfM C) (h0 : 0 ≤ β) (h1 : β < 1) {e f g : Nat → Rat} (hf : ∀ x, x < C.length → e x + β * meanC C f x ≤ f x) (hg : IsWor C β e g) {x : Nat} (hx : x < C.length) (hlt : e x + β * meanC C f x < f x) : g x < f x := by
  have a := wor_le h h0 h1 hf hg
  have b := hg x hx
  have c : meanC C g x ≤ meanC C f x := meanM_mono h hx a
  have d : β * meanC C g x ≤ β * meanC C f x := Rat.mul_le_mul_of_nonneg_left c h0
  grind
end
end Md
namespace Md
theorem count_lt {α : Type} {S : α → Rat} {a b : α} (h : S b < S a) : ∀ {l : List α}, b ∈ l → (l.filter fun c => decide (S c < S b)).length < (l.filter fun c => decide (S c < S a)).length := by
  have le : ∀ l : List α, (l.filter fun c => decide (S c < S b)).length ≤ (l.filter fun c => decide (S c < S a)).length := fun l => by
    induction l with
    | nil => exact Nat.le_refl _
    | cons c l ih =>
      by_cases y : S c < S b
      · have z : S c < S a := by grind
        rw [List.filter_cons_of_pos (by exact decide_eq_true y), List.filter_cons_of_pos (by exact decide_eq_true z), List.length_cons, List.length_cons]
        omega
      · rw [List.filter_cons_of_neg (by rw [decide_eq_false y]; decide)]
        by_cases z : S c < S a
        · rw [List.filter_cons_of_pos (by exact decide_eq_true z), List.length_cons]
          omega
        · rw [List.filter_cons_of_neg (by rw [decide_eq_false z]; decide)]
          exact ih
  intro l hb
  induction l with
  | nil => cases hb
  | cons c l ih =>
    rcases List.mem_cons.mp hb with rfl | hm
    · rw [List.filter_cons_of_neg (by rw [decide_eq_false (by grind)]; decide), List.filter_cons_of_pos (by exact decide_eq_true h), List.length_cons]
      have := le l
      omega
    · have ih := ih hm
      by_cases y : S c < S b
      · have z : S c < S a := by grind
        rw [List.filter_cons_of_pos (by exact decide_eq_true y), List.filter_cons_of_pos (by exact decide_eq_true z), List.length_cons, List.length_cons]
        omega
      · rw [List.filter_cons_of_neg (by rw [decide_eq_false y]; decide)]
        by_cases z : S c < S a
        · rw [List.filter_cons_of_pos (by exact decide_eq_true z), List.length_cons]
          omega
        · rw [List.filter_cons_of_neg (by rw [decide_eq_false z]; decide)]
          exact ih
def allC : List Nat → List (List Nat)
  | [] => [[]]
  | n :: ns => (List.range n).flatMap fun k => (allC ns).map (k :: ·)
theorem mem_allC : ∀ {ns c : List Nat}, c.length = ns.length → (∀ i, i < ns.length → c.getD i 0 < ns.getD i 0) → c ∈ allC ns
  | [], c, hl, _ => by
    have : c = [] := List.length_eq_zero_iff.mp hl
    subst this
    exact List.mem_singleton.mpr rfl
  | n :: ns, [], hl, _ => by cases hl
  | n :: ns, k :: c, hl, h => by
    refine List.mem_flatMap.mpr ⟨k, List.mem_range.mpr (h 0 (by show 0 < ns.length + 1; omega)), List.mem_map.mpr ⟨c, mem_allC (Nat.succ.inj hl) fun i hi => ?_, rfl⟩⟩
    exact h (i + 1) (by show i + 1 < ns.length + 1; omega)
end Md
namespace Md
section
variable {C D : List PlC} {β : Rat} {e w v : Nat → Rat}
theorem better_le (hD : WfM D) (hl : D.length = C.length) (h0 : 0 < β) (h1 : β < 1) (hw : IsWor C β e w) (hv : IsWor D β e v) (hm : ∀ x, x < C.length → meanC D w x ≤ meanC C w x) : (∀ x, x < C.length → v x ≤ w x) ∧ ∀ x, x < C.length → meanC D w x < meanC C w x → v x < w x := by
  have key : ∀ x, x < D.length → e x + β * meanC D w x ≤ w x := fun x hx => by
    rw [hl] at hx
    have a : β * meanC D w x ≤ β * meanC C w x := Rat.mul_le_mul_of_nonneg_left (hm x hx) (Rat.le_of_lt h0)
    have b := hw x hx
    grind
  refine ⟨fun x hx => wor_le hD (Rat.le_of_lt h0) h1 key hv x (by omega), fun x hx hlt => wor_lt hD (Rat.le_of_lt h0) h1 key hv (by omega) ?_⟩
  have a : β * meanC D w x < β * meanC C w x := Rat.mul_lt_mul_of_pos_left hlt h0
  have b := hw x hx
  grind
theorem better_ge (hD : WfM D) (hl : D.length = C.length) (h0 : 0 < β) (h1 : β < 1) (hw : IsWor C β e w) (hv : IsWor D β e v) (hm : ∀ x, x < C.length → meanC C w x ≤ meanC D w x) : ∀ x, x < C.length → w x ≤ v x := by
  have key : ∀ x, x < D.length → w x ≤ e x + β * meanC D w x := fun x hx => by
    rw [hl] at hx
    have a : β * meanC C w x ≤ β * meanC D w x := Rat.mul_le_mul_of_nonneg_left (hm x hx) (Rat.le_of_lt h0)
    have b := hw x hx
    grind
  exact fun x hx => wor_ge hD (Rat.le_of_lt h0) h1 key hv x (by omega)
end
def sumW (n : Nat) (f : Nat → Rat) : Rat := ((List.range n).map f).sum
theorem sumW_next (n : Nat) (f : Nat → Rat) : sumW (n + 1) f = sumW n f + f n := by
  unfold sumW
  rw [List.range_succ, List.map_append]
  exact sum_snoc _ _
theorem sumW_le {f g : Nat → Rat} : ∀ {n : Nat}, (∀ x, x < n → f x ≤ g x) → sumW n f ≤ sumW n g
  | 0, _ => Rat.le_refl
  | n + 1, h => by
    have a := sumW_le (f := f) (g := g) (n := n) fun x hx => h x (by omega)
    have b := h n (by omega)
    rw [sumW_next, sumW_next]
    grind
theorem sumW_lt {f g : Nat → Rat} : ∀ {n : Nat}, (∀ x, x < n → f x ≤ g x) → ∀ {y : Nat}, y < n → f y < g y → sumW n f < sumW n g
  | 0, _, y, hy, _ => absurd hy (by omega)
  | n + 1, h, y, hy, hlt => by
    rw [sumW_next, sumW_next]
    have b := h n (by omega)
    by_cases c : y = n
    · subst c
      have a := sumW_le (f := f) (g := g) (n := y) fun x hx => h x (by omega)
      grind
    · have a := sumW_lt (f := f) (g := g) (n := n) (fun x hx => h x (by omega)) (y := y) (by omega) hlt
      grind
end Md
namespace Md
def tgV (G : List PlV) (c : Nat → Nat) (x : Nat) : Nat := ((vl G x).bs.getD (c x) ((1, 1), 0)).2
def chV (G : List PlV) (c : Nat → Nat) : List PlC := (List.range G.length).map fun x => if (vl G x).k = none then ⟨(vl G x).g, (vl G x).bs⟩ else ⟨(vl G x).g, [((1, 1), tgV G c x)]⟩
def OkC (G : List PlV) (c : Nat → Nat) : Prop := ∀ x, x < G.length → (vl G x).k ≠ none → c x < (vl G x).bs.length
section
variable {G : List PlV} {c : Nat → Nat} {n : Nat} {f : Nat → Rat}
theorem chV_len : (chV G c).length = G.length := by
  unfold chV
  rw [List.length_map, List.length_range]
theorem chV_at {x : Nat} (hx : x < G.length) : plC (chV G c) x = if (vl G x).k = none then ⟨(vl G x).g, (vl G x).bs⟩ else ⟨(vl G x).g, [((1, 1), tgV G c x)]⟩ := by
  have h1 := plC_get (C := chV G c) (k := x) (by rw [chV_len]; exact hx)
  unfold chV at h1
  rw [List.getElem?_map, List.getElem?_range hx] at h1
  exact (Option.some.inj h1).symm
theorem tgV_lt {w : Nat} (h : WfVG w G) (hc : OkC G c) {x : Nat} (hx : x < G.length) (hk : (vl G x).k ≠ none) : tgV G c x < G.length := by
  have hb := hc x hx hk
  unfold tgV
  rw [List.getD_eq_getElem?_getD, List.getElem?_eq_getElem hb]
  exact (vl_wf h hx).t _ (List.getElem_mem _)
theorem mean_draw {x : Nat} (hx : x < G.length) (hk : (vl G x).k = none) : meanC (chV G c) f x = wsum (vl G x).bs f := by
  unfold meanC
  rw [chV_at hx, if_pos hk]
theorem mean_side {x : Nat} (hx : x < G.length) (hk : (vl G x).k ≠ none) : meanC (chV G c) f x = f (tgV G c x) := by
  unfold meanC
  rw [chV_at hx, if_neg hk]
  exact wsum_ring _ _
theorem chV_wf {w : Nat} (h : WfVG w G) (hc : OkC G c) : WfM (chV G c) := by
  refine ⟨by rw [chV_len]; exact h.l1, fun x hx q hq => ?_, fun x hx => ?_⟩
  · rw [chV_len] at hx ⊢
    rw [chV_at hx] at hq
    by_cases hk : (vl G x).k = none
    · rw [if_pos hk] at hq
      have := (vl_wf h hx).c hk q hq
      exact ⟨qN_nonneg (red_small this.1) this.2, (vl_wf h hx).t q hq⟩
    · rw [if_neg hk] at hq
      rw [List.mem_singleton.mp hq]
      exact ⟨show (0 : Rat) ≤ qN (1, 1) by decide +kernel, tgV_lt h hc hx hk⟩
  · rw [chV_len] at hx
    by_cases hk : (vl G x).k = none
    · have := mean_draw (c := c) (f := fun _ => 1) hx hk
      unfold meanC at this
      rw [this, wsum_one]
      exact (vl_wf h hx).s hk
    · have := mean_side (c := c) (f := fun _ => 1) hx hk
      unfold meanC at this
      exact this
theorem turn_less {w : Nat} (h : WfVG w G) {c d : Nat → Nat} (hd : OkC G d) {β : Rat} (h0 : 0 < β) (h1 : β < 1) {e u v : Nat → Rat} (hu : IsWor (chV G c) β e u) (hv : IsWor (chV G d) β e v)
    (hm : ∀ x, x < G.length → (vl G x).k ≠ none → u (tgV G d x) ≤ u (tgV G c x)) {y : Nat} (hy : y < G.length) (hk : (vl G y).k ≠ none) (hlt : u (tgV G d y) < u (tgV G c y)) : sumW G.length v < sumW G.length u := by
  have key := better_le (C := chV G c) (D := chV G d) (chV_wf h hd) (by rw [chV_len, chV_len]) h0 h1 hu hv fun x hx => by
    rw [chV_len] at hx
    by_cases z : (vl G x).k = none
    · rw [mean_draw hx z, mean_draw hx z]
      exact Rat.le_refl
    · rw [mean_side hx z, mean_side hx z]
      exact hm x hx z
  rw [chV_len] at key
  exact sumW_lt key.1 hy (key.2 y hy (by rw [mean_side hy hk, mean_side hy hk]; exact hlt))
theorem turn_more {w : Nat} (h : WfVG w G) {c d : Nat → Nat} (hd : OkC G d) {β : Rat} (h0 : 0 < β) (h1 : β < 1) {e u v : Nat → Rat} (hu : IsWor (chV G c) β e u) (hv : IsWor (chV G d) β e v)
    (hm : ∀ x, x < G.length → (vl G x).k ≠ none → u (tgV G c x) ≤ u (tgV G d x)) : ∀ x, x < G.length → u x ≤ v x := by
  have key := better_ge (C := chV G c) (D := chV G d) (chV_wf h hd) (by rw [chV_len, chV_len]) h0 h1 hu hv fun x hx => by
    rw [chV_len] at hx
    by_cases z : (vl G x).k = none
    · rw [mean_draw hx z, mean_draw hx z]
      exact Rat.le_refl
    · rw [mean_side hx z, mean_side hx z]
      exact hm x hx z
  rwa [chV_len] at key
end
end Md
set_option Elab.async false
set_option linter.all false
set_option maxRecDepth 100000
set_option maxHeartbeats 2000000
namespace Md
open PySem L2 Evl
inductive Sl where
  | d (x : PyData)
  | o (ds : List PyData)
abbrev Gam := List (Option Sl)
abbrev DE := Gam → (PyData → Prop) → Prop
abbrev DN := Gam → (List PyData → Prop) → Prop
abbrev DT := Gam → (Bool → Prop) → Prop
abbrev DO := Gam → (Option Int → Prop) → Prop
abbrev DG := PyData → Gam → (Gam → Prop) → Prop
abbrev DGs := List PyData → Gam → (Gam → Prop) → Prop
structure DEnds where
  nx : Gam → Prop
  rt : PyData → Prop
  ro : List PyData → Prop
  bk : Gam → Prop := fun _ => False
  ct : Gam → Prop := fun _ => False
  rp : List Sl → Prop := fun _ => False
abbrev DS := DEnds → Gam → Prop
def gat : Gam → Nat → Option Sl
  | [], _ => none
  | a :: _, 0 => a
  | _ :: l, i + 1 => gat l i
theorem gat_set : ∀ (Γ : Gam) (i j : Nat) (s : Option Sl), gat (Γ.set i s) j = if i = j ∧ i < Γ.length then s else gat Γ j
  | [], i, j, s => by
    rw [if_neg (fun h => absurd h.2 (Nat.not_lt_zero _))]
    rfl
  | a :: l, 0, 0, s => by
    rw [if_pos ⟨rfl, Nat.zero_lt_succ _⟩]
    rfl
  | a :: l, 0, j + 1, s => by
    rw [if_neg (fun h => by have := h.1; omega)]
    rfl
  | a :: l, i + 1, 0, s => by
    rw [if_neg (fun h => by have := h.1; omega)]
    rfl
  | a :: l, i + 1, j + 1, s => by
    show gat (l.set i s) j = if i + 1 = j + 1 ∧ i + 1 < (a :: l).length then s else gat l j
    rw [gat_set l i j s]
    have e : (i + 1 = j + 1 ∧ i + 1 < (a :: l).length) ↔ (i = j ∧ i < l.length) := by
      rw [List.length_cons]
      omega
    simp only [e]
theorem gat_lt : ∀ {Γ : Gam} {i : Nat} {s : Sl}, gat Γ i = some s → i < Γ.length
  | [], _, _, h => by cases h
  | _ :: _, 0, _, _ => Nat.zero_lt_succ _
  | _ :: l, i + 1, _, h => Nat.succ_lt_succ (gat_lt (Γ := l) h)
def allD : Gam → Gam
  | [] => []
  | some (.o ds) :: l => some (.d (.list ds)) :: allD l
  | some (.d x) :: l => some (.d x) :: allD l
  | none :: l => none :: allD l
def unO : Option Sl → Option Sl
  | some (.o ds) => some (.d (.list ds))
  | s => s
theorem allD_gat : ∀ (Γ : Gam) (i : Nat), gat (allD Γ) i = unO (gat Γ i)
  | [], _ => rfl
  | some (.o ds) :: l, 0 => rfl
  | some (.d x) :: l, 0 => rfl
  | none :: l, 0 => rfl
  | some (.o ds) :: l, i + 1 => allD_gat l i
  | some (.d x) :: l, i + 1 => allD_gat l i
  | none :: l, i + 1 => allD_gat l i
def wipeG (Γ : Gam) : List Nat → Gam
  | [] => Γ
  | v :: vs => (wipeG Γ vs).set v none
theorem wipeG_len (Γ : Gam) : ∀ vs : List Nat, (wipeG Γ vs).length = Γ.length
  | [] => rfl
  | v :: vs => by unfold wipeG; rw [List.length_set, wipeG_len Γ vs]
theorem wipeG_some {Γ : Gam} {i : Nat} {s : Sl} : ∀ {vs : List Nat}, gat (wipeG Γ vs) i = some s → gat Γ i = some s ∧ i ∉ vs
  | [], h => ⟨h, by simp⟩
  | v :: vs, h => by
    unfold wipeG at h
    rw [gat_set] at h
    by_cases c : v = i ∧ v < (wipeG Γ vs).length
    · rw [if_pos c] at h
      cases h
    · rw [if_neg c] at h
      have l := gat_lt h
      obtain ⟨h1, h2⟩ := wipeG_some h
      refine ⟨h1, fun z => ?_⟩
      rcases List.mem_cons.mp z with z | z
      · exact c ⟨z.symm, by rw [← z]; exact l⟩
      · exact h2 z
section
variable {K : PySem.W.Frag}
structure RelD (K : PySem.W.Frag) (b : Hp) (Γ : Gam) (σ : L2.St) : Prop where
  len : σ.length = Γ.length
  d : ∀ i x, gat Γ i = some (.d x) → ∃ v, σ[i]? = some (some v) ∧ Dt K b v x
theorem RelD.up {b b' : Hp} {Γ : Gam} {σ : L2.St} (r : RelD K b Γ σ) (e : Ex b b') : RelD K b' Γ σ := ⟨r.len, fun i x h => by
  obtain ⟨v, h1, h2⟩ := r.d i x h
  exact ⟨v, h1, h2.up e⟩⟩
theorem RelD.set {b : Hp} {Γ : Gam} {σ : L2.St} (r : RelD K b Γ σ) {i : Nat} {v : V} {x : PyData} (h : Dt K b v x) : RelD K b (Γ.set i (some (.d x))) (σ.set i (some v)) := by
  refine ⟨by rw [List.length_set, List.length_set, r.len], fun j y e => ?_⟩
  rw [gat_set] at e
  by_cases c : i = j ∧ i < Γ.length
  · rw [if_pos c] at e
    obtain ⟨rfl, c⟩ := c
    cases e
    exact ⟨v, by rw [List.getElem?_set_self (by rw [r.len]; exact c)], h⟩
  · rw [if_neg c] at e
    have hj := gat_lt e
    have hij : i ≠ j := fun z => c ⟨z, by rw [z]; exact hj⟩
    rw [List.getElem?_set_ne hij]
    exact r.d j y e
theorem RelD.wipe {b : Hp} {Γ : Gam} {σ : L2.St} (r : RelD K b Γ σ) (vs : List Nat) : RelD K b (wipeG Γ vs) (L2.wipe σ vs) := by
  refine ⟨by rw [wipe_length, wipeG_len, r.len], fun j y e => ?_⟩
  obtain ⟨h1, h2⟩ := wipeG_some e
  rw [L2.wipe_out h2]
  exact r.d j y h1
end
end Md
namespace Md
open PySem L2 Evl
def EXA (K : PySem.W.Frag) (ta : TA) (σ : L2.St) (b : Hp) (P : List PyData → Prop) : Prop := ∀ h, Ex b h → ∀ Q : List V → Hp → Prop, (∀ vs b' h' ds, Gr b h b' h' → P ds → DtA K b' vs ds → Q vs h') → ta σ h Q
def ENX (K : PySem.W.Frag) (te : TE) (σ : L2.St) (b : Hp) (P : List PyData → Prop) : Prop := ∀ h, Ex b h → ∀ Q : VK, (∀ p us b' h' ds, h p = none → b' p = none → Gr b h b' h' → h' p = some (.lst us) → DtA K b' us ds → P ds → Q (.ref p) h') → te σ h Q
def ETX (tt : TT) (σ : L2.St) (b : Hp) (P : Bool → Prop) : Prop := ∀ h, Ex b h → ∀ Q : Bool → Hp → Prop, (∀ c h', Ex h h' → P c → Q c h') → tt σ h Q
def EOX (to : TO) (σ : L2.St) (b : Hp) (P : Option Int → Prop) : Prop := ∀ h, Ex b h → ∀ Q : Option Int → Hp → Prop, (∀ c h', Ex h h' → P c → Q c h') → to σ h Q
def SimE (K : PySem.W.Frag) (te : TE) (de : DE) : Prop := ∀ σ Γ b, RelD K b Γ σ → ∀ P, de Γ P → EX K te σ b P
def SimA (K : PySem.W.Frag) (ta : TA) (da : DN) : Prop := ∀ σ Γ b, RelD K b Γ σ → ∀ P, da Γ P → EXA K ta σ b P
def SimN (K : PySem.W.Frag) (te : TE) (dn : DN) : Prop := ∀ σ Γ b, RelD K b Γ σ → ∀ P, dn Γ P → ENX K te σ b P
def SimT (K : PySem.W.Frag) (tt : TT) (dt : DT) : Prop := ∀ σ Γ b, RelD K b Γ σ → ∀ P, dt Γ P → ETX tt σ b P
def SimO (K : PySem.W.Frag) (to : TO) (dd : DO) : Prop := ∀ σ Γ b, RelD K b Γ σ → ∀ P, dd Γ P → EOX to σ b P
def onI : PyData → (Int → Prop) → Prop
  | .int i, k => k i
  | _, _ => False
def onB : PyData → (Bool → Prop) → Prop
  | .bool i, k => k i
  | _, _ => False
def onL : PyData → (List PyData → Prop) → Prop
  | .list i, k => k i
  | _, _ => False
def onT : PyData → (List PyData → Prop) → Prop
  | .tuple i, k => k i
  | _, _ => False
theorem onI_is {x : PyData} {k : Int → Prop} (h : onI x k) : ∃ i, x = .int i ∧ k i := by
  cases x with
  | int i => exact ⟨i, rfl, h⟩
  | _ => cases h
theorem onB_is {x : PyData} {k : Bool → Prop} (h : onB x k) : ∃ i, x = .bool i ∧ k i := by
  cases x with
  | bool i => exact ⟨i, rfl, h⟩
  | _ => cases h
theorem onL_is {x : PyData} {k : List PyData → Prop} (h : onL x k) : ∃ i, x = .list i ∧ k i := by
  cases x with
  | list i => exact ⟨i, rfl, h⟩
  | _ => cases h
theorem onT_is {x : PyData} {k : List PyData → Prop} (h : onT x k) : ∃ i, x = .tuple i ∧ k i := by
  cases x with
  | tuple i => exact ⟨i, rfl, h⟩
  | _ => cases h
def dVar (i : Nat) : DE := fun Γ P => match gat Γ i with
  | some (.d x) => P x
  | _ => False
def dC (d : PyData) : DE := fun _ P => P d
def dTup (da : DN) : DE := fun Γ P => da Γ fun ds => ds.length ≤ 100000 ∧ P (.tuple ds)
def dLst (da : DN) : DN := fun Γ P => da Γ fun ds => ds.length ≤ 100000 ∧ P ds
def dOfN (dn : DN) : DE := fun Γ P => dn Γ fun ds => P (.list ds)
def dNil : DN := fun _ P => P []
def dCons (de : DE) (da : DN) : DN := fun Γ P => de Γ fun x => da Γ fun ds => P (x :: ds)
def dII (da db : DE) (g : Int → Int → (PyData → Prop) → Prop) : DE := fun Γ P => da Γ fun x => db Γ fun y => onI x fun i => onI y fun j => g i j P
def dAdd (da db : DE) : DE := dII da db fun i j P => P (.int (i + j))
def dSub (da db : DE) : DE := dII da db fun i j P => P (.int (i - j))
def dMul (da db : DE) : DE := dII da db fun i j P => CMul i j ∧ P (.int (i * j))
def dMulW (da db : DE) : DE := dII da db fun i j P => CMulW i j ∧ P (.int (i * j))
def dLt (da db : DE) : DE := dII da db fun i j P => P (.bool (decide (i < j)))
def dLe (da db : DE) : DE := dII da db fun i j P => P (.bool (decide (i ≤ j)))
def dGt (da db : DE) : DE := dII da db fun i j P => P (.bool (decide (j < i)))
def dGe (da db : DE) : DE := dII da db fun i j P => P (.bool (decide (j ≤ i)))
def dIxL (da db : DE) : DE := fun Γ P => da Γ fun x => db Γ fun y => onL x fun ds => onI y fun i => ∃ d, L2.atI ds i = some d ∧ P d
def dIxT (da db : DE) : DE := fun Γ P => da Γ fun x => db Γ fun y => onT x fun ds => onI y fun i => ∃ d, L2.atI ds i = some d ∧ P d
def dEqD (da db : DE) : DE := fun Γ P => da Γ fun x => db Γ fun y => SeqAt.shaped x = true ∧ SeqAt.shaped y = true ∧ P (.bool (PyData.eqv x y))
def dNeD (da db : DE) : DE := fun Γ P => da Γ fun x => db Γ fun y => SeqAt.shaped x = true ∧ SeqAt.shaped y = true ∧ P (.bool (!PyData.eqv x y))
def eqS : PyData → PyData → Option Bool
  | .int i, .int j => some (decide (i = j))
  | .str i, .str j => some (decide (i = j))
  | .bool i, .bool j => some (decide (i = j))
  | .none, .none => some true
  | .int _, .none => some false
  | .none, .int _ => some false
  | _, _ => none
def dEqS (da db : DE) : DE := fun Γ P => da Γ fun x => db Γ fun y => ∃ c, eqS x y = some c ∧ P (.bool c)
def dNeS (da db : DE) : DE := fun Γ P => da Γ fun x => db Γ fun y => ∃ c, eqS x y = some c ∧ P (.bool (!c))
def dIsN (da : DE) : DE := fun Γ P => da Γ fun x => P (.bool (isNo x))
def dNotN (da : DE) : DE := fun Γ P => da Γ fun x => P (.bool (!isNo x))
def dIf (dt : DT) (da db : DE) : DE := fun Γ P => dt Γ fun c => if c = true then da Γ P else db Γ P
def dTest (de : DE) : DT := fun Γ P => de Γ fun x => onB x P
def dNot (dt : DT) : DT := fun Γ P => dt Γ fun c => P (!c)
def dAnd (dt du : DT) : DT := fun Γ P => dt Γ fun c => if c = true then du Γ P else P false
def dOr (dt du : DT) : DT := fun Γ P => dt Γ fun c => if c = true then P true else du Γ P
def dYes : DT := fun _ P => P true
def dAndV (da db : DE) : DE := fun Γ P => da Γ fun x => onB x fun c => if c = true then db Γ P else P (.bool false)
def dOrV (da db : DE) : DE := fun Γ P => da Γ fun x => onB x fun c => if c = true then P (.bool true) else db Γ P
def dNotV (da : DE) : DE := fun Γ P => da Γ fun x => onB x fun c => P (.bool (!c))
def dPNone : DO := fun _ P => P none
def dPart (de : DE) : DO := fun Γ P => de Γ fun x => onI x fun i => P (some i)
def dSl (de : DE) (dl dh : DO) : DN := fun Γ P => de Γ fun x => dl Γ fun l => dh Γ fun u => onL x fun ds => P (cutD ds l u)
def dCat (da db : DE) : DN := fun Γ P => da Γ fun x => db Γ fun y => onL x fun ds => onL y fun es => ds.length + es.length ≤ 100000 ∧ P (ds ++ es)
def dRep (da db : DE) : DN := fun Γ P => da Γ fun x => db Γ fun y => onL x fun ds => onI y fun k => (0 ≤ k ∧ ds.length * k.toNat ≤ 100000 ∧ k < 2 ^ 63) ∧ P (List.replicate k.toNat ds).flatten
def onSq : PyData → (List PyData → Prop) → Prop
  | .list i, k => k i
  | .tuple i, k => k i
  | _, _ => False
def dLen (da : DE) : DE := fun Γ P => da Γ fun x => onSq x fun ds => P (.int (ds.length : Int))
def dListOf (da : DE) : DN := fun Γ P => da Γ fun x => onSq x P
def dInt1 (da : DE) : DE := fun Γ P => da Γ fun x => match x with
  | .int i => P (.int i)
  | .bool c => P (.int (if c then 1 else 0))
  | _ => False
def dAbs (da : DE) : DE := fun Γ P => da Γ fun x => onI x fun i => P (.int (i.natAbs : Int))
abbrev Con := List PyData → (PyData → Prop) → Prop
def spP (K : PySem.W.Frag) (R : Con) : Sp := fun vs h Q _ => ∃ (b : Hp) (ds : List PyData) (P : PyData → Prop), Ex b h ∧ DtA K b vs ds ∧ R ds P ∧ ∀ v b' h' x, Gr b h b' h' → P x → Dt K b' v x → Q v h'
abbrev ConN := List PyData → (List PyData → Prop) → Prop
def spN (K : PySem.W.Frag) (R : ConN) : Sp := fun vs h Q _ => ∃ (b : Hp) (ds : List PyData) (P : List PyData → Prop), Ex b h ∧ DtA K b vs ds ∧ R ds P ∧ ∀ p us b' h' xs, h p = none → b' p = none → Gr b h b' h' → h' p = some (.lst us) → DtA K b' us xs → P xs → Q (.ref p) h'
def dCall (R : Con) (da : DN) : DE := fun Γ P => da Γ fun ds => R ds P
def dCallN (R : ConN) (da : DN) : DN := fun Γ P => da Γ fun ds => R ds P
def dCallK (n m : Nat) (R : Con) (da dk : DN) : DE := fun Γ P => da Γ fun ds => dk Γ fun es => ds.length = n ∧ es.length = m ∧ R (ds ++ es) P
def dCallKN (n m : Nat) (R : ConN) (da dk : DN) : DN := fun Γ P => da Γ fun ds => dk Γ fun es => ds.length = n ∧ es.length = m ∧ R (ds ++ es) P
section
variable {K : PySem.W.Frag} {te ta tb : TE} {ts tk tr : TA} {da db de : DE} {dn dr dk : DN} {tt tu : TT} {dt du : DT} {E : XK} {R : Con} {RN : ConN}
theorem EXA.up {σ : L2.St} {b b' : Hp} {P : List PyData → Prop} (x : EXA K ts σ b P) (e : Ex b b') : EXA K ts σ b' P := fun h e1 _ q => x h (e.trans e1) _ fun v b2 h2 d g hp hv => by
  obtain ⟨b3, g3, e3, _⟩ := g.back e e1
  exact q v b3 h2 d g3 hp (hv.up e3)
theorem z_var {i : Nat} : SimE K (tVar i) (dVar i) := fun σ Γ b r P hp h e Q q => by
  unfold dVar at hp
  cases g : gat Γ i with
  | none =>
    rw [g] at hp
    cases hp
  | some s =>
    rw [g] at hp
    cases s with
    | o ds => cases hp
    | d x =>
      obtain ⟨v, hv, hd⟩ := r.d i x g
      exact ⟨v, hv, q v b h x (Gr.refl e) hp hd⟩
theorem z_c {v : V} {d : PyData} (hd : ∀ H, Dt K H v d) : SimE K (tC v) (dC d) := fun σ Γ b r P hp h e Q q => q v b h d (Gr.refl e) hp (hd b)
theorem z_i {i : Int} : SimE K (tC (.int i)) (dC (.int i)) := z_c fun _ => Dt.int i
theorem z_s {i : Str} : SimE K (tC (.str i)) (dC (.str i)) := z_c fun _ => Dt.str i
theorem z_b {i : Bool} : SimE K (tC (.bl i)) (dC (.bool i)) := z_c fun _ => Dt.bool i
theorem z_n : SimE K (tC .non) (dC .none) := z_c fun _ => Dt.none
theorem z_nil : SimA K tNil dNil := fun σ Γ b r P hp h e Q q => q [] b h [] (Gr.refl e) hp DtA.nil
theorem z_cons (x : SimE K te de) (y : SimA K tr dr) : SimA K (tCons te tr) (dCons de dr) := fun σ Γ b r P hp h e Q q => x σ Γ b r _ hp h e _ fun v b2 h2 d g2 hp2 hv =>
  y σ Γ b2 (r.up g2.gb) _ hp2 h2 g2.gi _ fun vs b3 h3 ds g3 hp3 hvs => q (v :: vs) b3 h3 (d :: ds) (g2.trans g3) hp3 (DtA.cons (hv.up g3.gb) hvs)
theorem z_tup (x : SimA K ts dn) : SimE K (tTup ts) (dTup dn) := fun σ Γ b r P hp h e Q q => x σ Γ b r _ hp h e _ fun vs b2 h2 ds g2 hp2 hvs =>
  ⟨sz_of (by rw [hvs.length]; exact hp2.1), fun p hpn => q (.ref p) _ _ (.tuple ds) (g2.trans (Gr.new g2.gi hpn)) hp2.2 (Dt.tuple (st_of upd_same) (hvs.up (Ex.new (none_of g2.gi hpn))))⟩
theorem z_lst (x : SimA K ts dn) : SimN K (tLst ts) (dLst dn) := fun σ Γ b r P hp h e Q q => x σ Γ b r _ hp h e _ fun vs b2 h2 ds g2 hp2 hvs =>
  ⟨sz_of (by rw [hvs.length]; exact hp2.1), fun p hpn => q p vs b2 _ ds (gone g2 hpn) (none_of g2.gi hpn) (g2.trans (Gr.hid g2.gi hpn)) upd_same hvs hp2.2⟩
theorem z_ofN (x : SimN K te dn) : SimE K te (dOfN dn) := fun σ Γ b r P hp h e Q q => x σ Γ b r _ hp h e _ fun p us b2 h2 ds np nb g2 hpu hv hp2 =>
  q (.ref p) _ h2 (.list ds) (g2.tell np nb hpu) hp2 (Dt.list upd_same (hv.up (Ex.new nb)))
theorem z_two {r2 : R2} {g : PyData → PyData → (PyData → Prop) → Prop} (x : SimE K ta da) (y : SimE K tb db)
    (hr : ∀ (b h : Hp) (v w : V) (d d' : PyData) (P : PyData → Prop) (Q : VK), Ex b h → Dt K b v d → Dt K b w d' → g d d' P → (∀ v b' h' d, Gr b h b' h' → P d → Dt K b' v d → Q v h') → r2 v w h Q) :
    SimE K (tOp r2 ta tb) (fun Γ P => da Γ fun x => db Γ fun y => g x y P) := fun σ Γ b r P hp h e Q q =>
  x σ Γ b r _ hp h e _ fun v b2 h2 d g2 hp2 hv => y σ Γ b2 (r.up g2.gb) _ hp2 h2 g2.gi _ fun w b3 h3 d' g3 hp3 hw =>
    hr b3 h3 v w d d' P Q g3.gi (hv.up g3.gb) hw hp3 fun v b4 h4 d4 g4 hp4 hv4 => q v b4 h4 d4 ((g2.trans g3).trans g4) hp4 hv4
theorem z_II {C : Int → Int → Prop} {g : Int → Int → V} {G : Int → Int → PyData} (hg : ∀ i j H, Dt K H (g i j) (G i j)) (x : SimE K ta da) (y : SimE K tb db) :
    SimE K (tOp (rI C g) ta tb) (dII da db fun i j P => C i j ∧ P (G i j)) :=
  z_two x y fun b h v w d d' P Q e hv hw hp q => by
    obtain ⟨i, rfl, hp1⟩ := onI_is hp
    obtain ⟨j, rfl, hp2⟩ := onI_is hp1
    exact ⟨i, j, hv.intI, hw.intI, hp2.1, q _ b h _ (Gr.refl e) hp2.2 (hg i j b)⟩
theorem z_II0 {g : Int → Int → V} {G : Int → Int → PyData} (hg : ∀ i j H, Dt K H (g i j) (G i j)) (x : SimE K ta da) (y : SimE K tb db) :
    SimE K (tOp (rI0 g) ta tb) (dII da db fun i j P => P (G i j)) :=
  z_two x y fun b h v w d d' P Q e hv hw hp q => by
    obtain ⟨i, rfl, hp1⟩ := onI_is hp
    obtain ⟨j, rfl, hp2⟩ := onI_is hp1
    exact ⟨i, j, hv.intI, hw.intI, q _ b h _ (Gr.refl e) hp2 (hg i j b)⟩
theorem z_ixL (x : SimE K ta da) (y : SimE K tb db) : SimE K (tOp (rIxL K) ta tb) (dIxL da db) :=
  z_two x y fun b h v w d d' P Q e hv hw hp q => by
    obtain ⟨ds, rfl, hp⟩ := onL_is hp
    obtain ⟨i, rfl, hp⟩ := onI_is hp
    obtain ⟨z, hz, hp⟩ := hp
    obtain ⟨a, xs, rfl, k1, k2⟩ := hv.listI
    obtain ⟨u, hu, hd⟩ := k2.atI hz
    exact ⟨a, xs, i, u, rfl, hw.intI, sq_of (e _ _ k1), hu, q u b h z (Gr.refl e) hp hd⟩
theorem z_ixT (x : SimE K ta da) (y : SimE K tb db) : SimE K (tOp (rIxT K) ta tb) (dIxT da db) :=
  z_two x y fun b h v w d d' P Q e hv hw hp q => by
    obtain ⟨ds, rfl, hp⟩ := onT_is hp
    obtain ⟨i, rfl, hp⟩ := onI_is hp
    obtain ⟨z, hz, hp⟩ := hp
    obtain ⟨a, xs, rfl, k1, k2⟩ := hv.tupleI
    obtain ⟨u, hu, hd⟩ := k2.atI hz
    exact ⟨a, xs, i, u, rfl, hw.intI, ex_t e k1, hu, q u b h z (Gr.refl e) hp hd⟩
theorem z_neD (x : SimE K ta da) (y : SimE K tb db) : SimE K (tOp (rNeD K) ta tb) (dNeD da db) :=
  z_two x y fun b h v w d d' P Q e hv hw hp q => ⟨d, d', Dt.dp _ _ (hv.up e), Dt.dp _ _ (hw.up e), hp.1, hp.2.1, q _ b h _ (Gr.refl e) hp.2.2 (Dt.bool _)⟩
theorem eqS_V {b : Hp} {v w : V} {d d' : PyData} {c : Bool} (hv : Dt K b v d) (hw : Dt K b w d') (h : eqS d d' = some c) : L2.scal v w = true ∧ decide (v = w) = c := by
  cases hv <;> cases hw <;> first
    | (cases h; done)
    | (simp only [eqS, Option.some.injEq] at h
       subst h
       refine ⟨rfl, ?_⟩
       first | (simp only [decide_eq_decide, V.int.injEq, V.str.injEq, V.bl.injEq]; done) | rfl | simp)
theorem z_eqS (x : SimE K ta da) (y : SimE K tb db) : SimE K (tOp rEq ta tb) (dEqS da db) :=
  z_two x y fun b h v w d d' P Q e hv hw hp q => by
    obtain ⟨c, hc, hp⟩ := hp
    obtain ⟨h1, h2⟩ := eqS_V hv hw hc
    refine ⟨h1, ?_⟩
    rw [h2]
    exact q _ b h _ (Gr.refl e) hp (Dt.bool _)
theorem z_neS (x : SimE K ta da) (y : SimE K tb db) : SimE K (tOp rNe ta tb) (dNeS da db) :=
  z_two x y fun b h v w d d' P Q e hv hw hp q => by
    obtain ⟨c, hc, hp⟩ := hp
    obtain ⟨h1, h2⟩ := eqS_V hv hw hc
    refine ⟨h1, ?_⟩
    rw [h2]
    exact q _ b h _ (Gr.refl e) hp (Dt.bool _)
end
end Md
namespace Md
open PySem L2 Evl
section
variable {K : PySem.W.Frag} {te ta tb : TE} {ts tk tr : TA} {da db de : DE} {dn dr dk : DN} {tt tu : TT} {dt du : DT} {E : XK} {R : Con} {RN : ConN} {tl th : TO} {dl dh : DO}
theorem z_add (x : SimE K ta da) (y : SimE K tb db) : SimE K (tOp (rI0 fun i j => .int (i + j)) ta tb) (dAdd da db) := z_II0 (fun _ _ _ => Dt.int _) x y
theorem z_mulW (x : SimE K ta da) (y : SimE K tb db) : SimE K (tOp (rI CMulW fun i j => .int (i * j)) ta tb) (dMulW da db) := z_II (fun _ _ _ => Dt.int _) x y
theorem z_lt (x : SimE K ta da) (y : SimE K tb db) : SimE K (tOp (rI0 fun i j => .bl (decide (i < j))) ta tb) (dLt da db) := z_II0 (fun _ _ _ => Dt.bool _) x y
theorem z_le (x : SimE K ta da) (y : SimE K tb db) : SimE K (tOp (rI0 fun i j => .bl (decide (i ≤ j))) ta tb) (dLe da db) := z_II0 (fun _ _ _ => Dt.bool _) x y
theorem z_isN (x : SimE K ta da) : SimE K (tOp rIsN ta (tC .non)) (dIsN da) := fun σ Γ b r P hp h e Q q => x σ Γ b r _ hp h e _ fun v b2 h2 d g2 hp2 hv => by
  have z := ev_isN (K := K) (σ := σ) (b := b2) (te := tC v) (ed_val hv ev_c) (r := isNo d) rfl h2 g2.gi Q fun h3 e3 => q _ b2 h3 _ (g2.trans (Gr.stay g2.gi e3)) hp2 (Dt.bool _)
  exact z
theorem z_test (x : SimE K te de) : SimT K (tTest te) (dTest de) := fun σ Γ b r P hp h e Q q => x σ Γ b r _ hp h e _ fun v b2 h2 d g2 hp2 hv => by
  obtain ⟨c, rfl, hc⟩ := onB_is hp2
  exact ⟨c, hv.boolI, q c h2 g2.gh hc⟩
theorem z_tB (x : SimE K te de) : SimT K (tB te) (dTest de) := fun σ Γ b r P hp h e Q q => x σ Γ b r _ hp h e _ fun v b2 h2 d g2 hp2 hv => by
  obtain ⟨c, rfl, hc⟩ := onB_is hp2
  exact ⟨c, hv.boolI, q c h2 g2.gh hc⟩
theorem z_not (x : SimT K tt dt) : SimT K (tNot tt) (dNot dt) := fun σ Γ b r P hp h e Q q => x σ Γ b r _ hp h e _ fun c h2 e2 hc => q _ h2 e2 hc
theorem z_and (x : SimT K tt dt) (y : SimT K tu du) : SimT K (tAnd tt tu) (dAnd dt du) := fun σ Γ b r P hp h e Q q => x σ Γ b r _ hp h e _ fun c h2 e2 hc => by
  cases c with
  | true => exact y σ Γ b r _ hc h2 (e.trans e2) _ fun c h3 e3 hc => q c h3 (e2.trans e3) hc
  | false => exact q false h2 e2 hc
theorem z_or (x : SimT K tt dt) (y : SimT K tu du) : SimT K (tOr tt tu) (dOr dt du) := fun σ Γ b r P hp h e Q q => x σ Γ b r _ hp h e _ fun c h2 e2 hc => by
  cases c with
  | true => exact q true h2 e2 hc
  | false => exact y σ Γ b r _ hc h2 (e.trans e2) _ fun c h3 e3 hc => q c h3 (e2.trans e3) hc
theorem z_yes : SimT K tYes dYes := fun σ Γ b r P hp h e Q q => q true h (Ex.refl h) hp
theorem z_andV (x : SimE K ta da) (y : SimE K tb db) : SimE K (tAndV ta tb) (dAndV da db) := fun σ Γ b r P hp h e Q q => x σ Γ b r _ hp h e _ fun v b2 h2 d g2 hp2 hv => by
  obtain ⟨c, rfl, hc⟩ := onB_is hp2
  refine ⟨c, hv.boolI, ?_⟩
  cases c with
  | true => exact y σ Γ b2 (r.up g2.gb) _ hc h2 g2.gi _ fun v b3 h3 d g3 hp3 hv => q v b3 h3 d (g2.trans g3) hp3 hv
  | false => exact q _ b2 h2 _ g2 hc (Dt.bool _)
theorem z_notV (x : SimE K ta da) : SimE K (tNotV ta) (dNotV da) := fun σ Γ b r P hp h e Q q => x σ Γ b r _ hp h e _ fun v b2 h2 d g2 hp2 hv => by
  obtain ⟨c, rfl, hc⟩ := onB_is hp2
  exact ⟨c, hv.boolI, q _ b2 h2 _ g2 hc (Dt.bool _)⟩
theorem z_pnone : SimO K tNoPart dPNone := fun σ Γ b r P hp h e Q q => q none h (Ex.refl h) hp
theorem z_part (x : SimE K te de) : SimO K (tPart te) (dPart de) := fun σ Γ b r P hp h e Q q => x σ Γ b r _ hp h e _ fun v b2 h2 d g2 hp2 hv => by
  obtain ⟨i, rfl, hc⟩ := onI_is hp2
  exact ⟨i, hv.intI, q _ h2 g2.gh hc⟩
theorem z_sl (x : SimE K te de) (y : SimO K tl dl) (z : SimO K th dh) : SimN K (tSl (rSlL K) te tl th) (dSl de dl dh) := fun σ Γ b r P hp h e Q q => x σ Γ b r _ hp h e _ fun v b2 h2 d g2 hp2 hv =>
  y σ Γ b2 (r.up g2.gb) _ hp2 h2 g2.gi _ fun l h3 e3 hp3 => z σ Γ b2 (r.up g2.gb) _ hp3 h3 (g2.gi.trans e3) _ fun u h4 e4 hp4 => by
    obtain ⟨ds, rfl, hp5⟩ := onL_is hp4
    obtain ⟨a, xs, rfl, k1, k2⟩ := hv.listI
    have g4 := g2.trans (Gr.stay g2.gi (e3.trans e4))
    exact ⟨a, xs, rfl, sq_of (g4.gi _ _ k1), fun p hpn => q p _ b2 _ _ (gone g4 hpn) (none_of g4.gi hpn) (g4.trans (Gr.hid g4.gi hpn)) upd_same (k2.cut l u) hp5⟩
theorem z_twoN {r2 : R2} {g : PyData → PyData → (List PyData → Prop) → Prop} (x : SimE K ta da) (y : SimE K tb db)
    (hr : ∀ (b h : Hp) (v w : V) (d d' : PyData) (P : List PyData → Prop) (Q : VK), Ex b h → Dt K b v d → Dt K b w d' → g d d' P → (∀ p us ds, h p = none → DtA K b us ds → P ds → Q (.ref p) (upd h p (.lst us))) → r2 v w h Q) :
    SimN K (tOp r2 ta tb) (fun Γ P => da Γ fun x => db Γ fun y => g x y P) := fun σ Γ b r P hp h e Q q =>
  x σ Γ b r _ hp h e _ fun v b2 h2 d g2 hp2 hv => y σ Γ b2 (r.up g2.gb) _ hp2 h2 g2.gi _ fun w b3 h3 d' g3 hp3 hw =>
    hr b3 h3 v w d d' P Q g3.gi (hv.up g3.gb) hw hp3 fun p us ds np hu hp4 => by
      have g4 := g2.trans g3
      exact q p us b3 _ ds (gone g4 np) (none_of g4.gi np) (g4.trans (Gr.hid g4.gi np)) upd_same hu hp4
theorem z_cat (x : SimE K ta da) (y : SimE K tb db) : SimN K (tOp rCat ta tb) (dCat da db) :=
  z_twoN x y fun b h v w d d' P Q e hv hw hp q => by
    obtain ⟨ds, rfl, hp1⟩ := onL_is hp
    obtain ⟨es, rfl, hp2⟩ := onL_is hp1
    obtain ⟨a, xs, rfl, k1, k2⟩ := hv.listI
    obtain ⟨c, ys, rfl, l1, l2⟩ := hw.listI
    exact ⟨a, c, xs, ys, rfl, rfl, e _ _ k1, e _ _ l1, sz_of (by rw [k2.length, l2.length]; exact hp2.1), fun p np => q p _ _ np (k2.append l2) hp2.2⟩
theorem dta_flat {b : Hp} {xs : List V} {ds : List PyData} (h : DtA K b xs ds) : ∀ n : Nat, DtA K b (List.replicate n xs).flatten (List.replicate n ds).flatten
  | 0 => DtA.nil
  | n + 1 => by
    rw [List.replicate_succ, List.replicate_succ, List.flatten_cons, List.flatten_cons]
    exact h.append (dta_flat h n)
theorem z_rep (x : SimE K ta da) (y : SimE K tb db) : SimN K (tOp rRep ta tb) (dRep da db) :=
  z_twoN x y fun b h v w d d' P Q e hv hw hp q => by
    obtain ⟨ds, rfl, hp1⟩ := onL_is hp
    obtain ⟨k, rfl, hp2⟩ := onI_is hp1
    obtain ⟨⟨h0, h1, h9⟩, hp3⟩ := hp2
    obtain ⟨a, xs, rfl, k1, k2⟩ := hv.listI
    exact ⟨a, k, xs, rfl, hw.intI, e _ _ k1, by omega, h9, sz_of (by rw [k2.length]; exact h1), fun p np => q p _ _ np (dta_flat k2 _) hp3⟩
theorem z_one {r1 : List V → Hp → VK → Prop} {g : PyData → (PyData → Prop) → Prop} (x : SimE K ta da)
    (hr : ∀ (b h : Hp) (v : V) (d : PyData) (P : PyData → Prop) (Q : VK), Ex b h → Dt K b v d → g d P → (∀ v b' h' d, Gr b h b' h' → P d → Dt K b' v d → Q v h') → r1 [v] h Q) :
    SimE K (tCB r1 (tCons ta tNil)) (fun Γ P => da Γ fun x => g x P) := fun σ Γ b r P hp h e Q q =>
  x σ Γ b r _ hp h e _ fun v b2 h2 d g2 hp2 hv => hr b2 h2 v d P Q g2.gi hv hp2 fun v b3 h3 d3 g3 hp3 hv3 => q v b3 h3 d3 (g2.trans g3) hp3 hv3
theorem z_oneN {r1 : List V → Hp → VK → Prop} {g : PyData → (List PyData → Prop) → Prop} (x : SimE K ta da)
    (hr : ∀ (b h : Hp) (v : V) (d : PyData) (P : List PyData → Prop) (Q : VK), Ex b h → Dt K b v d → g d P → (∀ p us ds, h p = none → DtA K b us ds → P ds → Q (.ref p) (upd h p (.lst us))) → r1 [v] h Q) :
    SimN K (tCB r1 (tCons ta tNil)) (fun Γ P => da Γ fun x => g x P) := fun σ Γ b r P hp h e Q q =>
  x σ Γ b r _ hp h e _ fun v b2 h2 d g2 hp2 hv => hr b2 h2 v d P Q g2.gi hv hp2 fun p us ds np hu hp3 =>
    q p us b2 _ ds (gone g2 np) (none_of g2.gi np) (g2.trans (Gr.hid g2.gi np)) upd_same hu hp3
theorem z_twoC {r1 : List V → Hp → VK → Prop} {g : PyData → PyData → (PyData → Prop) → Prop} (x : SimE K ta da) (y : SimE K tb db)
    (hr : ∀ (b h : Hp) (v w : V) (d d' : PyData) (P : PyData → Prop) (Q : VK), Ex b h → Dt K b v d → Dt K b w d' → g d d' P → (∀ v b' h' d, Gr b h b' h' → P d → Dt K b' v d → Q v h') → r1 [v, w] h Q) :
    SimE K (tCB r1 (tCons ta (tCons tb tNil))) (fun Γ P => da Γ fun x => db Γ fun y => g x y P) := fun σ Γ b r P hp h e Q q =>
  x σ Γ b r _ hp h e _ fun v b2 h2 d g2 hp2 hv => y σ Γ b2 (r.up g2.gb) _ hp2 h2 g2.gi _ fun w b3 h3 d' g3 hp3 hw =>
    hr b3 h3 v w d d' P Q g3.gi (hv.up g3.gb) hw hp3 fun v b4 h4 d4 g4 hp4 hv4 => q v b4 h4 d4 ((g2.trans g3).trans g4) hp4 hv4
theorem onSq_is {x : PyData} {k : List PyData → Prop} (h : onSq x k) : ∃ i, (x = .list i ∨ x = .tuple i) ∧ k i := by
  cases x with
  | list i => exact ⟨i, .inl rfl, h⟩
  | tuple i => exact ⟨i, .inr rfl, h⟩
  | _ => cases h
theorem Dt.seqI {b h : Hp} {v : V} {x : PyData} {ds : List PyData} (hv : Dt K b v x) (e : Ex b h) (hx : x = .list ds ∨ x = .tuple ds) : ∃ a xs, v = V.ref a ∧ (SqL K h a xs ∨ SqT K h a xs) ∧ DtA K b xs ds := by
  rcases hx with rfl | rfl
  · obtain ⟨a, xs, rfl, k1, k2⟩ := hv.listI
    exact ⟨a, xs, rfl, .inl (sq_of (e _ _ k1)), k2⟩
  · obtain ⟨a, xs, rfl, k1, k2⟩ := hv.tupleI
    exact ⟨a, xs, rfl, .inr (ex_t e k1), k2⟩
theorem z_len (x : SimE K ta da) : SimE K (tCB (rLenS K) (tCons ta tNil)) (dLen da) := z_one (da := da) x fun b h v d P Q e hv hp q => by
  obtain ⟨ds, hx, hp⟩ := onSq_is hp
  obtain ⟨a, xs, rfl, h1, h2⟩ := hv.seqI e hx
  refine ⟨a, xs, rfl, h1, ?_⟩
  rw [h2.length]
  exact q _ b h _ (Gr.refl e) hp (Dt.int _)
theorem z_list (x : SimE K ta da) : SimN K (tCB (rListS K) (tCons ta tNil)) (dListOf da) := z_oneN (da := da) x fun b h v d P Q e hv hp q => by
  obtain ⟨ds, hx, hp⟩ := onSq_is hp
  obtain ⟨a, xs, rfl, h1, h2⟩ := hv.seqI e hx
  exact ⟨a, xs, rfl, h1, fun l hl => q l xs ds hl h2 hp⟩
theorem z_int1 (x : SimE K ta da) : SimE K (tCB rInt1 (tCons ta tNil)) (dInt1 da) := z_one (da := da) x fun b h v d P Q e hv hp q => by
  cases d with
  | int i => exact .inl ⟨i, by rw [hv.intI], q _ b h _ (Gr.refl e) hp (Dt.int _)⟩
  | bool i => exact .inr ⟨i, by rw [hv.boolI], q _ b h _ (Gr.refl e) hp (Dt.int _)⟩
  | _ => cases hp
theorem z_abs (x : SimE K ta da) : SimE K (tCB rAbs (tCons ta tNil)) (dAbs da) := z_one (da := da) x fun b h v d P Q e hv hp q => by
  obtain ⟨i, rfl, hp⟩ := onI_is hp
  refine ⟨i, by rw [hv.intI], ?_⟩
  have e3 : (if i < 0 then -i else i) = (i.natAbs : Int) := by split <;> omega
  rw [e3]
  exact q _ b h _ (Gr.refl e) hp (Dt.int _)
def dSum (da : DE) : DE := fun Γ P => da Γ fun x => ∃ ns : List Int, x = .list (ns.map PyData.int) ∧ P (.int ns.sum)
def dMax (da : DE) : DE := fun Γ P => da Γ fun x => ∃ ns : List Int, x = .list (ns.map PyData.int) ∧ 0 < ns.length ∧ ∀ m, m ∈ ns → (∀ y, y ∈ ns → y ≤ m) → P (.int m)
def dMin (da : DE) : DE := fun Γ P => da Γ fun x => ∃ ns : List Int, x = .list (ns.map PyData.int) ∧ 0 < ns.length ∧ ∀ m, m ∈ ns → (∀ y, y ∈ ns → m ≤ y) → P (.int m)
def dAll (da : DE) : DE := fun Γ P => da Γ fun x => ∃ bs : List Bool, x = .list (bs.map PyData.bool) ∧ P (.bool (bs.all id))
def dAny (da : DE) : DE := fun Γ P => da Γ fun x => ∃ bs : List Bool, x = .list (bs.map PyData.bool) ∧ P (.bool (bs.any id))
def dRepr (da : DE) : DE := fun Γ P => da Γ fun x => (∃ ds, x = .list ds ∨ x = .tuple ds) ∧ x.showable = true ∧ x.hasDict = false ∧ x.depth ≤ 60 ∧ x.shown.length ≤ sizeLine ∧ P (.str x.shown)
def dIsi (T : String) (da : DE) : DE := fun Γ P => da Γ fun x => ∃ c, kitB (kindD x) T = some c ∧ P (.bool c)
def dTupOf (da : DE) : DE := fun Γ P => da Γ fun x => onL x fun ds => P (.tuple ds)
def dMax2 (da db : DE) : DE := dII da db fun i j P => P (.int (if j > i then j else i))
def dMin2 (da db : DE) : DE := dII da db fun i j P => P (.int (if j < i then j else i))
def dGcd (da db : DE) : DE := dII da db fun i j P => P (.int ((Nat.gcd i.natAbs j.natAbs : Nat) : Int))
def dLcm (da db : DE) : DE := dII da db fun i j P => (i.natAbs < 2 ^ 13000 ∧ j.natAbs < 2 ^ 13000) ∧ P (.int ((Nat.lcm i.natAbs j.natAbs : Nat) : Int))
def dFdiv (da db : DE) : DE := dII da db fun i j P => CDivW i j ∧ P (.int (i / j))
def dModI (da db : DE) : DE := dII da db fun i j P => 0 < j ∧ P (.int (i % j))
def dNeg (da : DE) : DE := fun Γ P => da Γ fun x => onI x fun i => P (.int (-i))
def dInD (da db : DE) : DE := fun Γ P => da Γ fun x => db Γ fun y => onL y fun ds => SeqAt.shaped x = true ∧ SeqAt.shaped (.list ds) = true ∧ P (.bool (ds.any fun z => PyData.eqv z x))
def dNiD (da db : DE) : DE := fun Γ P => da Γ fun x => db Γ fun y => onL y fun ds => SeqAt.shaped x = true ∧ SeqAt.shaped (.list ds) = true ∧ P (.bool (!ds.any fun z => PyData.eqv z x))
theorem dta_ints {b : Hp} : ∀ {ns : List Int} {us : List V}, DtA K b us (ns.map PyData.int) → us = ns.map V.int
  | [], _, h => by
    cases h
    rfl
  | n :: ns, _, h => by
    cases h with
    | cons h1 h2 =>
      rw [h1.intI, dta_ints h2]
      rfl
theorem dta_bools {b : Hp} : ∀ {ns : List Bool} {us : List V}, DtA K b us (ns.map PyData.bool) → us = ns.map V.bl
  | [], _, h => by
    cases h
    rfl
  | n :: ns, _, h => by
    cases h with
    | cons h1 h2 =>
      rw [h1.boolI, dta_bools h2]
      rfl
theorem z_sum (x : SimE K ta da) : SimE K (tCB (rSum K) (tCons ta tNil)) (dSum da) := z_one (da := da) x fun b h v d P Q e hv hp q => by
  obtain ⟨ns, rfl, hp⟩ := hp
  obtain ⟨a, xs, rfl, k1, k2⟩ := hv.listI
  obtain rfl := dta_ints k2
  exact ⟨a, ns, rfl, sq_of (e _ _ k1), q _ b h _ (Gr.refl e) hp (Dt.int _)⟩
theorem z_max (x : SimE K ta da) : SimE K (tCB (rMax K) (tCons ta tNil)) (dMax da) := z_one (da := da) x fun b h v d P Q e hv hp q => by
  obtain ⟨ns, rfl, h0, hp⟩ := hp
  obtain ⟨a, xs, rfl, k1, k2⟩ := hv.listI
  obtain rfl := dta_ints k2
  exact ⟨a, ns, rfl, sq_of (e _ _ k1), h0, fun m h1 h2 => q _ b h _ (Gr.refl e) (hp m h1 h2) (Dt.int _)⟩
theorem z_min (x : SimE K ta da) : SimE K (tCB (rMin K) (tCons ta tNil)) (dMin da) := z_one (da := da) x fun b h v d P Q e hv hp q => by
  obtain ⟨ns, rfl, h0, hp⟩ := hp
  obtain ⟨a, xs, rfl, k1, k2⟩ := hv.listI
  obtain rfl := dta_ints k2
  exact ⟨a, ns, rfl, sq_of (e _ _ k1), h0, fun m h1 h2 => q _ b h _ (Gr.refl e) (hp m h1 h2) (Dt.int _)⟩
theorem z_all (x : SimE K ta da) : SimE K (tCB (rAll K) (tCons ta tNil)) (dAll da) := z_one (da := da) x fun b h v d P Q e hv hp q => by
  obtain ⟨ns, rfl, hp⟩ := hp
  obtain ⟨a, xs, rfl, k1, k2⟩ := hv.listI
  obtain rfl := dta_bools k2
  exact ⟨a, ns, rfl, sq_of (e _ _ k1), q _ b h _ (Gr.refl e) hp (Dt.bool _)⟩
theorem z_any (x : SimE K ta da) : SimE K (tCB (rAny K) (tCons ta tNil)) (dAny da) := z_one (da := da) x fun b h v d P Q e hv hp q => by
  obtain ⟨ns, rfl, hp⟩ := hp
  obtain ⟨a, xs, rfl, k1, k2⟩ := hv.listI
  obtain rfl := dta_bools k2
  exact ⟨a, ns, rfl, sq_of (e _ _ k1), q _ b h _ (Gr.refl e) hp (Dt.bool _)⟩
theorem z_repr (x : SimE K ta da) : SimE K (tCB (rRepr K) (tCons ta tNil)) (dRepr da) := z_one (da := da) x fun b h v d P Q e hv hp q => by
  obtain ⟨⟨ds, hx⟩, h1, h2, h3, h4, hp⟩ := hp
  obtain ⟨a, xs, rfl, k1, k2⟩ := hv.seqI e hx
  exact ⟨a, _, rfl, Dt.dp _ _ (hv.up e), h1, h2, h3, h4, q _ b h _ (Gr.refl e) hp (Dt.str _)⟩
theorem z_isi {T : String} (x : SimE K ta da) : SimE K (tCB (rIsi K) (tCons ta (tCons (tC (.ty T)) tNil))) (dIsi T da) := fun σ Γ b r P hp h e Q q => x σ Γ b r _ hp h e _ fun v b2 h2 d g2 hp2 hv => by
  obtain ⟨c, hk, hp⟩ := hp2
  exact ⟨v, .ty T, .type (kindD d), .type T, c, rfl, .ty _, (hv.up g2.gi).ty, kit_ty hk, q _ b2 h2 _ g2 hp (Dt.bool _)⟩
theorem z_max2 (x : SimE K ta da) (y : SimE K tb db) : SimE K (tCB rMax2 (tCons ta (tCons tb tNil))) (dMax2 da db) := z_twoC (da := da) (db := db) x y fun b h v w d d' P Q e hv hw hp q => by
  obtain ⟨i, rfl, hp1⟩ := onI_is hp
  obtain ⟨j, rfl, hp2⟩ := onI_is hp1
  exact ⟨i, j, by rw [hv.intI, hw.intI], q _ b h _ (Gr.refl e) hp2 (Dt.int _)⟩
theorem z_inD (x : SimE K ta da) (y : SimE K tb db) : SimE K (tOp (rInD K) ta tb) (dInD da db) :=
  z_two x y fun b h v w d d' P Q e hv hw hp q => by
    obtain ⟨ds, rfl, hp1⟩ := onL_is hp
    exact ⟨d, ds, Dt.dp _ _ (hv.up e), Dt.dp _ _ (hw.up e), hp1.1, hp1.2.1, q _ b h _ (Gr.refl e) hp1.2.2 (Dt.bool _)⟩
theorem z_niD (x : SimE K ta da) (y : SimE K tb db) : SimE K (tOp (rNotInD K) ta tb) (dNiD da db) :=
  z_two x y fun b h v w d d' P Q e hv hw hp q => by
    obtain ⟨ds, rfl, hp1⟩ := onL_is hp
    exact ⟨d, ds, Dt.dp _ _ (hv.up e), Dt.dp _ _ (hw.up e), hp1.1, hp1.2.1, q _ b h _ (Gr.refl e) hp1.2.2 (Dt.bool _)⟩
theorem z_call (x : SimA K ts dn) : SimE K (tCall (spP K R) [] E ts) (dCall R dn) := fun σ Γ b r P hp h e Q q => x σ Γ b r _ hp h e _ fun vs b2 h2 ds g2 hp2 hvs =>
  ⟨b2, ds, P, g2.gi, by rw [List.append_nil]; exact hvs, hp2, fun v b3 h3 d g3 hp3 hv => q v b3 h3 d (g2.trans g3) hp3 hv⟩
theorem z_callN (x : SimA K ts dn) : SimN K (tCall (spN K RN) [] E ts) (dCallN RN dn) := fun σ Γ b r P hp h e Q q => x σ Γ b r _ hp h e _ fun vs b2 h2 ds g2 hp2 hvs =>
  ⟨b2, ds, P, g2.gi, by rw [List.append_nil]; exact hvs, hp2, fun p us b3 h3 xs np nb g3 hpu hu hp3 => q p us b3 h3 xs (gone g2 np) nb (g2.trans g3) hpu hu hp3⟩
end
end Md
namespace Md
open PySem L2 Evl
section
variable {K : PySem.W.Frag} {te ta tb : TE} {ts tk tr : TA} {da db de : DE} {dn dr dk : DN} {tt tu : TT} {dt du : DT} {E : XK} {R : Con} {RN : ConN} {tl th : TO} {dl dh : DO}
theorem z_modI (x : SimE K ta da) (y : SimE K tb db) : SimE K (tOp (rI (fun _ j => 0 < j) fun i j => .int (i % j)) ta tb) (dModI da db) := z_II (fun _ _ _ => Dt.int _) x y
def dPow (da db : DE) : DE := dII da db fun i j P => CPow i j ∧ P (.int (i ^ j.toNat))
theorem z_neg (x : SimE K ta da) : SimE K (tUn (rU fun i => .int (-i)) ta) (dNeg da) := fun σ Γ b r P hp h e Q q => x σ Γ b r _ hp h e _ fun v b2 h2 d g2 hp2 hv => by
  obtain ⟨i, rfl, hp3⟩ := onI_is hp2
  exact ⟨i, hv.intI, q _ b2 h2 _ g2 hp3 (Dt.int _)⟩
theorem z_notN (x : SimE K ta da) : SimE K (tOp rNotN ta (tC .non)) (dNotN da) := fun σ Γ b r P hp h e Q q => x σ Γ b r _ hp h e _ fun v b2 h2 d g2 hp2 hv => by
  refine ⟨rfl, ?_⟩
  have e1 : decide (v = V.non) = isNo d := by
    cases d with
    | none => rw [hv.noneI] <;> rfl
    | bool k => rw [hv.boolI] <;> rfl
    | int k => rw [hv.intI] <;> rfl
    | str k => rw [hv.strI] <;> rfl
    | list k => obtain ⟨a, xs, rfl, _⟩ := hv.listI; rfl
    | tuple k => obtain ⟨a, xs, rfl, _⟩ := hv.tupleI; rfl
    | dict k => cases hv
  rw [e1]
  exact q _ b2 h2 _ g2 hp2 (Dt.bool _)
def dIsB (da db : DE) : DE := fun Γ P => da Γ fun x => db Γ fun y => onB x fun i => onB y fun j => P (.bool (decide (i = j)))
def dNotB (da db : DE) : DE := fun Γ P => da Γ fun x => db Γ fun y => onB x fun i => onB y fun j => P (.bool (!decide (i = j)))
def cI (g : Int → Int → Bool) : PyData → PyData → (PyData → Prop) → Prop := fun x y P => onI x fun i => onI y fun j => P (.bool (g i j))
def dChain (g1 g2 : Int → Int → Bool) (da db dc : DE) : DE := fun Γ P => da Γ fun x => db Γ fun y => cI g1 x y fun c => onB c fun c => if c = true then dc Γ fun z => cI g2 y z P else P (.bool false)
end
structure Put (js : List Nat) (Γ : Gam) (σ : L2.St) (Γ' : Gam) (σ' : L2.St) : Prop where
  ls : σ'.length = σ.length
  lg : Γ'.length = Γ.length
  out : ∀ i, i ∉ js → σ'[i]? = σ[i]? ∧ gat Γ' i = gat Γ i
  ino : ∀ i ds, i ∈ js → gat Γ' i = some (.o ds) → False
theorem Put.refl {Γ : Gam} {σ : L2.St} : Put [] Γ σ Γ σ := ⟨rfl, rfl, fun _ _ => ⟨rfl, rfl⟩, fun i ds h => by cases h⟩
theorem Put.trans {js ks : List Nat} {Γ Γ1 Γ2 : Gam} {σ σ1 σ2 : L2.St} (x : Put js Γ σ Γ1 σ1) (y : Put ks Γ1 σ1 Γ2 σ2) : Put (js ++ ks) Γ σ Γ2 σ2 := by
  refine ⟨y.ls.trans x.ls, y.lg.trans x.lg, fun i h => ?_, fun i ds h e => ?_⟩
  · have h1 := x.out i fun z => h (List.mem_append_left _ z)
    have h2 := y.out i fun z => h (List.mem_append_right _ z)
    exact ⟨h2.1.trans h1.1, h2.2.trans h1.2⟩
  · by_cases k : i ∈ ks
    · exact y.ino i ds k e
    · rcases List.mem_append.mp h with h | h
      · rw [(y.out i k).2] at e
        exact x.ino i ds h e
      · exact k h
theorem Put.one {Γ : Gam} {σ : L2.St} {i : Nat} {v : V} {x : PyData} : Put [i] Γ σ (Γ.set i (some (.d x))) (σ.set i (some v)) := by
  refine ⟨List.length_set, List.length_set, fun j h => ?_, fun j ds h e => ?_⟩
  · have hij : i ≠ j := fun z => h (by rw [z]; exact List.mem_cons_self)
    exact ⟨List.getElem?_set_ne hij, by rw [gat_set, if_neg (fun z => hij z.1)]⟩
  · obtain rfl := List.mem_singleton.mp h
    rw [gat_set] at e
    by_cases c : j = j ∧ j < Γ.length
    · rw [if_pos c] at e
      cases e
    · rw [if_neg c] at e
      exact c ⟨rfl, gat_lt e⟩
theorem wipe_at {σ : L2.St} {i : Nat} : ∀ {vs : List Nat}, i ∈ vs → (L2.wipe σ vs)[i]? = if i < σ.length then some none else none
  | [], h => by cases h
  | v :: vs, h => by
    show ((L2.wipe σ vs).set v none)[i]? = _
    rw [List.getElem?_set, wipe_length]
    by_cases c : v = i
    · subst c
      rw [if_pos rfl]
    · rw [if_neg c]
      rcases List.mem_cons.mp h with h | h
      · exact absurd h.symm c
      · exact wipe_at h
theorem Put.wipe {js vs : List Nat} {Γ Γ' : Gam} {σ0 σ' : L2.St} (x : Put js Γ (L2.wipe σ0 vs) Γ' σ') (h : ∀ i ∈ js, i ∈ vs) : L2.wipe σ' vs = L2.wipe σ0 vs := by
  refine List.ext_getElem? fun i => ?_
  by_cases k : i ∈ vs
  · rw [wipe_at k, wipe_at k, x.ls, wipe_length]
  · rw [L2.wipe_out k, (x.out i fun z => k (h i z)).1]
def SimG (K : PySem.W.Frag) (g : TG) (dg : DG) (js : List Nat) : Prop := ∀ σ Γ b h v x, RelD K b Γ σ → Dt K b v x → Ex b h → ∀ P, dg x Γ P → ∀ Q : L2.St → Hp → Prop, (∀ σ' Γ', RelD K b Γ' σ' → Put js Γ σ Γ' σ' → P Γ' → Q σ' h) → g v σ h Q
def SimGs (K : PySem.W.Frag) (g : TGs) (dg : DGs) (js : List Nat) : Prop := ∀ σ Γ b h vs xs, RelD K b Γ σ → DtA K b vs xs → Ex b h → ∀ P, dg xs Γ P → ∀ Q : L2.St → Hp → Prop, (∀ σ' Γ', RelD K b Γ' σ' → Put js Γ σ Γ' σ' → P Γ' → Q σ' h) → g vs σ h Q
def dgN (i : Nat) : DG := fun x Γ P => P (Γ.set i (some (.d x)))
def dgNil : DGs := fun xs Γ P => xs = [] ∧ P Γ
def dgCons (g : DG) (gs : DGs) : DGs := fun xs Γ P => match xs with
  | x :: r => g x Γ fun Γ1 => gs r Γ1 P
  | [] => False
def dgT (n : Nat) (gs : DGs) : DG := fun x Γ P => onT x fun ds => ds.length = n ∧ gs ds Γ P
section
variable {K : PySem.W.Frag}
theorem g_name {i : Nat} : SimG K (gName i) (dgN i) [i] := fun σ Γ b h v x r hv e P hp Q q => q _ _ (r.set hv) Put.one hp
theorem g_nil : SimGs K gNil dgNil [] := fun σ Γ b h vs xs r hv e P hp Q q => by
  obtain ⟨rfl, hp⟩ := hp
  cases hv
  exact ⟨rfl, q σ Γ r Put.refl hp⟩
theorem g_cons {g : TG} {gs : TGs} {dg : DG} {dgs : DGs} {js ks : List Nat} (x : SimG K g dg js) (y : SimGs K gs dgs ks) : SimGs K (gCons g gs) (dgCons dg dgs) (js ++ ks) := fun σ Γ b h vs xs r hv e P hp Q q => by
  cases hv with
  | nil => cases hp
  | cons h1 h2 =>
    exact ⟨_, _, rfl, x σ Γ b h _ _ r h1 e _ hp _ fun σ1 Γ1 r1 p1 hp1 => y σ1 Γ1 b h _ _ r1 h2 e _ hp1 _ fun σ2 Γ2 r2 p2 hp2 => q σ2 Γ2 r2 (p1.trans p2) hp2⟩
theorem g_tup {n : Nat} {gs : TGs} {dgs : DGs} {js : List Nat} (x : SimGs K gs dgs js) : SimG K (gTup K n gs) (dgT n dgs) js := fun σ Γ b h v d r hv e P hp Q q => by
  obtain ⟨ds, rfl, hl, hp1⟩ := onT_is hp
  obtain ⟨a, xs, rfl, k1, k2⟩ := hv.tupleI
  exact ⟨a, xs, rfl, ex_t e k1, by rw [k2.length]; exact hl, x σ Γ b h _ _ r k2 e _ hp1 _ q⟩
end
def WalkD (K : PySem.W.Frag) (J : It) (xs : List PyData) (b1 : Hp) : Prop := ∃ (G : Hp → Prop) (Y : Nat → Hp → V → Hp → Prop), Walk J xs.length G Y ∧ (∀ h, Ex b1 h → G h) ∧
  ∀ i x b2 h2 v h3, xs[i]? = some x → Ex b1 b2 → Ex b2 h2 → Y i h2 v h3 → ∃ b3, Gr b2 h2 b3 h3 ∧ Dt K b3 v x
def SimI (K : PySem.W.Frag) (wi : TI) (di : DN) : Prop := ∀ σ Γ b, RelD K b Γ σ → ∀ P, di Γ P → ∀ h, Ex b h → ∀ Rr : It → Hp → Prop, (∀ J h1 b1 xs, Gr b h b1 h1 → P xs → WalkD K J xs b1 → Rr J h1) → wi σ h Rr
def rangeD (lo : Int) (n : Nat) : List PyData := (List.range n).map fun i : Nat => PyData.int (lo + (i : Int))
def zipD (xs ys : List PyData) : List PyData := List.zipWith (fun x y => .tuple [x, y]) xs ys
def enumD (xs : List PyData) : List PyData := zipD ((List.range xs.length).map fun i : Nat => PyData.int (i : Int)) xs
def diL (de : DE) : DN := fun Γ P => de Γ fun x => onL x P
def diT (de : DE) : DN := fun Γ P => de Γ fun x => onT x P
def diR1 (da : DN) : DN := fun Γ P => da Γ fun ds => match ds with
  | [x] => onI x fun n => -(2 ^ 62) ≤ n ∧ n < 2 ^ 62 ∧ P (rangeD 0 n.toNat)
  | _ => False
def diR2 (da : DN) : DN := fun Γ P => da Γ fun ds => match ds with
  | [x, y] => onI x fun m => onI y fun n => (-(2 ^ 62) ≤ m ∧ m < 2 ^ 62 ∧ -(2 ^ 62) ≤ n ∧ n < 2 ^ 62) ∧ P (rangeD m (n - m).toNat)
  | _ => False
def diZ (da : DN) : DN := fun Γ P => da Γ fun ds => match ds with
  | [x, y] => onL x fun xs => onL y fun ys => P (zipD xs ys)
  | _ => False
def diE (da : DN) : DN := fun Γ P => da Γ fun ds => match ds with
  | [x] => onL x fun xs => P (enumD xs)
  | _ => False
section
variable {K : PySem.W.Frag} {te ta tb : TE} {ts tk tr : TA} {da db de : DE} {dn dr dk : DN}
theorem i_list (x : SimE K te de) : SimI K (iList K te) (diL de) := fun σ Γ b r P hp h e Rr k => x σ Γ b r _ hp h e _ fun v b1 h1 d g1 hp1 hv => by
  obtain ⟨ds, rfl, hp2⟩ := onL_is hp1
  obtain ⟨a, xs, rfl, k1, k2⟩ := hv.listI
  refine ⟨a, rfl, ⟨xs, sq_of (g1.gi _ _ k1)⟩, k _ h1 b1 ds g1 hp2 ⟨fun h => SqL K h a xs, YAt xs, ?_, fun h e => sq_of (e _ _ k1), ?_⟩⟩
  · rw [← k2.length]
    exact walk_list
  · rintro i x b2 h2 v h3 hx e2 e3 ⟨rfl, hy⟩
    obtain ⟨d, hd, hv⟩ := k2.getV hy
    rw [hx] at hd
    cases hd
    exact ⟨b2, Gr.refl e3, hv.up e2⟩
theorem walkd_range {lo : Int} {n : Nat} {b1 : Hp} : WalkD K (Itr lo n) (rangeD lo n) b1 := by
  refine ⟨fun _ => True, YFn fun i => .int (lo + i), ?_, fun _ _ => trivial, ?_⟩
  · have e : (rangeD lo n).length = n := by unfold rangeD; rw [List.length_map, List.length_range]
    rw [e]
    exact walk_range
  · rintro i x b2 h2 v h3 hx e2 e3 ⟨rfl, rfl⟩
    unfold rangeD at hx
    rw [List.getElem?_map] at hx
    cases q : (List.range n)[i]? with
    | none =>
      rw [q] at hx
      cases hx
    | some j =>
      rw [q] at hx
      cases hx
      obtain ⟨hj, rfl⟩ := List.getElem?_eq_some_iff.mp q
      rw [List.getElem_range]
      exact ⟨b2, Gr.refl e3, Dt.int _⟩
theorem i_rng1 (x : SimA K ts dn) : SimI K (iRng1 ts) (diR1 dn) := fun σ Γ b r P hp h e Rr k => x σ Γ b r _ hp h e _ fun vs b1 h1 ds g1 hp1 hv => by
  match ds, hv, hp1 with
  | [d], .cons h1' .nil, hp1 =>
    obtain ⟨n, rfl, a1, a2, hp2⟩ := onI_is hp1
    exact ⟨n, by rw [h1'.intI], a1, a2, k _ h1 b1 _ g1 hp2 walkd_range⟩
theorem i_rng2 (x : SimA K ts dn) : SimI K (iRng2 ts) (diR2 dn) := fun σ Γ b r P hp h e Rr k => x σ Γ b r _ hp h e _ fun vs b1 h1 ds g1 hp1 hv => by
  match ds, hv, hp1 with
  | [d, d'], .cons h1' (.cons h2' .nil), hp1 =>
    obtain ⟨m, rfl, hp2⟩ := onI_is hp1
    obtain ⟨n, rfl, a1, hp3⟩ := onI_is hp2
    exact ⟨m, n, by rw [h1'.intI, h2'.intI], a1, k _ h1 b1 _ g1 hp3 walkd_range⟩
theorem zip_get {xs ys : List PyData} {i : Nat} {x : PyData} (h : (zipD xs ys)[i]? = some x) : ∃ a c, xs[i]? = some a ∧ ys[i]? = some c ∧ x = .tuple [a, c] := by
  unfold zipD at h
  rw [List.getElem?_zipWith] at h
  cases h1 : xs[i]? with
  | none => rw [h1] at h; cases h
  | some a =>
    cases h2 : ys[i]? with
    | none => rw [h1, h2] at h; cases h
    | some c =>
      rw [h1, h2] at h
      cases h
      exact ⟨a, c, rfl, rfl, rfl⟩
theorem i_zip (x : SimA K ts dn) : SimI K (iZip K ts) (diZ dn) := fun σ Γ b r P hp h e Rr k => x σ Γ b r _ hp h e _ fun vs b1 h1 ds g1 hp1 hv => by
  match ds, hv, hp1 with
  | [d, d'], .cons q1 (.cons q2 .nil), hp1 =>
    obtain ⟨xs, rfl, hp2⟩ := onL_is hp1
    obtain ⟨ys, rfl, hp3⟩ := onL_is hp2
    obtain ⟨a1, us, rfl, k1, k2⟩ := q1.listI
    obtain ⟨a2, ws, rfl, l1, l2⟩ := q2.listI
    refine ⟨a1, a2, us, ws, rfl, sq_of (g1.gi _ _ k1), sq_of (g1.gi _ _ l1), k _ h1 b1 _ g1 hp3 ⟨fun h => SqL K h a1 us ∧ SqL K h a2 ws, YPair (fun i => us[i]?) (fun i => ws[i]?), walk_zip (by rw [k2.length, l2.length]; exact List.length_zipWith), fun h e => ⟨sq_of (e _ _ k1), sq_of (e _ _ l1)⟩, ?_⟩⟩
    rintro i x b2 h2 v h3 hx e2 e3 ⟨t, va, vb, rfl, nt, rfl, hva, hvb⟩
    obtain ⟨d1, d2, e4, e5, rfl⟩ := zip_get hx
    obtain ⟨f1, hf1, r1⟩ := k2.getV (show us[i]? = some va from hva)
    obtain ⟨f2, hf2, r2⟩ := l2.getV (show ws[i]? = some vb from hvb)
    rw [e4] at hf1
    rw [e5] at hf2
    cases hf1
    cases hf2
    have ee := Ex.new (o := .tup [va, vb]) (none_of e3 nt)
    exact ⟨_, Gr.new e3 nt, Dt.tuple (st_of upd_same) (DtA.cons ((r1.up e2).up ee) (DtA.one ((r2.up e2).up ee)))⟩
end
end Md
namespace Md
open PySem L2 Evl
def dLc (di : DN) (dg : DG) (dt : DT) (de : DE) (vs : List Nat) : DN := fun Γ P => di Γ fun xs => xs.length ≤ 40000 ∧ ∃ J : Nat → List PyData → Prop, J 0 [] ∧
  (∀ i x acc, xs[i]? = some x → J i acc → dg x (wipeG Γ vs) fun Γ1 => dt Γ1 fun c => if c = true then de Γ1 fun d => J (i + 1) (acc ++ [d]) else J (i + 1) acc) ∧ ∀ acc, J xs.length acc → P acc
theorem z_lc {K : PySem.W.Frag} {wi : TI} {di : DN} {g : TG} {dg : DG} {tt : TT} {dt : DT} {te : TE} {de : DE} {vs js : List Nat} (hj : ∀ i ∈ js, i ∈ vs) (xi : SimI K wi di) (xg : SimG K g dg js) (xt : SimT K tt dt) (xe : SimE K te de) :
    SimN K (tLc wi g tt te vs) (dLc di dg dt de vs) := fun σ Γ b r P hp h e Q q => xi σ Γ b r _ hp h e _ fun J h1 b1 xs g1 hp1 w => by
  obtain ⟨hl, Jv, j0, jn, je⟩ := hp1
  obtain ⟨G, Y, w, hG, hY⟩ := w
  intro Dl hD
  refine lc_it w (fun i h' => ∃ b2 us acc, Gr b1 h1 b2 h' ∧ b2 Dl = none ∧ h' Dl = some (.lst us) ∧ DtA K b2 us acc ∧ acc.length ≤ i ∧ Jv i acc) ?_ (fun i h' _ p => ?_) ?_ ?_
  · exact ⟨b1, [], [], Gr.hid g1.gi hD, none_of g1.gi hD, upd_same, DtA.nil, Nat.le_refl _, j0⟩
  · obtain ⟨b2, us, acc, g2, _⟩ := p
    exact hG h' (g2.gb.trans g2.gi)
  · rintro i x h2 h3 hi ⟨b2, us, acc, g2, nb, hu, hA, hlen, hJ⟩ hy
    obtain ⟨b3, g3, hx⟩ := hY i xs[i] b2 h2 x h3 (List.getElem?_eq_getElem hi) g2.gb g2.gi hy
    have nb3 : b3 Dl = none := g3.gf Dl nb (by rw [hu]; intro z; cases z)
    have hu3 := g3.gh _ _ hu
    refine xg _ _ b3 h3 x xs[i] ((r.up (g1.gb.trans (g2.gb.trans g3.gb))).wipe vs) hx g3.gi _ (jn i xs[i] acc (List.getElem?_eq_getElem hi) hJ) _ fun σ1 Γ1 r1 p1 hp2 => ?_
    refine ⟨p1.wipe hj, xt σ1 Γ1 b3 r1 _ hp2 h3 g3.gi _ fun c h4 e4 hc => ?_⟩
    have g4 : Gr b3 h3 b3 h4 := Gr.stay g3.gi e4
    have hu4 : h4 Dl = some (.lst us) := e4 _ _ hu3
    cases c with
    | true =>
      show te σ1 h4 _
      refine xe σ1 Γ1 b3 r1 _ hc h4 g4.gi _ fun y b5 h5 d g5 hd hy5 => ⟨us, g5.gh _ _ hu4, sz_lt (by rw [hA.length]; omega), ?_⟩
      have nb5 : b5 Dl = none := g5.gf Dl nb3 (by rw [hu4]; intro z; cases z)
      exact ⟨b5, us ++ [y], acc ++ [d], ((g2.trans g3).trans (g4.trans g5)).mut hD nb5, nb5, upd_same, ((hA.up g3.gb).up g5.gb).append (DtA.one hy5), by rw [List.length_append]; exact Nat.succ_le_succ hlen, hd⟩
    | false =>
      exact ⟨b3, us, acc, (g2.trans g3).trans g4, nb3, hu4, hA.up g3.gb, Nat.le_succ_of_le hlen, hc⟩
  · rintro h' ⟨b2, us, acc, g2, nb, hu, hA, _, hJ⟩
    exact q Dl us b2 h' acc (gone g1 hD) nb (g1.trans g2) hu hA (je acc hJ)
structure Rel (K : PySem.W.Frag) (b0 h0 bf b h : Hp) (Γ : Gam) (σ : L2.St) : Prop where
  r : RelD K b Γ σ
  g : Gr b0 h0 b h
  f : Ex bf b
  o : ∀ i ds, gat Γ i = some (.o ds) → ∃ p us, σ[i]? = some (some (.ref p)) ∧ h p = some (.lst us) ∧ b p = none ∧ h0 p = none ∧ DtA K b us ds
  u : ∀ i j ds es p, i ≠ j → gat Γ i = some (.o ds) → gat Γ j = some (.o es) → σ[i]? = some (some (.ref p)) → σ[j]? = some (some (.ref p)) → False
structure Parts (K : PySem.W.Frag) (b h h0 : Hp) (us : List V) (sls : List Sl) : Prop where
  l : us.length = sls.length
  d : ∀ (i : Nat) (x : PyData), sls[i]? = some (Sl.d x) → ∃ v, us[i]? = some v ∧ Dt K b v x
  o : ∀ (i : Nat) (ds : List PyData), sls[i]? = some (Sl.o ds) → ∃ p ws, us[i]? = some (V.ref p) ∧ h p = some (.lst ws) ∧ b p = none ∧ h0 p = none ∧ DtA K b ws ds
  u : ∀ (i j : Nat) (ds es : List PyData) (p : Addr), i ≠ j → sls[i]? = some (Sl.o ds) → sls[j]? = some (Sl.o es) → us[i]? = some (V.ref p) → us[j]? = some (V.ref p) → False
structure Match (K : PySem.W.Frag) (b0 h0 bf : Hp) (D : Ends) (DD : DEnds) : Prop where
  nx : ∀ b h Γ σ, Rel K b0 h0 bf b h Γ σ → DD.nx Γ → D.nx σ h
  bk : ∀ b h Γ σ, Rel K b0 h0 bf b h Γ σ → DD.bk Γ → D.bk σ h
  ct : ∀ b h Γ σ, Rel K b0 h0 bf b h Γ σ → DD.ct Γ → D.ct σ h
  rt : ∀ b h v x, Gr b0 h0 b h → Dt K b v x → DD.rt x → D.rt v h
  ro : ∀ b h p us ds, Gr b0 h0 b h → b p = none → h0 p = none → h p = some (.lst us) → DtA K b us ds → DD.ro ds → D.rt (.ref p) h
  rp : ∀ b h t us sls, Gr b0 h0 b h → b t = none → h0 t = none → h t = some (.tup us) → Parts K b h h0 us sls → DD.rp sls → D.rt (.ref t) h
def SimS (K : PySem.W.Frag) (ts : TS) (ds : DS) : Prop := ∀ b0 h0 bf D DD, Match K b0 h0 bf D DD → ∀ b h Γ σ, Rel K b0 h0 bf b h Γ σ → ds DD Γ → ts D σ h
section
variable {K : PySem.W.Frag} {b0 h0 bf b h b' h' : Hp} {Γ Γ' : Gam} {σ σ' : L2.St}
theorem Rel.up (x : Rel K b0 h0 bf b h Γ σ) (g : Gr b h b' h') : Rel K b0 h0 bf b' h' Γ σ := ⟨x.r.up g.gb, x.g.trans g, x.f.trans g.gb, fun i ds e => by
  obtain ⟨p, us, h1, h2, h3, h4, h5⟩ := x.o i ds e
  exact ⟨p, us, h1, g.gh _ _ h2, g.gf p h3 (by rw [h2]; intro z; cases z), h4, h5.up g.gb⟩, x.u⟩
theorem Rel.floor {bf' : Hp} (x : Rel K b0 h0 bf b h Γ σ) (e : Ex bf' bf) : Rel K b0 h0 bf' b h Γ σ := ⟨x.r, x.g, e.trans x.f, x.o, x.u⟩
theorem Rel.put {js : List Nat} (x : Rel K b0 h0 bf b h Γ σ) (p : Put js Γ σ Γ' σ') (r : RelD K b Γ' σ') : Rel K b0 h0 bf b h Γ' σ' := by
  have out : ∀ {i ds}, gat Γ' i = some (.o ds) → i ∉ js := fun {i ds} e z => p.ino i ds z e
  refine ⟨r, x.g, x.f, fun i ds e => ?_, fun i j ds es q hij e1 e2 e3 e4 => ?_⟩
  · have o := p.out i (out e)
    obtain ⟨q, us, h1, h2⟩ := x.o i ds (o.2 ▸ e)
    exact ⟨q, us, o.1.trans h1, h2⟩
  · have o1 := p.out i (out e1)
    have o2 := p.out j (out e2)
    exact x.u i j ds es q hij (o1.2 ▸ e1) (o2.2 ▸ e2) (o1.1 ▸ e3) (o2.1 ▸ e4)
theorem Rel.own {i : Nat} {p : Addr} {us : List V} {ds : List PyData} (x : Rel K b0 h0 bf b h Γ σ) (g : Gr b h b' h') (np : h p = none) (nb : b' p = none) (hp : h' p = some (.lst us)) (hA : DtA K b' us ds) (hi : i < Γ.length) :
    Rel K b0 h0 bf b' h' (Γ.set i (some (.o ds))) (σ.set i (some (.ref p))) := by
  have y := x.up g
  have hs : i < σ.length := by rw [x.r.len]; exact hi
  have other : ∀ {j es}, j ≠ i → gat Γ j = some (.o es) → σ[j]? = some (some (.ref p)) → False := fun {j es} hj e e1 => by
    obtain ⟨q, vs, h1, h2, _⟩ := x.o j es e
    rw [e1] at h1
    cases h1
    rw [np] at h2
    cases h2
  refine ⟨⟨by rw [List.length_set, List.length_set, x.r.len], fun j z e => ?_⟩, y.g, y.f, fun j es e => ?_, fun j k es fs q hjk e1 e2 e3 e4 => ?_⟩
  · rw [gat_set] at e
    by_cases c : i = j ∧ i < Γ.length
    · rw [if_pos c] at e
      cases e
    · rw [if_neg c] at e
      rw [List.getElem?_set_ne (fun z => c ⟨z, hi⟩)]
      exact y.r.d j z e
  · rw [gat_set] at e
    by_cases c : i = j ∧ i < Γ.length
    · rw [if_pos c] at e
      cases e
      obtain ⟨rfl, _⟩ := c
      exact ⟨p, us, List.getElem?_set_self hs, hp, nb, gone x.g np, hA⟩
    · rw [if_neg c] at e
      rw [List.getElem?_set_ne (fun z => c ⟨z, hi⟩)]
      exact y.o j es e
  · rw [gat_set] at e1 e2
    by_cases c1 : i = j
    · subst c1
      have c2 : i ≠ k := hjk
      rw [if_neg (fun z => c2 z.1)] at e2
      rw [List.getElem?_set_self hs] at e3
      rw [List.getElem?_set_ne c2] at e4
      cases e3
      exact other (Ne.symm c2) e2 e4
    · rw [if_neg (fun z => c1 z.1)] at e1
      rw [List.getElem?_set_ne c1] at e3
      by_cases c2 : i = k
      · subst c2
        rw [List.getElem?_set_self hs] at e4
        cases e4
        exact other (Ne.symm c1) e1 e3
      · rw [if_neg (fun z => c2 z.1)] at e2
        rw [List.getElem?_set_ne c2] at e4
        exact x.u j k es fs q hjk e1 e2 e3 e4
theorem Rel.mut {i : Nat} {p : Addr} {us : List V} {ds es : List PyData} (x : Rel K b0 h0 bf b h Γ σ) (e : gat Γ i = some (.o ds)) (hs : σ[i]? = some (some (.ref p))) (hA : DtA K b us es) : Rel K b0 h0 bf b (upd h p (.lst us)) (Γ.set i (some (.o es))) σ := by
  obtain ⟨q, vs, h1, h2, h3, h4, h5⟩ := x.o i ds e
  rw [hs] at h1
  cases h1
  have hi := gat_lt e
  refine ⟨⟨by rw [List.length_set, x.r.len], fun j z e1 => ?_⟩, x.g.mut h4 h3, x.f, fun j fs e1 => ?_, fun j k fs gs q hjk e1 e2 e3 e4 => ?_⟩
  · rw [gat_set] at e1
    by_cases c : i = j ∧ i < Γ.length
    · rw [if_pos c] at e1
      cases e1
    · rw [if_neg c] at e1
      exact x.r.d j z e1
  · rw [gat_set] at e1
    by_cases c : i = j ∧ i < Γ.length
    · rw [if_pos c] at e1
      cases e1
      obtain ⟨rfl, _⟩ := c
      exact ⟨p, us, hs, upd_same, h3, h4, hA⟩
    · rw [if_neg c] at e1
      obtain ⟨q, ws, k1, k2, k3, k4, k5⟩ := x.o j fs e1
      refine ⟨q, ws, k1, ?_, k3, k4, k5⟩
      rw [upd_ne]
      · exact k2
      · intro z
        subst z
        exact x.u i j ds fs q (fun z => c ⟨z, hi⟩) e e1 hs k1
  · rw [gat_set] at e1 e2
    have s1 : ∃ fs, gat Γ j = some (.o fs) := by
      by_cases c : i = j
      · exact ⟨ds, c ▸ e⟩
      · rw [if_neg (fun z => c z.1)] at e1
        exact ⟨fs, e1⟩
    have s2 : ∃ fs, gat Γ k = some (.o fs) := by
      by_cases c : i = k
      · exact ⟨ds, c ▸ e⟩
      · rw [if_neg (fun z => c z.1)] at e2
        exact ⟨gs, e2⟩
    obtain ⟨f1, s1⟩ := s1
    obtain ⟨f2, s2⟩ := s2
    exact x.u j k f1 f2 q hjk s1 s2 e3 e4
theorem Rel.all (x : Rel K b0 h0 bf b h Γ σ) : ∃ b1, Ex b b1 ∧ Ex b1 h ∧ RelD K b1 (allD Γ) σ := by
  classical
  let B : Hp := fun a => if ∃ i ds, gat Γ i = some (.o ds) ∧ σ[i]? = some (some (.ref a)) then h a else b a
  have e1 : Ex b B := fun a o ha => by
    show (if _ then _ else _) = _
    by_cases c : ∃ i ds, gat Γ i = some (.o ds) ∧ σ[i]? = some (some (.ref a))
    · obtain ⟨i, ds, c1, c2⟩ := c
      obtain ⟨p, us, k1, k2, k3, _⟩ := x.o i ds c1
      rw [c2] at k1
      cases k1
      rw [ha] at k3
      cases k3
    · rw [if_neg c]
      exact ha
  have e2 : Ex B h := fun a o ha => by
    have ha : (if _ then _ else _) = _ := ha
    by_cases c : ∃ i ds, gat Γ i = some (.o ds) ∧ σ[i]? = some (some (.ref a))
    · rw [if_pos c] at ha
      exact ha
    · rw [if_neg c] at ha
      exact x.g.gi _ _ ha
  have la : ∀ Γ : Gam, (allD Γ).length = Γ.length := fun Γ => by
    induction Γ with
    | nil => rfl
    | cons s l ih =>
      match s with
      | none => exact congrArg Nat.succ ih
      | some (.d x) => exact congrArg Nat.succ ih
      | some (.o x) => exact congrArg Nat.succ ih
  refine ⟨B, e1, e2, ⟨by rw [la, x.r.len], fun i z e => ?_⟩⟩
  rw [allD_gat] at e
  cases q : gat Γ i with
  | none =>
    rw [q] at e
    cases e
  | some s =>
    cases s with
    | d y =>
      rw [q] at e
      cases e
      obtain ⟨v, k1, k2⟩ := x.r.d i _ q
      exact ⟨v, k1, k2.up e1⟩
    | o ds =>
      rw [q] at e
      cases e
      obtain ⟨p, us, k1, k2, k3, k4, k5⟩ := x.o i ds q
      refine ⟨.ref p, k1, Dt.list ?_ (k5.up e1)⟩
      show (if _ then _ else _) = _
      rw [if_pos ⟨i, ds, q, k1⟩]
      exact k2
theorem Rel.forget (x : Rel K b0 h0 bf b h Γ σ) (ws : List Nat) : Rel K b0 h0 bf b h (wipeG Γ ws) σ :=
  ⟨⟨by rw [wipeG_len, x.r.len], fun i y e => x.r.d i y (wipeG_some e).1⟩, x.g, x.f, fun i ds e => x.o i ds (wipeG_some e).1, fun i j ds es p hij e1 e2 => x.u i j ds es p hij (wipeG_some e1).1 (wipeG_some e2).1⟩
def tellG (i : Nat) (Γ : Gam) : Gam := match gat Γ i with
  | some (.o ds) => Γ.set i (some (.d (.list ds)))
  | _ => Γ
theorem Rel.tell (x : Rel K b0 h0 bf b h Γ σ) (i : Nat) : ∃ b1, Ex b b1 ∧ Rel K b0 h0 bf b1 h (tellG i Γ) σ := by
  unfold tellG
  cases q : gat Γ i with
  | none => exact ⟨b, Ex.refl b, x⟩
  | some s =>
    cases s with
    | d y => exact ⟨b, Ex.refl b, x⟩
    | o ds =>
      obtain ⟨p, us, k1, k2, k3, k4, k5⟩ := x.o i ds q
      have en : Ex b (upd b p (.lst us)) := Ex.new k3
      have hi := gat_lt q
      refine ⟨upd b p (.lst us), en, ⟨⟨by rw [List.length_set, x.r.len], fun j z e => ?_⟩, x.g.tell k4 k3 k2, x.f.trans en, fun j es e => ?_, fun j k es fs a hjk e1 e2 e3 e4 => ?_⟩⟩
      · rw [gat_set] at e
        by_cases c : i = j ∧ i < Γ.length
        · rw [if_pos c] at e
          cases e
          obtain ⟨rfl, _⟩ := c
          exact ⟨.ref p, k1, Dt.list upd_same (k5.up en)⟩
        · rw [if_neg c] at e
          obtain ⟨v, l1, l2⟩ := x.r.d j z e
          exact ⟨v, l1, l2.up en⟩
      · rw [gat_set] at e
        by_cases c : i = j ∧ i < Γ.length
        · rw [if_pos c] at e
          cases e
        · rw [if_neg c] at e
          obtain ⟨a, vs, l1, l2, l3, l4, l5⟩ := x.o j es e
          refine ⟨a, vs, l1, l2, ?_, l4, l5.up en⟩
          rw [upd_ne]
          · exact l3
          · intro z
            subst z
            exact x.u i j ds es a (fun z => c ⟨z, hi⟩) q e k1 l1
      · rw [gat_set] at e1 e2
        by_cases c1 : i = j ∧ i < Γ.length
        · rw [if_pos c1] at e1
          cases e1
        · rw [if_neg c1] at e1
          by_cases c2 : i = k ∧ i < Γ.length
          · rw [if_pos c2] at e2
            cases e2
          · rw [if_neg c2] at e2
            exact x.u j k es fs a hjk e1 e2 e3 e4
end
end Md
namespace Md
open PySem L2 Evl
def scD : PyData → Bool
  | .none => true
  | .bool _ => true
  | .int _ => true
  | .str _ => true
  | _ => false
theorem scD_dt {K : PySem.W.Frag} {b b' : Hp} {v : V} {x : PyData} (h : Dt K b v x) (s : scD x = true) : Dt K b' v x := by
  cases h with
  | none => exact Dt.none
  | bool i => exact Dt.bool i
  | int i => exact Dt.int i
  | str i => exact Dt.str i
  | list h1 h2 => cases s
  | tuple h1 h2 => cases s
def dNext : DS := fun DD Γ => DD.nx Γ
def dBreak : DS := fun DD Γ => DD.bk Γ
def dCont : DS := fun DD Γ => DD.ct Γ
def dSeq (t u : DS) : DS := fun DD Γ => t { DD with nx := u DD } Γ
def dCut (ws : List Nat) (t u : DS) : DS := fun DD Γ => ∃ Mid : Gam → Prop, t { DD with nx := fun Γ1 => Mid (wipeG Γ1 ws) } Γ ∧ ∀ Γ', Mid Γ' → u DD Γ'
def dAsg (de : DE) (dg : DG) : DS := fun DD Γ => de Γ fun x => dg x Γ DD.nx
def dAsgS (de : DE) (dg : DG) : DS := fun DD Γ => de (allD Γ) fun x => scD x = true ∧ dg x Γ DD.nx
def dAsgO (i : Nat) (dn : DN) : DS := fun DD Γ => dn Γ fun ds => i < Γ.length ∧ DD.nx (Γ.set i (some (.o ds)))
def dPar (i j : Nat) (da : DN) : DS := fun DD Γ => da Γ fun ds => match ds with
  | [x, y] => DD.nx ((Γ.set i (some (.d x))).set j (some (.d y)))
  | _ => False
def dAug (i : Nat) (f : Int → Int → Int) (de : DE) : DS := fun DD Γ => match gat Γ i with
  | some (.d (.int a)) => de (allD Γ) fun y => onI y fun c => DD.nx (Γ.set i (some (.d (.int (f a c)))))
  | _ => False
def dApp (i : Nat) (de : DE) : DS := fun DD Γ => match gat Γ i with
  | some (.o ds) => de Γ fun x => ds.length < 100000 ∧ DD.nx (Γ.set i (some (.o (ds ++ [x]))))
  | _ => False
def dAppS (i : Nat) (de : DE) : DS := fun DD Γ => match gat Γ i with
  | some (.o ds) => de (allD Γ) fun x => scD x = true ∧ ds.length < 100000 ∧ DD.nx (Γ.set i (some (.o (ds ++ [x]))))
  | _ => False
def dSet (i : Nat) (dj de : DE) : DS := fun DD Γ => match gat Γ i with
  | some (.o ds) => de Γ fun x => dj (allD Γ) fun k => onI k fun k => ∃ j, L2.ixN ds.length k = some j ∧ DD.nx (Γ.set i (some (.o (ds.set j x))))
  | _ => False
def dSetS (i : Nat) (dj de : DE) : DS := fun DD Γ => match gat Γ i with
  | some (.o ds) => de (allD Γ) fun x => scD x = true ∧ dj (allD Γ) fun k => onI k fun k => ∃ j, L2.ixN ds.length k = some j ∧ DD.nx (Γ.set i (some (.o (ds.set j x))))
  | _ => False
def dAugL (i : Nat) (f : Int → Int → Int) (dj de : DE) : DS := fun DD Γ => match gat Γ i with
  | some (.o ds) => dj (allD Γ) fun k => onI k fun k => ∃ (j : Nat) (a : Int), k = (j : Int) ∧ j < 100000 ∧ ds[j]? = some (.int a) ∧ de (allD Γ) fun y => onI y fun c => DD.nx (Γ.set i (some (.o (ds.set j (.int (f a c))))))
  | _ => False
def dIfS (dt : DT) (du dw : DS) : DS := fun DD Γ => dt (allD Γ) fun c => if c = true then du DD Γ else dw DD Γ
def dRet (de : DE) : DS := fun DD Γ => de Γ DD.rt
def dRetS (de : DE) : DS := fun DD Γ => de (allD Γ) fun x => scD x = true ∧ DD.rt x
def dRetN (dn : DN) : DS := fun DD Γ => dn Γ DD.ro
def dRetO (i : Nat) : DS := fun DD Γ => match gat Γ i with
  | some (.o ds) => DD.ro ds
  | _ => False
def dRetNone : DS := fun DD _ => DD.rt .none
def dTell (i : Nat) (t : DS) : DS := fun DD Γ => t DD (tellG i Γ)
def dFor (ws : List Nat) (di : DN) (dg : DG) (du : DS) : DS := fun DD Γ => di Γ fun xs => ∃ I : Nat → Gam → Prop, I 0 (wipeG Γ ws) ∧ (∀ i x Γ', xs[i]? = some x → I i Γ' → dg x Γ' fun Γ1 => du { DD with nx := fun Γ2 => I (i + 1) (wipeG Γ2 ws), ct := fun Γ2 => I (i + 1) (wipeG Γ2 ws), bk := DD.nx } Γ1) ∧ ∀ Γ', I xs.length Γ' → DD.nx Γ'
section
variable {K : PySem.W.Frag} {te ta tb tj : TE} {ts tk tr : TA} {da db de dj : DE} {dn dr dk di : DN} {tt : TT} {dt : DT} {g : TG} {dg : DG} {js : List Nat} {t u w : TS} {dt1 du dw : DS} {wi : TI}
theorem z_next : SimS K tNext dNext := fun b0 h0 bf D DD M b h Γ σ r p => M.nx b h Γ σ r p
theorem z_break : SimS K tBreak dBreak := fun b0 h0 bf D DD M b h Γ σ r p => M.bk b h Γ σ r p
theorem z_seq (x : SimS K t dt1) (y : SimS K u du) : SimS K (tSeq t u) (dSeq dt1 du) := fun b0 h0 bf D DD M b h Γ σ r p =>
  x b0 h0 bf { D with nx := u D } { DD with nx := du DD } ⟨fun b h Γ σ r p => y b0 h0 bf D DD M b h Γ σ r p, M.bk, M.ct, M.rt, M.ro, M.rp⟩ b h Γ σ r p
theorem z_cut {ws : List Nat} (x : SimS K t dt1) (y : SimS K u du) : SimS K (tSeq t u) (dCut ws dt1 du) := fun b0 h0 bf D DD M b h Γ σ r p => by
  obtain ⟨Mid, p1, p2⟩ := p
  exact x b0 h0 bf { D with nx := u D } { DD with nx := fun Γ1 => Mid (wipeG Γ1 ws) } ⟨fun b h Γ σ r p => y b0 h0 bf D DD M b h (wipeG Γ ws) σ (r.forget ws) (p2 _ p), M.bk, M.ct, M.rt, M.ro, M.rp⟩ b h Γ σ r p1
theorem z_asg (x : SimE K te de) (y : SimG K g dg js) : SimS K (tAsg te g) (dAsg de dg) := fun b0 h0 bf D DD M b h Γ σ r p =>
  x σ Γ b r.r _ p h r.g.gi _ fun v b2 h2 d g2 hp hv => y σ Γ b2 h2 v d (r.r.up g2.gb) hv g2.gi _ hp _ fun σ1 Γ1 r1 p1 hp1 => M.nx b2 h2 Γ1 σ1 ((r.up g2).put p1 r1) hp1
theorem z_asgS (x : SimE K te de) (y : SimG K g dg js) : SimS K (tAsg te g) (dAsgS de dg) := fun b0 h0 bf D DD M b h Γ σ r p => by
  obtain ⟨b1, e1, e2, ra⟩ := r.all
  refine x σ _ b1 ra _ p h e2 _ fun v b2 h2 d g2 hp hv => ?_
  have g3 : Gr b h b h2 := Gr.stay r.g.gi g2.gh
  exact y σ Γ b h2 v d r.r (scD_dt hv hp.1) g3.gi _ hp.2 _ fun σ1 Γ1 r1 p1 hp1 => M.nx b h2 Γ1 σ1 ((r.up g3).put p1 r1) hp1
theorem z_asgO {i : Nat} (x : SimN K te dn) : SimS K (tAsg te (gName i)) (dAsgO i dn) := fun b0 h0 bf D DD M b h Γ σ r p =>
  x σ Γ b r.r _ p h r.g.gi _ fun q us b2 h2 ds nq nb g2 hq hA hp => M.nx b2 h2 _ _ (r.own g2 nq nb hq hA hp.1) hp.2
theorem z_par {i j : Nat} (x : SimA K ts dn) : SimS K (tPar i j ts) (dPar i j dn) := fun b0 h0 bf D DD M b h Γ σ r p =>
  x σ Γ b r.r _ p h r.g.gi _ fun vs b2 h2 ds g2 hp hv => by
    match ds, hv, hp with
    | [d1, d2], .cons q1 (.cons q2 .nil), hp =>
      exact ⟨_, _, rfl, M.nx b2 h2 _ _ ((r.up g2).put (Put.one.trans Put.one) (((r.r.up g2.gb).set q1).set q2)) hp⟩
theorem z_app {i : Nat} (x : SimE K te de) : SimS K (tDrop (tBM K "list" rAppend (tVar i) (tCons te tNil))) (dApp i de) := fun b0 h0 bf D DD M b h Γ σ r p => by
  unfold dApp at p
  split at p
  next ds e =>
    obtain ⟨q, us, k1, k2, k3, k4, k5⟩ := r.o i ds e
    refine ⟨.ref q, k1, Or.inl ⟨rfl, us, sq_of k2⟩, x σ Γ b r.r _ p h r.g.gi _ fun v b2 h2 d g2 hp hv => ?_⟩
    exact ⟨q, us, v, rfl, rfl, g2.gh _ _ k2, sz_lt (by rw [k5.length]; exact hp.1), M.nx b2 _ _ _ ((r.up g2).mut e k1 ((k5.up g2.gb).append (DtA.one hv))) hp.2⟩
  next => cases p
theorem DtA.set2 {b : Hp} {v : V} {d : PyData} (hv : Dt K b v d) : ∀ {us : List V} {ds : List PyData} (j : Nat), DtA K b us ds → DtA K b (us.set j v) (ds.set j d)
  | _, _, _, .nil => .nil
  | _, _, 0, .cons _ h2 => .cons hv h2
  | _, _, j + 1, .cons h1 h2 => .cons h1 (DtA.set2 hv j h2)
theorem z_set {i : Nat} (x : SimE K te de) (y : SimE K tj dj) : SimS K (tAsg te (gSub (tVar i) tj rSetL)) (dSet i dj de) := fun b0 h0 bf D DD M b h Γ σ r p => by
  unfold dSet at p
  split at p
  next ds e =>
    refine x σ Γ b r.r _ p h r.g.gi _ fun v b2 h2 d g2 hp hv => ?_
    have r2 := r.up g2
    obtain ⟨q, us, k1, k2, k3, k4, k5⟩ := r2.o i ds e
    obtain ⟨c1, f1, f2, rc⟩ := r2.all
    refine ⟨.ref q, k1, y σ _ c1 rc _ hp h2 f2 _ fun kv b4 h4 kd g4 hp4 hkv => ?_⟩
    obtain ⟨k, rfl, j, hj, hp5⟩ := onI_is hp4
    have g5 : Gr b2 h2 b2 h4 := Gr.stay r2.g.gi g4.gh
    exact ⟨q, us, k, j, rfl, hkv.intI, g4.gh _ _ k2, by rw [k5.length]; exact hj, M.nx b2 _ _ _ ((r2.up g5).mut e k1 (DtA.set2 hv j k5)) hp5⟩
  next => cases p
theorem z_ifS (x : SimT K tt dt) (y : SimS K u du) (z : SimS K w dw) : SimS K (tIfS tt u w) (dIfS dt du dw) := fun b0 h0 bf D DD M b h Γ σ r p => by
  obtain ⟨b1, e1, e2, ra⟩ := r.all
  refine x σ _ b1 ra _ p h e2 _ fun c h2 e3 hp => ?_
  have g3 : Gr b h b h2 := Gr.stay r.g.gi e3
  cases c with
  | true => exact y b0 h0 bf D DD M b h2 Γ σ (r.up g3) hp
  | false => exact z b0 h0 bf D DD M b h2 Γ σ (r.up g3) hp
theorem z_ret (x : SimE K te de) : SimS K (tRet te) (dRet de) := fun b0 h0 bf D DD M b h Γ σ r p => x σ Γ b r.r _ p h r.g.gi _ fun v b2 h2 d g2 hp hv => M.rt b2 h2 v d (r.g.trans g2) hv hp
theorem z_retN (x : SimN K te dn) : SimS K (tRet te) (dRetN dn) := fun b0 h0 bf D DD M b h Γ σ r p => x σ Γ b r.r _ p h r.g.gi _ fun q us b2 h2 ds nq nb g2 hq hA hp => M.ro b2 h2 q us ds (r.g.trans g2) nb (gone r.g nq) hq hA hp
theorem z_retO {i : Nat} : SimS K (tRet (tVar i)) (dRetO i) := fun b0 h0 bf D DD M b h Γ σ r p => by
  unfold dRetO at p
  split at p
  next ds e =>
    obtain ⟨q, us, k1, k2, k3, k4, k5⟩ := r.o i ds e
    exact ⟨.ref q, k1, M.ro b h q us ds r.g k3 k4 k2 k5 p⟩
  next => cases p
theorem z_tell {i : Nat} (x : SimS K t dt1) : SimS K t (dTell i dt1) := fun b0 h0 bf D DD M b h Γ σ r p => by
  obtain ⟨b1, e1, r1⟩ := r.tell i
  exact x b0 h0 bf D DD M b1 h _ σ r1 p
theorem for_core {ws : List Nat} {J : It} {xs : List PyData} {b1 h1 b0 h0 bf : Hp} {D : Ends} {DD : DEnds} (M : Match K b0 h0 bf D DD) (w : WalkD K J xs b1) (xg : SimG K g dg js) (xu : SimS K u du) {b : Hp} {Γ : Gam} {σ : L2.St} (fl : Ex bf b1) (r : Rel K b0 h0 b1 b h1 Γ σ)
    (I : Nat → Gam → Prop) (i0 : I 0 Γ) (is : ∀ i x Γ', xs[i]? = some x → I i Γ' → dg x Γ' fun Γ1 => du { DD with nx := fun Γ2 => I (i + 1) (wipeG Γ2 ws), ct := fun Γ2 => I (i + 1) (wipeG Γ2 ws), bk := DD.nx } Γ1) (ie : ∀ Γ', I xs.length Γ' → DD.nx Γ') :
    ∃ W : Nat → Nat → L2.St → Hp → Prop, (∃ m, W 0 m σ h1) ∧ ∀ i m σ H, W i m σ H → (J.stop i H ∧ D.nx σ H) ∨ (J.go i H ∧ ∃ N : L2.St → Hp → Prop, (∀ σ' H', N σ' H' → ∃ m', m' < m ∧ W (i + 1) m' σ' H') ∧ ∀ x H', J.yld i H x H' → g x σ H' fun σ2 H2 => u { D with nx := N, ct := N, bk := D.nx } σ2 H2) := by
  obtain ⟨G, Y, w, hG, hY⟩ := w
  refine for_it w (fun i σ' h' => ∃ b' Γ', Rel K b0 h0 b1 b' h' Γ' σ' ∧ I i Γ') ⟨b, Γ, r, i0⟩ (fun i σ' h' _ p => ?_) (fun i x σ' h2 h3 hi p hy => ?_) (fun σ' h' p => ?_)
  · obtain ⟨b', Γ', r', _⟩ := p
    exact hG h' (r'.f.trans r'.g.gi)
  · obtain ⟨b2, Γ2, r2, hI⟩ := p
    obtain ⟨b3, g3, hx⟩ := hY i xs[i] b2 h2 x h3 (List.getElem?_eq_getElem hi) r2.f r2.g.gi hy
    have r3 := r2.up g3
    refine xg _ _ b3 h3 x xs[i] r3.r hx g3.gi _ (is i xs[i] Γ2 (List.getElem?_eq_getElem hi) hI) _ fun σ1 Γ1 q1 p1 hp1 => ?_
    exact xu b0 h0 b1 { D with nx := fun σ' h' => ∃ b' Γ', Rel K b0 h0 b1 b' h' Γ' σ' ∧ I (i + 1) Γ', ct := fun σ' h' => ∃ b' Γ', Rel K b0 h0 b1 b' h' Γ' σ' ∧ I (i + 1) Γ', bk := D.nx } { DD with nx := fun Γ2 => I (i + 1) (wipeG Γ2 ws), ct := fun Γ2 => I (i + 1) (wipeG Γ2 ws), bk := DD.nx }
      ⟨fun b h Γ σ r p => ⟨b, _, r.forget ws, p⟩, fun b h Γ σ r p => M.nx b h Γ σ (r.floor fl) p, fun b h Γ σ r p => ⟨b, _, r.forget ws, p⟩, M.rt, M.ro, M.rp⟩ b3 h3 Γ1 σ1 (r3.put p1 q1) hp1
  · obtain ⟨b', Γ', r', hI⟩ := p
    exact M.nx b' h' Γ' σ' (r'.floor fl) (ie Γ' hI)
theorem z_for {ws : List Nat} (xi : SimI K wi di) (xg : SimG K g dg js) (xu : SimS K u du) : SimS K (tFor wi g u) (dFor ws di dg du) := fun b0 h0 bf D DD M b h Γ σ r p =>
  xi σ Γ b r.r _ p h r.g.gi _ fun J h1 b1 xs g1 hp1 w => by
    obtain ⟨I, i0, is, ie⟩ := hp1
    have r1 := r.up g1
    exact for_core M w xg xu r1.f (Rel.forget ⟨r1.r, r1.g, Ex.refl b1, r1.o, r1.u⟩ ws) I i0 is ie
end
def startG (n : Nat) (ds : List PyData) : Gam := ds.map (fun x => some (.d x)) ++ List.replicate (n - ds.length) none
theorem startG_gat : ∀ {ds : List PyData} {n i : Nat} {x : PyData}, gat (startG n ds) i = some (.d x) → ds[i]? = some x := fun {ds n i x} h => by
  induction ds generalizing i n with
  | nil =>
    have : ∀ m i, gat (List.replicate m none) i = none := fun m => by
      induction m with
      | zero => exact fun i => rfl
      | succ m ih => exact fun i => match i with
        | 0 => rfl
        | i + 1 => ih i
    have h : gat (List.replicate (n - 0) none) i = _ := h
    rw [this] at h
    cases h
  | cons d ds ih =>
    cases i with
    | zero =>
      have h : some (Sl.d d) = some (.d x) := h
      cases h
      rfl
    | succ i =>
      have h : gat (startG (n - 1) ds) i = some (.d x) := by
        have e : startG n (d :: ds) = some (.d d) :: startG (n - 1) ds := by
          unfold startG
          rw [List.map_cons, List.cons_append, List.length_cons]
          congr 3
          omega
        rw [e] at h
        exact h
      exact ih h
theorem startG_no : ∀ {ds : List PyData} {n i : Nat} {es : List PyData}, gat (startG n ds) i = some (.o es) → False := fun {ds n i es} h => by
  induction ds generalizing i n with
  | nil =>
    have : ∀ m i, gat (List.replicate m none) i = none := fun m => by
      induction m with
      | zero => exact fun i => rfl
      | succ m ih => exact fun i => match i with
        | 0 => rfl
        | i + 1 => ih i
    have h : gat (List.replicate (n - 0) none) i = _ := h
    rw [this] at h
    cases h
  | cons d ds ih =>
    cases i with
    | zero =>
      have h : some (Sl.d d) = some (.o es) := h
      cases h
    | succ i =>
      have h : gat (startG (n - 1) ds) i = some (.o es) := by
        have e : startG n (d :: ds) = some (.d d) :: startG (n - 1) ds := by
          unfold startG
          rw [List.map_cons, List.cons_append, List.length_cons]
          congr 3
          omega
        rw [e] at h
        exact h
      exact ih h
end Md
namespace Md
open PySem L2 Evl
section
variable {K : PySem.W.Frag} {b h : Hp} {vs : List V} {ds : List PyData} {t : TS} {dd : DS} {N : List Str} {Q : VK}
theorem start_relD (hA : DtA K b vs ds) (hl : ds.length ≤ N.length) : RelD K b (startG N.length ds) (L2.start N vs) := by
  refine ⟨?_, fun i x e => ?_⟩
  · unfold L2.start startG
    simp only [List.length_append, List.length_map, List.length_replicate, hA.length]
  · have hx := startG_gat e
    obtain ⟨v, hv, hd⟩ := hA.get hx
    refine ⟨v, ?_, hd⟩
    unfold L2.start
    rw [List.getElem?_append_left (by rw [List.length_map]; exact (List.getElem?_eq_some_iff.mp hv).1), List.getElem?_map, hv]
    rfl
theorem start_rel (eb : Ex b h) (hA : DtA K b vs ds) (hl : ds.length ≤ N.length) : Rel K b h b b h (startG N.length ds) (L2.start N vs) :=
  ⟨start_relD hA hl, Gr.refl eb, Ex.refl b, fun i es e => (startG_no e).elim, fun i j ds es p _ e => (startG_no e).elim⟩
theorem sim_P {Γ : Gam} (S : SimS K t dd) (eb : Ex b h) (hA : DtA K b vs ds) (hl : ds.length ≤ N.length) (hΓ : startG N.length ds = Γ) {P : PyData → Prop} (p : dd { nx := fun _ => P .none, rt := P, ro := fun l => P (.list l) } Γ)
    (kQ : ∀ v b' h' x, Gr b h b' h' → P x → Dt K b' v x → Q v h') : t { nx := fun _ H' => Q .non H', rt := Q } (L2.start N vs) h := by
  subst hΓ
  refine S b h b _ _ ⟨fun b1 h1 Γ σ r p => ?_, fun b1 h1 Γ σ r p => ?_, fun b1 h1 Γ σ r p => ?_, fun b1 h1 v x g hv p => ?_, fun b1 h1 q us es g nb n0 hq hA p => ?_, fun b1 h1 t us sls g nb n0 ht hP p => ?_⟩ b h _ _ (start_rel eb hA hl) p
  · exact kQ .non b1 h1 .none r.g p Dt.none
  · exact p
  · exact p
  · exact kQ v b1 h1 x g p hv
  · exact kQ (.ref q) _ h1 (.list es) (g.tell n0 nb hq) p (Dt.list upd_same (hA.up (Ex.new nb)))
  · exact p.elim
theorem sim_N {Γ : Gam} (S : SimS K t dd) (eb : Ex b h) (hA : DtA K b vs ds) (hl : ds.length ≤ N.length) (hΓ : startG N.length ds = Γ) {P : List PyData → Prop} (p : dd { nx := fun _ => False, rt := fun _ => False, ro := P } Γ)
    (kQ : ∀ p us b' h' xs, h p = none → b' p = none → Gr b h b' h' → h' p = some (.lst us) → DtA K b' us xs → P xs → Q (.ref p) h') : t { nx := fun _ H' => Q .non H', rt := Q } (L2.start N vs) h := by
  subst hΓ
  refine S b h b _ _ ⟨fun b1 h1 Γ σ r p => ?_, fun b1 h1 Γ σ r p => ?_, fun b1 h1 Γ σ r p => ?_, fun b1 h1 v x g hv p => ?_, fun b1 h1 q us es g nb n0 hq hA p => ?_, fun b1 h1 t us sls g nb n0 ht hP p => ?_⟩ b h _ _ (start_rel eb hA hl) p
  · exact p.elim
  · exact p
  · exact p
  · exact p.elim
  · exact kQ q us b1 h1 es n0 nb g hq hA p
  · exact p.elim
end
def con1 (f : PyData → (PyData → Prop) → Prop) : Con := fun ds P => match ds with
  | [a] => f a P
  | _ => False
def con2 (f : PyData → PyData → (PyData → Prop) → Prop) : Con := fun ds P => match ds with
  | [a, b] => f a b P
  | _ => False
def con3 (f : PyData → PyData → PyData → (PyData → Prop) → Prop) : Con := fun ds P => match ds with
  | [a, b, c] => f a b c P
  | _ => False
def conN1 (f : PyData → (List PyData → Prop) → Prop) : ConN := fun ds P => match ds with
  | [a] => f a P
  | _ => False
def conN2 (f : PyData → PyData → (List PyData → Prop) → Prop) : ConN := fun ds P => match ds with
  | [a, b] => f a b P
  | _ => False
def conN3 (f : PyData → PyData → PyData → (List PyData → Prop) → Prop) : ConN := fun ds P => match ds with
  | [a, b, c] => f a b c P
  | _ => False
def conN4 (f : PyData → PyData → PyData → PyData → (List PyData → Prop) → Prop) : ConN := fun ds P => match ds with
  | [a, b, c, d] => f a b c d P
  | _ => False
theorem con1_is {f ds P} (h : con1 f ds P) : ∃ a, ds = [a] ∧ f a P := by
  match ds, h with
  | [a], h => exact ⟨a, rfl, h⟩
theorem con2_is {f ds P} (h : con2 f ds P) : ∃ a b, ds = [a, b] ∧ f a b P := by
  match ds, h with
  | [a, b], h => exact ⟨a, b, rfl, h⟩
theorem con3_is {f ds P} (h : con3 f ds P) : ∃ a b c, ds = [a, b, c] ∧ f a b c P := by
  match ds, h with
  | [a, b, c], h => exact ⟨a, b, c, rfl, h⟩
theorem conN1_is {f ds P} (h : conN1 f ds P) : ∃ a, ds = [a] ∧ f a P := by
  match ds, h with
  | [a], h => exact ⟨a, rfl, h⟩
theorem conN2_is {f ds P} (h : conN2 f ds P) : ∃ a b, ds = [a, b] ∧ f a b P := by
  match ds, h with
  | [a, b], h => exact ⟨a, b, rfl, h⟩
theorem conN3_is {f ds P} (h : conN3 f ds P) : ∃ a b c, ds = [a, b, c] ∧ f a b c P := by
  match ds, h with
  | [a, b, c], h => exact ⟨a, b, c, rfl, h⟩
theorem conN4_is {f ds P} (h : conN4 f ds P) : ∃ a b c d, ds = [a, b, c, d] ∧ f a b c d P := by
  match ds, h with
  | [a, b, c, d], h => exact ⟨a, b, c, d, rfl, h⟩
theorem lc_map {α : Type} (L : List α) (enc : α → PyData) (r : α → PyData) {dg : DG} {de : DE} {vs : List Nat} {Γ : Gam} {P : List PyData → Prop} (hl : L.length ≤ 40000)
    (h : ∀ a ∈ L, ∀ k : PyData → Prop, k (r a) → dg (enc a) (wipeG Γ vs) fun Γ1 => de Γ1 k) (hp : P (L.map r)) :
    (L.map enc).length ≤ 40000 ∧ ∃ J : Nat → List PyData → Prop, J 0 [] ∧ (∀ i x acc, (L.map enc)[i]? = some x → J i acc → dg x (wipeG Γ vs) fun Γ1 => dYes Γ1 fun c => if c = true then de Γ1 fun d => J (i + 1) (acc ++ [d]) else J (i + 1) acc) ∧ ∀ acc, J (L.map enc).length acc → P acc := by
  refine ⟨by rw [List.length_map]; exact hl, fun i acc => acc = (L.take i).map r, rfl, fun i x acc hx hacc => ?_, fun acc hacc => ?_⟩
  · rw [List.getElem?_map] at hx
    cases q : L[i]? with
    | none =>
      rw [q] at hx
      cases hx
    | some a =>
      rw [q] at hx
      cases hx
      refine h a (List.mem_of_getElem? q) _ ?_
      show acc ++ [r a] = (L.take (i + 1)).map r
      rw [hacc, List.take_succ, q, List.map_append]
      rfl
  · rw [hacc, List.length_map, List.take_length]
    exact hp
theorem lc_fil {α : Type} (L : List α) (enc : α → PyData) (f : α → Bool) (r : α → PyData) {dg : DG} {dt : DT} {de : DE} {vs : List Nat} {Γ : Gam} {P : List PyData → Prop} (hl : L.length ≤ 40000)
    (h : ∀ a ∈ L, ∀ k : Option PyData → Prop, k (if f a = true then some (r a) else none) → dg (enc a) (wipeG Γ vs) fun Γ1 => dt Γ1 fun c => if c = true then de Γ1 fun d => k (some d) else k none) (hp : P ((L.filter f).map r)) :
    (L.map enc).length ≤ 40000 ∧ ∃ J : Nat → List PyData → Prop, J 0 [] ∧ (∀ i x acc, (L.map enc)[i]? = some x → J i acc → dg x (wipeG Γ vs) fun Γ1 => dt Γ1 fun c => if c = true then de Γ1 fun d => J (i + 1) (acc ++ [d]) else J (i + 1) acc) ∧ ∀ acc, J (L.map enc).length acc → P acc := by
  refine ⟨by rw [List.length_map]; exact hl, fun i acc => acc = ((L.take i).filter f).map r, rfl, fun i x acc hx hacc => ?_, fun acc hacc => ?_⟩
  · rw [List.getElem?_map] at hx
    cases q : L[i]? with
    | none =>
      rw [q] at hx
      cases hx
    | some a =>
      rw [q] at hx
      cases hx
      refine h a (List.mem_of_getElem? q) (fun o => match o with | some d => acc ++ [d] = ((L.take (i + 1)).filter f).map r | none => acc = ((L.take (i + 1)).filter f).map r) ?_
      rw [hacc, List.take_succ, q]
      cases hf : f a with
      | true => simp [hf]
      | false => simp [hf]
  · rw [hacc, List.length_map, List.take_length]
    exact hp
end Md
set_option Elab.async false
set_option linter.all false
set_option maxRecDepth 100000
set_option maxHeartbeats 2000000
namespace Md
open PySem L2 Evl
theorem inDK {X : Cx} {K : PySem.W.Frag} (hu : X.A.units + 65 < cLine) (h : X.K = K) : OpR X (compareOp .In) (rInD K) := h ▸ op_inD hu
theorem niDK {X : Cx} {K : PySem.W.Frag} (hu : X.A.units + 65 < cLine) (h : X.K = K) : OpR X (compareOp .NotIn) (rNotInD K) := h ▸ op_notInD hu
section
variable {X : Cx} {K : PySem.W.Frag} {te ta tb : TE} {ts tk tr : TA} {da db de : DE} {dn dr dk : DN} {o e : Expr} {to : TE}
theorem pe_indexDK {apos cpos : Pos} (hu : X.A.units + 65 < cLine) (h : X.K = K) (ho : PE X o to) (ha : PA X [e] ts) (hbase : attributeBase o "index" X.env (eval o X.env) = eval o X.env := by rfl)
    (hfew : ((backTo cpos (starEach [e] X.env)).all (fun x => !x.1) && (backToKw cpos (keywordEach [] X.env)).all (fun x => x.1.isSome) && decide ([e].length + ([] : List Keyword).length + (if ([] : List Keyword).isEmpty then 0 else 1) < 30)) = true := by rfl)
    (hline : (apos.endLine == cpos.line) = true := by rfl) (hs : starEach [e] X.env = (false, eval e X.env) :: starEach [] X.env := by rfl) (hp : (backTo cpos (starEach [] X.env)).any (·.1) = false := by rfl) :
    PE X (.Call (.Attribute o "index" apos) [e] [] cpos) (tBM K "list" (rIndexD K) to ts) :=
  h ▸ pe_bm PySem.F.plainAttrs_list PySem.F.slot_list_index PySem.F.type_list_index (mt_indexD hu) ho ha hbase hfew hline hs hp
def dIndex (da db : DE) : DE := fun Γ P => da Γ fun x => onL x fun ds => db Γ fun y => SeqAt.shaped (.list ds) = true ∧ SeqAt.shaped y = true ∧ ∃ (j : Nat) (z : PyData), ds[j]? = some z ∧ PyData.eqv z y = true ∧ (∀ (m : Nat) (z' : PyData), m < j → ds[m]? = some z' → PyData.eqv z' y = false) ∧ P (.int (j : Int))
theorem z_index (x : SimE K ta da) (y : SimE K tb db) : SimE K (tBM K "list" (rIndexD K) ta (tCons tb tNil)) (dIndex da db) := fun σ Γ b r P hp h e Q q => x σ Γ b r _ hp h e _ fun v b2 h2 d g2 hp2 hv => by
  obtain ⟨ds, rfl, hp3⟩ := onL_is hp2
  obtain ⟨a, xs, rfl, k1, k2⟩ := hv.listI
  refine ⟨Or.inl ⟨rfl, _, sq_of (g2.gi _ _ k1)⟩, y σ Γ b2 (r.up g2.gb) _ hp3 h2 g2.gi _ fun w b3 h3 d' g3 hp4 hw => ?_⟩
  obtain ⟨s1, s2, j, z, hz, e1, e2, hp5⟩ := hp4
  exact ⟨a, w, d', ds, j, z, rfl, rfl, Dt.dp _ _ (((Dt.list k1 k2).up g3.gb).up g3.gi), Dt.dp _ _ (hw.up g3.gi), s1, s2, hz, e1, e2, q _ b3 h3 _ (g2.trans g3) hp5 (Dt.int _)⟩
def dTru (da : DE) : DT := fun Γ P => da Γ fun x => onSq x fun ds => P (!ds.isEmpty)
end
end Md
namespace Md
open PySem L2 Evl
section
variable {P : Program} {w : World} {K : PySem.W.Frag} {mg : Str → Option Value} {base : Heap} {k : Nat} {x : Str} {ps : List Str} {sp sp' : Sp}
theorem Has.to (h : Has P w K mg base k x ps sp) (i : ∀ vs H Q E, sp' vs H Q E → sp vs H Q E) : Has P w K mg base k x ps sp' := by
  obtain ⟨f, fd, F, a, b, c⟩ := h
  exact ⟨f, fd, ⟨fun vs H Q E x => F.len vs H Q E (i vs H Q E x), fun A outer s H args us vs Q E r1 r2 r3 r4 r5 => F.run A outer s H args us vs Q E r1 r2 r3 r4 (i vs H Q E r5)⟩, a, b, c⟩
theorem sim_law {t : TS} {dd : DS} {b h : Hp} {Γ : Gam} {σ : L2.St} {Q : VK} (S : SimS K t dd) (hr : RelD K b Γ σ) (eb : Ex b h) (ho : ∀ i ds, gat Γ i = some (.o ds) → False)
    (p : dd { nx := fun _ => False, rt := fun x => x = .bool true, ro := fun _ => False } Γ) (kQ : ∀ H', Q (.bl true) H') : t { nx := fun _ H' => Q .non H', rt := Q } σ h := by
  refine S b h b _ { nx := fun _ => False, rt := fun x => x = .bool true, ro := fun _ => False } ⟨fun b1 h1 Γ σ r p => p.elim, fun b1 h1 Γ σ r p => p, fun b1 h1 Γ σ r p => p, fun b1 h1 v x g hv p => ?_, fun b1 h1 q us es g nb n0 hq hA p => p.elim, fun b1 h1 t us sls g nb n0 ht hP p => p.elim⟩ b h Γ σ ⟨hr, Gr.refl eb, Ex.refl b, fun i es e => (ho i es e).elim, fun i j ds es p _ e => (ho i ds e).elim⟩ p
  subst p
  rw [hv.boolI]
  exact kQ h1
theorem sim_law2 {t : TS} {b h : Hp} {Γ : Gam} {σ : L2.St} {Q : VK} (hr : RelD K b Γ σ) (eb : Ex b h) (ho : ∀ i ds, gat Γ i = some (.o ds) → False) (kQ : ∀ H', Q (.bl true) H')
    (p : ∃ dd, SimS K t dd ∧ dd { nx := fun _ => False, rt := fun x => x = .bool true, ro := fun _ => False } Γ) : t { nx := fun _ H' => Q .non H', rt := Q } σ h := by
  obtain ⟨dd, S, p⟩ := p
  exact sim_law S hr eb ho p kQ
end
end Md
namespace Md
open PySem L2 Evl
section
variable {k : List PyData → Prop}
theorem onI_i {i : Int} {k : Int → Prop} : onI (.int i) k = k i := rfl
theorem onB_b {i : Bool} {k : Bool → Prop} : onB (.bool i) k = k i := rfl
theorem onL_l {l : List PyData} : onL (.list l) k = k l := rfl
theorem onT_t {l : List PyData} : onT (.tuple l) k = k l := rfl
theorem onSq_l {l : List PyData} : onSq (.list l) k = k l := rfl
theorem onSq_t {l : List PyData} : onSq (.tuple l) k = k l := rfl
theorem onT_nD {p : Int × Int} : onT (nD p) k = k [.int p.1, .int p.2] := rfl
theorem onT_nQ {r : Rat} : onT (nQ r) k = k [.int r.num, .int (r.den : Int)] := rfl
theorem onSq_nD {p : Int × Int} : onSq (nD p) k = k [.int p.1, .int p.2] := rfl
theorem onSq_nQ {r : Rat} : onSq (nQ r) k = k [.int r.num, .int (r.den : Int)] := rfl
theorem onL_nums {l : List (Int × Int)} : onL (numsD l) k = k (l.map nD) := rfl
theorem onSq_nums {l : List (Int × Int)} : onSq (numsD l) k = k (l.map nD) := rfl
theorem onL_gv {G : List PlV} : onL (gvD G) k = k (G.map PlV.D) := rfl
theorem onSq_gv {G : List PlV} : onSq (gvD G) k = k (G.map PlV.D) := rfl
theorem onL_listQ {n : Nat} {f : Nat → Rat} : onL (listQ n f) k = k ((List.range n).map fun i => nQ (f i)) := rfl
theorem onSq_listQ {n : Nat} {f : Nat → Rat} : onSq (listQ n f) k = k ((List.range n).map fun i => nQ (f i)) := rfl
theorem onL_nats {l : List Nat} : onL (natsD l) k = k (l.map fun x : Nat => PyData.int (x : Int)) := rfl
theorem onSq_nats {l : List Nat} : onSq (natsD l) k = k (l.map fun x : Nat => PyData.int (x : Int)) := rfl
theorem onL_ints {l : List Int} : onL (intsD l) k = k (l.map PyData.int) := rfl
theorem onSq_ints {l : List Int} : onSq (intsD l) k = k (l.map PyData.int) := rfl
theorem onL_rats {l : List Rat} : onL (ratsD l) k = k (l.map nQ) := rfl
theorem onT_D {p : PlV} : onT p.D k = k [nD p.g, .str (kdV p.k), .list p.el] := rfl
theorem scD_i {i : Int} : scD (.int i) = true := rfl
theorem scD_b {i : Bool} : scD (.bool i) = true := rfl
theorem scD_s {i : Str} : scD (.str i) = true := rfl
theorem scD_n : scD .none = true := rfl
theorem isNo_n : isNo .none = true := rfl
theorem isNo_i {i : Int} : isNo (.int i) = false := rfl
theorem isNo_l {l : List PyData} : isNo (.list l) = false := rfl
theorem isNo_t {l : List PyData} : isNo (.tuple l) = false := rfl
theorem eqS_i {i j : Int} : eqS (.int i) (.int j) = some (decide (i = j)) := rfl
theorem eqS_s {i j : Str} : eqS (.str i) (.str j) = some (decide (i = j)) := rfl
theorem eqS_n : eqS .none .none = some true := rfl
theorem eqS_in {i : Int} : eqS (.int i) .none = some false := rfl
end
section
variable {α : Type} {di : DN} {dg : DG} {dt : DT} {de : DE} {du : DS} {DD : DEnds} {vs : List Nat} {Γ : Gam} {P : List PyData → Prop}
theorem dlc_map (L : List α) (enc : α → PyData) (r : α → PyData) (hi : ∀ k : List PyData → Prop, k (L.map enc) → di Γ k) (hl : L.length ≤ 40000)
    (h : ∀ a ∈ L, ∀ k : PyData → Prop, k (r a) → dg (enc a) (wipeG Γ vs) fun Γ1 => de Γ1 k) (hp : P (L.map r)) : dLc di dg dYes de vs Γ P := hi _ (lc_map L enc r hl h hp)
theorem dlc_fil (L : List α) (enc : α → PyData) (f : α → Bool) (r : α → PyData) (hi : ∀ k : List PyData → Prop, k (L.map enc) → di Γ k) (hl : L.length ≤ 40000)
    (h : ∀ a ∈ L, ∀ k : Option PyData → Prop, k (if f a = true then some (r a) else none) → dg (enc a) (wipeG Γ vs) fun Γ1 => dt Γ1 fun c => if c = true then de Γ1 fun d => k (some d) else k none) (hp : P ((L.filter f).map r)) : dLc di dg dt de vs Γ P := hi _ (lc_fil L enc f r hl h hp)
theorem dfor_inv {ws : List Nat} (L : List α) (enc : α → PyData) (hi : ∀ k : List PyData → Prop, k (L.map enc) → di Γ k) (I : Nat → Gam → Prop) (h0 : I 0 (wipeG Γ ws))
    (hs : ∀ i a Γ', L[i]? = some a → I i Γ' → dg (enc a) Γ' fun Γ1 => du { DD with nx := fun Γ2 => I (i + 1) (wipeG Γ2 ws), ct := fun Γ2 => I (i + 1) (wipeG Γ2 ws), bk := DD.nx } Γ1) (he : ∀ Γ', I L.length Γ' → DD.nx Γ') : dFor ws di dg du DD Γ := by
  refine hi _ ⟨I, h0, fun i x Γ' hx hI => ?_, fun Γ' hI => he Γ' (by rw [List.length_map] at hI; exact hI)⟩
  rw [List.getElem?_map] at hx
  cases q : L[i]? with
  | none =>
    rw [q] at hx
    cases hx
  | some a =>
    rw [q] at hx
    cases hx
    exact hs i a Γ' q hI
theorem dfor_det {ws : List Nat} (L : List α) (enc : α → PyData) (hi : ∀ k : List PyData → Prop, k (L.map enc) → di Γ k) (Gs : Nat → Gam) (h0 : wipeG Γ ws = Gs 0)
    (hs : ∀ i a, L[i]? = some a → ∀ k : Gam → Prop, k (Gs (i + 1)) → dg (enc a) (Gs i) fun Γ1 => du { DD with nx := fun Γ2 => k (wipeG Γ2 ws), ct := fun Γ2 => k (wipeG Γ2 ws), bk := DD.nx } Γ1) (he : DD.nx (Gs L.length)) : dFor ws di dg du DD Γ :=
  dfor_inv L enc hi (fun i Γ' => Γ' = Gs i) h0 (fun i a Γ' ha e => by
    subst e
    exact hs i a ha (fun Γ2 => Γ2 = Gs (i + 1)) rfl) fun Γ' e => by
    rw [e]
    exact he
end
theorem rangeD0 (n : Nat) : rangeD 0 n = (List.range n).map fun i : Nat => PyData.int (i : Int) := by
  unfold rangeD
  refine List.map_congr_left fun i _ => ?_
  rw [Int.zero_add]
theorem zipD_map {α β : Type} (L : List α) (M : List β) (f : α → PyData) (g : β → PyData) : zipD (L.map f) (M.map g) = (L.zip M).map fun p => .tuple [f p.1, g p.2] := by
  unfold zipD
  rw [List.zipWith_map]
  rw [List.zip, List.map_zipWith]
end Md
namespace Md
open PySem L2 Evl
theorem room65 {k : Nat} {A : Around} (r : Room k A) : A.units + 65 < cLine := by
  have := r.un
  omega
end Md
set_option Elab.async false
set_option linter.all false
set_option maxRecDepth 100000
set_option maxHeartbeats 2000000
namespace Md
open PySem L2 Evl
def kDen : Con := con1 fun x P => ∃ l : List (Int × Int), x = numsD l ∧ (∀ p ∈ l, 1 ≤ p.2) ∧ denL l < 2 ^ 13000 ∧ P (.int (denL l : Int))
def kWhA : Con := con2 fun x y P => ∃ (p : Int × Int) (M : Int), x = nD p ∧ y = .int M ∧ 1 ≤ p.2 ∧ p.1.natAbs < 2 ^ 13000 ∧ p.2.natAbs < 2 ^ 9000 ∧ M.natAbs < 2 ^ 13000 ∧ P (.int (p.1 * (M / p.2)))
def kGains : Con := con1 fun x P => ∃ G : List PlV, x = gvD G ∧ G.length ≤ 100 ∧ P (numsD (gainsV G))
def kChs : Con := con1 fun x P => ∃ G : List PlV, x = gvD G ∧ G.length ≤ 100 ∧ (∀ p ∈ G, p.bs.length ≤ 6) ∧ P (numsD (chancesV G))
def kTg : Con := con1 fun x P => ∃ p : PlV, x = p.D ∧ p.bs.length ≤ 6 ∧ P (natsD (p.bs.map (·.2)))
def kSW : Con := con3 fun x y z P => ∃ (p : PlV) (ns : List Int) (S n w : Nat), x = p.D ∧ y = .list (ns.map PyData.int) ∧ z = .int (S : Int) ∧ WfV w n p ∧ n ≤ ns.length ∧ S < 2 ^ 13000 ∧ (p.k = none → ∀ q ∈ p.bs, q.1.2.natAbs ∣ S) ∧
  (∀ q ∈ p.bs, (ns.getD q.2 0).natAbs < 2 ^ 26000) ∧ ∀ z : Int, (z : Rat) = vW p (fun j => ((ns.getD j 0 : Int) : Rat)) * natR S → P (.int z)
def kLow : Con := con2 fun x y P => ∃ n d : Int, x = .int n ∧ y = .int d ∧ 0 < d ∧ d.natAbs < 2 ^ 8000 ∧ P (nD (num n d))
section
variable {K : PySem.W.Frag} {vs : List V} {h : Hp} {Q : VK} {E : XK}
theorem c_den (x : spP K kDen vs h Q E) : spDen K vs h Q E := by
  obtain ⟨b, ds, P, e, hA, hR, k⟩ := x
  obtain ⟨a, rfl, l, rfl, h1, h2, p⟩ := con1_is hR
  exact ⟨b, l, e, hA, h1, h2, fun h' e' => k _ b h' _ (Gr.stay e e') p (Dt.int _)⟩
theorem c_gains (x : spP K kGains vs h Q E) : spGainsV K vs h Q E := by
  obtain ⟨b, ds, P, e, hA, hR, k⟩ := x
  obtain ⟨a, rfl, G, rfl, h1, p⟩ := con1_is hR
  exact ⟨b, G, e, hA, h1, fun v b' h' g hv => k _ b' h' _ g p hv⟩
theorem c_chs (x : spP K kChs vs h Q E) : spChV K vs h Q E := by
  obtain ⟨b, ds, P, e, hA, hR, k⟩ := x
  obtain ⟨a, rfl, G, rfl, h1, h2, p⟩ := con1_is hR
  exact ⟨b, G, e, hA, h1, h2, fun v b' h' g hv => k _ b' h' _ g p hv⟩
theorem c_wha (x : spP K kWhA vs h Q E) : spWhA K vs h Q E := by
  obtain ⟨b, ds, P, e, hA, hR, k⟩ := x
  obtain ⟨a, c, rfl, p, M, rfl, rfl, h1, h2, h3, h4, pp⟩ := con2_is hR
  exact ⟨b, p, M, e, hA, h1, h2, h3, h4, fun h' e' => k _ b h' _ (Gr.stay e e') pp (Dt.int _)⟩
theorem c_sw (x : spP K kSW vs h Q E) : spSW K vs h Q E := by
  obtain ⟨b, ds, P, e, hA, hR, k⟩ := x
  obtain ⟨a, c, d, rfl, p, ns, S, n, w, rfl, rfl, rfl, h1, h2, h3, h4, h5, pp⟩ := con3_is hR
  exact ⟨b, p, ns, S, n, w, e, hA, h1, h2, h3, h4, h5, fun z h' e' hz => k _ b h' _ (Gr.stay e e') (pp z hz) (Dt.int _)⟩
theorem c_low (x : spP K kLow vs h Q E) : spLowest K vs h Q E := by
  obtain ⟨b, ds, P, e, hA, hR, k⟩ := x
  obtain ⟨a, c, rfl, n, d, rfl, rfl, h1, h2, pp⟩ := con2_is hR
  exact ⟨b, n, d, e, hA, h1, h2, fun v b' h' g hv => k _ b' h' _ g pp hv⟩
end
def wS (G : List PlV) (d : Rat) (s : Nat → Rat) : Nat → Nat → Rat
  | 0, k => s k
  | t + 1, k => qN (vl G k).g + d * vW (vl G k) (wS G d s t)
theorem wS_zero (G : List PlV) (d : Rat) : ∀ t k, wS G d (fun _ => 0) t k = wG G d t k
  | 0, _ => rfl
  | t + 1, k => by
    show _ + d * vW _ (wS G d (fun _ => 0) t) = _ + d * vW _ (wG G d t)
    have : wS G d (fun _ => 0) t = wG G d t := funext (wS_zero G d t)
    rw [this]
theorem nb_wS {w U S dn dd B0 : Nat} {G : List PlV} {s : Nat → Rat} (hW : WfVG w G) (hU : ∀ p ∈ G, p.g.2.natAbs ∣ U) (hS : ∀ p ∈ G, p.k = none → ∀ q ∈ p.bs, q.1.2.natAbs ∣ S) (h1 : dn ≤ dd) (h2 : 1 ≤ dd) (h0 : ∀ k, k < G.length → NB U B0 (s k)) :
    ∀ t k, k < G.length → NB (U * (S * dd) ^ t) (B0 + 1000 * t) (wS G (natR dn / natR dd) s t k)
  | 0, k, hk => by
    rw [Nat.pow_zero, Nat.mul_one, Nat.mul_zero, Nat.add_zero]
    exact h0 k hk
  | t + 1, k, hk => by
    have hw := vl_wf hW hk
    have hm := vl_mem hk
    have ih := nb_wS hW hU hS h1 h2 h0 t
    have a := nb_vW (f := wS G (natR dn / natR dd) s t) hw (hS _ hm) fun q hq => ih q.2 (hw.t q hq)
    obtain ⟨d0, d1, dz⟩ := disc_le h1 h2
    have g := q_small hw.g
    have eM : U * (S * dd) ^ (t + 1) = dd * (U * (S * dd) ^ t * S) := by
      rw [Nat.pow_succ]
      simp [Nat.mul_comm, Nat.mul_left_comm, Nat.mul_assoc]
    have eB : natR (B0 + 1000 * (t + 1)) = natR (B0 + 1000 * t) + 1000 := by
      rw [Nat.mul_add, ← Nat.add_assoc, natR_add]
      rfl
    have n0 := natR_nonneg (B0 + 1000 * t)
    have lo := a.lo
    have hi := a.hi
    generalize hv : vW (vl G k) (wS G (natR dn / natR dd) s t) = v at *
    have dv : -natR (B0 + 1000 * t) ≤ natR dn / natR dd * v ∧ natR dn / natR dd * v ≤ natR (B0 + 1000 * t) := by
      generalize natR dn / natR dd = d at *
      have u1 := Rat.mul_le_mul_of_nonneg_left hi d0
      have u2 := Rat.mul_le_mul_of_nonneg_left lo d0
      have u3 := Rat.mul_le_mul_of_nonneg_right d1 n0
      constructor <;> grind
    show NB _ _ (qN (vl G k).g + natR dn / natR dd * vW (vl G k) (wS G (natR dn / natR dd) s t))
    rw [hv]
    refine ⟨Zt.add ((zt_den (red_small hw.g) (hU _ hm)).dvd (Nat.dvd_mul_right _ _)) (by rw [eM]; exact dz.mul a.zt), ?_, ?_⟩
    · rw [eB]; grind
    · rw [eB]; grind
def szS (G : List PlV) (d : Rat) (s : Nat → Rat) (M : Nat → Nat) (t k : Nat) : Int := (wS G d s t k * natR (M t)).num
theorem szS_cast {G : List PlV} {d : Rat} {s : Nat → Rat} {M : Nat → Nat} {t k : Nat} (h : Zt (M t) (wS G d s t k)) : ((szS G d s M t k : Int) : Rat) = wS G d s t k * natR (M t) := by
  obtain ⟨z, hz⟩ := h
  unfold szS
  have hz' : wS G d s t k * natR (M t) = (z : Rat) := hz
  rw [hz', num_cast]
def unitS (G : List PlV) (s : Nat → Rat) : Nat := denL (gainsV G ++ (List.range G.length).map fun k => canon (s k))
def kWA : ConN := conN4 fun x y z u P => ∃ (G : List PlV) (w dn dd t B0 : Nat) (s : Nat → Rat), x = gvD G ∧ y = nD ((dn : Int), (dd : Int)) ∧ z = listQ G.length s ∧ u = .int (t : Int) ∧ 1 ≤ w ∧ w ≤ 999 ∧ WfVG w G ∧ dn ≤ dd ∧ 1 ≤ dd ∧ dd < 2 ^ 3000 ∧ t ≤ 1000 ∧
  unitS G s * (denL (chancesV G) * dd) ^ t < 2 ^ 3000 ∧ B0 ≤ 2 ^ 900 ∧ (∀ k, k < G.length → -natR B0 ≤ s k ∧ s k ≤ natR B0) ∧ P ((List.range G.length).map fun k => nQ (wS G (natR dn / natR dd) s t k))
end Md
namespace Md
open PySem L2 Evl
section
variable {P : PyData → Prop}
theorem kDen_i {l : List (Int × Int)} (h1 : ∀ p ∈ l, 1 ≤ p.2) (h2 : denL l < 2 ^ 13000) (p : P (.int (denL l : Int))) : kDen [numsD l] P := ⟨l, rfl, h1, h2, p⟩
theorem kWhA_i {q : Int × Int} {M : Int} (h1 : 1 ≤ q.2) (h2 : q.1.natAbs < 2 ^ 13000) (h3 : q.2.natAbs < 2 ^ 9000) (h4 : M.natAbs < 2 ^ 13000) (p : P (.int (q.1 * (M / q.2)))) : kWhA [nD q, .int M] P := ⟨q, M, rfl, rfl, h1, h2, h3, h4, p⟩
theorem kGains_i {G : List PlV} (h1 : G.length ≤ 100) (p : P (numsD (gainsV G))) : kGains [gvD G] P := ⟨G, rfl, h1, p⟩
theorem kChs_i {G : List PlV} (h1 : G.length ≤ 100) (h2 : ∀ p ∈ G, p.bs.length ≤ 6) (p : P (numsD (chancesV G))) : kChs [gvD G] P := ⟨G, rfl, h1, h2, p⟩
theorem kSW_i {q : PlV} {ns : List Int} {S n w : Nat} (h1 : WfV w n q) (h2 : n ≤ ns.length) (h3 : S < 2 ^ 13000) (h4 : q.k = none → ∀ r ∈ q.bs, r.1.2.natAbs ∣ S) (h5 : ∀ r ∈ q.bs, (ns.getD r.2 0).natAbs < 2 ^ 26000)
    (p : ∀ z : Int, (z : Rat) = vW q (fun j => ((ns.getD j 0 : Int) : Rat)) * natR S → P (.int z)) : kSW [q.D, .list (ns.map PyData.int), .int (S : Int)] P := ⟨q, ns, S, n, w, rfl, rfl, rfl, h1, h2, h3, h4, h5, p⟩
theorem kLow_i {n d : Int} (h1 : 0 < d) (h2 : d.natAbs < 2 ^ 8000) (p : P (nD (num n d))) : kLow [.int n, .int d] P := ⟨n, d, rfl, rfl, h1, h2, p⟩
theorem kWA_i {G : List PlV} {w dn dd t B0 : Nat} {s : Nat → Rat} {P : List PyData → Prop} (h1 : 1 ≤ w) (h2 : w ≤ 999) (h3 : WfVG w G) (h4 : dn ≤ dd) (h5 : 1 ≤ dd) (h6 : dd < 2 ^ 3000) (h7 : t ≤ 1000) (h8 : unitS G s * (denL (chancesV G) * dd) ^ t < 2 ^ 3000) (h9 : B0 ≤ 2 ^ 900)
    (h10 : ∀ k, k < G.length → -natR B0 ≤ s k ∧ s k ≤ natR B0) (p : P ((List.range G.length).map fun k => nQ (wS G (natR dn / natR dd) s t k))) : kWA [gvD G, nD ((dn : Int), (dd : Int)), listQ G.length s, .int (t : Int)] P :=
  ⟨G, w, dn, dd, t, B0, s, rfl, rfl, rfl, rfl, h1, h2, h3, h4, h5, h6, h7, h8, h9, h10, p⟩
end
end Md
namespace Md
open PySem L2 Evl
theorem cmw {i j : Int} (hi : i.natAbs < 2 ^ 13000) (hj : j.natAbs < 2 ^ 13000) : CMulW i j := wide_mul (a := 13000) (b := 13000) hi hj (by decide) (by decide) (by decide)
theorem pow13 {z k : Nat} (h : z < 2 ^ k) (hk : k ≤ 13000) : z < 2 ^ 13000 := Nat.lt_of_lt_of_le h (Nat.pow_le_pow_right (by decide) hk)
structure StepW (G : List PlV) (w dn dd t B0 : Nat) (s : Nat → Rat) : Prop where
  w1 : 1 ≤ w
  w9 : w ≤ 999
  W : WfVG w G
  dl : dn ≤ dd
  d1 : 1 ≤ dd
  db : dd < 2 ^ 3000
  T : t ≤ 1000
  M : unitS G s * (denL (chancesV G) * dd) ^ t < 2 ^ 3000
  B : B0 ≤ 2 ^ 900
  sb : ∀ k, k < G.length → -natR B0 ≤ s k ∧ s k ≤ natR B0
section
variable {G : List PlV} {w dn dd t B0 : Nat} {s : Nat → Rat} (x : StepW G w dn dd t B0 s)
include x
theorem StepW.S : 0 < denL (chancesV G) ∧ denL (chancesV G) < 2 ^ 3000 := by
  have h := scaleV_ok x.w1 x.W
  exact ⟨h.1, Nat.lt_of_le_of_lt h.2 (Nat.lt_of_le_of_lt (Nat.pow_le_pow_left x.w9 _) (Nat.lt_of_le_of_lt (Nat.pow_le_pow_right (by decide) x.W.l12) (Nat.lt_of_lt_of_le (by decide : 999 ^ 12 < 2 ^ 120) (Nat.pow_le_pow_right (by decide) (by decide)))))⟩
theorem StepW.up : ∀ p ∈ gainsV G ++ (List.range G.length).map (fun k => canon (s k)), 1 ≤ p.2 := fun p hp => by
  rcases List.mem_append.mp hp with h | h
  · obtain ⟨q, hq, rfl⟩ := List.mem_map.mp h
    exact (x.W.p q hq).g.1
  · obtain ⟨k, _, rfl⟩ := List.mem_map.mp h
    exact (canon_red _).1
theorem StepW.mono {i : Nat} (h : i ≤ t) : unitS G s * (denL (chancesV G) * dd) ^ i < 2 ^ 3000 := Nat.lt_of_le_of_lt (Nat.mul_le_mul_left _ (Nat.pow_le_pow_right (Nat.mul_pos x.S.1 x.d1) h)) x.M
theorem StepW.U : 0 < unitS G s ∧ unitS G s < 2 ^ 3000 := by
  refine ⟨denL_pos x.up, ?_⟩
  have := x.mono (Nat.zero_le t)
  rwa [Nat.pow_zero, Nat.mul_one] at this
theorem StepW.gU : ∀ p ∈ G, p.g.2.natAbs ∣ unitS G s := fun p hp => denL_dvd (List.mem_append_left _ (List.mem_map.mpr ⟨p, hp, rfl⟩))
theorem StepW.sU {k : Nat} (hk : k < G.length) : (canon (s k)).2.natAbs ∣ unitS G s := denL_dvd (List.mem_append_right _ (List.mem_map.mpr ⟨k, List.mem_range.mpr hk, rfl⟩))
theorem StepW.cS : ∀ p ∈ G, p.k = none → ∀ q ∈ p.bs, q.1.2.natAbs ∣ denL (chancesV G) := fun p hp hk q hq => denL_dvd (chv_mem hp hk hq)
theorem StepW.nb0 {k : Nat} (hk : k < G.length) : NB (unitS G s) B0 (s k) := by
  have h := zt_den (canon_red (s k)) (x.sU hk)
  rw [q_canon] at h
  exact ⟨h, (x.sb k hk).1, (x.sb k hk).2⟩
theorem StepW.nb (i : Nat) {k : Nat} (hk : k < G.length) : NB (unitS G s * (denL (chancesV G) * dd) ^ i) (B0 + 1000 * i) (wS G (natR dn / natR dd) s i k) := nb_wS x.W x.gU x.cS x.dl x.d1 (fun k hk => x.nb0 hk) i k hk
theorem StepW.sz (i : Nat) {k : Nat} (hk : k < G.length) : ((szS G (natR dn / natR dd) s (fun i => unitS G s * (denL (chancesV G) * dd) ^ i) i k : Int) : Rat) = wS G (natR dn / natR dd) s i k * natR (unitS G s * (denL (chancesV G) * dd) ^ i) :=
  szS_cast (M := fun i => unitS G s * (denL (chancesV G) * dd) ^ i) (x.nb i hk).zt
theorem StepW.szb {i : Nat} (h : i ≤ t) {k : Nat} (hk : k < G.length) : (szS G (natR dn / natR dd) s (fun i => unitS G s * (denL (chancesV G) * dd) ^ i) i k).natAbs < 2 ^ 5000 := by
  have h1 := nb_abs (x.nb i hk) (x.sz i hk)
  refine Nat.lt_of_lt_of_le (lt_pow_mul (i := 901) h1 ?_ (x.mono h)) (Nat.pow_le_pow_right (by decide) (by decide))
  have h2 := x.B
  have h3 := x.T
  have h4 : 1000 * i ≤ 1000 * 1000 := by omega
  have h5 : 1000 * 1000 ≤ 2 ^ 900 := Nat.le_trans (by decide : 1000 * 1000 ≤ 2 ^ 20) (Nat.pow_le_pow_right (by decide) (by decide))
  have h6 : (2 : Nat) ^ 901 = 2 ^ 900 + 2 ^ 900 := by rw [Nat.pow_succ]; omega
  omega
theorem StepW.gz {k : Nat} (hk : k < G.length) : (((vl G k).g.1 * ((unitS G s : Int) / (vl G k).g.2) : Int) : Rat) = qN (vl G k).g * natR (unitS G s) := whole_q (red_small (vl_wf x.W hk).g) (x.gU _ (vl_mem hk))
theorem StepW.gzb {k : Nat} (hk : k < G.length) : ((vl G k).g.1 * ((unitS G s : Int) / (vl G k).g.2)).natAbs ≤ 1000 * unitS G s := by
  have g := (vl_wf x.W hk).g
  rw [Int.natAbs_mul]
  have h1 : ((unitS G s : Int) / (vl G k).g.2).natAbs ≤ unitS G s := by
    have := Int.natAbs_ediv_le_natAbs (unitS G s : Int) (vl G k).g.2
    rwa [Int.natAbs_natCast] at this
  exact Nat.mul_le_mul (by have := g.2.2.1; omega) h1
end
end Md
namespace Md
open PySem L2 Evl
theorem natR_11 : natR 1 / natR 1 = 1 := by
  rw [natR_one]
  decide +kernel
def kWF : ConN := conN3 fun x y z P => ∃ (G : List PlV) (w t B0 : Nat) (s : Nat → Rat), x = gvD G ∧ y = listQ G.length s ∧ z = .int (t : Int) ∧ 1 ≤ w ∧ w ≤ 999 ∧ WfVG w G ∧ t ≤ 1000 ∧ unitS G s * denL (chancesV G) ^ t < 2 ^ 3000 ∧ B0 ≤ 2 ^ 900 ∧
  (∀ k, k < G.length → -natR B0 ≤ s k ∧ s k ≤ natR B0) ∧ P ((List.range G.length).map fun k => nQ (wS G 1 s t k))
def kWo : ConN := conN2 fun x y P => ∃ (G : List PlV) (w t : Nat), x = gvD G ∧ y = .int (t : Int) ∧ 1 ≤ w ∧ w ≤ 999 ∧ WfVG w G ∧ t ≤ 1000 ∧ denL (gainsV G) * denL (chancesV G) ^ t < 2 ^ 3000 ∧ P ((List.range G.length).map fun k => nQ (wG G 1 t k))
theorem kWF_i {G : List PlV} {w t B0 : Nat} {s : Nat → Rat} {P : List PyData → Prop} (h1 : 1 ≤ w) (h2 : w ≤ 999) (h3 : WfVG w G) (h4 : t ≤ 1000) (h5 : unitS G s * denL (chancesV G) ^ t < 2 ^ 3000) (h6 : B0 ≤ 2 ^ 900)
    (h7 : ∀ k, k < G.length → -natR B0 ≤ s k ∧ s k ≤ natR B0) (p : P ((List.range G.length).map fun k => nQ (wS G 1 s t k))) : kWF [gvD G, listQ G.length s, .int (t : Int)] P := ⟨G, w, t, B0, s, rfl, rfl, rfl, h1, h2, h3, h4, h5, h6, h7, p⟩
theorem kWo_i {G : List PlV} {w t : Nat} {P : List PyData → Prop} (h1 : 1 ≤ w) (h2 : w ≤ 999) (h3 : WfVG w G) (h4 : t ≤ 1000) (h5 : denL (gainsV G) * denL (chancesV G) ^ t < 2 ^ 3000) (p : P ((List.range G.length).map fun k => nQ (wG G 1 t k))) : kWo [gvD G, .int (t : Int)] P :=
  ⟨G, w, t, rfl, rfl, h1, h2, h3, h4, h5, p⟩
theorem denL_ones {l : List (Int × Int)} {α : Type} (L : List α) : denL (l ++ L.map fun _ => ((0 : Int), (1 : Int))) = denL l := by
  induction L with
  | nil => rw [List.map_nil, List.append_nil]
  | cons a L ih =>
    unfold denL at *
    rw [List.foldl_append] at *
    rw [List.map_cons, List.foldl_cons]
    have e : ∀ d : Nat, Nat.lcm d ((0 : Int), (1 : Int)).2.natAbs = d := fun d => by
      show Nat.lcm d 1 = d
      exact Nat.lcm_one_right d
    rw [e]
    exact ih
theorem unitS_zero (G : List PlV) : unitS G (fun _ => 0) = denL (gainsV G) := by
  unfold unitS
  have : (fun _ : Nat => canon 0) = fun _ => ((0 : Int), (1 : Int)) := by
    funext _
    exact canon_zero
  rw [this]
  exact denL_ones _
theorem rep_listQ (n : Nat) : PyData.list (List.replicate n [nD (0, 1)]).flatten = listQ n (fun _ => 0) := by
  unfold listQ
  congr 1
  rw [flat_rep]
  refine List.ext_getElem? fun i => ?_
  rw [List.getElem?_replicate, List.getElem?_map]
  by_cases h : i < n
  · rw [if_pos h, List.getElem?_range h]
    show some (nD (0, 1)) = some (nQ 0)
    unfold nQ
    rw [canon_zero]
  · rw [if_neg h, List.getElem?_eq_none (by rw [List.length_range]; omega)]
    rfl
end Md
set_option Elab.async false
set_option linter.all false
set_option maxRecDepth 100000
set_option maxHeartbeats 2000000
namespace Md
open PySem L2 Evl
theorem natR_zero : natR 0 = 0 := rfl
def Ok (r : Rat) : Prop := Big 4000 (canon r) ∧ r.den < 2 ^ 1998
theorem nb_ok {M B : Nat} {r : Rat} (h : NB M B r) (hM : 0 < M) (h1 : M < 2 ^ 1998) (hB : B ≤ 2 ^ 1000) : Ok r := ⟨nb_big4 h hM h1 hB, nb_den h hM h1⟩
def kPlusW : Con := con2 fun x y P => ∃ r s : Rat, x = nQ r ∧ y = nQ s ∧ Big 4000 (canon r) ∧ Big 4000 (canon s) ∧ (r + s).den < 2 ^ 1998 ∧ P (nQ (r + s))
def kTimesW : Con := con2 fun x y P => ∃ r s : Rat, x = nQ r ∧ y = nQ s ∧ Big 4000 (canon r) ∧ Big 4000 (canon s) ∧ (r * s).den < 2 ^ 1998 ∧ P (nQ (r * s))
def kTotW : Con := con1 fun x P => ∃ l : List Rat, x = ratsD l ∧ l.length ≤ 1000 ∧ (∀ i, i ≤ l.length → Ok (l.take i).sum) ∧ (∀ r ∈ l, Big 4000 (canon r)) ∧ P (nQ l.sum)
def kLessW : Con := con2 fun x y P => ∃ r s : Rat, x = nQ r ∧ y = nQ s ∧ Big 4000 (canon r) ∧ Big 4000 (canon s) ∧ P (.bool (decide (r < s)))
def kIsNW : Con := con1 fun x P => ∃ r : Rat, x = nQ r ∧ r.den < 2 ^ 1998 ∧ P (.bool true)
def kIsLW : Con := con1 fun x P => ∃ l : List Rat, x = ratsD l ∧ l.length ≤ 1000 ∧ (∀ r ∈ l, r.den < 2 ^ 1998) ∧ P (.bool true)
section
variable {K : PySem.W.Frag} {vs : List V} {h : Hp} {Q : VK} {E : XK}
theorem c_plusW (x : spP K kPlusW vs h Q E) : spPlusW K vs h Q E := by
  obtain ⟨b, ds, P, e, hA, hR, k⟩ := x
  obtain ⟨a, c, rfl, r, s, rfl, rfl, h1, h2, h3, p⟩ := con2_is hR
  exact ⟨b, r, s, e, hA, h1, h2, h3, fun v b' h' g hv => k _ b' h' _ g p hv⟩
theorem c_timesW (x : spP K kTimesW vs h Q E) : spTimesW K vs h Q E := by
  obtain ⟨b, ds, P, e, hA, hR, k⟩ := x
  obtain ⟨a, c, rfl, r, s, rfl, rfl, h1, h2, h3, p⟩ := con2_is hR
  exact ⟨b, r, s, e, hA, h1, h2, h3, fun v b' h' g hv => k _ b' h' _ g p hv⟩
theorem c_totW (x : spP K kTotW vs h Q E) : spTotW K vs h Q E := by
  obtain ⟨b, ds, P, e, hA, hR, k⟩ := x
  obtain ⟨a, rfl, l, rfl, h1, h2, h3, p⟩ := con1_is hR
  exact ⟨b, l, e, hA, h1, h2, h3, fun v b' h' g hv => k _ b' h' _ g p hv⟩
theorem c_lessW (x : spP K kLessW vs h Q E) : spLess K 4000 vs h Q E := by
  obtain ⟨b, ds, P, e, hA, hR, k⟩ := x
  obtain ⟨a, c, rfl, r, s, rfl, rfl, h1, h2, p⟩ := con2_is hR
  exact ⟨b, r, s, e, hA, h1, h2, fun h' e' => k _ b h' _ (Gr.stay e e') p (Dt.bool _)⟩
theorem c_isNW (x : spP K kIsNW vs h Q E) : spIsNW K vs h Q E := by
  obtain ⟨b, ds, P, e, hA, hR, k⟩ := x
  obtain ⟨a, rfl, r, rfl, h1, p⟩ := con1_is hR
  exact ⟨b, canon r, e, hA, canon_red r, by show ((r.den : Int)).natAbs < _; rw [Int.natAbs_natCast]; exact h1, fun h' e' => k _ b h' _ (Gr.stay e e') p (Dt.bool _)⟩
theorem c_isLW (x : spP K kIsLW vs h Q E) : spIsLW K vs h Q E := by
  obtain ⟨b, ds, P, e, hA, hR, k⟩ := x
  obtain ⟨a, rfl, l, rfl, h1, h2, p⟩ := con1_is hR
  refine ⟨b, l.map canon, e, ?_, by rw [List.length_map]; exact h1, fun q hq => ?_, fun h' e' => k _ b h' _ (Gr.stay e e') p (Dt.bool _)⟩
  · have e1 : numsD (l.map canon) = ratsD l := by
      unfold numsD ratsD
      rw [List.map_map]
      rfl
    rw [e1]
    exact hA
  · obtain ⟨r, hr, rfl⟩ := List.mem_map.mp hq
    exact ⟨canon_red r, by show ((r.den : Int)).natAbs < _; rw [Int.natAbs_natCast]; exact h2 r hr⟩
end
section
variable {P : PyData → Prop}
theorem kPlusW_i {r s : Rat} (h1 : Ok r) (h2 : Ok s) (h3 : Ok (r + s)) (p : P (nQ (r + s))) : kPlusW [nQ r, nQ s] P := ⟨r, s, rfl, rfl, h1.1, h2.1, h3.2, p⟩
theorem kTimesW_i {r s : Rat} (h1 : Ok r) (h2 : Ok s) (h3 : Ok (r * s)) (p : P (nQ (r * s))) : kTimesW [nQ r, nQ s] P := ⟨r, s, rfl, rfl, h1.1, h2.1, h3.2, p⟩
theorem kTotW_i {l : List Rat} (h1 : l.length ≤ 1000) (h2 : ∀ i, i ≤ l.length → Ok (l.take i).sum) (h3 : ∀ r ∈ l, Ok r) (p : P (nQ l.sum)) : kTotW [ratsD l] P := ⟨l, rfl, h1, h2, fun r hr => (h3 r hr).1, p⟩
theorem kLessW_i {r s : Rat} (h1 : Ok r) (h2 : Ok s) (p : P (.bool (decide (r < s)))) : kLessW [nQ r, nQ s] P := ⟨r, s, rfl, rfl, h1.1, h2.1, p⟩
theorem kIsLW_i {l : List Rat} (h1 : l.length ≤ 1000) (h2 : ∀ r ∈ l, Ok r) (p : P (.bool true)) : kIsLW [ratsD l] P := ⟨l, rfl, h1, fun r hr => (h2 r hr).2, p⟩
end
structure Beh (p : PlV) (w n M B S : Nat) (f : Nat → Rat) : Prop where
  W : WfV w n p
  c : p.k = none → ∀ q ∈ p.bs, q.1.2.natAbs ∣ S
  M0 : 0 < M
  S0 : 0 < S
  MS : M * S < 2 ^ 1998
  Bl : B ≤ 2 ^ 900
  hf : ∀ q ∈ p.bs, NB M B (f q.2)
theorem Beh.nb {p : PlV} {w n M B S : Nat} {f : Nat → Rat} (x : Beh p w n M B S f) : NB (M * S) B (vW p f) := nb_vW x.W x.c x.hf
theorem Beh.ok {p : PlV} {w n M B S : Nat} {f : Nat → Rat} (x : Beh p w n M B S f) : Ok (vW p f) := nb_ok x.nb (Nat.mul_pos x.M0 x.S0) x.MS (Nat.le_trans x.Bl (Nat.pow_le_pow_right (by decide) (by decide)))
theorem Beh.okf {p : PlV} {w n M B S : Nat} {f : Nat → Rat} (x : Beh p w n M B S f) {q : BrC} (hq : q ∈ p.bs) : Ok (f q.2) := nb_ok (x.hf q hq) x.M0 (Nat.lt_of_le_of_lt (Nat.le_mul_of_pos_right _ x.S0) x.MS) (Nat.le_trans x.Bl (Nat.pow_le_pow_right (by decide) (by decide)))
theorem Beh.part {p : PlV} {w n M B S : Nat} {f : Nat → Rat} (x : Beh p w n M B S f) (hk : p.k = none) (j : Nat) : NB (M * S) B ((p.bs.map fun q => qN q.1 * f q.2).take j).sum := by
  rw [← List.map_take]
  have hcc := x.W.c hk
  have hp0 : ∀ q ∈ p.bs, 0 ≤ qN q.1 := fun q hq => qN_nonneg (red_small (hcc q hq).1) (hcc q hq).2
  have h1 := (wsum_take hp0 j).2
  have h2 : wsum p.bs (fun _ => 1) = 1 := by rw [wsum_one]; exact x.W.s hk
  rw [h2] at h1
  have bb := part_bd (bs := p.bs.take j) (f := f) (B := B) (fun q hq => hp0 q (List.mem_of_mem_take hq)) (fun q hq => ⟨(x.hf q (List.mem_of_mem_take hq)).lo, (x.hf q (List.mem_of_mem_take hq)).hi⟩) h1
  exact ⟨part_zt fun q hq => ⟨red_small (hcc q (List.mem_of_mem_take hq)).1, x.c hk q (List.mem_of_mem_take hq), (x.hf q (List.mem_of_mem_take hq)).zt⟩, bb.1, bb.2⟩
theorem Beh.term {p : PlV} {w n M B S : Nat} {f : Nat → Rat} (x : Beh p w n M B S f) (hk : p.k = none) {q : BrC} (hq : q ∈ p.bs) : NB (M * S) (1000 * B) (qN q.1 * f q.2) := by
  have h1 := (x.W.c hk q hq).1
  have h2 := q_small h1
  have h3 := x.hf q hq
  have m := mul_bd (a := 1000) h2.1 h2.2 h3.lo h3.hi
  have e : natR (1000 * B) = 1000 * natR B := by rw [natR_mul]; rfl
  refine ⟨by rw [Nat.mul_comm]; exact (zt_den (red_small h1) (x.c hk q hq)).mul h3.zt, ?_, ?_⟩
  · rw [e]; exact m.1
  · rw [e]; exact m.2
theorem Beh.t1000 {p : PlV} {w n M B S : Nat} {f : Nat → Rat} (x : Beh p w n M B S f) : 1000 * B ≤ 2 ^ 1000 := by
  have h1 : 1000 ≤ 2 ^ 10 := by decide
  have h2 := Nat.mul_le_mul h1 x.Bl
  rw [← Nat.pow_add] at h2
  exact Nat.le_trans h2 (Nat.pow_le_pow_right (by decide) (by decide))
theorem Beh.okt {p : PlV} {w n M B S : Nat} {f : Nat → Rat} (x : Beh p w n M B S f) (hk : p.k = none) {q : BrC} (hq : q ∈ p.bs) : Ok (qN q.1 * f q.2) := nb_ok (x.term hk hq) (Nat.mul_pos x.M0 x.S0) x.MS x.t1000
theorem Beh.okp {p : PlV} {w n M B S : Nat} {f : Nat → Rat} (x : Beh p w n M B S f) (hk : p.k = none) (j : Nat) : Ok ((p.bs.map fun q => qN q.1 * f q.2).take j).sum := nb_ok (x.part hk j) (Nat.mul_pos x.M0 x.S0) x.MS (Nat.le_trans x.Bl (Nat.pow_le_pow_right (by decide) (by decide)))
theorem small_ok {c : Int × Int} (h : SmallN c) : Ok (qN c) := by
  have e := canon_red_self (red_small h)
  have u : (1000 : Nat) ≤ 2 ^ 10 := by decide
  refine ⟨⟨?_, ?_⟩, ?_⟩
  · rw [← e]
    exact Nat.lt_of_lt_of_le (Nat.lt_of_lt_of_le h.2.2.1 u) (Nat.pow_le_pow_right (by decide) (by decide))
  · rw [← e]
    exact Nat.lt_of_lt_of_le (Nat.lt_of_lt_of_le (show c.2.natAbs < 1000 by have := h.1; have := h.2.1; omega) u) (Nat.pow_le_pow_right (by decide) (by decide))
  · have h2 : (canon (qN c)).2.natAbs = (qN c).den := Int.natAbs_natCast _
    rw [← h2, ← e]
    exact Nat.lt_of_lt_of_le (Nat.lt_of_lt_of_le (show c.2.natAbs < 1000 by have := h.1; have := h.2.1; omega) u) (Nat.pow_le_pow_right (by decide) (by decide))
theorem nD_nQ {c : Int × Int} (h : Red c) : nD c = nQ (qN c) := by
  unfold nQ
  rw [← canon_red_self h]
theorem kd_eq (k : Option Bool) : decide (kdV k = ("draw" : Str)) = decide (k = none) := by
  cases k with
  | none => rfl
  | some o => cases o <;> rfl
theorem kd_ours (k : Option Bool) : decide (kdV k = ("ours" : Str)) = decide (k = some true) := by
  cases k with
  | none => rfl
  | some o => cases o <;> rfl
theorem onT_br {q : BrC} {k : List PyData → Prop} : onT (brC q) k = k [nD q.1, .int (q.2 : Int)] := rfl
theorem eqS_b {i j : Bool} : eqS (.bool i) (.bool j) = some (decide (i = j)) := rfl
theorem eqv_nQ (r s : Rat) : PyData.eqv (nQ r) (nQ s) = decide (r = s) := by
  show ((r.num == s.num) && (((r.den : Int) == (s.den : Int)) && true)) = _
  rw [Bool.and_true, Bool.eq_iff_iff, Bool.and_eq_true, beq_iff_eq, beq_iff_eq, decide_eq_true_iff]
  constructor
  · rintro ⟨h1, h2⟩
    exact Rat.ext h1 (by omega)
  · rintro rfl
    exact ⟨rfl, rfl⟩
theorem tk_step {o : Bool} {l : List Rat} {a : Rat} (hl : 0 < l.length) : tkQ o (l ++ [a]) = if (!decide (a = tkQ o l) && decide (decide (tkQ o l < a) = o)) = true then a else tkQ o l := by
  have hm := tk_mem (o := o) hl
  split
  · rename_i h
    rw [Bool.and_eq_true, Bool.not_eq_true', decide_eq_false_iff_not, decide_eq_true_iff] at h
    refine tk_is (List.mem_append_right _ (List.mem_singleton.mpr rfl)) fun y hy => ?_
    cases o with
    | true =>
      have h2 := of_decide_eq_true h.2
      rw [if_pos rfl]
      rcases List.mem_append.mp hy with hy | hy
      · have := tk_hi hy
        grind
      · rw [List.mem_singleton.mp hy]
        exact Rat.le_refl
    | false =>
      have h2 := of_decide_eq_false h.2
      rw [if_neg (by decide)]
      rcases List.mem_append.mp hy with hy | hy
      · have := tk_lo hy
        grind
      · rw [List.mem_singleton.mp hy]
        exact Rat.le_refl
  · rename_i h
    rw [Bool.and_eq_true, Bool.not_eq_true', decide_eq_false_iff_not, decide_eq_true_iff] at h
    refine tk_is (List.mem_append_left _ hm) fun y hy => ?_
    cases o with
    | true =>
      rw [if_pos rfl]
      rcases List.mem_append.mp hy with hy | hy
      · exact tk_hi hy
      · rw [List.mem_singleton.mp hy]
        by_cases z : a = tkQ true l
        · rw [z]
          exact Rat.le_refl
        · have : ¬ tkQ true l < a := fun w => h ⟨z, decide_eq_true w⟩
          grind
    | false =>
      rw [if_neg (by decide)]
      rcases List.mem_append.mp hy with hy | hy
      · exact tk_lo hy
      · rw [List.mem_singleton.mp hy]
        by_cases z : a = tkQ false l
        · rw [z]
          exact Rat.le_refl
        · have : tkQ false l < a := by
            by_cases w : tkQ false l < a
            · exact w
            · exact absurd ⟨z, decide_eq_false w⟩ h
          grind
theorem tk_one {o : Bool} {a : Rat} : tkQ o [a] = a := by
  refine tk_is (List.mem_singleton.mpr rfl) fun y hy => ?_
  rw [List.mem_singleton.mp hy]
  split <;> exact Rat.le_refl
theorem atI_zero {α : Type} {a : α} {l : List α} : L2.atI (a :: l) 0 = some a := by
  show L2.atI (a :: l) ((0 : Nat) : Int) = _
  exact atI_nat rfl
theorem cutD_drop {xs : List PyData} {a : Nat} (h : a ≤ xs.length) : cutD xs (some (a : Int)) none = xs.drop a := by
  unfold cutD
  rw [HT.sIx_none, sIx_of _ h, List.take_of_length_le (by rw [List.length_drop]; exact Nat.le_refl _)]
theorem cutD_take {xs : List PyData} {a : Nat} (h : a ≤ xs.length) : cutD xs none (some (a : Int)) = xs.take a := by
  unfold cutD
  rw [HT.sIx_none, sIx_of _ h, List.drop_zero, Nat.sub_zero]
def kOnw : Con := con2 fun x y P => ∃ (p : PlV) (w n M B S : Nat) (f : Nat → Rat), x = p.D ∧ y = listQ n f ∧ Beh p w n M B S f ∧ P (nQ (vW p f))
theorem kOnw_i {p : PlV} {w n M B S : Nat} {f : Nat → Rat} {P : PyData → Prop} (h : Beh p w n M B S f) (k : P (nQ (vW p f))) : kOnw [p.D, listQ n f] P := ⟨p, w, n, M, B, S, f, rfl, rfl, h, k⟩
structure StpOk (G : List PlV) (w M B S : Nat) (f : Nat → Rat) : Prop where
  W : WfVG w G
  gd : ∀ p ∈ G, p.g.2.natAbs ∣ M
  cS : ∀ p ∈ G, p.k = none → ∀ q ∈ p.bs, q.1.2.natAbs ∣ S
  M0 : 0 < M
  S0 : 0 < S
  MS : M * S < 2 ^ 1998
  Bl : B + 1000 ≤ 2 ^ 900
  hf : ∀ k, k < G.length → NB M B (f k)
def st1 (G : List PlV) (f : Nat → Rat) (k : Nat) : Rat := qN (vl G k).g + vW (vl G k) f
theorem StpOk.beh {G : List PlV} {w M B S : Nat} {f : Nat → Rat} (x : StpOk G w M B S f) {k : Nat} (hk : k < G.length) : Beh (vl G k) w G.length M B S f := ⟨vl_wf x.W hk, x.cS _ (vl_mem hk), x.M0, x.S0, x.MS, by have := x.Bl; omega, fun q hq => x.hf q.2 ((vl_wf x.W hk).t q hq)⟩
theorem StpOk.nb {G : List PlV} {w M B S : Nat} {f : Nat → Rat} (x : StpOk G w M B S f) {k : Nat} (hk : k < G.length) : NB (M * S) (B + 1000) (st1 G f k) := by
  have a := (x.beh hk).nb
  have hw := vl_wf x.W hk
  have g := q_small hw.g
  have e : natR (B + 1000) = natR B + 1000 := by rw [natR_add]; rfl
  have lo := a.lo
  have hi := a.hi
  refine ⟨Zt.add ((zt_den (red_small hw.g) (x.gd _ (vl_mem hk))).dvd (Nat.dvd_mul_right _ _)) a.zt, ?_, ?_⟩
  · show _ ≤ qN (vl G k).g + vW (vl G k) f
    rw [e]; grind
  · show qN (vl G k).g + vW (vl G k) f ≤ _
    rw [e]; grind
theorem StpOk.ok {G : List PlV} {w M B S : Nat} {f : Nat → Rat} (x : StpOk G w M B S f) {k : Nat} (hk : k < G.length) : Ok (st1 G f k) := nb_ok (x.nb hk) (Nat.mul_pos x.M0 x.S0) x.MS (Nat.le_trans x.Bl (Nat.pow_le_pow_right (by decide) (by decide)))
def kStp : ConN := conN2 fun x y P => ∃ (G : List PlV) (w M B S : Nat) (f : Nat → Rat), x = gvD G ∧ y = listQ G.length f ∧ StpOk G w M B S f ∧ P ((List.range G.length).map fun k => nQ (st1 G f k))
theorem kStp_i {G : List PlV} {w M B S : Nat} {f : Nat → Rat} {P : List PyData → Prop} (h : StpOk G w M B S f) (p : P ((List.range G.length).map fun k => nQ (st1 G f k))) : kStp [gvD G, listQ G.length f] P := ⟨G, w, M, B, S, f, rfl, rfl, h, p⟩
theorem st1_wG (G : List PlV) (t k : Nat) : st1 G (wG G 1 t) k = wG G 1 (t + 1) k := by
  show _ = _ + 1 * _
  rw [Rat.one_mul]
  rfl
theorem fol_stp {G : List PlV} {w U S t : Nat} (hW : WfVG w G) (hg : ∀ p ∈ G, p.g.2.natAbs ∣ U) (hS : ∀ p ∈ G, p.k = none → ∀ q ∈ p.bs, q.1.2.natAbs ∣ S) (hU : 0 < U) (hS0 : 0 < S) (hM : U * S ^ (t + 1) < 2 ^ 1998) (ht : t ≤ 1000) : StpOk G w (U * S ^ t) (1000 * t) S (wG G 1 t) := by
  refine ⟨hW, fun p hp => Nat.dvd_trans (hg p hp) (Nat.dvd_mul_right _ _), hS, Nat.mul_pos hU (Nat.pow_pos hS0), hS0, by rw [Nat.mul_assoc, ← Nat.pow_succ]; exact hM, ?_, fun k hk => ?_⟩
  · have h5 : 1000 * t + 1000 ≤ 2 ^ 20 := Nat.le_trans (by omega : 1000 * t + 1000 ≤ 1001000) (by decide)
    exact Nat.le_trans h5 (Nat.pow_le_pow_right (by decide) (by decide))
  · have h := nb_wG (dn := 1) (dd := 1) hW hg hS (Nat.le_refl 1) (Nat.le_refl 1) t k hk
    rw [natR_11, Nat.mul_one] at h
    exact h
theorem repr_gv {w : Nat} {G : List PlV} (h : WfVG w G) : (∃ ds, gvD G = .list ds ∨ gvD G = .tuple ds) ∧ (gvD G).showable = true ∧ (gvD G).hasDict = false ∧ (gvD G).depth ≤ 60 ∧ (gvD G).shown.length ≤ sizeLine := by
  have n := nice_gv h
  exact ⟨⟨_, .inl rfl⟩, n.show_, n.nd, Nat.le_trans n.dep (by decide), Nat.le_trans n.len (by decide)⟩
theorem at_ds {ds : List Int} {i : Nat} (h : i < ds.length) : L2.atI (ds.map PyData.int) (i : Int) = some (.int (ds.getD i 0)) := atI_nat (by
  rw [List.getElem?_map, List.getElem?_eq_getElem h, List.getD_eq_getElem?_getD, List.getElem?_eq_getElem h]
  rfl)
theorem g30_den {G : List PlV} (h : WfVG 30 G) {n : Nat} (hn : G.length ≤ n) : 0 < denL (chancesV G) ∧ denL (chancesV G) ≤ 30 ^ n := by
  have s := scaleV_ok (by decide) h
  exact ⟨s.1, Nat.le_trans s.2 (Nat.pow_le_pow_right (by decide) hn)⟩
theorem nQ_zero : nQ 0 = .tuple [.int 0, .int 1] := by
  unfold nQ
  rw [canon_zero]
  rfl
end Md
set_option Elab.async false
set_option linter.all false
set_option maxRecDepth 100000
set_option maxHeartbeats 2000000
namespace Md
open PySem L2 Evl
def kNum : Con := con2 fun x y P => ∃ n d : Int, x = .int n ∧ y = .int d ∧ d ≠ 0 ∧ n.natAbs < 2 ^ 1900 ∧ d.natAbs < 2 ^ 1900 ∧ P (nD (num n d))
theorem c_num {K : PySem.W.Frag} {vs : List V} {h : Hp} {Q : VK} {E : XK} (x : spP K kNum vs h Q E) : spNumber K vs h Q E := by
  obtain ⟨b, ds, P, e, hA, hR, k⟩ := x
  obtain ⟨a, c, rfl, n, d, rfl, rfl, h1, h2, h3, p⟩ := con2_is hR
  refine ⟨b, _, e, hA, rfl, ⟨n, d, rfl, h1, h2, h3⟩, fun v b' h' d' g hf hv => k v b' h' d' g ?_ hv⟩
  rw [hf n d rfl]
  exact p
structure StartOk (n : Nat) (s : Nat → Rat) : Prop where
  nb : ∀ k, k < n → NB 12 20 (s k)
theorem unitS_dvd {G : List PlV} {s : Nat → Rat} {M : Nat} (hg : ∀ p ∈ G, p.g.2.natAbs ∣ M) (hs : ∀ k, k < G.length → Zt M (s k)) : unitS G s ∣ M := denL_to fun c hc => by
  rcases List.mem_append.mp hc with h | h
  · obtain ⟨p, hp, rfl⟩ := List.mem_map.mp h
    exact hg p hp
  · obtain ⟨k, hk, rfl⟩ := List.mem_map.mp h
    exact zt_dvd (canon_red _) (by rw [q_canon]; exact hs k (List.mem_range.mp hk))
theorem g30_size2 {G : List PlV} (h : WfVG 30 G) {t U : Nat} (hU : U ≤ 2 ^ 20) (hn : G.length ≤ 7) (ht : t ≤ 40) : U * denL (chancesV G) ^ t < 2 ^ 1500 := by
  have s := (g30_den h hn).2
  have s2 : denL (chancesV G) ≤ 2 ^ 35 := Nat.le_trans s (by decide)
  have e1 : denL (chancesV G) ^ t ≤ (2 ^ 35) ^ t := Nat.pow_le_pow_left s2 t
  rw [← Nat.pow_mul] at e1
  have e2 : 2 ^ (35 * t) ≤ 2 ^ 1400 := Nat.pow_le_pow_right (by decide) (by omega)
  have e3 : U * denL (chancesV G) ^ t ≤ 2 ^ 20 * 2 ^ 1400 := Nat.mul_le_mul hU (Nat.le_trans e1 e2)
  rw [← Nat.pow_add] at e3
  exact Nat.lt_of_le_of_lt e3 (Nat.pow_lt_pow_right (by decide) (by decide))
theorem stpS {G : List PlV} {w U S t B0 : Nat} {s : Nat → Rat} (hW : WfVG w G) (hg : ∀ p ∈ G, p.g.2.natAbs ∣ U) (hS : ∀ p ∈ G, p.k = none → ∀ q ∈ p.bs, q.1.2.natAbs ∣ S) (hU : 0 < U) (hS0 : 0 < S) (hM : U * S ^ (t + 1) < 2 ^ 1998) (ht : t ≤ 1000) (hB : B0 ≤ 2 ^ 800) (h0 : ∀ k, k < G.length → NB U B0 (s k)) :
    StpOk G w (U * S ^ t) (B0 + 1000 * t) S (wS G 1 s t) := by
  refine ⟨hW, fun p hp => Nat.dvd_trans (hg p hp) (Nat.dvd_mul_right _ _), hS, Nat.mul_pos hU (Nat.pow_pos hS0), hS0, by rw [Nat.mul_assoc, ← Nat.pow_succ]; exact hM, ?_, fun k hk => ?_⟩
  · have h5 : 1000 * t + 1000 ≤ 2 ^ 800 := Nat.le_trans (by omega : 1000 * t + 1000 ≤ 1001000) (Nat.le_trans (by decide : 1001000 ≤ 2 ^ 20) (Nat.pow_le_pow_right (by decide) (by decide)))
    have h6 : 2 ^ 800 + 2 ^ 800 ≤ 2 ^ 900 := by
      have : (2 : Nat) ^ 801 = 2 ^ 800 + 2 ^ 800 := by rw [Nat.pow_succ]; omega
      rw [← this]
      exact Nat.pow_le_pow_right (by decide) (by decide)
    omega
  · have h := nb_wS (dn := 1) (dd := 1) hW hg hS (Nat.le_refl 1) (Nat.le_refl 1) h0 t k hk
    rw [natR_11, Nat.mul_one] at h
    exact h
end Md
namespace Md
open PySem L2 Evl
end Md
namespace Md
open PySem L2 Evl
theorem nb_big3 {M B : Nat} {r : Rat} (h : NB M B r) (hM : 0 < M) (h1 : M < 2 ^ 1998) (hB : B ≤ 2 ^ 1000) : Big 3000 (canon r) := by
  have h2 : NB M (2 ^ 1000) r := h.mono (Nat.dvd_refl _) hB
  refine h2.big hM (Nat.one_le_two_pow) ?_
  have : 2 ^ 1000 * M < 2 ^ 1000 * 2 ^ 1998 := Nat.mul_lt_mul_of_pos_left h1 (Nat.two_pow_pos _)
  rw [← Nat.pow_add] at this
  exact Nat.lt_of_lt_of_le this (Nat.pow_le_pow_right (by decide) (by decide))
structure Wor (G : List PlV) (w U T : Nat) : Prop where
  w1 : 1 ≤ w
  w9 : w ≤ 999
  W : WfVG w G
  g : ∀ p ∈ G, p.g.2.natAbs ∣ U
  U0 : 0 < U
  Tl : T ≤ 100
  sz : U * denL (chancesV G) ^ (T + 1) < 2 ^ 1998
theorem Wor.cS {G : List PlV} {w U T : Nat} (x : Wor G w U T) : ∀ p ∈ G, p.k = none → ∀ q ∈ p.bs, q.1.2.natAbs ∣ denL (chancesV G) := fun p hp hk q hq => denL_dvd (chv_mem hp hk hq)
theorem Wor.S0 {G : List PlV} {w U T : Nat} (x : Wor G w U T) : 0 < denL (chancesV G) := (scaleV_ok x.w1 x.W).1
theorem Wor.le {G : List PlV} {w U T : Nat} (x : Wor G w U T) {j : Nat} (h : j ≤ T + 1) : U * denL (chancesV G) ^ j < 2 ^ 1998 := Nat.lt_of_le_of_lt (Nat.mul_le_mul_left U (Nat.pow_le_pow_right x.S0 h)) x.sz
theorem Wor.stp {G : List PlV} {w U T : Nat} (x : Wor G w U T) {j : Nat} (h : j ≤ T) : StpOk G w (U * denL (chancesV G) ^ j) (1000 * j) (denL (chancesV G)) (wG G 1 j) := fol_stp x.W x.g x.cS x.U0 x.S0 (x.le (by omega)) (by have := x.Tl; omega)
theorem Wor.nb {G : List PlV} {w U T : Nat} (x : Wor G w U T) {j k : Nat} (h : j ≤ T + 1) (hk : k < G.length) : NB (U * denL (chancesV G) ^ j) (1000 * j) (wG G 1 j k) := by
  have h := nb_wG (dn := 1) (dd := 1) x.W x.g x.cS (Nat.le_refl 1) (Nat.le_refl 1) j k hk
  rw [natR_11, Nat.mul_one] at h
  exact h
theorem Wor.b20 {G : List PlV} {w U T : Nat} (x : Wor G w U T) {j : Nat} (h : j ≤ T + 1) : 1000 * j ≤ 2 ^ 20 := by
  have := x.Tl
  exact Nat.le_trans (by omega : 1000 * j ≤ 101000) (by decide)
theorem Wor.ok {G : List PlV} {w U T : Nat} (x : Wor G w U T) {j k : Nat} (h : j ≤ T + 1) (hk : k < G.length) : Ok (wG G 1 j k) := nb_ok (x.nb h hk) (Nat.mul_pos x.U0 (Nat.pow_pos x.S0)) (x.le h) (Nat.le_trans (x.b20 h) (Nat.pow_le_pow_right (by decide) (by decide)))
theorem Wor.big {G : List PlV} {w U T : Nat} (x : Wor G w U T) {j k : Nat} (h : j ≤ T + 1) (hk : k < G.length) : Big 3000 (canon (wG G 1 j k)) := nb_big3 (x.nb h hk) (Nat.mul_pos x.U0 (Nat.pow_pos x.S0)) (x.le h) (Nat.le_trans (x.b20 h) (Nat.pow_le_pow_right (by decide) (by decide)))
theorem Wor.den {G : List PlV} {w U T : Nat} (x : Wor G w U T) {j : Nat} (h : j ≤ T + 1) : denL (gainsV G) * denL (chancesV G) ^ j < 2 ^ 3000 := by
  have d : denL (gainsV G) ∣ U := denL_to fun c hc => by
    obtain ⟨p, hp, rfl⟩ := List.mem_map.mp hc
    exact x.g p hp
  exact Nat.lt_of_le_of_lt (Nat.mul_le_mul_right _ (Nat.le_of_dvd x.U0 d)) (Nat.lt_of_lt_of_le (x.le h) (Nat.pow_le_pow_right (by decide) (by decide)))
theorem Wor.wo {G : List PlV} {w U T : Nat} (x : Wor G w U T) {j : Nat} {P : List PyData → Prop} (h : j ≤ T + 1) (p : P ((List.range G.length).map fun k => nQ (wG G 1 j k))) : kWo [gvD G, .int (j : Int)] P := kWo_i x.w1 x.w9 x.W (by have := x.Tl; omega) (x.den h) p
theorem Wor.wf {G : List PlV} {w U T : Nat} (x : Wor G w U T) {j : Nat} {P : List PyData → Prop} (h : j ≤ T) (p : P ((List.range G.length).map fun k => nQ (wG G 1 (j + 1) k))) : kWF [gvD G, listQ G.length (wG G 1 j), .int 1] P := by
  have d : unitS G (wG G 1 j) ∣ U * denL (chancesV G) ^ j := unitS_dvd (fun p hp => Nat.dvd_trans (x.g p hp) (Nat.dvd_mul_right _ _)) fun k hk => (x.nb (by omega) hk).zt
  have e1 := Nat.mul_le_mul_right (denL (chancesV G) ^ 1) (Nat.le_of_dvd (Nat.mul_pos x.U0 (Nat.pow_pos x.S0)) d)
  rw [Nat.mul_assoc, ← Nat.pow_add] at e1
  have e2 : (List.range G.length).map (fun k => nQ (wS G 1 (wG G 1 j) 1 k)) = (List.range G.length).map fun k => nQ (wG G 1 (j + 1) k) := List.map_congr_left fun k hk => by rfl
  refine kWF_i (t := 1) (B0 := 1000 * j) x.w1 x.w9 x.W (by decide) (Nat.lt_of_le_of_lt e1 (Nat.lt_of_lt_of_le (x.le (by omega)) (Nat.pow_le_pow_right (by decide) (by decide)))) (Nat.le_trans (x.b20 (by omega)) (Nat.pow_le_pow_right (by decide) (by decide))) (fun k hk => ⟨(x.nb (by omega) hk).lo, (x.nb (by omega) hk).hi⟩) ?_
  rw [e2]
  exact p
end Md
set_option Elab.async false
set_option linter.all false
set_option maxRecDepth 100000
set_option maxHeartbeats 2000000
namespace Md
open PySem L2 Evl
theorem ratsD_listQ (l : List Rat) : ratsD l = listQ l.length (fun j => l.getD j 0) := by
  unfold ratsD listQ
  congr 1
  rw [← map_getDn l 0 nQ]
section
variable {K : PySem.W.Frag} {vs : List V} {h : Hp} {Q : VK} {E : XK}
end
end Md
namespace Md
open PySem L2 Evl
end Md
namespace Md
open PySem L2 Evl
theorem la_nats (l : List Nat) : LaY 1 (.list (l.map fun k : Nat => PyData.int (k : Int))) := laY_list (k := 0) fun d hd => by
  obtain ⟨k, _, rfl⟩ := List.mem_map.mp hd
  exact laY_int _
theorem sh_nats (l : List Nat) : SeqAt.shaped (.list (l.map fun k : Nat => PyData.int (k : Int))) = true := (la_nats l).shaped (by decide)
end Md
set_option Elab.async false
set_option linter.all false
set_option maxRecDepth 100000
set_option maxHeartbeats 2000000
namespace Md
open PySem L2 Evl
section
variable {K : PySem.W.Frag} {vs : List V} {h : Hp} {Q : VK} {E : XK}
end
end Md
namespace Md
open PySem L2 Evl
theorem HasK.to {P : Program} {w : World} {K : PySem.W.Frag} {mg : Str → Option Value} {base : Heap} {k : Nat} {x : Str} {ps ks : List Str} {n m : Nat} {sp sp' : Sp} (h : HasK P w K mg base k x ps ks n m sp) (i : ∀ vs H Q E, sp' vs H Q E → sp vs H Q E) : HasK P w K mg base k x ps ks n m sp' := by
  obtain ⟨f, fd, F, a, b, c⟩ := h
  exact ⟨f, fd, ⟨fun vs H Q E x => F.len vs H Q E (i vs H Q E x), fun A outer s H args us vs Q E r1 r2 r3 r4 r5 => F.run A outer s H args us vs Q E r1 r2 r3 r4 (i vs H Q E r5)⟩, a, b, c⟩
end Md
set_option Elab.async false
set_option linter.all false
set_option maxRecDepth 100000
set_option maxHeartbeats 2000000
namespace Md
open PySem L2 Evl
theorem tk_mono {o : Bool} {α : Type} {l : List α} {f g : α → Rat} (hl : 0 < l.length) (h : ∀ a ∈ l, f a ≤ g a) : tkQ o (l.map f) ≤ tkQ o (l.map g) := by
  cases o with
  | true =>
    obtain ⟨a, ha, e⟩ := List.mem_map.mp (tk_mem (o := true) (l := l.map f) (by rw [List.length_map]; exact hl))
    rw [← e]
    exact Rat.le_trans (h a ha) (tk_hi (List.mem_map.mpr ⟨a, ha, rfl⟩))
  | false =>
    obtain ⟨a, ha, e⟩ := List.mem_map.mp (tk_mem (o := false) (l := l.map g) (by rw [List.length_map]; exact hl))
    rw [← e]
    exact Rat.le_trans (tk_lo (List.mem_map.mpr ⟨a, ha, rfl⟩)) (h a ha)
section
variable {w n : Nat} {p : PlV}
theorem vW_mono (hw : WfV w n p) {f g : Nat → Rat} (h : ∀ j, j < n → f j ≤ g j) : vW p f ≤ vW p g := by
  unfold vW
  cases hk : p.k with
  | none => exact wsum_le fun q hq => ⟨qN_nonneg (red_small (hw.c hk q hq).1) (hw.c hk q hq).2, h q.2 (hw.t q hq)⟩
  | some o => exact tk_mono (l := p.bs) (by have := hw.l1; omega) fun q hq => h q.2 (hw.t q hq)
theorem vW_add (hw : WfV w n p) (f : Nat → Rat) (c : Rat) : vW p (fun j => f j + c) = vW p f + c := by
  unfold vW
  cases hk : p.k with
  | none =>
    have e := wsum_add p.bs f (fun _ => c)
    have e2 := wsum_mul p.bs c (fun _ => 1)
    rw [wsum_one, hw.s hk, Rat.mul_one] at e2
    show wsum p.bs (fun j => f j + c) = _
    rw [e, e2]
  | some o =>
    refine tk_is ?_ fun y hy => ?_
    · obtain ⟨q, hq, e⟩ := List.mem_map.mp (tk_mem (o := o) (l := p.bs.map fun q => f q.2) (by rw [List.length_map]; have := hw.l1; omega))
      refine List.mem_map.mpr ⟨q, hq, ?_⟩
      show f q.2 + c = tkQ o (p.bs.map fun q => f q.2) + c
      exact congrArg (· + c) e
    · obtain ⟨q, hq, rfl⟩ := List.mem_map.mp hy
      cases o with
      | true =>
        have := tk_hi (l := p.bs.map fun q => f q.2) (List.mem_map.mpr ⟨q, hq, rfl⟩)
        rw [if_pos rfl]
        show f q.2 + c ≤ tkQ true _ + c
        grind
      | false =>
        have := tk_lo (l := p.bs.map fun q => f q.2) (List.mem_map.mpr ⟨q, hq, rfl⟩)
        rw [if_neg (by decide)]
        show tkQ false _ + c ≤ f q.2 + c
        grind
end
def tnV (p : PlV) : PlV := ⟨(-p.g.1, p.g.2), p.k.map not, p.bs⟩
section
variable {w : Nat} {G : List PlV} (hW : WfVG w G)
include hW
theorem tn_wf : WfVG w (G.map tnV) := by
  refine ⟨by rw [List.length_map]; exact hW.l1, by rw [List.length_map]; exact hW.l12, fun p hp => ?_⟩
  obtain ⟨q, hq, rfl⟩ := List.mem_map.mp hp
  have h := hW.p q hq
  have hn : ∀ {k : Option Bool}, k.map not = none → k = none := fun {k} e => by
    cases k with
    | none => rfl
    | some o => cases e
  obtain ⟨g1, g2, g3, g4⟩ := h.g
  refine ⟨?_, h.l1, h.l6, by rw [List.length_map]; exact h.t, fun e => h.c (hn e), fun e => h.w (hn e), fun e => h.s (hn e)⟩
  refine ⟨g1, g2, ?_, ?_⟩
  · show (-q.g.1).natAbs < _
    rw [Int.natAbs_neg]
    exact g3
  · show Nat.gcd (-q.g.1).natAbs _ = _
    rw [Int.natAbs_neg]
    exact g4
end
end Md
namespace Md
open PySem L2 Evl
def dKix (f : Str → Option Str) (da : DE) : DE := fun Γ P => da Γ fun x => ∃ z y, x = .str z ∧ f z = some y ∧ P (.str y)
end Md
namespace Md
open PySem L2 Evl
theorem own_cons (a : Str) (b : Nat) (l : List (Str × Nat)) : List.map (fun x => x.snd) ((a, b) :: l) = b :: List.map (fun x => x.snd) l := rfl
theorem own_nil : List.map (fun x : Str × Nat => x.snd) [] = [] := rfl
end Md
namespace Md
open PySem L2 Evl
end Md
namespace Md
open PySem L2 Evl
theorem atI_one {α : Type} {a b : α} {l : List α} : L2.atI (a :: b :: l) 1 = some b := by
  show L2.atI (a :: b :: l) ((1 : Nat) : Int) = _
  exact atI_nat rfl
end Md
namespace Md
open PySem L2 Evl
end Md
namespace Md
open PySem L2 Evl
end Md
namespace Md
open PySem L2 Evl
structure Sta (G : List PlV) (s : Nat → Rat) : Prop where
  W : WfVG 30 G
  n7 : G.length ≤ 7
  g : ∀ p ∈ G, p.g.2.natAbs ∣ 60
  s : ∀ k, k < G.length → NB 60 100 (s k)
section
variable {G : List PlV} {s : Nat → Rat} (x : Sta G s)
include x
theorem Sta.stp {j : Nat} (h : j ≤ 30) : StpOk G 30 (60 * denL (chancesV G) ^ j) (100 + 1000 * j) (denL (chancesV G)) (wS G 1 s j) :=
  stpS x.W x.g (fun p hp hk q hq => denL_dvd (chv_mem hp hk hq)) (by decide) (g30_den x.W x.n7).1 (Nat.lt_of_lt_of_le (g30_size2 x.W (by decide) x.n7 (by omega)) (Nat.pow_le_pow_right (by decide) (by decide))) (by omega) (Nat.le_trans (by decide : 100 ≤ 2 ^ 7) (Nat.pow_le_pow_right (by decide) (by decide))) x.s
theorem Sta.nb {j k : Nat} (h : j ≤ 30) (hk : k < G.length) : NB (60 * denL (chancesV G) ^ j) 40000 (wS G 1 s j k) := ((x.stp h).hf k hk).mono (Nat.dvd_refl _) (by omega)
theorem Sta.m {j : Nat} (h : j ≤ 30) : 0 < 60 * denL (chancesV G) ^ j ∧ 60 * denL (chancesV G) ^ j < 2 ^ 1998 := ⟨(x.stp h).M0, Nat.lt_of_lt_of_le (g30_size2 x.W (by decide) x.n7 (by omega)) (Nat.pow_le_pow_right (by decide) (by decide))⟩
theorem Sta.okB {j B : Nat} {r : Rat} (h : j ≤ 30) (hB : B ≤ 2 ^ 20) (z : NB (60 * denL (chancesV G) ^ j) B r) : Ok r := nb_ok z (x.m h).1 (x.m h).2 (Nat.le_trans hB (Nat.pow_le_pow_right (by decide) (by decide)))
theorem Sta.ok {j k : Nat} (h : j ≤ 30) (hk : k < G.length) : Ok (wS G 1 s j k) := x.okB h (by decide) (x.nb h hk)
theorem Sta.wf {t : Nat} {P : List PyData → Prop} (h : t ≤ 30) (p : P ((List.range G.length).map fun k => nQ (wS G 1 s t k))) : kWF [gvD G, listQ G.length s, .int (t : Int)] P := by
  have d : unitS G s ∣ 60 := unitS_dvd x.g fun k hk => (x.s k hk).zt
  have e1 := Nat.mul_le_mul_right (denL (chancesV G) ^ t) (Nat.le_of_dvd (by decide) d)
  exact kWF_i (B0 := 100) (by decide) (by decide) x.W (by omega) (Nat.lt_of_le_of_lt e1 (Nat.lt_of_lt_of_le (x.m h).2 (Nat.pow_le_pow_right (by decide) (by decide)))) (Nat.le_trans (by decide : 100 ≤ 2 ^ 7) (Nat.pow_le_pow_right (by decide) (by decide))) (fun k hk => ⟨(x.s k hk).lo, (x.s k hk).hi⟩) p
theorem Sta.turn : Sta (G.map tnV) (fun j => -s j) := by
  refine ⟨tn_wf x.W, by rw [List.length_map]; exact x.n7, fun p hp => ?_, fun k hk => ?_⟩
  · obtain ⟨q, hq, rfl⟩ := List.mem_map.mp hp
    exact x.g q hq
  · rw [List.length_map] at hk
    exact nb_neg (x.s k hk)
end
end Md
namespace Md
open PySem L2 Evl
end Md
set_option Elab.async false
set_option linter.all false
set_option maxRecDepth 100000
set_option maxHeartbeats 2000000
namespace Md
open PySem L2 Evl
structure IsMat (C : List PlC) (β : Rat) (a : Nat → Nat → Int) (c : Nat → Rat) : Prop where
  pos : ∀ x, x < C.length → 0 < c x
  row : ∀ (t : Nat → Rat) x, x < C.length → sumR C.length (fun y => qa a x y * t y) = c x * (t x - β * meanC C t x)
theorem sumR_low {n m : Nat} {f : Nat → Rat} (h : m ≤ n) (h0 : ∀ y, m ≤ y → y < n → f y = 0) : sumR n f = sumR m f := by
  obtain ⟨k, rfl⟩ : ∃ k, n = m + k := ⟨n - m, by omega⟩
  clear h
  induction k with
  | zero => rfl
  | succ k ih =>
    rw [← Nat.add_assoc, sumR_succ, ih fun y h1 h2 => h0 y h1 (by omega), h0 (m + k) (by omega) (by omega), Rat.add_zero]
theorem meanM_nonneg {C : List PlC} (h : WfM C) {k : Nat} (hk : k < C.length) {f : Nat → Rat} (hf : ∀ j, j < C.length → 0 ≤ f j) : 0 ≤ meanC C f k := by
  have a := meanM_mono h hk (f := fun _ => 0) (g := f) hf
  have b := wsum_mul (plC C k).bs 0 (fun _ => 1)
  have d : meanC C (fun _ => 0) k = 0 := by
    show wsum (plC C k).bs (fun _ => 0) = 0
    have h0 : (fun _ : Nat => (0 : Rat)) = fun j => 0 * (fun _ : Nat => (1 : Rat)) j := by
      funext _
      show (0 : Rat) = 0 * 1
      rw [Rat.zero_mul]
    rw [h0, b, Rat.zero_mul]
  rw [d] at a
  exact a
theorem piv_pos {C : List PlC} {β : Rat} {a : Nat → Nat → Int} {c : Nat → Rat} (hC : WfM C) (h0 : 0 ≤ β) (h1 : β < 1) (A : IsMat C β a c) {k : Nat} {T : Nat → Nat → Int} {d : Int} (h : Elim C.length a k T d) (hk : k < C.length) : 0 < T k k := by
  by_cases z : 0 < T k k
  · exact z
  exfalso
  have z : T k k ≤ 0 := by omega
  obtain ⟨p1, p2⟩ := elim_pivot h hk
  let w : Nat → Rat := fun j => if j = k then (d : Rat) else -qa T j k
  let t : Nat → Rat := fun y => if y < k + 1 then w y else 0
  have hs : ∀ x, sumR C.length (fun y => qa a x y * t y) = sumR (k + 1) (fun j => qa a x j * w j) := fun x => by
    rw [sumR_low (m := k + 1) (by omega) fun y h2 h3 => by
      show qa a x y * (if y < k + 1 then w y else 0) = 0
      rw [if_neg (by omega), Rat.mul_zero]]
    refine sumR_congr fun j hj => ?_
    show qa a x j * (if j < k + 1 then w j else 0) = _
    rw [if_pos hj]
  have hz : qa T k k ≤ 0 := by
    have := le_cast z
    exact this
  have ht : ∀ x, x ≤ k → t x ≤ β * meanC C t x := fun x hx => by
    have e := A.row t x (by omega)
    rw [hs x] at e
    have cp := A.pos x (by omega)
    have hv : c x * (t x - β * meanC C t x) ≤ 0 := by
      rw [← e]
      rcases Nat.lt_or_ge x k with q | q
      · rw [p1 x q]
        exact Rat.le_refl
      · have : x = k := by omega
        subst this
        rw [p2]
        exact hz
    by_cases q : t x ≤ β * meanC C t x
    · exact q
    · have : 0 < t x - β * meanC C t x := by grind
      have := Rat.mul_pos cp this
      grind
  let u : Nat → Rat := fun y => if 0 ≤ t y then t y else 0
  have ut : ∀ y, t y ≤ u y := fun y => by
    show t y ≤ if 0 ≤ t y then t y else 0
    split <;> grind
  have u0 : ∀ y, 0 ≤ u y := fun y => by
    show 0 ≤ if 0 ≤ t y then t y else 0
    split <;> grind
  have hu : ∀ x, x < C.length → u x ≤ β * meanC C u x := fun x hx => by
    have m0 : 0 ≤ β * meanC C u x := Rat.mul_nonneg h0 (meanM_nonneg hC hx fun j _ => u0 j)
    show (if 0 ≤ t x then t x else 0) ≤ _
    split
    · rcases Nat.lt_or_ge k x with q | q
      · have : t x = 0 := by
          show (if x < k + 1 then w x else 0) = 0
          rw [if_neg (by omega)]
        rw [this]
        exact m0
      · have a1 := ht x q
        have a2 : meanC C t x ≤ meanC C u x := meanM_mono hC hx fun j _ => ut j
        have a3 := Rat.mul_le_mul_of_nonneg_left a2 h0
        exact Rat.le_trans a1 a3
    · exact m0
  have hend := sub_le hC h0 h1 hu k hk
  have tk : t k = (d : Rat) := by
    show (if k < k + 1 then (if k = k then (d : Rat) else -qa T k k) else 0) = _
    rw [if_pos (by omega), if_pos rfl]
  have dp : (0 : Rat) < (d : Rat) := cast_pos h.pos
  have := ut k
  rw [tk] at this
  grind
theorem end_wor {C : List PlC} {β : Rat} {a : Nat → Nat → Int} {c e : Nat → Rat} {U : Rat} (A : IsMat C β a c) (hU : 0 < U) {T : Nat → Nat → Int} {d : Int} (h : Elim C.length a C.length T d) (hc : ∀ x, x < C.length → qa a x C.length = c x * e x * U) : IsWor C β e (fun j => qa T j C.length / ((d : Rat) * U)) := fun x hx => by
  have e1 := elim_end h x hx
  have d0 : (d : Rat) ≠ 0 := cast_ne (by have := h.pos; omega)
  have U0 : U ≠ 0 := by grind
  have e2 : sumR C.length (fun j => qa a x j * (qa T j C.length / (d : Rat))) = U * sumR C.length (fun j => qa a x j * (qa T j C.length / ((d : Rat) * U))) := by
    rw [← sumR_mul]
    exact sumR_congr fun j _ => by grind
  rw [e2, A.row _ x hx, hc x hx] at e1
  have cp := A.pos x hx
  have c0 : c x ≠ 0 := by grind
  have : c x * U ≠ 0 := fun z => by
    rcases Rat.mul_eq_zero.mp z with y | y
    · exact c0 y
    · exact U0 y
  show qa T x C.length / ((d : Rat) * U) = e x + β * meanC C (fun j => qa T j C.length / ((d : Rat) * U)) x
  generalize meanC C (fun j => qa T j C.length / ((d : Rat) * U)) x = m at *
  generalize qa T x C.length / ((d : Rat) * U) = v at *
  have e3 : (c x * U) * (v - β * m - e x) = 0 := by grind
  rcases Rat.mul_eq_zero.mp e3 with y | y
  · exact absurd y this
  · grind
end Md
namespace Md
open PySem L2 Evl
structure SolOk (n : Nat) (a : Nat → Nat → Int) (cs : Nat → Rat) (U : Nat) : Prop where
  n12 : n ≤ 12
  U0 : 0 < U
  eU : U = denL ((List.range n).map fun r => canon (cs r))
  col : ∀ r, r < n → a r n = (canon (cs r)).1 * ((U : Int) / (canon (cs r)).2)
  Ub : U < 2 ^ 1000
  cb : ∀ r, r < n → (canon (cs r)).1.natAbs < 2 ^ 1000 ∧ (canon (cs r)).2.natAbs < 2 ^ 1000
  ab : ∀ r l, r < n → l < n → (a r l).natAbs ≤ 2 ^ 540
  cb2 : ∀ r, r < n → (a r n).natAbs ≤ 2 ^ 1000
  piv : ∀ k T d, k < n → Elim n a k T d → 0 < T k k
def matD (n : Nat) (a : Nat → Nat → Int) : PyData := .list ((List.range n).map fun r => .list ((List.range n).map fun l => PyData.int (a r l)))
end Md
namespace Md
open PySem L2 Evl
theorem onL_tab {n : Nat} {T : Nat → Nat → Int} {k : List PyData → Prop} : onL (tabD n T) k = k ((List.range n).map (rowD n T)) := rfl
theorem onL_row {n : Nat} {T : Nat → Nat → Int} {j : Nat} {k : List PyData → Prop} : onL (rowD n T j) k = k ((List.range (n + 1)).map fun l => PyData.int (T j l)) := rfl
theorem onL_mat {n : Nat} {a : Nat → Nat → Int} {k : List PyData → Prop} : onL (matD n a) k = k ((List.range n).map fun r => PyData.list ((List.range n).map fun l => PyData.int (a r l))) := rfl
theorem zip_rr {n : Nat} : (List.range n).zip (List.range n) = (List.range n).map fun k => (k, k) := by
  have e : ((List.range n).map fun k : Nat => k).zip ((List.range n).map fun k : Nat => k) = (List.range n).map fun k => (k, k) := List.zip_map'
  rwa [List.map_id'] at e
end Md
namespace Md
open PySem L2 Evl
def colZ (bs : List BrC) (S : Int) (y : Nat) : Int := (bs.map fun q => if q.2 = y then q.1.1 * (S / q.1.2) else 0).sum
def rowA (bs : List BrC) (S dn dd : Int) (x y : Nat) : Int := (if y = x then S * dd else 0) - dn * colZ bs S y
structure RowOk (C : List PlC) (x S dn dd : Nat) : Prop where
  xl : x < C.length
  n12 : C.length ≤ 12
  b6 : (plC C x).bs.length ≤ 6
  t : ∀ q ∈ (plC C x).bs, q.2 < C.length
  c : ∀ q ∈ (plC C x).bs, SmallN q.1
  Sb : S ≤ 1000
  db : dd ≤ 2 ^ 512
  dl : dn ≤ dd
end Md
namespace Md
open PySem L2 Evl
end Md
namespace Md
open PySem L2 Evl
theorem eqv_ii (i j : Int) : PyData.eqv (.int i) (.int j) = (i == j) := rfl
end Md
namespace Md
open PySem L2 Evl
theorem colZ_nil (S : Int) (y : Nat) : colZ [] S y = 0 := rfl
theorem colZ_cons (q : BrC) (bs : List BrC) (S : Int) (y : Nat) : colZ (q :: bs) S y = (if q.2 = y then q.1.1 * (S / q.1.2) else 0) + colZ bs S y := by
  unfold colZ
  rw [List.map_cons, List.sum_cons]
theorem col_sum {n S : Nat} (t : Nat → Rat) : ∀ {bs : List BrC}, (∀ q ∈ bs, q.2 < n ∧ Red q.1 ∧ q.1.2.natAbs ∣ S) → sumR n (fun y => ((colZ bs S y : Int) : Rat) * t y) = natR S * wsum bs t
  | [], _ => by
    rw [wsum_nil, Rat.mul_zero]
    exact sumR_zeros fun y _ => by
      rw [colZ_nil]
      exact Rat.zero_mul _
  | q :: bs, h => by
    obtain ⟨h1, h2, h3⟩ := h q List.mem_cons_self
    have ih := col_sum (n := n) (S := S) t (bs := bs) fun r hr => h r (List.mem_cons_of_mem _ hr)
    have e : sumR n (fun y => ((colZ (q :: bs) S y : Int) : Rat) * t y) = sumR n (fun y => (if q.2 = y then ((q.1.1 * ((S : Int) / q.1.2) : Int) : Rat) * t y else 0)) + sumR n (fun y => ((colZ bs S y : Int) : Rat) * t y) := by
      rw [← sumR_add]
      refine sumR_congr fun y _ => ?_
      rw [colZ_cons, Rat.intCast_add]
      split
      · grind
      · rw [Rat.intCast_zero]
        grind
    rw [e, ih, sumR_only h1 (fun y _ hy => if_neg fun z => hy z.symm), if_pos rfl, whole_q h2 h3, wsum_cons]
    show qN q.1 * natR S * t q.2 + natR S * wsum bs t = natR S * (qN q.1 * t q.2 + wsum bs t)
    clear e ih
    grind
theorem mat_is {C : List PlC} {dn dd : Nat} {Sx : Nat → Nat} (hd : 1 ≤ dd) (hS : ∀ x, x < C.length → 0 < Sx x ∧ ∀ q ∈ (plC C x).bs, q.2 < C.length ∧ Red q.1 ∧ q.1.2.natAbs ∣ Sx x) {a : Nat → Nat → Int} (ha : ∀ x y, x < C.length → y < C.length → a x y = rowA (plC C x).bs (Sx x) dn dd x y) :
    IsMat C (natR dn / natR dd) a fun x => natR (Sx x) * natR dd := by
  have d0 : (0 : Rat) < natR dd := cast_pos (by omega)
  refine ⟨fun x hx => Rat.mul_pos (cast_pos (by have := (hS x hx).1; omega)) d0, fun t x hx => ?_⟩
  have h2 := (hS x hx).2
  have e : sumR C.length (fun y => qa a x y * t y) = sumR C.length (fun y => if y = x then natR (Sx x) * natR dd * t y else 0) + (-natR dn) * sumR C.length (fun y => ((colZ (plC C x).bs (Sx x) y : Int) : Rat) * t y) := by
    rw [← sumR_mul, ← sumR_add]
    refine sumR_congr fun y hy => ?_
    unfold qa
    rw [ha x y hx hy]
    unfold rowA
    rw [Rat.intCast_sub, Rat.intCast_mul]
    have e1 : ((dn : Int) : Rat) = natR dn := rfl
    rw [e1]
    split
    · rw [Rat.intCast_mul]
      have e2 : (((Sx x : Nat) : Int) : Rat) = natR (Sx x) := rfl
      have e3 : ((dd : Int) : Rat) = natR dd := rfl
      rw [e2, e3]
      grind
    · rw [Rat.intCast_zero]
      grind
  rw [e, col_sum t h2, sumR_only hx (fun y _ hy => if_neg hy), if_pos rfl]
  show _ = natR (Sx x) * natR dd * (t x - natR dn / natR dd * wsum (plC C x).bs t)
  generalize wsum (plC C x).bs t = m
  grind
end Md
namespace Md
open PySem L2 Evl
section
variable {K : PySem.W.Frag} {vs : List V} {h : Hp} {Q : VK} {E : XK}
end
end Md
namespace Md
open PySem L2 Evl
def scD2 (C : List PlC) (x : Nat) : Nat := denL ((plC C x).bs.map (·.1))
structure FilOk (C : List PlC) (dn dd M0 : Nat) : Prop where
  n12 : C.length ≤ 12
  M : WfM C
  b6 : ∀ x, x < C.length → (plC C x).bs.length ≤ 6
  c : ∀ x, x < C.length → ∀ q ∈ (plC C x).bs, SmallN q.1
  g : ∀ x, x < C.length → SmallN (plC C x).g ∧ (plC C x).g.2.natAbs ∣ M0
  S : ∀ x, x < C.length → scD2 C x ≤ 1000
  dl : dn < dd
  db : dd ≤ 2 ^ 512
  m0 : 0 < M0
  mb : M0 < 2 ^ 200
  red : Red ((dn : Int), (dd : Int))
def csF (C : List PlC) (dd : Nat) (x : Nat) : Rat := gainC C x * natR (scD2 C x * dd)
def unF (C : List PlC) (dd : Nat) : Nat := denL ((List.range C.length).map fun r => canon (csF C dd r))
def aF (C : List PlC) (dn dd : Nat) (x y : Nat) : Int := if y < C.length then rowA (plC C x).bs (scD2 C x) dn dd x y else (canon (csF C dd x)).1 * ((unF C dd : Int) / (canon (csF C dd x)).2)
section
variable {C : List PlC} {dn dd M0 : Nat} (x : FilOk C dn dd M0)
include x
theorem FilOk.S0 {k : Nat} (hk : k < C.length) : 0 < scD2 C k := denL_pos fun c hc => by
  obtain ⟨q, hq, rfl⟩ := List.mem_map.mp hc
  exact (x.c k hk q hq).1
theorem FilOk.Sd {k : Nat} (hk : k < C.length) : ∀ q ∈ (plC C k).bs, q.2 < C.length ∧ Red q.1 ∧ q.1.2.natAbs ∣ scD2 C k := fun q hq => ⟨(x.M.q k hk q hq).2, red_small (x.c k hk q hq), denL_dvd (List.mem_map.mpr ⟨q, hq, rfl⟩)⟩
theorem FilOk.csn {k : Nat} (hk : k < C.length) : NB M0 (2 ^ 550) (csF C dd k) := by
  have g := x.g k hk
  have b := q_small g.1
  have n1 : NB M0 1000 (gainC C k) := ⟨zt_den (red_small g.1) g.2, b.1, b.2⟩
  have n2 : NB 1 (scD2 C k * dd) (natR (scD2 C k * dd)) := ⟨⟨(scD2 C k * dd : Nat), by show natR (scD2 C k * dd) * natR 1 = natR (scD2 C k * dd); rw [natR_one, Rat.mul_one]⟩, by have := natR_nonneg (scD2 C k * dd); grind, Rat.le_refl⟩
  have n3 := nb_mul n1 n2
  rw [Nat.mul_one] at n3
  refine n3.mono (Nat.dvd_refl _) ?_
  have h1 : scD2 C k * dd ≤ 1000 * 2 ^ 512 := Nat.mul_le_mul (x.S k hk) x.db
  exact Nat.le_trans (Nat.mul_le_mul_left 1000 h1) (by decide +kernel)
theorem FilOk.cb {k : Nat} (hk : k < C.length) : Big 800 (canon (csF C dd k)) := (x.csn hk).big x.m0 Nat.one_le_two_pow (by
  have := x.mb
  have h : 2 ^ 550 * M0 < 2 ^ 550 * 2 ^ 200 := Nat.mul_lt_mul_of_pos_left this (Nat.two_pow_pos _)
  rw [← Nat.pow_add] at h
  exact Nat.lt_of_lt_of_le h (Nat.pow_le_pow_right (by decide) (by decide)))
theorem FilOk.U : 0 < unF C dd ∧ unF C dd < 2 ^ 200 := by
  refine ⟨denL_pos fun c hc => ?_, Nat.lt_of_le_of_lt (Nat.le_of_dvd x.m0 (denL_to fun c hc => ?_)) x.mb⟩
  · obtain ⟨r, _, rfl⟩ := List.mem_map.mp hc
    exact (canon_red _).1
  · obtain ⟨r, hr, rfl⟩ := List.mem_map.mp hc
    exact zt_dvd (canon_red _) (by rw [q_canon]; exact (x.csn (List.mem_range.mp hr)).zt)
theorem FilOk.U2 : unF C dd ≤ M0 := by
  refine Nat.le_of_dvd x.m0 (denL_to fun c hc => ?_)
  obtain ⟨r, hr, rfl⟩ := List.mem_map.mp hc
  exact zt_dvd (canon_red _) (by rw [q_canon]; exact (x.csn (List.mem_range.mp hr)).zt)
theorem FilOk.mat : IsMat C (natR dn / natR dd) (aF C dn dd) fun k => natR (scD2 C k) * natR dd :=
  mat_is (Sx := scD2 C) (by have := x.dl; omega) (fun k hk => ⟨x.S0 hk, x.Sd hk⟩) fun k y hk hy => if_pos hy
theorem FilOk.beta : 0 ≤ natR dn / natR dd ∧ natR dn / natR dd < 1 := by
  have d0 : (0 : Rat) < natR dd := cast_pos (by have := x.dl; omega)
  have h : natR dn < natR dd := Rat.intCast_lt_intCast.mpr (by have := x.dl; omega)
  refine ⟨le_div' d0 (by rw [Rat.zero_mul]; exact natR_nonneg dn), ?_⟩
  exact (Rat.div_lt_iff d0).mpr (by rw [Rat.one_mul]; exact h)
end
end Md
namespace Md
open PySem L2 Evl
theorem colZ_bd {bs : List BrC} {S : Nat} (h : ∀ q ∈ bs, SmallN q.1) (hS : S ≤ 1000) (y : Nat) : (colZ bs S y).natAbs ≤ bs.length * 1000000 := by
  induction bs with
  | nil => exact Nat.le_of_eq rfl
  | cons q bs ih =>
    have i := ih fun r hr => h r (List.mem_cons_of_mem _ hr)
    have sq := h q List.mem_cons_self
    rw [colZ_cons, List.length_cons]
    have g1 := sq.2.2.1
    have g2 : ((S : Int) / q.1.2).natAbs ≤ 1000 := Nat.le_trans (Int.natAbs_ediv_le_natAbs _ _) (by rw [Int.natAbs_natCast]; exact hS)
    have g3 : (q.1.1 * ((S : Int) / q.1.2)).natAbs ≤ 1000 * 1000 := by
      rw [Int.natAbs_mul]
      exact Nat.mul_le_mul (Nat.le_of_lt g1) g2
    have g4 : (if q.2 = y then q.1.1 * ((S : Int) / q.1.2) else 0).natAbs ≤ 1000000 := by
      split
      · exact g3
      · exact Nat.zero_le _
    omega
theorem row_bd {bs : List BrC} {S dn dd : Nat} (h : ∀ q ∈ bs, SmallN q.1) (h6 : bs.length ≤ 6) (hS : S ≤ 1000) (h1 : dn ≤ dd) (x y : Nat) : (rowA bs S dn dd x y).natAbs ≤ 7000000 * dd := by
  unfold rowA
  have b1 := colZ_bd h hS y
  have b2 : (colZ bs S y).natAbs ≤ 6000000 := by omega
  have b3 : ((dn : Int) * colZ bs S y).natAbs ≤ dd * 6000000 := by
    rw [Int.natAbs_mul, Int.natAbs_natCast]
    exact Nat.mul_le_mul h1 b2
  have b4 : (if y = x then (S : Int) * (dd : Int) else 0).natAbs ≤ 1000 * dd := by
    split
    · rw [Int.natAbs_mul, Int.natAbs_natCast, Int.natAbs_natCast]
      exact Nat.mul_le_mul_right _ hS
    · exact Nat.zero_le _
  omega
theorem row_bd2 {dd : Nat} (h : dd ≤ 2 ^ 512) : 7000000 * dd ≤ 2 ^ 540 := Nat.le_trans (Nat.mul_le_mul_left _ h) (by decide +kernel)
section
variable {C : List PlC} {dn dd M0 : Nat} (x : FilOk C dn dd M0)
include x
theorem FilOk.sol : SolOk C.length (aF C dn dd) (csF C dd) (unF C dd) := by
  have hU := x.U
  have up : ∀ {z : Nat}, z < 2 ^ 800 → z < 2 ^ 1000 := fun h => Nat.lt_of_lt_of_le h (Nat.pow_le_pow_right (by decide) (by decide))
  refine ⟨x.n12, hU.1, rfl, fun r _ => if_neg (Nat.lt_irrefl _), Nat.lt_of_lt_of_le hU.2 (Nat.pow_le_pow_right (by decide) (by decide)), fun r hr => ⟨up (x.cb hr).1, up (x.cb hr).2⟩, fun r l hr hl => ?_, fun r hr => ?_, fun k T d hk h => piv_pos x.M x.beta.1 x.beta.2 x.mat h hk⟩
  · have e : aF C dn dd r l = rowA (plC C r).bs (scD2 C r) dn dd r l := if_pos hl
    rw [e]
    exact Nat.le_trans (row_bd (x.c r hr) (x.b6 r hr) (x.S r hr) (Nat.le_of_lt x.dl) r l) (row_bd2 x.db)
  · have e : aF C dn dd r C.length = (canon (csF C dd r)).1 * ((unF C dd : Int) / (canon (csF C dd r)).2) := if_neg (Nat.lt_irrefl _)
    rw [e, Int.natAbs_mul]
    have g1 := (x.cb hr).1
    have g2 : ((unF C dd : Int) / (canon (csF C dd r)).2).natAbs ≤ 2 ^ 200 := Nat.le_trans (Int.natAbs_ediv_le_natAbs _ _) (by rw [Int.natAbs_natCast]; exact Nat.le_of_lt hU.2)
    have g3 := Nat.mul_le_mul (Nat.le_of_lt g1) g2
    rw [← Nat.pow_add] at g3
    exact Nat.le_trans g3 (Nat.pow_le_pow_right (by decide) (by decide))
theorem FilOk.fin {T : Nat → Nat → Int} {d : Int} (h : Elim C.length (aF C dn dd) C.length T d) :
    IsWor C (natR dn / natR dd) (gainC C) (fun j => qa T j C.length / ((d : Rat) * natR (unF C dd))) ∧ ∃ M, 0 < M ∧ M ≤ (2 ^ 27 * dd) ^ 12 * M0 ∧ ∀ j, j < C.length → NB M (1000 * dd) (qa T j C.length / ((d : Rat) * natR (unF C dd))) := by
  have hU := x.U
  have U0 : (0 : Rat) < natR (unF C dd) := cast_pos (by omega)
  have hw : IsWor C (natR dn / natR dd) (gainC C) (fun j => qa T j C.length / ((d : Rat) * natR (unF C dd))) := end_wor x.mat U0 h fun k hk => by
    unfold qa
    have e : aF C dn dd k C.length = (canon (csF C dd k)).1 * ((unF C dd : Int) / (canon (csF C dd k)).2) := if_neg (Nat.lt_irrefl _)
    have dv : (canon (csF C dd k)).2.natAbs ∣ unF C dd := denL_dvd (List.mem_map.mpr ⟨k, List.mem_range.mpr hk, rfl⟩)
    rw [e, whole_q (canon_red _) dv, q_canon]
    show csF C dd k * natR (unF C dd) = _
    unfold csF
    rw [natR_mul]
    grind
  refine ⟨hw, d.natAbs * unF C dd, Nat.mul_pos (by have := h.pos; omega) hU.1, ?_, fun j hj => ?_⟩
  · have hb := elim_d h x.n12 (Nat.le_refl _) (B := 7000000 * dd) (by have := x.dl; omega) fun r l hr hl => by
      have e : aF C dn dd r l = rowA (plC C r).bs (scD2 C r) dn dd r l := if_pos hl
      rw [e]
      exact row_bd (x.c r hr) (x.b6 r hr) (x.S r hr) (Nat.le_of_lt x.dl) r l
    have hb2 : d.natAbs ≤ (12 * (7000000 * dd)) ^ 12 := Int.ofNat_le.mp (by
      rw [Int.natAbs_of_nonneg (Int.le_of_lt h.pos)]
      exact hb)
    have hb3 : (12 * (7000000 * dd)) ^ 12 ≤ (2 ^ 27 * dd) ^ 12 := Nat.pow_le_pow_left (by omega) 12
    exact Nat.mul_le_mul (Nat.le_trans hb2 hb3) x.U2
  · have d0 : (0 : Rat) < (d : Rat) := cast_pos h.pos
    have eM : natR (d.natAbs * unF C dd) = (d : Rat) * natR (unF C dd) := by
      rw [natR_mul]
      have : natR d.natAbs = (d : Rat) := by
        show ((d.natAbs : Nat) : Int) = (d : Rat)
        congr 1
        have := h.pos
        omega
      rw [this]
    have D0 : (d : Rat) * natR (unF C dd) ≠ 0 := by
      have := Rat.mul_pos d0 U0
      grind
    have dd0 : (0 : Rat) < natR dd := cast_pos (by have := x.dl; omega)
    have key : natR dn + 1 ≤ natR dd := by
      have : natR (dn + 1) ≤ natR dd := natR_le x.dl
      rwa [natR_add, natR_one] at this
    have mc : ∀ (c : Rat) k, k < C.length → meanC C (fun _ => c) k = c := fun c k hk => by
      have b := wsum_mul (plC C k).bs c (fun _ => 1)
      have s := x.M.s k hk
      rw [s, Rat.mul_one] at b
      exact b
    have e1000 : natR (1000 * dd) = 1000 * natR dd := by rw [natR_mul]; rfl
    have bd : natR dn / natR dd * (1000 * natR dd) = 1000 * natR dn := by grind
    refine ⟨⟨T j C.length, ?_⟩, ?_, ?_⟩
    · show _ * natR (d.natAbs * unF C dd) = qa T j C.length
      rw [eM]
      grind
    · rw [e1000]
      have := wor_ge x.M x.beta.1 x.beta.2 (f := fun _ => -(1000 * natR dd)) (fun k hk => by
        have b := (q_small (x.g k hk).1).1
        rw [mc _ k hk]
        show -(1000 * natR dd) ≤ qN (plC C k).g + natR dn / natR dd * -(1000 * natR dd)
        grind) hw j hj
      exact this
    · rw [e1000]
      have := wor_le x.M x.beta.1 x.beta.2 (f := fun _ => 1000 * natR dd) (fun k hk => by
        have b := (q_small (x.g k hk).1).2
        rw [mc _ k hk]
        show qN (plC C k).g + natR dn / natR dd * (1000 * natR dd) ≤ 1000 * natR dd
        grind) hw j hj
      exact this
end
end Md
namespace Md
open PySem L2 Evl
end Md
namespace Md
open PySem L2 Evl
theorem nb_nat (m : Nat) : NB 1 m (natR m) := ⟨⟨(m : Nat), by show natR m * natR 1 = natR m; rw [natR_one, Rat.mul_one]⟩, by have := natR_nonneg m; grind, Rat.le_refl⟩
end Md
namespace Md
open PySem L2 Evl
def pcP (p : PlV) (o : Bool) (i : Nat) : PlV := if p.k = some o then ⟨p.g, none, [((1, 1), (p.bs.getD i ((1, 1), 0)).2)]⟩ else p
def putV (G : List PlV) (o : Bool) (c : Nat → Nat) : List PlV := (List.range G.length).map fun k => pcP (vl G k) o (c k)
def Says (G : List PlV) (o : Bool) (c : Nat → Nat) (ch : Nat → PyData) : Prop := ∀ k, k < G.length → (vl G k).k = some o → ch k = .int (c k : Int) ∧ c k < (vl G k).bs.length
def kWst : ConN := conN3 fun x y z P => ∃ (G : List PlV) (o : Bool) (c : Nat → Nat) (ch : Nat → PyData), x = gvD G ∧ y = .str (kdV (some o)) ∧ z = .list ((List.range G.length).map ch) ∧ G.length ≤ 12 ∧ (∀ p ∈ G, p.bs.length ≤ 6) ∧ Says G o c ch ∧ P ((putV G o c).map PlV.D)
theorem vl_range {n : Nat} {f : Nat → PlV} {k : Nat} (h : k < n) : vl ((List.range n).map f) k = f k := by
  have h1 := vl_get (G := (List.range n).map f) (k := k) (by rw [List.length_map, List.length_range]; exact h)
  rw [List.getElem?_map, List.getElem?_range h] at h1
  exact (Option.some.inj h1).symm
theorem put_both {G : List PlV} {c : Nat → Nat} : (putV (putV G true c) false c).map PlV.D = (chV G c).map PlC.D := by
  have hl : (putV G true c).length = G.length := by
    unfold putV
    rw [List.length_map, List.length_range]
  unfold putV chV
  rw [List.map_map, List.map_map]
  rw [show ((List.range G.length).map fun k => pcP (vl G k) true (c k)).length = G.length by rw [List.length_map, List.length_range]]
  refine List.map_congr_left fun k hk => ?_
  have hk := List.mem_range.mp hk
  show (pcP (vl ((List.range G.length).map fun k => pcP (vl G k) true (c k)) k) false (c k)).D = (if (vl G k).k = none then (⟨(vl G k).g, (vl G k).bs⟩ : PlC) else ⟨(vl G k).g, [((1, 1), tgV G c k)]⟩).D
  rw [vl_range hk]
  unfold tgV pcP
  rcases hkk : vl G k with ⟨g, kk, bs⟩
  cases kk with
  | none => rfl
  | some o => cases o <;> rfl
end Md
namespace Md
open PySem L2 Evl
theorem kdV_inj {a b : Option Bool} : decide (kdV a = kdV b) = decide (a = b) := by
  rcases a with _ | (_ | _) <;> rcases b with _ | (_ | _) <;> rfl
end Md
namespace Md
open PySem L2 Evl
theorem one_small : SmallN (1, 1) := ⟨by decide, by decide, by decide, by decide⟩
theorem chV_fil {G : List PlV} {c : Nat → Nat} {w dn dd M0 : Nat} (hW : WfVG w G) (hw : w ≤ 999) (hc : OkC G c) (hg : ∀ p ∈ G, p.g.2.natAbs ∣ M0) (h1 : dn < dd) (h2 : dd ≤ 2 ^ 512) (h3 : 0 < M0) (h4 : M0 < 2 ^ 200) (h5 : Red ((dn : Int), (dd : Int))) : FilOk (chV G c) dn dd M0 := by
  have hl : (chV G c).length = G.length := chV_len
  refine ⟨by rw [hl]; exact hW.l12, chV_wf hW hc, fun x hx => ?_, fun x hx q hq => ?_, fun x hx => ?_, fun x hx => ?_, h1, h2, h3, h4, h5⟩ <;> rw [hl] at hx <;> have hp := vl_wf hW hx
  · rw [chV_at hx]
    split
    · exact hp.l6
    · exact (by decide : 1 ≤ 6)
  · rw [chV_at hx] at hq
    by_cases hk : (vl G x).k = none
    · rw [if_pos hk] at hq
      exact (hp.c hk q hq).1
    · rw [if_neg hk] at hq
      rw [List.mem_singleton.mp hq]
      exact one_small
  · rw [chV_at hx]
    split
    · exact ⟨hp.g, hg _ (vl_mem hx)⟩
    · exact ⟨hp.g, hg _ (vl_mem hx)⟩
  · unfold scD2
    rw [chV_at hx]
    by_cases hk : (vl G x).k = none
    · rw [if_pos hk]
      obtain ⟨W, w0, w1, w2⟩ := hp.w hk
      have d : denL ((vl G x).bs.map (·.1)) ∣ W := denL_to fun e he => by
        obtain ⟨q, hq, rfl⟩ := List.mem_map.mp he
        exact w2 q hq
      have := Nat.le_of_dvd w0 d
      show denL ((vl G x).bs.map (·.1)) ≤ 1000
      omega
    · rw [if_neg hk]
      exact (by decide : denL [((1 : Int), (1 : Int))] ≤ 1000)
theorem chV_gain {G : List PlV} {c : Nat → Nat} {x : Nat} (hx : x < G.length) : gainC (chV G c) x = qN (vl G x).g := by
  unfold gainC
  rw [chV_at hx]
  split <;> rfl
end Md
namespace Md
open PySem L2 Evl
structure GamOk (G : List PlV) (w dn dd M0 : Nat) : Prop where
  W : WfVG w G
  w9 : w ≤ 999
  g : ∀ p ∈ G, p.g.2.natAbs ∣ M0
  dl : dn < dd
  db : dd ≤ 2 ^ 512
  m0 : 0 < M0
  mb : M0 < 2 ^ 200
  red : Red ((dn : Int), (dd : Int))
def gnV (G : List PlV) (k : Nat) : Rat := qN (vl G k).g
structure WorOf (G : List PlV) (dn dd M0 : Nat) (c : Nat → Nat) (v : Nat → Rat) : Prop where
  eq : IsWor (chV G c) (natR dn / natR dd) (gnV G) v
  nb : ∃ M, 0 < M ∧ M ≤ (2 ^ 27 * dd) ^ 12 * M0 ∧ ∀ j, j < G.length → NB M (1000 * dd) (v j)
theorem wor_gain {G : List PlV} {c : Nat → Nat} {β : Rat} {v : Nat → Rat} (h : IsWor (chV G c) β (gainC (chV G c)) v) : IsWor (chV G c) β (gnV G) v := fun x hx => by
  rw [h x hx, chV_gain (by rw [chV_len] at hx; exact hx)]
  rfl
end Md
namespace Md
open PySem L2 Evl
end Md
set_option Elab.async false
set_option linter.all false
set_option maxRecDepth 100000
set_option maxHeartbeats 2000000
namespace Md
open PySem L2 Evl
def tgB (p : PlV) (i : Nat) : Nat := (p.bs.getD i ((1, 1), 0)).2
def bestI (p : PlV) (f : Nat → Rat) : Nat := (p.bs.map fun q => f q.2).findIdx fun r => decide (r = vW p f)
section
variable {w n : Nat} {p : PlV} {o : Bool} {f : Nat → Rat}
theorem tgB_map {i : Nat} (h : i < p.bs.length) : (p.bs.map fun q => f q.2)[i]? = some (f (tgB p i)) := by
  unfold tgB
  rw [List.getElem?_map, List.getElem?_eq_getElem h, List.getD_eq_getElem?_getD, List.getElem?_eq_getElem h]
  rfl
theorem tgB_lt (hw : WfV w n p) {i : Nat} (h : i < p.bs.length) : tgB p i < n := by
  unfold tgB
  rw [List.getD_eq_getElem?_getD, List.getElem?_eq_getElem h]
  exact hw.t _ (List.getElem_mem _)
theorem vW_side (hk : p.k = some o) : vW p f = tkQ o (p.bs.map fun q => f q.2) := by
  unfold vW
  rw [hk]
theorem best_lt (hw : WfV w n p) (hk : p.k = some o) : bestI p f < p.bs.length := by
  have h : bestI p f < (p.bs.map fun q => f q.2).length := List.findIdx_lt_length_of_exists ⟨_, tk_mem (o := o) (l := p.bs.map fun q => f q.2) (by rw [List.length_map]; exact hw.l1), by rw [vW_side hk]; exact decide_eq_true rfl⟩
  rwa [List.length_map] at h
theorem best_is (hw : WfV w n p) (hk : p.k = some o) : f (tgB p (bestI p f)) = vW p f := by
  have h := best_lt (f := f) hw hk
  have h2 : bestI p f < (p.bs.map fun q => f q.2).length := by rw [List.length_map]; exact h
  have h3 := List.findIdx_getElem (w := h2)
  have h4 := tgB_map (f := f) h
  rw [List.getElem?_eq_getElem h2] at h4
  have h5 := of_decide_eq_true h3
  rw [← Option.some.inj h4]
  exact h5
theorem vW_ge {i : Nat} (hk : p.k = some true) (h : i < p.bs.length) : f (tgB p i) ≤ vW p f := by
  rw [vW_side hk]
  exact tk_hi (List.mem_of_getElem? (tgB_map h))
theorem vW_le {i : Nat} (hk : p.k = some false) (h : i < p.bs.length) : vW p f ≤ f (tgB p i) := by
  rw [vW_side hk]
  exact tk_lo (List.mem_of_getElem? (tgB_map h))
end
def impC (G : List PlV) (o : Bool) (f : Nat → Rat) (c : Nat → Nat) (k : Nat) : Nat :=
  if (vl G k).k = some o ∧ f (tgB (vl G k) (bestI (vl G k) f)) ≠ f (tgB (vl G k) (c k)) then bestI (vl G k) f else c k
def Best (G : List PlV) (o : Bool) (c : Nat → Nat) (f : Nat → Rat) : Prop := ∀ x, x < G.length → (vl G x).k = some o → f (tgB (vl G x) (c x)) = vW (vl G x) f
section
variable {w : Nat} {G : List PlV} {o : Bool} {f : Nat → Rat} {c d : Nat → Nat}
theorem tgV_B {x : Nat} : tgV G c x = tgB (vl G x) (c x) := rfl
theorem imp_ok (hW : WfVG w G) (hc : OkC G c) : OkC G (impC G o f c) := fun x hx hk => by
  unfold impC
  split
  · rename_i h
    exact best_lt (vl_wf hW hx) h.1
  · exact hc x hx hk
theorem imp_fix (hW : WfVG w G) (h : ∀ x, x < G.length → (vl G x).k ≠ none → impC G o f c x = c x) : Best G o c f := fun x hx hk => by
  have hb := best_is (f := f) (vl_wf hW hx) hk
  have e := h x hx (by rw [hk]; intro z; cases z)
  unfold impC at e
  by_cases q : f (tgB (vl G x) (bestI (vl G x) f)) = f (tgB (vl G x) (c x))
  · rw [← q]
    exact hb
  · rw [if_pos ⟨hk, q⟩] at e
    rw [← e]
    exact hb
theorem imp_le (hW : WfVG w G) (hc : OkC G c) {x : Nat} (hx : x < G.length) (hk : (vl G x).k ≠ none) : f (tgV G (impC G false f c) x) ≤ f (tgV G c x) := by
  rw [tgV_B, tgV_B]
  unfold impC
  split
  · rename_i h
    rw [best_is (f := f) (vl_wf hW hx) h.1]
    exact vW_le h.1 (hc x hx hk)
  · exact Rat.le_refl
theorem imp_ge (hW : WfVG w G) (hc : OkC G c) {x : Nat} (hx : x < G.length) (hk : (vl G x).k ≠ none) : f (tgV G c x) ≤ f (tgV G (impC G true f c) x) := by
  rw [tgV_B, tgV_B]
  unfold impC
  split
  · rename_i h
    rw [best_is (f := f) (vl_wf hW hx) h.1]
    exact vW_ge h.1 (hc x hx hk)
  · exact Rat.le_refl
theorem imp_ne {x : Nat} (h : impC G o f c x ≠ c x) : (vl G x).k = some o ∧ f (tgV G (impC G o f c) x) ≠ f (tgV G c x) := by
  by_cases q : (vl G x).k = some o ∧ f (tgB (vl G x) (bestI (vl G x) f)) ≠ f (tgB (vl G x) (c x))
  · refine ⟨q.1, ?_⟩
    rw [tgV_B, tgV_B]
    have e : impC G o f c x = bestI (vl G x) f := by
      unfold impC
      rw [if_pos q]
    rw [e]
    exact q.2
  · unfold impC at h
    rw [if_neg q] at h
    exact absurd rfl h
end
section
variable {G : List PlV} {o : Bool} {c d : Nat → Nat}
end
end Md
namespace Md
open PySem L2 Evl
section
variable {w : Nat} {G : List PlV} {β : Rat}
theorem chV_congr {c d : Nat → Nat} (h : ∀ x, x < G.length → (vl G x).k ≠ none → c x = d x) : chV G c = chV G d := by
  unfold chV
  refine List.map_congr_left fun x hx => ?_
  by_cases hk : (vl G x).k = none
  · rw [if_pos hk, if_pos hk]
  · rw [if_neg hk, if_neg hk]
    unfold tgV
    rw [h x (List.mem_range.mp hx) hk]
open Classical in
noncomputable def wch (G : List PlV) (β : Rat) (c : Nat → Nat) : Nat → Rat := if h : ∃ v, IsWor (chV G c) β (gnV G) v then h.choose else fun _ => 0
theorem wch_is {c : Nat → Nat} (hW : WfVG w G) (hc : OkC G c) (h0 : 0 ≤ β) (h1 : β < 1) {v : Nat → Rat} (hv : IsWor (chV G c) β (gnV G) v) : ∀ x, x < G.length → wch G β c x = v x := fun x hx => by
  have h : ∃ v, IsWor (chV G c) β (gnV G) v := ⟨v, hv⟩
  unfold wch
  rw [dif_pos h]
  exact wor_unique (chV_wf hW hc) h0 h1 h.choose_spec hv x (by rw [chV_len]; exact hx)
theorem sumW_congr {n : Nat} {f g : Nat → Rat} (h : ∀ x, x < n → f x = g x) : sumW n f = sumW n g := by
  unfold sumW
  congr 1
  exact List.map_congr_left fun x hx => h x (List.mem_range.mp hx)
def lsC (G : List PlV) (c : Nat → Nat) : List Nat := (List.range G.length).map fun x => if (vl G x).k = none then 0 else c x
def cL (l : List Nat) (x : Nat) : Nat := l.getD x 0
noncomputable def scL (G : List PlV) (β : Rat) (l : List Nat) : Rat := sumW G.length (wch G β (cL l))
theorem cL_ls {c : Nat → Nat} {x : Nat} (hx : x < G.length) (hk : (vl G x).k ≠ none) : cL (lsC G c) x = c x := by
  unfold cL lsC
  rw [List.getD_eq_getElem?_getD, List.getElem?_map, List.getElem?_range hx]
  show (if (vl G x).k = none then 0 else c x) = c x
  rw [if_neg hk]
theorem wch_congr {c d : Nat → Nat} (h : ∀ x, x < G.length → (vl G x).k ≠ none → c x = d x) : wch G β c = wch G β d := by
  unfold wch
  rw [chV_congr h]
theorem scL_ls (c : Nat → Nat) : scL G β (lsC G c) = sumW G.length (wch G β c) := by
  unfold scL
  rw [wch_congr (d := c) fun x hx hk => cL_ls hx hk]
def allL (G : List PlV) : List (List Nat) := allC (G.map fun p => p.bs.length)
theorem ls_mem {c : Nat → Nat} (hW : WfVG w G) (hc : OkC G c) : lsC G c ∈ allL G := by
  refine mem_allC (by unfold lsC; rw [List.length_map, List.length_map, List.length_range]) fun i hi => ?_
  rw [List.length_map] at hi
  have e : (G.map fun p => p.bs.length).getD i 0 = (vl G i).bs.length := by
    rw [List.getD_eq_getElem?_getD, List.getElem?_map, vl_get hi]
    rfl
  rw [e]
  by_cases hk : (vl G i).k = none
  · unfold lsC
    rw [List.getD_eq_getElem?_getD, List.getElem?_map, List.getElem?_range hi]
    show (if (vl G i).k = none then 0 else c i) < _
    rw [if_pos hk]
    exact (vl_wf hW hi).l1
  · have := cL_ls (c := c) hi hk
    unfold cL at this
    rw [this]
    exact hc i hi hk
noncomputable def msL (G : List PlV) (β : Rat) (c : Nat → Nat) : Nat := ((allL G).filter fun l => decide (scL G β l < scL G β (lsC G c))).length
noncomputable def msG (G : List PlV) (β : Rat) (r : Rat) : Nat := ((allL G).filter fun l => decide (r < scL G β l)).length
theorem msL_lt {c d : Nat → Nat} (hW : WfVG w G) (hd : OkC G d) (h : sumW G.length (wch G β d) < sumW G.length (wch G β c)) : msL G β d < msL G β c := by
  have h2 : scL G β (lsC G d) < scL G β (lsC G c) := by
    rw [scL_ls, scL_ls]
    exact h
  exact count_lt (S := scL G β) (a := lsC G c) (b := lsC G d) h2 (ls_mem hW hd)
theorem msG_lt {r : Rat} {d : Nat → Nat} (hW : WfVG w G) (hd : OkC G d) (h : r < sumW G.length (wch G β d)) : msG G β (sumW G.length (wch G β d)) < msG G β r := by
  have hm := ls_mem hW hd
  have e := scL_ls (β := β) (G := G) d
  unfold msG
  rw [← e] at h ⊢
  generalize allL G = L at hm ⊢
  have le : ∀ l : List (List Nat), (l.filter fun y => decide (scL G β (lsC G d) < scL G β y)).length ≤ (l.filter fun y => decide (r < scL G β y)).length := fun l => by
    induction l with
    | nil => exact Nat.le_refl _
    | cons y l ih =>
      by_cases q : scL G β (lsC G d) < scL G β y
      · have z : r < scL G β y := by grind
        rw [List.filter_cons_of_pos (by exact decide_eq_true q), List.filter_cons_of_pos (by exact decide_eq_true z), List.length_cons, List.length_cons]
        omega
      · rw [List.filter_cons_of_neg (by rw [decide_eq_false q]; decide)]
        by_cases z : r < scL G β y
        · rw [List.filter_cons_of_pos (by exact decide_eq_true z), List.length_cons]
          omega
        · rw [List.filter_cons_of_neg (by rw [decide_eq_false z]; decide)]
          exact ih
  induction L with
  | nil => cases hm
  | cons y l ih =>
    have h0 : ¬ scL G β (lsC G d) < scL G β (lsC G d) := by grind
    rcases List.mem_cons.mp hm with rfl | hm
    · rw [List.filter_cons_of_neg (by rw [decide_eq_false h0]; decide), List.filter_cons_of_pos (by exact decide_eq_true h), List.length_cons]
      have := le l
      omega
    · have ih := ih hm
      by_cases q : scL G β (lsC G d) < scL G β y
      · have z : r < scL G β y := by grind
        rw [List.filter_cons_of_pos (by exact decide_eq_true q), List.filter_cons_of_pos (by exact decide_eq_true z), List.length_cons, List.length_cons]
        omega
      · rw [List.filter_cons_of_neg (by rw [decide_eq_false q]; decide)]
        by_cases z : r < scL G β y
        · rw [List.filter_cons_of_pos (by exact decide_eq_true z), List.length_cons]
          omega
        · rw [List.filter_cons_of_neg (by rw [decide_eq_false z]; decide)]
          exact ih
theorem turn_gt {c d : Nat → Nat} (h : WfVG w G) (hd : OkC G d) (h0 : 0 < β) (h1 : β < 1) {e u v : Nat → Rat} (hu : IsWor (chV G c) β e u) (hv : IsWor (chV G d) β e v)
    (hm : ∀ x, x < G.length → (vl G x).k ≠ none → u (tgV G c x) ≤ u (tgV G d x)) {y : Nat} (hy : y < G.length) (hk : (vl G y).k ≠ none) (hlt : u (tgV G c y) < u (tgV G d y)) : sumW G.length u < sumW G.length v := by
  have key := turn_more (c := c) h hd h0 h1 hu hv hm
  refine sumW_lt key hy ?_
  have a := hu y (by rw [chV_len]; exact hy)
  have b := hv y (by rw [chV_len]; exact hy)
  rw [mean_side hy hk] at a b
  have k := key _ (tgV_lt h hd hy hk)
  have e1 : β * u (tgV G c y) < β * u (tgV G d y) := Rat.mul_lt_mul_of_pos_left hlt h0
  have e2 : β * u (tgV G d y) ≤ β * v (tgV G d y) := Rat.mul_le_mul_of_nonneg_left k (Rat.le_of_lt h0)
  grind
end
end Md
namespace Md
open PySem L2 Evl
def kLs : Con := con2 fun x y P => ∃ r s : Rat, x = nQ r ∧ y = nQ s ∧ Big 8000 (canon r) ∧ Big 8000 (canon s) ∧ P (.bool (decide (r < s)))
theorem kLs_i {r s : Rat} {P : PyData → Prop} (h1 : Big 8000 (canon r)) (h2 : Big 8000 (canon s)) (p : P (.bool (decide (r < s)))) : kLs [nQ r, nQ s] P := ⟨r, s, rfl, rfl, h1, h2, p⟩
def kTkB (o : Bool) : Con := con1 fun x P => ∃ l : List Rat, x = ratsD l ∧ 0 < l.length ∧ l.length ≤ 1000 ∧ (∀ r ∈ l, Big 8000 (canon r)) ∧ P (nQ (tkQ o l))
theorem kTkB_i {o : Bool} {l : List Rat} {P : PyData → Prop} (h1 : 0 < l.length) (h0 : l.length ≤ 1000) (h2 : ∀ r ∈ l, Big 8000 (canon r)) (p : P (nQ (tkQ o l))) : kTkB o [ratsD l] P := ⟨l, rfl, h1, h0, h2, p⟩
theorem GamOk.mb2 {G : List PlV} {w dn dd M0 : Nat} (x : GamOk G w dn dd M0) : 1000 * dd * ((2 ^ 27 * dd) ^ 12 * M0) < 2 ^ 7200 := by
  have h1 : 2 ^ 27 * dd ≤ 2 ^ 27 * 2 ^ 512 := Nat.mul_le_mul_left _ x.db
  have h2 : (2 ^ 27 * dd) ^ 12 ≤ (2 ^ 27 * 2 ^ 512) ^ 12 := Nat.pow_le_pow_left h1 12
  have h3 : (2 ^ 27 * dd) ^ 12 * M0 ≤ (2 ^ 27 * 2 ^ 512) ^ 12 * 2 ^ 200 := Nat.mul_le_mul h2 (Nat.le_of_lt x.mb)
  have h4 : 1000 * dd ≤ 1000 * 2 ^ 512 := Nat.mul_le_mul_left _ x.db
  exact Nat.lt_of_le_of_lt (Nat.mul_le_mul h4 h3) (by decide +kernel)
theorem WorOf.big {G : List PlV} {w dn dd M0 : Nat} {c : Nat → Nat} {v : Nat → Rat} (y : WorOf G dn dd M0 c v) (x : GamOk G w dn dd M0) {j : Nat} (hj : j < G.length) : Big 8000 (canon (v j)) := by
  obtain ⟨M, m0, mb, h⟩ := y.nb
  have hd := x.dl
  refine ((h j hj).big m0 (by omega) (Nat.lt_of_le_of_lt (Nat.mul_le_mul_left _ mb) x.mb2)).mono (by decide)
theorem GamOk.beta {G : List PlV} {w dn dd M0 : Nat} (x : GamOk G w dn dd M0) (h : 0 < dn) : 0 < natR dn / natR dd ∧ natR dn / natR dd < 1 := by
  have d0 : (0 : Rat) < natR dd := cast_pos (by have := x.dl; omega)
  have n0 : (0 : Rat) < natR dn := cast_pos (by omega)
  have hl : natR dn < natR dd := Rat.intCast_lt_intCast.mpr (by have := x.dl; omega)
  refine ⟨(Rat.lt_div_iff d0).mpr (by rw [Rat.zero_mul]; exact n0), ?_⟩
  exact (Rat.div_lt_iff d0).mpr (by rw [Rat.one_mul]; exact hl)
end Md
namespace Md
open PySem L2 Evl
theorem FilOk.ex {C : List PlC} {dn dd M0 : Nat} (x : FilOk C dn dd M0) : ∃ v, IsWor C (natR dn / natR dd) (gainC C) v := by
  have key : ∀ k, k ≤ C.length → ∃ T d, Elim C.length (aF C dn dd) k T d := fun k => by
    induction k with
    | zero => exact fun _ => ⟨_, 1, elim_start _ _⟩
    | succ k ih =>
      intro hk
      obtain ⟨T, d, h⟩ := ih (by omega)
      exact ⟨_, _, (elim_step h (by omega) (x.sol.piv k T d (by omega) h)).1⟩
  obtain ⟨T, d, h⟩ := key C.length (Nat.le_refl _)
  exact ⟨_, (x.fin h).1⟩
section
variable {G : List PlV} {w dn dd M0 : Nat} {c : Nat → Nat} {v : Nat → Rat}
theorem GamOk.ex (x : GamOk G w dn dd M0) (hc : OkC G c) : ∃ v, IsWor (chV G c) (natR dn / natR dd) (gnV G) v := by
  obtain ⟨v, hv⟩ := (chV_fil x.W x.w9 hc x.g x.dl x.db x.m0 x.mb x.red).ex
  exact ⟨v, wor_gain hv⟩
theorem GamOk.wch (x : GamOk G w dn dd M0) (h : 0 < dn) (hc : OkC G c) (hv : IsWor (chV G c) (natR dn / natR dd) (gnV G) v) : sumW G.length (wch G (natR dn / natR dd) c) = sumW G.length v :=
  sumW_congr (wch_is x.W hc (Rat.le_of_lt (x.beta h).1) (x.beta h).2 hv)
theorem imp_less (x : GamOk G w dn dd M0) (h : 0 < dn) (hc : OkC G c) (hv : IsWor (chV G c) (natR dn / natR dd) (gnV G) v) {y : Nat} (hy : y < G.length) (hne : impC G false v c y ≠ c y) : msL G (natR dn / natR dd) (impC G false v c) < msL G (natR dn / natR dd) c := by
  have hd := imp_ok (o := false) (f := v) x.W hc
  obtain ⟨u, hu⟩ := x.ex hd
  refine msL_lt x.W hd ?_
  rw [x.wch h hd hu, x.wch h hc hv]
  obtain ⟨hk, hn⟩ := imp_ne hne
  have hk2 : (vl G y).k ≠ none := by rw [hk]; intro z; cases z
  have hle := imp_le (f := v) x.W hc hy hk2
  exact turn_less x.W hd (x.beta h).1 (x.beta h).2 hv hu (fun z hz hkz => imp_le x.W hc hz hkz) hy hk2 (by grind)
theorem imp_more (x : GamOk G w dn dd M0) (h : 0 < dn) (hc : OkC G c) (hv : IsWor (chV G c) (natR dn / natR dd) (gnV G) v) (hB : Best G false c v) {y : Nat} (hy : y < G.length) (hne : impC G true v c y ≠ c y) {d : Nat → Nat} (hd : OkC G d) (ho : ∀ z, z < G.length → (vl G z).k = some true → d z = impC G true v c z) :
    sumW G.length (wch G (natR dn / natR dd) c) < sumW G.length (wch G (natR dn / natR dd) d) := by
  obtain ⟨u, hu⟩ := x.ex hd
  rw [x.wch h hd hu, x.wch h hc hv]
  obtain ⟨hk, hn⟩ := imp_ne hne
  have hk2 : (vl G y).k ≠ none := by rw [hk]; intro z; cases z
  have hle := imp_ge (f := v) x.W hc hy hk2
  have e : tgV G d y = tgV G (impC G true v c) y := by
    unfold tgV
    rw [ho y hy hk]
  refine turn_gt x.W hd (x.beta h).1 (x.beta h).2 hv hu (fun z hz hkz => ?_) hy hk2 (by rw [e]; grind)
  cases q : (vl G z).k with
  | none => exact absurd q hkz
  | some o =>
    cases o with
    | true =>
      have e : tgV G d z = tgV G (impC G true v c) z := by
        unfold tgV
        rw [ho z hz q]
      rw [e]
      exact imp_ge x.W hc hz hkz
    | false =>
      have := hB z hz q
      rw [tgV_B, this, tgV_B]
      exact vW_le q (hd z hz hkz)
end
end Md
set_option Elab.async false
set_option linter.all false
set_option maxRecDepth 100000
set_option maxHeartbeats 2000000
namespace Md
open PySem L2 Evl
end Md
namespace Md
open PySem PySem.Spec PyProof.Rows L2 Evl
def zipD3 (xs ys zs : List PyData) : List PyData := List.zipWith (fun x p => .tuple [x, p.1, p.2]) xs (ys.zip zs)
def diZ3 (da : DN) : DN := fun Γ P => da Γ fun ds => match ds with
  | [x, y, z] => onL x fun xs => onL y fun ys => onL z fun zs => P (zipD3 xs ys zs)
  | _ => False
end Md
set_option Elab.async false
set_option linter.all false
set_option maxRecDepth 100000
set_option maxHeartbeats 2000000
namespace Md
open PySem L2 Evl
theorem Beh.b3 {p : PlV} {w n M B S : Nat} {f : Nat → Rat} (x : Beh p w n M B S f) {q : BrC} (hq : q ∈ p.bs) : Big 3000 (canon (f q.2)) := nb_big3 (x.hf q hq) x.M0 (Nat.lt_of_le_of_lt (Nat.le_mul_of_pos_right _ x.S0) x.MS) (Nat.le_trans x.Bl (Nat.pow_le_pow_right (by decide) (by decide)))
structure OnwOk (G : List PlV) (w dn dd U S M B n : Nat) (f : Nat → Rat) : Prop where
  W : WfVG w G
  d1 : 1 ≤ dn
  d2 : dn ≤ dd
  d3 : dd < 2 ^ 1000
  red : Red ((dn : Int), (dd : Int))
  gU : ∀ p ∈ G, p.g.2.natAbs ∣ U
  cS : ∀ p ∈ G, p.k = none → ∀ q ∈ p.bs, q.1.2.natAbs ∣ S
  UM : U ∣ M
  M0 : 0 < M
  S0 : 0 < S
  MS : M * (S * dd) < 2 ^ 1998
  Bl : B ≤ 2 ^ 800
  hf : ∀ k, k < G.length → NB M B (f k)
section
variable {G : List PlV} {w dn dd U S M B n : Nat} {f : Nat → Rat} (x : OnwOk G w dn dd U S M B n f)
include x
theorem OnwOk.ms : M * S < 2 ^ 1998 := Nat.lt_of_le_of_lt (Nat.mul_le_mul_left _ (Nat.le_mul_of_pos_right _ (by have := x.d1; have := x.d2; omega))) x.MS
theorem OnwOk.beh {p : PlV} (hp : p ∈ G) : Beh p w G.length M B S f := ⟨x.W.p p hp, x.cS p hp, x.M0, x.S0, x.ms, Nat.le_trans x.Bl (Nat.pow_le_pow_right (by decide) (by decide)), fun q hq => x.hf _ ((x.W.p p hp).t q hq)⟩
theorem OnwOk.nbt {k : Nat} (hk : k < G.length) : NB (M * S * dd) B (natR dn / natR dd * vW (vl G k) f) := by
  have hm := vl_mem hk
  have a := (x.beh hm).nb
  have d := disc_le x.d2 (by have := x.d1; have := x.d2; omega)
  have b : NB dd 1 (natR dn / natR dd) := ⟨d.2.2, by have := d.1; rw [natR_one]; grind, by have := d.2.1; rw [natR_one]; exact this⟩
  have c := nb_mul a b
  rw [Nat.mul_one, Rat.mul_comm] at c
  exact c
theorem OnwOk.nbg {k : Nat} (hk : k < G.length) : NB (M * S * dd) 1000 (qN (vl G k).g) := by
  have hm := vl_mem hk
  have hg := (x.W.p _ hm).g
  have b := q_small hg
  have n1 : NB U 1000 (qN (vl G k).g) := ⟨zt_den (red_small hg) (x.gU _ hm), b.1, b.2⟩
  exact n1.mono (Nat.dvd_trans x.UM (Nat.dvd_trans (Nat.dvd_mul_right _ _) (Nat.dvd_mul_right _ _))) (Nat.le_refl _)
theorem OnwOk.nbo {k : Nat} (hk : k < G.length) : NB (M * S * dd) (1000 + B) (onw G (natR dn / natR dd) f k) := nb_add (x.nbg hk) (x.nbt hk)
theorem OnwOk.pos : 0 < M * S * dd := Nat.mul_pos (Nat.mul_pos x.M0 x.S0) (by have := x.d1; have := x.d2; omega)
theorem OnwOk.lt : M * S * dd < 2 ^ 1998 := by
  rw [Nat.mul_assoc]
  exact x.MS
theorem OnwOk.le1 : 1000 + B ≤ 2 ^ 1000 := by
  have h1 : (1000 : Nat) ≤ 2 ^ 800 := Nat.le_trans (by decide : 1000 ≤ 2 ^ 10) (Nat.pow_le_pow_right (by decide) (by decide))
  have h2 := x.Bl
  have h3 : 2 ^ 800 + 2 ^ 800 = 2 ^ 801 := by rw [← Nat.two_mul, ← Nat.pow_succ']
  have h4 : (2 : Nat) ^ 801 ≤ 2 ^ 1000 := Nat.pow_le_pow_right (by decide) (by decide)
  exact Nat.le_trans (Nat.le_trans (Nat.add_le_add h1 h2) (Nat.le_of_eq h3)) h4
theorem OnwOk.ok {k : Nat} (hk : k < G.length) : Ok (onw G (natR dn / natR dd) f k) := nb_ok (x.nbo hk) x.pos x.lt x.le1
end
section
variable {K : PySem.W.Frag} {vs : List V} {h : Hp} {Q : VK} {E : XK}
end
end Md
namespace Md
open PySem L2 Evl
def dPar3 (i j l : Nat) (da : DN) : DS := fun DD Γ => da Γ fun ds => match ds with
  | [x, y, z] => DD.nx (((Γ.set i (some (.d x))).set j (some (.d y))).set l (some (.d z)))
  | _ => False
def dPar3O (i j l : Nat) : DS := fun DD Γ => i < Γ.length ∧ j < Γ.length ∧ l < Γ.length ∧ DD.nx (((Γ.set i (some (.o []))).set j (some (.o []))).set l (some (.o [])))
end Md
namespace Md
open PySem L2 Evl
def SixS (p : Pl) : Prop := p.gain.2.natAbs ∣ 6 ∧ p.gain.1.natAbs ≤ 9
def spPlace6S (K : PySem.W.Frag) : Sp := fun vs h Q _ => ∃ (b : Hp) (ds : List Int) (many : Int), Ex b h ∧ DtA K b vs [.list (ds.map PyData.int), .int many] ∧ ds.length = 15 ∧ (∀ d ∈ ds, 0 ≤ d ∧ d < 1000) ∧ 1 ≤ many ∧
  ∀ v b' h' p, Gr b h b' h' → WfP many p ∧ SixS p → Dt K b' v p.D → Q v h'
def spGame6S (K : PySem.W.Frag) : Sp := fun vs h Q _ => ∃ (b : Hp) (ds : List Int) (most : Int), Ex b h ∧ DtA K b vs [.list (ds.map PyData.int), .int most] ∧ 1 ≤ most ∧ most ≤ 12 ∧ 1 + 15 * most ≤ (ds.length : Int) ∧ (∀ d ∈ ds, 0 ≤ d ∧ d < 1000) ∧
  ∀ v b' h' G, Gr b h b' h' → WfG G ∧ (∀ p ∈ G, SixS p) → (G.length : Int) ≤ most → Dt K b' v (gameD G) → Q v h'
def ShG (G : List PlV) : Prop := ∀ p ∈ G, p.g.2.natAbs ∣ 6 ∧ p.g.1.natAbs ≤ 9
def gG (G : List PlV) (h : Nat → Rat) : List PlV := (List.range G.length).map fun k => ⟨canon (h k), (vl G k).k, (vl G k).bs⟩
section
variable {G : List PlV} {h : Nat → Rat} {w : Nat}
theorem gG_len : (gG G h).length = G.length := by
  unfold gG
  rw [List.length_map, List.length_range]
theorem gG_at {k : Nat} (hk : k < G.length) : vl (gG G h) k = ⟨canon (h k), (vl G k).k, (vl G k).bs⟩ := vl_range hk
end
end Md
namespace Md
open PySem L2 Evl
section
variable {g m : Int × Int}
end
end Md
namespace Md
open PySem L2 Evl
def pD (G : List PlV) (h : Nat → Rat) (k : Nat) : PyData := .tuple [nQ (h k), .str (kdV (vl G k).k), .list (vl G k).el]
theorem OnwOk.okf {G : List PlV} {w dn dd U S M B n : Nat} {f : Nat → Rat} (x : OnwOk G w dn dd U S M B n f) {k : Nat} (hk : k < G.length) : Ok (f k) :=
  nb_ok (x.hf k hk) x.M0 (Nat.lt_of_le_of_lt (Nat.le_mul_of_pos_right _ x.S0) x.ms) (Nat.le_trans x.Bl (Nat.pow_le_pow_right (by decide) (by decide)))
end Md
namespace Md
open PySem L2 Evl
end Md
set_option Elab.async false
set_option linter.all false
set_option maxRecDepth 100000
set_option maxHeartbeats 2000000
namespace Md
open PySem L2 Evl
def dRevL (de : DE) : DN := fun Γ P => de Γ fun x => onL x fun ds => P ds.reverse
end Md
set_option Elab.async false
set_option linter.all false
set_option maxRecDepth 100000
set_option maxHeartbeats 2000000
namespace Md
open PySem L2 Evl
abbrev ConT := List PyData → (List Sl → Prop) → Prop
section
variable {K : PySem.W.Frag} {te : TE} {de : DE} {ts : TA} {dn : DN} {E : XK} {R : ConT}
def dRetT2 (de : DE) (i : Nat) : DS := fun DD Γ => match gat Γ i with
  | some (.o ds) => de Γ fun x => DD.rp [.d x, .o ds]
  | _ => False
def dAsgT2 (R : ConT) (da : DN) (i j : Nat) : DS := fun DD Γ => da Γ fun ds => R ds fun sls => ∃ x es, sls = [.d x, .o es] ∧ i < Γ.length ∧ j < Γ.length ∧ DD.nx ((Γ.set i (some (.d x))).set j (some (.o es)))
def dAsgOB (i : Nat) (dn : DN) : DS := fun DD Γ => dn (allD Γ) fun ds => (∀ d ∈ ds, scD d = true) ∧ i < Γ.length ∧ DD.nx (Γ.set i (some (.o ds)))
end
section
variable {K : PySem.W.Frag} {N : List Str} {t : TS} {dd : DS} {b h : Hp} {vs : List V} {ds : List PyData} {Q : VK} {R : ConT} {R' : Con} {E : XK}
end
end Md
namespace Md
open PySem L2 Evl
end Md
namespace Md
end Md
set_option Elab.async false
set_option linter.all false
set_option maxRecDepth 100000
set_option maxHeartbeats 2000000
namespace Md
open PySem L2 Evl
section
variable {G : List PlV} {w : Nat} {β : Rat}
theorem vW_near {n : Nat} {p : PlV} (hw : WfV w n p) {f g : Nat → Rat} {c : Rat} (h : ∀ j, j < n → f j ≤ g j + c) : vW p f ≤ vW p g + c := by
  rw [← vW_add hw]
  exact vW_mono hw h
end
end Md
namespace Md
open PySem L2 Evl
section
variable {K : PySem.W.Frag} {vs : List V} {h : Hp} {Q : VK} {E : XK}
end
end Md
namespace Md
open PySem L2 Evl
end Md
set_option Elab.async false
set_option linter.all false
set_option maxRecDepth 100000
set_option maxHeartbeats 2000000
namespace Md
def ev : List Int → Rat → Rat
  | [], _ => 0
  | c :: l, x => (c : Rat) + x * ev l x
def l1 : List Int → Nat
  | [] => 0
  | c :: l => c.natAbs + l1 l
def addP : List Int → List Int → List Int
  | [], m => m
  | c :: l, [] => c :: l
  | c :: l, d :: m => (c + d) :: addP l m
def mulC (a : Int) (l : List Int) : List Int := l.map fun c => a * c
def mulP : List Int → List Int → List Int
  | [], _ => []
  | c :: l, m => addP (mulC c m) (0 :: mulP l m)
theorem ev_add : ∀ (l m : List Int) (x : Rat), ev (addP l m) x = ev l x + ev m x
  | [], m, x => by
    show ev m x = 0 + ev m x
    grind
  | c :: l, [], x => by
    show ev (c :: l) x = ev (c :: l) x + 0
    grind
  | c :: l, d :: m, x => by
    show (((c + d : Int)) : Rat) + x * ev (addP l m) x = ((c : Rat) + x * ev l x) + ((d : Rat) + x * ev m x)
    rw [ev_add l m x, Rat.intCast_add]
    grind
theorem l1_add : ∀ (l m : List Int), l1 (addP l m) ≤ l1 l + l1 m
  | [], m => by
    show l1 m ≤ 0 + l1 m
    omega
  | c :: l, [] => by
    show l1 (c :: l) ≤ l1 (c :: l) + 0
    omega
  | c :: l, d :: m => by
    have := l1_add l m
    show (c + d).natAbs + l1 (addP l m) ≤ (c.natAbs + l1 l) + (d.natAbs + l1 m)
    omega
theorem ev_mulC (a : Int) : ∀ (l : List Int) (x : Rat), ev (mulC a l) x = (a : Rat) * ev l x
  | [], x => by
    show (0 : Rat) = (a : Rat) * 0
    grind
  | c :: l, x => by
    show ((a * c : Int) : Rat) + x * ev (mulC a l) x = (a : Rat) * ((c : Rat) + x * ev l x)
    rw [ev_mulC a l x, Rat.intCast_mul]
    grind
theorem l1_mulC (a : Int) : ∀ (l : List Int), l1 (mulC a l) = a.natAbs * l1 l
  | [] => rfl
  | c :: l => by
    show (a * c).natAbs + l1 (mulC a l) = a.natAbs * (c.natAbs + l1 l)
    rw [l1_mulC a l, Int.natAbs_mul, Nat.mul_add]
theorem ev_mul : ∀ (l m : List Int) (x : Rat), ev (mulP l m) x = ev l x * ev m x
  | [], m, x => by
    show (0 : Rat) = 0 * ev m x
    grind
  | c :: l, m, x => by
    show ev (addP (mulC c m) (0 :: mulP l m)) x = ((c : Rat) + x * ev l x) * ev m x
    rw [ev_add, ev_mulC]
    show (c : Rat) * ev m x + (((0 : Int) : Rat) + x * ev (mulP l m) x) = _
    rw [ev_mul l m x]
    have : ((0 : Int) : Rat) = 0 := rfl
    rw [this]
    grind
theorem l1_mul : ∀ (l m : List Int), l1 (mulP l m) ≤ l1 l * l1 m
  | [], m => Nat.zero_le _
  | c :: l, m => by
    have a := l1_add (mulC c m) (0 :: mulP l m)
    have b := l1_mul l m
    have e : l1 (0 :: mulP l m) = l1 (mulP l m) := by
      show (0 : Int).natAbs + _ = _
      simp
    rw [e, l1_mulC] at a
    show l1 (addP (mulC c m) (0 :: mulP l m)) ≤ (c.natAbs + l1 l) * l1 m
    rw [Nat.add_mul]
    omega
theorem ev_zero : ∀ {l : List Int} {p : Nat}, l1 l < p → ev l (natR p) = 0 → ∀ x, ev l x = 0
  | [], _, _, _, _ => rfl
  | c :: l, p, h, h0, x => by
    have hl : l1 (c :: l) = c.natAbs + l1 l := rfl
    rw [hl] at h
    have h0 : (c : Rat) + natR p * ev l (natR p) = 0 := h0
    obtain ⟨z, hz⟩ : ∃ z : Int, ev l (natR p) = (z : Rat) := by
      have : ∀ l : List Int, ∃ z : Int, ev l (natR p) = (z : Rat) := fun l => by
        induction l with
        | nil => exact ⟨0, rfl⟩
        | cons c l ih =>
          obtain ⟨z, hz⟩ := ih
          refine ⟨c + (p : Int) * z, ?_⟩
          show (c : Rat) + natR p * ev l (natR p) = _
          rw [hz, Rat.intCast_add, Rat.intCast_mul]
          rfl
      exact this l
    rw [hz] at h0
    have h1 : c + (p : Int) * z = 0 := by
      have h2 : ((c + (p : Int) * z : Int) : Rat) = ((0 : Int) : Rat) := by
        rw [Rat.intCast_add, Rat.intCast_mul]
        exact h0
      exact Rat.intCast_inj.mp h2
    have hz0 : z = 0 := by
      rcases Int.lt_trichotomy z 0 with q | q | q
      · have : (p : Int) * z ≤ (p : Int) * (-1) := Int.mul_le_mul_of_nonneg_left (by omega) (by omega)
        omega
      · exact q
      · have : (p : Int) * 1 ≤ (p : Int) * z := Int.mul_le_mul_of_nonneg_left (by omega) (by omega)
        omega
    have hc : c = 0 := by
      rw [hz0, Int.mul_zero] at h1
      omega
    have ih := ev_zero (l := l) (p := p) (by omega) (by rw [hz, hz0]; rfl) x
    show (c : Rat) + x * ev l x = 0
    rw [ih, hc]
    have : ((0 : Int) : Rat) = 0 := rfl
    rw [this]
    grind
theorem ev_sign : ∀ {l : List Int} {p q : Nat}, l1 l < p → l1 l < q → ev l (natR p) ≤ 0 → ev l (natR q) ≤ 0
  | [], _, _, _, _, _ => Rat.le_refl
  | c :: l, p, q, hp, hq, h0 => by
    have hl : l1 (c :: l) = c.natAbs + l1 l := rfl
    rw [hl] at hp hq
    have whole : ∀ (p : Nat) (l : List Int), ∃ z : Int, ev l (natR p) = (z : Rat) := fun p l => by
      induction l with
      | nil => exact ⟨0, rfl⟩
      | cons c l ih =>
        obtain ⟨z, hz⟩ := ih
        refine ⟨c + (p : Int) * z, ?_⟩
        show (c : Rat) + natR p * ev l (natR p) = _
        rw [hz, Rat.intCast_add, Rat.intCast_mul]
        rfl
    obtain ⟨z, hz⟩ := whole p l
    obtain ⟨y, hy⟩ := whole q l
    have h0 : (c : Rat) + natR p * ev l (natR p) ≤ 0 := h0
    rw [hz] at h0
    have h1 : c + (p : Int) * z ≤ 0 := by
      have h2 : ((c + (p : Int) * z : Int) : Rat) ≤ ((0 : Int) : Rat) := by
        rw [Rat.intCast_add, Rat.intCast_mul]
        exact h0
      exact Rat.intCast_le_intCast.mp h2
    have key : c + (q : Int) * y ≤ 0 := by
      rcases Int.lt_trichotomy z 0 with s | s | s
      · have s2 : ev l (natR p) ≤ 0 := by
          rw [hz]
          exact Rat.intCast_le_intCast.mpr (show z ≤ 0 by omega)
        have t := ev_sign (l := l) (p := p) (q := q) (by omega) (by omega) s2
        rw [hy] at t
        have t2 : y ≤ 0 := Rat.intCast_le_intCast.mp t
        have t3 : y ≠ 0 := fun e => by
          have := ev_zero (l := l) (p := q) (by omega) (by rw [hy, e]; rfl) (natR p)
          rw [hz] at this
          have : z = 0 := Rat.intCast_inj.mp this
          omega
        have : (q : Int) * y ≤ (q : Int) * (-1) := Int.mul_le_mul_of_nonneg_left (by omega) (by omega)
        omega
      · have t := ev_zero (l := l) (p := p) (by omega) (by rw [hz, s]; rfl) (natR q)
        rw [hy] at t
        have t2 : y = 0 := Rat.intCast_inj.mp t
        rw [t2, Int.mul_zero]
        rw [s, Int.mul_zero] at h1
        exact h1
      · have : (p : Int) * 1 ≤ (p : Int) * z := Int.mul_le_mul_of_nonneg_left (by omega) (by omega)
        omega
    show (c : Rat) + natR q * ev l (natR q) ≤ 0
    rw [hy]
    have : ((c + (q : Int) * y : Int) : Rat) ≤ ((0 : Int) : Rat) := Rat.intCast_le_intCast.mpr key
    rw [Rat.intCast_add, Rat.intCast_mul] at this
    exact this
def PolyE (B : Nat) (F : Nat → Rat) : Prop := ∃ l : List Int, l1 l ≤ B ∧ ∀ p, F p = ev l (natR p)
theorem PolyE.congr {B : Nat} {F G : Nat → Rat} (h : PolyE B F) (e : ∀ p, G p = F p) : PolyE B G := by
  obtain ⟨l, a, b⟩ := h
  exact ⟨l, a, fun p => (e p).trans (b p)⟩
theorem PolyE.mono {B B' : Nat} {F : Nat → Rat} (h : PolyE B F) (e : B ≤ B') : PolyE B' F := by
  obtain ⟨l, a, b⟩ := h
  exact ⟨l, Nat.le_trans a e, b⟩
theorem PolyE.lin (a b : Int) : PolyE (a.natAbs + b.natAbs) fun p => ((a + (p : Int) * b : Int) : Rat) := ⟨[a, b], Nat.le_of_eq (by simp [l1]), fun p => by
  show ((a + (p : Int) * b : Int) : Rat) = (a : Rat) + natR p * ((b : Rat) + natR p * 0)
  rw [Rat.intCast_add, Rat.intCast_mul]
  have : (((p : Nat) : Int) : Rat) = natR p := rfl
  rw [this]
  grind⟩
theorem PolyE.add {A B : Nat} {F G : Nat → Rat} (h : PolyE A F) (g : PolyE B G) : PolyE (A + B) fun p => F p + G p := by
  obtain ⟨l, a, b⟩ := h
  obtain ⟨m, c, d⟩ := g
  exact ⟨addP l m, Nat.le_trans (l1_add l m) (Nat.add_le_add a c), fun p => by
    show F p + G p = _
    rw [ev_add, b p, d p]⟩
theorem PolyE.mul {A B : Nat} {F G : Nat → Rat} (h : PolyE A F) (g : PolyE B G) : PolyE (A * B) fun p => F p * G p := by
  obtain ⟨l, a, b⟩ := h
  obtain ⟨m, c, d⟩ := g
  exact ⟨mulP l m, Nat.le_trans (l1_mul l m) (Nat.mul_le_mul a c), fun p => by
    show F p * G p = _
    rw [ev_mul, b p, d p]⟩
theorem PolyE.cst (z : Int) : PolyE z.natAbs fun _ => (z : Rat) := ⟨[z], Nat.le_of_eq (by simp [l1]), fun p => by
  show _ = (z : Rat) + natR p * 0
  grind⟩
theorem PolyE.sgn (n : Nat) : PolyE 1 fun _ => Md.sgn n := by
  unfold Md.sgn
  split
  · exact PolyE.cst 1
  · exact PolyE.cst (-1)
theorem PolyE.sum {B : Nat} {F : Nat → Nat → Rat} : ∀ n, (∀ i, i < n → PolyE B fun p => F p i) → PolyE (n * B) fun p => sumR n (F p)
  | 0, _ => ⟨[], Nat.zero_le _, fun p => rfl⟩
  | n + 1, h => by
    have a := PolyE.sum n fun i hi => h i (by omega)
    have b := a.add (h n (by omega))
    refine (b.mono (by rw [Nat.add_mul, Nat.one_mul]; exact Nat.le_refl _)).congr fun p => sumR_succ _ _
theorem PolyE.det {B : Nat} : ∀ (k : Nat) {c : Nat → Nat → Nat → Rat}, (∀ col r, col < k → r < k → PolyE B fun p => c p col r) → PolyE (fbN B k) fun p => Fd k (c p)
  | 0, _, _ => PolyE.cst 1
  | k + 1, c, h => by
    have a : PolyE ((k + 1) * (B * fbN B k)) fun p => sumR (k + 1) fun i => Md.sgn (i + k) * (c p k i * Fd k (fun col r => c p col (sk i r))) := PolyE.sum (k + 1) fun i hi => by
      have b := PolyE.det k (c := fun p col r => c p col (sk i r)) fun col r h1 h2 => h col (sk i r) (by omega) (sk_lt h2)
      have d := (h k i (by omega) hi).mul b
      exact ((PolyE.sgn (i + k)).mul d).mono (by rw [Nat.one_mul]; exact Nat.le_refl _)
    exact a
end Md
set_option Elab.async false
set_option linter.all false
set_option maxRecDepth 100000
set_option maxHeartbeats 2000000
namespace Md
theorem fill_ex {C : List PlC} (hW : WfC C) {L : List Nat} (hn : L.Nodup) (hL : ∀ x ∈ L, x < C.length) (hO : Out C L) (e kn : Nat → Rat) (hk : ∀ x ∈ L, kn x = 0) : ∃ f, IsFill C L e kn f := by
  let kr : Nat → Rat := fun r => (e (L.getD r 0) + meanC C kn (L.getD r 0)) * ((scaleC C (L.getD r 0) : Int) : Rat)
  let U := denL ((List.range L.length).map fun r => canon (kr r))
  have hU : 0 < U := denL_pos fun c hc => by
    obtain ⟨r, _, rfl⟩ := List.mem_map.mp hc
    exact (canon_red _).1
  obtain ⟨T, d, hE⟩ := elim_exists hW hn hL hO kr U L.length (Nat.le_refl _)
  exact ⟨_, fill_of hW hn hL hk hU (fun r hr => denL_dvd (List.mem_map.mpr ⟨r, List.mem_range.mpr hr, rfl⟩)) hE⟩
section
variable {C : List PlC} (h : WfC C)
include h
theorem lead_mean {x : Nat} (hx : x ∈ headsL C) {L : List Nat} (e : reachL C x = x :: L) (G : IsGrp C x L) : ∃ u, IsFill C L (leadC C) (fun _ => 0) u ∧ leadC C x + meanC C u x = 0 := by
  obtain ⟨s, m, _, hm, hf⟩ := (lead_ok h).grp x hx L e
  obtain ⟨s1, t, h1, h2, h3⟩ := hm.ex
  have hxl := G.lt x List.mem_cons_self
  have ht := (steps_nn h G h2).2 x hxl
  have hT : 1 + meanC C t x ≠ 0 := by grind
  refine ⟨fun y => s1 y - m * t y, ⟨fun y hy => ?_, fun y hy => ?_⟩, ?_⟩
  · rw [mean_sub, mean_mulC, hf y (List.mem_cons_of_mem x hy)]
    have a := h1.eq y hy
    have b := h2.eq y hy
    grind
  · show s1 y - m * t y = 0
    rw [h1.out y hy, h2.out y hy]
    grind
  · rw [mean_sub, mean_mulC, hf x List.mem_cons_self]
    have : m * (1 + meanC C t x) = s x + meanC C s1 x := by
      rw [h3]
      grind
    grind
open Classical in
theorem behind_ex : ∃ k : Nat → Rat, ∀ x, x < C.length → k x = meanC C k x - meanC C (leadC C) x := by
  have hu : ∀ x, ∃ u : Nat → Rat, x ∈ headsL C → ∀ L, reachL C x = x :: L → IsFill C L (leadC C) (fun _ => 0) u ∧ leadC C x + meanC C u x = 0 := fun x => by
    by_cases hx : x ∈ headsL C
    · obtain ⟨L, e, G⟩ := head_grp h hx
      obtain ⟨u, h1, h2⟩ := lead_mean h hx e G
      refine ⟨u, fun _ L' e' => ?_⟩
      rw [e] at e'
      have : L = L' := (List.cons.inj e').2
      subst this
      exact ⟨h1, h2⟩
    · exact ⟨fun _ => 0, fun z => absurd z hx⟩
  let u : Nat → Nat → Rat := fun x => (hu x).choose
  have us : ∀ x, x ∈ headsL C → ∀ L, reachL C x = x :: L → IsFill C L (leadC C) (fun _ => 0) (u x) ∧ leadC C x + meanC C (u x) x = 0 := fun x => (hu x).choose_spec
  have uniq : ∀ {x z y}, x ∈ headsL C → z ∈ headsL C → y ∈ reachL C x → y ∈ reachL C z → x = z := fun {x z y} hx hz h1 h2 => by
    obtain ⟨L, e, G⟩ := head_grp h hx
    obtain ⟨M, e', G'⟩ := head_grp h hz
    rw [e] at h1
    rw [e'] at h2
    have a := G.al y h1
    have b := G'.al y h2
    rw [a] at b
    exact (List.cons.inj b).1
  let kn : Nat → Rat := fun y => if q : ∃ x, x ∈ headsL C ∧ y ∈ reachL C x then u q.choose y else 0
  have kn_at : ∀ {x y}, x ∈ headsL C → y ∈ reachL C x → kn y = u x y := fun {x y} hx hy => by
    have q : ∃ x, x ∈ headsL C ∧ y ∈ reachL C x := ⟨x, hx, hy⟩
    show (if q : ∃ x, x ∈ headsL C ∧ y ∈ reachL C x then u q.choose y else 0) = _
    rw [dif_pos q]
    have := uniq q.choose_spec.1 hx q.choose_spec.2 hy
    rw [this]
  have kn0 : ∀ y ∈ passL C, kn y = 0 := fun y hy => by
    show (if q : ∃ x, x ∈ headsL C ∧ y ∈ reachL C x then u q.choose y else 0) = 0
    rw [dif_neg]
    rintro ⟨x, hx, hm⟩
    exact (mem_pass.mp hy).2 x hx hm
  obtain ⟨f, hf⟩ := fill_ex h pass_nodup pass_lt (out_pass h) (leadC C) kn kn0
  have fg : ∀ {x y}, x ∈ headsL C → y ∈ reachL C x → f y = u x y := fun {x y} hx hy => by
    obtain ⟨L, e, G⟩ := head_grp h hx
    rw [hf.out y (by rw [e] at hy; exact pass_out h hx e hy), kn_at hx hy]
  have key : ∀ x, x < C.length → f x = leadC C x + meanC C f x := fun y hy => by
    rcases pass_or hy with hp | ⟨x, hx, hm⟩
    · exact hf.eq y hp
    · obtain ⟨L, e, G⟩ := head_grp h hx
      obtain ⟨a1, a2⟩ := us x hx L e
      have hm2 := hm
      rw [e] at hm2
      have em : meanC C f y = meanC C (u x) y := mean_congr h fun q hq => fg hx (by rw [e]; exact grp_closed h G hm2 hq)
      rw [fg hx hm, em]
      rcases List.mem_cons.mp hm2 with rfl | hL
      · rw [a1.out y (List.nodup_cons.mp G.nd).1]
        exact a2.symm
      · exact a1.eq y hL
  refine ⟨fun y => leadC C y - f y, fun x hx => ?_⟩
  rw [mean_sub]
  have := key x hx
  grind
end
section
variable {C : List PlC}
theorem wor_bd (hM : WfM C) {β c R : Rat} (h0 : 0 ≤ β) (h1 : β < 1) (hR : R * (1 - β) = c) {e f : Nat → Rat} (he : ∀ x, x < C.length → -c ≤ e x ∧ e x ≤ c) (hf : IsWor C β e f) : ∀ x, x < C.length → -R ≤ f x ∧ f x ≤ R := by
  have mc : ∀ (c : Rat) k, k < C.length → meanC C (fun _ => c) k = c := fun c k hk => by
    have b := wsum_mul (plC C k).bs c (fun _ => 1)
    have s := hM.s k hk
    rw [s, Rat.mul_one] at b
    exact b
  intro x hx
  refine ⟨wor_ge hM h0 h1 (f := fun _ => -R) (fun k hk => ?_) hf x hx, wor_le hM h0 h1 (f := fun _ => R) (fun k hk => ?_) hf x hx⟩
  · rw [mc _ k hk]
    have := he k hk
    grind
  · rw [mc _ k hk]
    have := he k hk
    grind
theorem near_one (h : WfC C) : ∃ K : Rat, 0 ≤ K ∧ ∀ p : Nat, 2 ≤ p → ∀ w : Nat → Rat, IsWor C (natR (p - 1) / natR p) (gainC C) w → ∀ x, x < C.length → -(K / natR p) ≤ w x - (natR p * longC C x + leadC C x) ∧ w x - (natR p * longC C x + leadC C x) ≤ K / natR p := by
  obtain ⟨k, hk⟩ := behind_ex h
  have hM := WfC.toM h
  obtain ⟨K0, K00, hK0⟩ : ∃ K0 : Rat, 0 ≤ K0 ∧ ∀ x, x < C.length → -K0 ≤ k x ∧ k x ≤ K0 := by
    refine ⟨hiQ (fun x => if 0 ≤ k x then k x else -k x) C.length, ?_, fun x hx => ?_⟩
    · have h1 : 0 < C.length := by have := h.l1; omega
      have a := hi_ge (f := fun x => if 0 ≤ k x then k x else -k x) h1
      have b : 0 ≤ (if 0 ≤ k 0 then k 0 else -k 0) := by split <;> grind
      exact Rat.le_trans b a
    · have a := hi_ge (f := fun x => if 0 ≤ k x then k x else -k x) hx
      have a : (if 0 ≤ k x then k x else -k x) ≤ _ := a
      split at a <;> constructor <;> grind
  refine ⟨2 * K0, by grind, fun p hp w hw x hx => ?_⟩
  have p0 : (0 : Rat) < natR p := natR_pos (by omega)
  have pn : natR p ≠ 0 := by grind
  have e1 : natR (p - 1) + 1 = natR p := by
    have := natR_add (p - 1) 1
    rw [natR_one, show p - 1 + 1 = p by omega] at this
    exact this.symm
  have β0 : 0 ≤ natR (p - 1) / natR p := le_div' p0 (by rw [Rat.zero_mul]; exact natR_nonneg _)
  have β1 : natR (p - 1) / natR p < 1 := (Rat.div_lt_iff p0).mpr (by rw [Rat.one_mul]; grind)
  obtain ⟨ε, hε⟩ : ∃ ε : Rat, ε = 1 / natR p := ⟨_, rfl⟩
  have ε1 : ε * natR p = 1 := by rw [hε]; grind
  have ε0 : 0 ≤ ε := by
    rw [hε]
    exact le_div' p0 (by rw [Rat.zero_mul]; decide +kernel)
  have eβ : natR (p - 1) / natR p = 1 - ε := by
    rw [hε]
    grind
  have hu : IsWor C (natR (p - 1) / natR p) (fun y => -(ε * ε * meanC C k y)) (fun y => w y - (natR p * longC C y + leadC C y) - ε * k y) := fun y hy => by
    have a := hw y hy
    have b := long_mean h (long_ok h) hy
    have c := lead_eq h (long_ok h) (lead_ok h) hy
    have d := hk y hy
    have m1 : meanC C (fun y => w y - (natR p * longC C y + leadC C y) - ε * k y) y = meanC C w y - (natR p * meanC C (longC C) y + meanC C (leadC C) y) - ε * meanC C k y := by
      rw [mean_sub, mean_sub, mean_mulC]
      have : meanC C (fun y => natR p * longC C y + leadC C y) y = natR p * meanC C (longC C) y + meanC C (leadC C) y := by
        rw [← mean_mulC]
        exact wsum_add _ _ _
      rw [this]
    rw [m1, eβ]
    rw [eβ] at a
    show w y - (natR p * longC C y + leadC C y) - ε * k y = -(ε * ε * meanC C k y) + (1 - ε) * (meanC C w y - (natR p * meanC C (longC C) y + meanC C (leadC C) y) - ε * meanC C k y)
    generalize meanC C w y = mw at *
    generalize meanC C (longC C) y = mg at *
    generalize meanC C (leadC C) y = mh at *
    generalize meanC C k y = mk at *
    generalize gainC C y = gg at *
    generalize natR p = P at *
    grind
  have bd := wor_bd hM (c := ε * ε * K0) (R := ε * K0) β0 β1 (by rw [eβ]; grind) (e := fun y => -(ε * ε * meanC C k y)) (fun y hy => by
    have m1 : meanC C k y ≤ K0 := meanM_le hM hy fun j hj => (hK0 j hj).2
    have m2 : -K0 ≤ meanC C k y := by
      have := meanM_le hM hy (f := fun j => (-1) * k j) (c := K0) fun j hj => by
        have := (hK0 j hj).1
        grind
      rw [mean_mulC] at this
      grind
    have ε2 : 0 ≤ ε * ε := Rat.mul_nonneg ε0 ε0
    have a1 := Rat.mul_le_mul_of_nonneg_left m1 ε2
    have a2 := Rat.mul_le_mul_of_nonneg_left m2 ε2
    constructor <;> grind) hu x hx
  have kx := hK0 x hx
  have b1 := Rat.mul_le_mul_of_nonneg_left kx.1 ε0
  have b2 := Rat.mul_le_mul_of_nonneg_left kx.2 ε0
  have eK : 2 * K0 / natR p = 2 * (ε * K0) := by
    rw [hε]
    grind
  rw [eK]
  constructor <;> grind
end
end Md
set_option Elab.async false
set_option linter.all false
set_option maxRecDepth 100000
set_option maxHeartbeats 2000000
namespace Md
section
variable {C : List PlC} {dn dd M0 : Nat}
def gzP (C : List PlC) (M0 : Nat) (x : Nat) : Int := (plC C x).g.1 * ((M0 : Int) / (plC C x).g.2)
def aP (C : List PlC) (M0 p x y : Nat) : Int := if y < C.length then rowA (plC C x).bs (scD2 C x) ((p : Int) - 1) p x y else (p : Int) * ((scD2 C x : Int) * gzP C M0 x)
theorem mat_p (x : FilOk C dn dd M0) {p : Nat} (hp : 1 ≤ p) : IsMat C (natR (p - 1) / natR p) (aP C M0 p) fun k => natR (scD2 C k) * natR p :=
  mat_is (Sx := scD2 C) hp (fun k hk => ⟨x.S0 hk, x.Sd hk⟩) fun k y hk hy => by
    have e : aP C M0 p k y = rowA (plC C k).bs (scD2 C k) ((p : Int) - 1) p k y := if_pos hy
    have e2 : (((p - 1 : Nat)) : Int) = (p : Int) - 1 := by omega
    rw [e, e2]
theorem beta_p {p : Nat} (hp : 2 ≤ p) : 0 < natR (p - 1) / natR p ∧ natR (p - 1) / natR p < 1 := by
  have p0 : (0 : Rat) < natR p := natR_pos (by omega)
  have n0 : (0 : Rat) < natR (p - 1) := natR_pos (by omega)
  refine ⟨(Rat.lt_div_iff p0).mpr (by rw [Rat.zero_mul]; exact n0), (Rat.div_lt_iff p0).mpr ?_⟩
  rw [Rat.one_mul]
  exact Rat.intCast_lt_intCast.mpr (by omega)
theorem elim_p (x : FilOk C dn dd M0) {p : Nat} (hp : 2 ≤ p) : ∃ T d, Elim C.length (aP C M0 p) C.length T d := by
  have key : ∀ k, k ≤ C.length → ∃ T d, Elim C.length (aP C M0 p) k T d := fun k => by
    induction k with
    | zero => exact fun _ => ⟨_, 1, elim_start _ _⟩
    | succ k ih =>
      intro hk
      obtain ⟨T, d, h⟩ := ih (by omega)
      exact ⟨_, _, (elim_step h (by omega) (piv_pos x.M (Rat.le_of_lt (beta_p hp).1) (beta_p hp).2 (mat_p x (by omega)) h (by omega))).1⟩
  exact key _ (Nat.le_refl _)
def nuP (C : List PlC) (M0 j p : Nat) : Rat := Fd C.length (upc (fun col r => qa (aP C M0 p) r col) j fun r => qa (aP C M0 p) r C.length)
theorem wor_p (x : FilOk C dn dd M0) {p : Nat} (hp : 2 ≤ p) : ∃ D : Rat, 0 < D ∧ ∀ w, IsWor C (natR (p - 1) / natR p) (gainC C) w → ∀ j, j < C.length → w j = nuP C M0 j p / D := by
  obtain ⟨T, d, hE⟩ := elim_p x hp
  have U0 : (0 : Rat) < natR M0 := natR_pos x.m0
  have hw := end_wor (mat_p x (by omega)) U0 hE (e := gainC C) fun k hk => by
    have e : aP C M0 p k C.length = (p : Int) * ((scD2 C k : Int) * gzP C M0 k) := if_neg (Nat.lt_irrefl _)
    unfold qa
    rw [e, Rat.intCast_mul, Rat.intCast_mul]
    have g := (x.g k hk)
    have e2 : ((gzP C M0 k : Int) : Rat) = qN (plC C k).g * natR M0 := by
      unfold gzP
      exact whole_q (red_small g.1) g.2
    rw [e2]
    have e3 : ((p : Int) : Rat) = natR p := rfl
    have e4 : ((scD2 C k : Int) : Rat) = natR (scD2 C k) := rfl
    rw [e3, e4]
    show natR p * (natR (scD2 C k) * (qN (plC C k).g * natR M0)) = natR (scD2 C k) * natR p * qN (plC C k).g * natR M0
    grind
  have d0 : (0 : Rat) < (d : Rat) := cast_pos hE.pos
  refine ⟨(d : Rat) * natR M0, Rat.mul_pos d0 U0, fun w h j hj => ?_⟩
  rw [wor_unique x.M (Rat.le_of_lt (beta_p hp).1) (beta_p hp).2 h hw j hj]
  show qa T j C.length / _ = _
  rw [elim_col hE hj (Nat.le_refl _)]
  rfl
theorem poly_nu (x : FilOk C dn dd M0) (hM : M0 ≤ 2 ^ 17) {j : Nat} (hj : j < C.length) : PolyE (fbN (2 ^ 38) C.length) (nuP C M0 j) := by
  have lo : ∀ r col, r < C.length → col < C.length → PolyE (2 ^ 38) fun p => qa (aP C M0 p) r col := fun r col hr hc => by
    have hb := colZ_bd (fun q hq => x.c r hr q hq) (x.S r hr) col
    have h6 := x.b6 r hr
    have hS := x.S r hr
    have hb2 : (colZ (plC C r).bs (scD2 C r) col).natAbs ≤ 6000000 := by omega
    refine ((PolyE.lin (colZ (plC C r).bs (scD2 C r) col) ((if col = r then (scD2 C r : Int) else 0) - colZ (plC C r).bs (scD2 C r) col)).mono ?_).congr fun p => ?_
    · have : (if col = r then (scD2 C r : Int) else 0).natAbs ≤ 1000 := by split <;> omega
      have h38 : (2 : Nat) ^ 38 = 274877906944 := by decide
      omega
    · unfold qa
      congr 1
      have e : aP C M0 p r col = rowA (plC C r).bs (scD2 C r) ((p : Int) - 1) p r col := if_pos hc
      rw [e]
      unfold rowA
      generalize colZ (plC C r).bs (scD2 C r) col = z
      split
      · rw [Int.mul_sub, Int.sub_mul, Int.one_mul, Int.mul_comm (scD2 C r : Int) (p : Int)]
        omega
      · rw [Int.mul_sub, Int.sub_mul, Int.one_mul, Int.mul_zero]
        omega
  have hi : ∀ r, r < C.length → PolyE (2 ^ 38) fun p => qa (aP C M0 p) r C.length := fun r hr => by
    have g := x.g r hr
    have hS := x.S r hr
    refine ((PolyE.lin 0 ((scD2 C r : Int) * gzP C M0 r)).mono ?_).congr fun p => ?_
    · have a : (gzP C M0 r).natAbs ≤ 1000 * 2 ^ 17 := by
        unfold gzP
        rw [Int.natAbs_mul]
        refine Nat.mul_le_mul (Nat.le_of_lt g.1.2.2.1) (Nat.le_trans (Int.natAbs_ediv_le_natAbs _ _) ?_)
        rw [Int.natAbs_natCast]
        exact hM
      have b : ((scD2 C r : Int) * gzP C M0 r).natAbs ≤ 1000 * (1000 * 2 ^ 17) := by
        rw [Int.natAbs_mul, Int.natAbs_natCast]
        exact Nat.mul_le_mul hS a
      have c : (1000 * (1000 * 2 ^ 17) : Nat) ≤ 2 ^ 38 := by decide
      show (0 : Int).natAbs + _ ≤ _
      rw [Int.natAbs_zero, Nat.zero_add]
      exact Nat.le_trans b c
    · unfold qa
      congr 1
      have e : aP C M0 p r C.length = (p : Int) * ((scD2 C r : Int) * gzP C M0 r) := if_neg (Nat.lt_irrefl _)
      rw [e, Int.zero_add]
  refine PolyE.det (c := fun p => upc (fun col r => qa (aP C M0 p) r col) j fun r => qa (aP C M0 p) r C.length) C.length fun col r hc hr => ?_
  by_cases q : col = j
  · subst q
    refine (hi r hr).congr fun p => ?_
    rw [upc_same]
  · refine (lo r col hr hc).congr fun p => ?_
    rw [upc_ne q]
theorem order_stays (x : FilOk C dn dd M0) (hM : M0 ≤ 2 ^ 17) {p q y z : Nat} (hp : 2 * fbN (2 ^ 38) C.length < p) (hq : p ≤ q) (hy : y < C.length) (hz : z < C.length) {v w : Nat → Rat} (hv : IsWor C (natR (p - 1) / natR p) (gainC C) v) (hw : IsWor C (natR (q - 1) / natR q) (gainC C) w) (h : v y ≤ v z) : w y ≤ w z := by
  have fb : 1 ≤ fbN (2 ^ 38) C.length := by
    have : ∀ k, 1 ≤ fbN (2 ^ 38) k := fun k => by
      induction k with
      | zero => exact Nat.le_refl _
      | succ k ih => exact Nat.mul_pos (by omega) (Nat.mul_pos (by decide) ih)
    exact this _
  have p2 : 2 ≤ p := by omega
  obtain ⟨D, d0, hD⟩ := wor_p x p2
  obtain ⟨E, e0, hE⟩ := wor_p x (show 2 ≤ q by omega)
  have P : PolyE (2 * fbN (2 ^ 38) C.length) fun p => nuP C M0 y p + ((-1 : Int) : Rat) * nuP C M0 z p := by
    have a := (poly_nu x hM hy).add ((PolyE.cst (-1)).mul (poly_nu x hM hz))
    exact a.mono (by
      show _ + 1 * _ ≤ _
      omega)
  obtain ⟨l, l1b, hl⟩ := P
  have m1 : ((-1 : Int) : Rat) = -1 := rfl
  rw [hD v hv y hy, hD v hv z hz] at h
  rw [hE w hw y hy, hE w hw z hz]
  have a : nuP C M0 y p ≤ nuP C M0 z p := by
    have := Rat.mul_le_mul_of_nonneg_right h (Rat.le_of_lt d0)
    have dn : D ≠ 0 := by grind
    rwa [Rat.div_mul_cancel dn, Rat.div_mul_cancel dn] at this
  have b := ev_sign (l := l) (p := p) (q := q) (by omega) (by omega) (by
    rw [← hl p, m1]
    grind)
  rw [← hl q, m1] at b
  have c : nuP C M0 y q ≤ nuP C M0 z q := by grind
  have ei : 0 ≤ E⁻¹ := by
    have h : (0 : Rat) ≤ 1 / E := le_div' e0 (by rw [Rat.zero_mul]; decide +kernel)
    rwa [Rat.div_def, Rat.one_mul] at h
  rw [Rat.div_def, Rat.div_def]
  exact Rat.mul_le_mul_of_nonneg_right c ei
theorem arch (r : Rat) (n : Nat) : ∃ p : Nat, n ≤ p ∧ 1 ≤ p ∧ r < natR p := by
  refine ⟨n + r.num.natAbs + 1, by omega, by omega, ?_⟩
  have a : r ≤ natR r.num.natAbs := by
    have e : (r.num : Rat) / natR r.den = r := q_canon r
    have d0 : (0 : Rat) < natR r.den := natR_pos r.den_pos
    have h1 : (r.num : Rat) ≤ natR r.num.natAbs := Rat.intCast_le_intCast.mpr (by omega)
    have h2 : (1 : Rat) ≤ natR r.den := by
      have : natR 1 ≤ natR r.den := natR_le r.den_pos
      rwa [natR_one] at this
    have h3 := Rat.mul_le_mul_of_nonneg_left h2 (natR_nonneg r.num.natAbs)
    rw [Rat.mul_one] at h3
    have h4 : (r.num : Rat) / natR r.den ≤ natR r.num.natAbs := Md.div_le' d0 (Rat.le_trans h1 h3)
    rw [e] at h4
    exact h4
  have b : natR (n + r.num.natAbs + 1) = natR n + natR r.num.natAbs + 1 := by rw [natR_add, natR_add, natR_one]
  have c := natR_nonneg n
  rw [b]
  grind
theorem lex_of (h : WfC C) {p0 y z : Nat} (hy : y < C.length) (hz : z < C.length) (hex : ∀ p, 2 ≤ p → ∃ w, IsWor C (natR (p - 1) / natR p) (gainC C) w) (ho : ∀ p, p0 ≤ p → 2 ≤ p → ∀ w, IsWor C (natR (p - 1) / natR p) (gainC C) w → w y ≤ w z) :
    longC C y < longC C z ∨ longC C y = longC C z ∧ leadC C y ≤ leadC C z := by
  obtain ⟨K, K0, hK⟩ := near_one h
  have key : ∀ p, p0 ≤ p → 2 ≤ p → natR p * (longC C y - longC C z) + (leadC C y - leadC C z) ≤ 2 * (K / natR p) := fun p h1 h2 => by
    obtain ⟨w, hw⟩ := hex p h2
    have a := (hK p h2 w hw y hy).1
    have b := (hK p h2 w hw z hz).2
    have c := ho p h1 h2 w hw
    grind
  have small : ∀ p : Nat, 1 ≤ p → K / natR p ≤ K := fun p hp => by
    have p1 : (1 : Rat) ≤ natR p := by
      have : natR 1 ≤ natR p := natR_le hp
      rwa [natR_one] at this
    refine Md.div_le' (natR_pos hp) ?_
    have := Rat.mul_le_mul_of_nonneg_left p1 K0
    rwa [Rat.mul_one] at this
  have g1 : longC C y ≤ longC C z := by
    refine Classical.byContradiction fun hn => ?_
    have dp : 0 < longC C y - longC C z := by grind
    obtain ⟨p, q1, q2, q3⟩ := arch ((2 * K - (leadC C y - leadC C z)) / (longC C y - longC C z)) (p0 + 2)
    have a := key p (by omega) (by omega)
    have b := small p q2
    have c := (Rat.div_lt_iff dp).mp q3
    grind
  rcases Rat.le_iff_lt_or_eq.mp g1 with q | q
  · exact Or.inl q
  · refine Or.inr ⟨q, Classical.byContradiction fun hn => ?_⟩
    have dp : 0 < leadC C y - leadC C z := by grind
    obtain ⟨p, q1, q2, q3⟩ := arch (2 * K / (leadC C y - leadC C z)) (p0 + 2)
    have a := key p (by omega) (by omega)
    rw [q, Rat.sub_self, Rat.mul_zero, Rat.zero_add] at a
    have c := (Rat.div_lt_iff dp).mp q3
    have p0' : (0 : Rat) < natR p := natR_pos q2
    have d := Rat.mul_le_mul_of_nonneg_right a (Rat.le_of_lt p0')
    have e : 2 * (K / natR p) * natR p = 2 * K := by
      have : natR p ≠ 0 := by grind
      grind
    rw [e] at d
    grind
end
end Md
set_option Elab.async false
set_option linter.all false
set_option maxRecDepth 100000
set_option maxHeartbeats 2000000
namespace Md
open PySem L2 Evl
def nxQ (p : PlV) (f : Nat → Rat) (i : Nat) : Rat := if p.k = none then vW p f else f (tgB p i)
def shQ (G : List PlV) (g : Nat → Rat) (q : Nat × Nat) : Rat := nxQ (vl G q.1) g q.2 - g q.1
def boQ (G : List PlV) (g h : Nat → Rat) (q : Nat × Nat) : Rat := gnV G q.1 + nxQ (vl G q.1) h q.2 - (g q.1 + h q.1)
def ctP (G : List PlV) (o : Bool) (c : Nat → Nat) (x : Nat) : List (Nat × Nat) := if (vl G x).k = none then [(x, 0)] else if (vl G x).k = some o then [(x, c x)] else (List.range (vl G x).bs.length).map fun i => (x, i)
def ctL (G : List PlV) (o : Bool) (c : Nat → Nat) : List (Nat × Nat) := (List.range G.length).flatMap (ctP G o c)
def wnL (G : List PlV) (c : Nat → Nat) (g h : Nat → Rat) : List (Rat × Rat) := ((ctL G true c).map fun q => (shQ G g q, boQ G g h q)) ++ (ctL G false c).map fun q => (-shQ G g q, -boQ G g h q)
def BadS (s : Rat × Rat) : Prop := s.1 < 0 ∨ s.1 = 0 ∧ s.2 < 0
structure RightC (G : List PlV) (c : Nat → Nat) (g h : Nat → Rat) : Prop where
  ok : OkC G c
  s : ∀ s ∈ wnL G c g h, 0 ≤ s.1 ∧ 0 ≤ s.2
section
variable {G : List PlV} {c : Nat → Nat} {g h : Nat → Rat} {w : Nat}
theorem mem_ct {o : Bool} {q : Nat × Nat} : q ∈ ctL G o c ↔ q.1 < G.length ∧ q ∈ ctP G o c q.1 := by
  unfold ctL
  rw [List.mem_flatMap]
  constructor
  · rintro ⟨x, hx, hm⟩
    have e : q.1 = x := by
      unfold ctP at hm
      split at hm
      · rw [List.mem_singleton.mp hm]
      · split at hm
        · rw [List.mem_singleton.mp hm]
        · obtain ⟨i, _, rfl⟩ := List.mem_map.mp hm
          rfl
    rw [e]
    exact ⟨List.mem_range.mp hx, hm⟩
  · rintro ⟨hx, hm⟩
    exact ⟨q.1, List.mem_range.mpr hx, hm⟩
theorem ct_draw {o : Bool} {x : Nat} (hx : x < G.length) (hk : (vl G x).k = none) : (x, 0) ∈ ctL G o c := mem_ct.mpr ⟨hx, by
  unfold ctP
  rw [if_pos hk]
  exact List.mem_singleton.mpr rfl⟩
theorem ct_own {o : Bool} {x : Nat} (hx : x < G.length) (hk : (vl G x).k = some o) : (x, c x) ∈ ctL G o c := mem_ct.mpr ⟨hx, by
  unfold ctP
  rw [if_neg (by rw [hk]; intro z; cases z), if_pos hk]
  exact List.mem_singleton.mpr rfl⟩
theorem ct_all {o p : Bool} {x i : Nat} (hx : x < G.length) (hk : (vl G x).k = some p) (hop : p ≠ o) (hi : i < (vl G x).bs.length) : (x, i) ∈ ctL G o c := mem_ct.mpr ⟨hx, by
  unfold ctP
  rw [if_neg (by rw [hk]; intro z; cases z), if_neg (by rw [hk]; intro z; exact hop (Option.some.inj z))]
  exact List.mem_map.mpr ⟨i, List.mem_range.mpr hi, rfl⟩⟩
theorem ct_cases {o : Bool} {q : Nat × Nat} (hm : q ∈ ctL G o c) : q.1 < G.length ∧ ((vl G q.1).k = none ∧ q.2 = 0 ∨ (vl G q.1).k = some o ∧ q.2 = c q.1 ∨ (vl G q.1).k = some (!o) ∧ q.2 < (vl G q.1).bs.length) := by
  obtain ⟨hx, hm⟩ := mem_ct.mp hm
  refine ⟨hx, ?_⟩
  unfold ctP at hm
  split at hm
  · rename_i hk
    have := List.mem_singleton.mp hm
    exact Or.inl ⟨hk, by rw [this]⟩
  · rename_i hn
    split at hm
    · rename_i hk
      have := List.mem_singleton.mp hm
      exact Or.inr (Or.inl ⟨hk, by rw [this]⟩)
    · rename_i hk
      obtain ⟨i, hi, e⟩ := List.mem_map.mp hm
      refine Or.inr (Or.inr ⟨?_, by rw [← e]; exact List.mem_range.mp hi⟩)
      cases q2 : (vl G q.1).k with
      | none => exact absurd q2 hn
      | some p =>
        rw [q2] at hk
        cases p <;> cases o <;> simp_all
theorem nxQ_draw {x i : Nat} {f : Nat → Rat} (hk : (vl G x).k = none) : nxQ (vl G x) f i = vW (vl G x) f := if_pos hk
theorem nxQ_side {x i : Nat} {f : Nat → Rat} (hk : (vl G x).k ≠ none) : nxQ (vl G x) f i = f (tgB (vl G x) i) := if_neg hk
theorem nxQ_lin {p : PlV} {f e : Nat → Rat} {t : Rat} {i : Nat} : nxQ p (fun x => f x + t * e x) i = nxQ p f i + t * nxQ p e i ∨ p.k ≠ none ∧ True := by
  by_cases hk : p.k = none
  · refine Or.inl ?_
    unfold nxQ
    rw [if_pos hk, if_pos hk, if_pos hk]
    unfold vW
    rw [hk]
    show wsum _ _ = wsum _ _ + t * wsum _ _
    rw [← wsum_mul, ← wsum_add]
  · exact Or.inr ⟨hk, trivial⟩
theorem nx_lin {p : PlV} {f e : Nat → Rat} {t : Rat} {i : Nat} : nxQ p (fun x => f x + t * e x) i = nxQ p f i + t * nxQ p e i := by
  by_cases hk : p.k = none
  · rcases nxQ_lin (p := p) (f := f) (e := e) (t := t) (i := i) with z | z
    · exact z
    · exact absurd hk z.1
  · unfold nxQ
    rw [if_neg hk, if_neg hk, if_neg hk]
theorem bo_lift {t : Rat} {q : Nat × Nat} : boQ G g (fun x => h x + t * g x) q = boQ G g h q + t * shQ G g q := by
  unfold boQ shQ
  rw [nx_lin]
  grind
theorem right_lift {t : Rat} (hok : OkC G c) (hb : ∀ s ∈ wnL G c g h, ¬ BadS s) (ht : ∀ s ∈ wnL G c g h, 0 < s.1 → -s.2 / s.1 ≤ t) : RightC G c g fun x => h x + t * g x := by
  refine ⟨hok, fun s hs => ?_⟩
  have key : ∃ s0 ∈ wnL G c g h, s.1 = s0.1 ∧ s.2 = s0.2 + t * s0.1 := by
    unfold wnL at hs ⊢
    rcases List.mem_append.mp hs with hs | hs
    · obtain ⟨q, hq, rfl⟩ := List.mem_map.mp hs
      exact ⟨_, List.mem_append_left _ (List.mem_map.mpr ⟨q, hq, rfl⟩), rfl, bo_lift⟩
    · obtain ⟨q, hq, rfl⟩ := List.mem_map.mp hs
      refine ⟨_, List.mem_append_right _ (List.mem_map.mpr ⟨q, hq, rfl⟩), rfl, ?_⟩
      show -boQ G g _ q = -boQ G g h q + t * -shQ G g q
      rw [bo_lift]
      grind
  obtain ⟨s0, h0, e1, e2⟩ := key
  have nb := hb s0 h0
  unfold BadS at nb
  rw [e1, e2]
  have a : 0 ≤ s0.1 := by grind
  refine ⟨a, ?_⟩
  rcases Rat.le_iff_lt_or_eq.mp a with q | q
  · have b := ht s0 h0 q
    have c := Rat.mul_le_mul_of_nonneg_right b (Rat.le_of_lt q)
    have n0 : s0.1 ≠ 0 := by grind
    rw [Rat.div_mul_cancel n0] at c
    grind
  · rw [← q, Rat.mul_zero]
    grind
end
structure RigOk (G : List PlV) (M0 : Nat) : Prop where
  W : WfVG 360 G
  g : ∀ p ∈ G, p.g.2.natAbs ∣ M0
  m0 : 0 < M0
  mb : M0 ≤ 2 ^ 17
  pos : ∀ p ∈ G, p.k = none → ∀ q ∈ p.bs, 0 < q.1.1
theorem red_near {k : Nat} (h : 1 ≤ k) : Red (((2 ^ k - 1 : Nat) : Int), ((2 ^ k : Nat) : Int)) := by
  have p2 : 2 ^ 1 ≤ 2 ^ k := Nat.pow_le_pow_right (by decide) h
  generalize 2 ^ k = N at p2
  refine ⟨by show (0 : Int) < (N : Int); omega, ?_⟩
  show Nat.gcd (((N - 1 : Nat) : Int)).natAbs ((N : Int)).natAbs = 1
  rw [Int.natAbs_natCast, Int.natAbs_natCast]
  have e : N = (N - 1) + 1 := by omega
  generalize N - 1 = A at e
  subst e
  have := Nat.gcd_dvd_left A (A + 1)
  have b := Nat.gcd_dvd_right A (A + 1)
  exact Nat.dvd_one.mp ((Nat.dvd_add_right this).mp b)
section
variable {G : List PlV} {M0 N : Nat} {c : Nat → Nat} {v : Nat → Rat}
theorem RigOk.gam (x : RigOk G M0) {k : Nat} (h1 : 1 ≤ k) (h2 : k ≤ 512) : GamOk G 360 (2 ^ k - 1) (2 ^ k) M0 :=
  ⟨x.W, by decide, x.g, by have := Nat.two_pow_pos k; omega, Nat.pow_le_pow_right (by decide) h2, x.m0, Nat.lt_of_le_of_lt x.mb (by decide +kernel), red_near h1⟩
theorem RigOk.wfc (x : RigOk G M0) (hc : OkC G c) : WfC (chV G c) := by
  have hl : (chV G c).length = G.length := chV_len
  refine ⟨by rw [hl]; exact x.W.l1, by rw [hl]; exact x.W.l12, fun p hp => ?_⟩
  rw [hl]
  unfold chV at hp
  obtain ⟨k, hk, rfl⟩ := List.mem_map.mp hp
  have hk := List.mem_range.mp hk
  have hw := vl_wf x.W hk
  split
  · rename_i hd
    exact ⟨hw.g, hw.l1, hw.l6, fun q hq => ⟨(hw.c hd q hq).1, x.pos _ (vl_mem hk) hd q hq, hw.t q hq⟩, hw.w hd, hw.s hd⟩
  · rename_i hd
    exact wf_sure_one hw.g (tgV_lt x.W hc hk hd)
theorem fb_small {n N : Nat} (h : n ≤ 12) (hN : 2 ^ 512 ≤ N) : 2 * fbN (2 ^ 38) n < N := by
  have : ∀ n, n ≤ 12 → fbN (2 ^ 38) n ≤ fbN (2 ^ 38) 12 := by decide +kernel
  have b : 2 * fbN (2 ^ 38) 12 < 2 ^ 512 := by decide +kernel
  exact Nat.lt_of_le_of_lt (Nat.mul_le_mul_left _ (this n h)) (Nat.lt_of_lt_of_le b hN)
theorem RigOk.ex (x : RigOk G M0) (hc : OkC G c) {p : Nat} (hp : 2 ≤ p) : ∃ v, IsWor (chV G c) (natR (p - 1) / natR p) (gainC (chV G c)) v := by
  have y := chV_fil x.W (by decide) hc x.g (dn := 1) (dd := 2) (by decide) (by decide) x.m0 (Nat.lt_of_le_of_lt x.mb (by decide +kernel)) ⟨by decide, by decide⟩
  obtain ⟨T, d, hE⟩ := elim_p y hp
  have U0 : (0 : Rat) < natR M0 := natR_pos x.m0
  refine ⟨_, end_wor (mat_p y (by omega)) U0 hE fun k hk => ?_⟩
  have e : aP (chV G c) M0 p k (chV G c).length = (p : Int) * ((scD2 (chV G c) k : Int) * gzP (chV G c) M0 k) := if_neg (Nat.lt_irrefl _)
  unfold qa
  rw [e, Rat.intCast_mul, Rat.intCast_mul]
  have g := (y.g k hk)
  have e2 : ((gzP (chV G c) M0 k : Int) : Rat) = qN (plC (chV G c) k).g * natR M0 := by
    unfold gzP
    exact whole_q (red_small g.1) g.2
  rw [e2]
  have e3 : ((p : Int) : Rat) = natR p := rfl
  have e4 : ((scD2 (chV G c) k : Int) : Rat) = natR (scD2 (chV G c) k) := rfl
  rw [e3, e4]
  show natR p * (natR (scD2 (chV G c) k) * (qN (plC (chV G c) k).g * natR M0)) = natR (scD2 (chV G c) k) * natR p * qN (plC (chV G c) k).g * natR M0
  grind
theorem gnV_chV {β : Rat} (hv : IsWor (chV G c) β (gnV G) v) : IsWor (chV G c) β (gainC (chV G c)) v := fun k hk => by
  rw [chV_gain (by rw [chV_len] at hk; exact hk)]
  exact hv k hk
theorem lex_best (x : RigOk G M0) (hc : OkC G c) (hN : 2 ^ 512 ≤ N) (hv : IsWor (chV G c) (natR (N - 1) / natR N) (gnV G) v) {y z : Nat} (hy : y < G.length) (hz : z < G.length) (h : v y ≤ v z) :
    longC (chV G c) y < longC (chV G c) z ∨ longC (chV G c) y = longC (chV G c) z ∧ leadC (chV G c) y ≤ leadC (chV G c) z := by
  have hl : (chV G c).length = G.length := chV_len
  have hwf := x.wfc hc
  have h12 := x.W.l12
  have Y := chV_fil x.W (by decide) hc x.g (dn := 1) (dd := 2) (by decide) (by decide) x.m0 (Nat.lt_of_le_of_lt x.mb (by decide +kernel)) ⟨by decide, by decide⟩
  refine lex_of hwf (p0 := N) (by omega) (by omega) (fun p hp => x.ex hc hp) fun p hp hp2 w hw => ?_
  exact order_stays Y x.mb (p := N) (q := p) (by rw [hl]; exact fb_small h12 hN) hp (by omega) (by omega) (gnV_chV hv) hw h
theorem RigOk.own (x : RigOk G M0) (hc : OkC G c) {o : Bool} {q : Nat × Nat} (hx : q.1 < G.length) (hq : (vl G q.1).k = none ∨ (vl G q.1).k ≠ none ∧ q.2 = c q.1) : shQ G (longC (chV G c)) q = 0 ∧ boQ G (longC (chV G c)) (leadC (chV G c)) q = 0 := by
  have hwf := x.wfc hc
  have hl : (chV G c).length = G.length := chV_len
  have a := long_mean hwf (long_ok hwf) (x := q.1) (by omega)
  have b := lead_eq hwf (long_ok hwf) (lead_ok hwf) (x := q.1) (by omega)
  rw [chV_gain hx] at b
  have e : ∀ f : Nat → Rat, meanC (chV G c) f q.1 = nxQ (vl G q.1) f q.2 := fun f => by
    rcases hq with hk | ⟨hk, e⟩
    · rw [mean_draw hx hk, nxQ_draw hk]
      unfold vW
      rw [hk]
    · rw [mean_side hx hk, nxQ_side hk, tgV_B, e]
  rw [e] at a b
  unfold shQ boQ gnV
  constructor <;> grind
theorem best_good (x : RigOk G M0) (hc : OkC G c) (hN : 2 ^ 512 ≤ N) (hv : IsWor (chV G c) (natR (N - 1) / natR N) (gnV G) v) (h1 : Best G true c v) (h2 : Best G false c v) : ∀ s ∈ wnL G c (longC (chV G c)) (leadC (chV G c)), ¬ BadS s := fun s hs => by
  unfold wnL at hs
  have fin : ∀ {q : Nat × Nat} {o : Bool}, q ∈ ctL G o c → (shQ G (longC (chV G c)) q = 0 ∧ boQ G (longC (chV G c)) (leadC (chV G c)) q = 0) ∨ (q.1 < G.length ∧ (vl G q.1).k = some (!o) ∧ q.2 < (vl G q.1).bs.length) := fun {q o} hm => by
    obtain ⟨hx, hh⟩ := ct_cases hm
    rcases hh with ⟨hk, _⟩ | ⟨hk, e⟩ | ⟨hk, hi⟩
    · exact Or.inl (x.own (o := o) hc hx (Or.inl hk))
    · exact Or.inl (x.own (o := o) hc hx (Or.inr ⟨(by rw [hk]; intro z; cases z), e⟩))
    · exact Or.inr ⟨hx, hk, hi⟩
  have ow : ∀ {y : Nat}, y < G.length → (vl G y).k ≠ none → shQ G (longC (chV G c)) (y, c y) = 0 ∧ boQ G (longC (chV G c)) (leadC (chV G c)) (y, c y) = 0 := fun {y} hy hk => x.own (o := true) hc hy (Or.inr ⟨hk, rfl⟩)
  unfold BadS
  rcases List.mem_append.mp hs with hs | hs
  · obtain ⟨q, hq, rfl⟩ := List.mem_map.mp hs
    show ¬ (shQ _ _ _ < 0 ∨ shQ _ _ _ = 0 ∧ boQ _ _ _ _ < 0)
    rcases fin hq with ⟨e1, e2⟩ | ⟨hx, hk, hi⟩
    · rw [e1, e2]
      grind
    · have hk : (vl G q.1).k = some false := hk
      have hn : (vl G q.1).k ≠ none := by rw [hk]; intro z; cases z
      obtain ⟨o1, o2⟩ := ow hx hn
      have ht : tgB (vl G q.1) (c q.1) < G.length := tgB_lt (vl_wf x.W hx) (hc _ hx hn)
      have hb : v (tgB (vl G q.1) (c q.1)) ≤ v (tgB (vl G q.1) q.2) := by
        rw [h2 _ hx hk]
        exact vW_le hk hi
      have hl := lex_best x hc hN hv ht (tgB_lt (vl_wf x.W hx) hi) hb
      unfold shQ at o1 ⊢
      unfold boQ at o2 ⊢
      rw [nxQ_side hn] at o1 o2
      rw [nxQ_side hn, nxQ_side hn]
      grind
  · obtain ⟨q, hq, rfl⟩ := List.mem_map.mp hs
    show ¬ (-shQ _ _ _ < 0 ∨ -shQ _ _ _ = 0 ∧ -boQ _ _ _ _ < 0)
    rcases fin hq with ⟨e1, e2⟩ | ⟨hx, hk, hi⟩
    · rw [e1, e2]
      grind
    · have hk : (vl G q.1).k = some true := hk
      have hn : (vl G q.1).k ≠ none := by rw [hk]; intro z; cases z
      obtain ⟨o1, o2⟩ := ow hx hn
      have ht : tgB (vl G q.1) (c q.1) < G.length := tgB_lt (vl_wf x.W hx) (hc _ hx hn)
      have hb : v (tgB (vl G q.1) q.2) ≤ v (tgB (vl G q.1) (c q.1)) := by
        rw [h1 _ hx hk]
        exact vW_ge hk hi
      have hl := lex_best x hc hN hv (tgB_lt (vl_wf x.W hx) hi) ht hb
      unfold shQ at o1 ⊢
      unfold boQ at o2 ⊢
      rw [nxQ_side hn] at o1 o2
      rw [nxQ_side hn, nxQ_side hn]
      grind
end
end Md
set_option Elab.async false
set_option linter.all false
set_option maxRecDepth 100000
set_option maxHeartbeats 2000000
namespace Md
open PySem L2 Evl
section
variable {X : Cx} {K : PySem.W.Frag} {te : TE} {ts : TA} {de : DE} {e : Expr}
def dExt (i : Nat) (de : DE) : DS := fun DD Γ => match gat Γ i with
  | some (.o ds) => de Γ fun x => onL x fun es => ds.length + es.length ≤ 100000 ∧ DD.nx (Γ.set i (some (.o (ds ++ es))))
  | _ => False
end
def kMin : Con := con2 fun x y P => ∃ r s : Rat, x = nQ r ∧ y = nQ s ∧ Big 3000 (canon r) ∧ Big 3000 (canon s) ∧ P (nQ (r - s))
theorem kMin_i {r s : Rat} {P : PyData → Prop} (h1 : Big 3000 (canon r)) (h2 : Big 3000 (canon s)) (p : P (nQ (r - s))) : kMin [nQ r, nQ s] P := ⟨r, s, rfl, rfl, h1, h2, p⟩
theorem canon_num_pos {s : Rat} (h0 : 0 < s) : 0 < (canon s).1 := by
  have h1 : 0 ≤ (canon s).1 := Rat.num_nonneg.mpr (Rat.le_of_lt h0)
  have h2 : (canon s).1 ≠ 0 := fun z => by
    have a := q_canon s
    unfold qN at a
    rw [z, Rat.div_def] at a
    have : ((0 : Int) : Rat) = 0 := rfl
    rw [this, Rat.zero_mul] at a
    rw [← a] at h0
    exact absurd h0 (by decide)
  omega
section
variable {K : PySem.W.Frag} {vs : List V} {h : Hp} {Q : VK} {E : XK}
theorem c_min (x : spP K kMin vs h Q E) : spMinusR K vs h Q E := by
  obtain ⟨b, ds, P, e, hA, hR, k⟩ := x
  obtain ⟨a1, a2, rfl, r, s, rfl, rfl, h1, h2, p⟩ := con2_is hR
  exact ⟨b, r, s, e, hA, h1, h2, fun v b' h' g hv => k v b' h' _ g p hv⟩
end
structure RwOk (G : List PlV) (w M B : Nat) (g h : Nat → Rat) : Prop where
  W : WfVG w G
  w9 : w ≤ 999
  M0 : 0 < M
  MS : M < 2 ^ 1900
  B1 : 1000 ≤ B
  B9 : B ≤ 2 ^ 900
  gd : ∀ p ∈ G, p.g.2.natAbs ∣ M
  g : ∀ x, x < G.length → NB M B (g x)
  h : ∀ x, x < G.length → NB M B (h x)
section
variable {G : List PlV} {w M B : Nat} {g h : Nat → Rat} {k : Nat}
theorem RwOk.beh (x : RwOk G w M B g h) (hk : k < G.length) : ∃ S, 0 < S ∧ S ≤ 999 ∧ Beh (vl G k) w G.length M B S g ∧ Beh (vl G k) w G.length M B S h := by
  have hw := vl_wf x.W hk
  have key : ∃ S, 0 < S ∧ S ≤ 999 ∧ ((vl G k).k = none → ∀ q ∈ (vl G k).bs, q.1.2.natAbs ∣ S) := by
    by_cases hd : (vl G k).k = none
    · obtain ⟨W, h1, h2, h3⟩ := hw.w hd
      exact ⟨W, h1, Nat.le_trans h2 x.w9, fun _ => h3⟩
    · exact ⟨1, by decide, by decide, fun z => absurd z hd⟩
  obtain ⟨S, s0, s1, hS⟩ := key
  have hms : M * S < 2 ^ 1998 := by
    have := Nat.mul_lt_mul_of_lt_of_le x.MS (Nat.le_trans s1 (by decide : 999 ≤ 2 ^ 10)) (by decide)
    rw [← Nat.pow_add] at this
    exact Nat.lt_of_lt_of_le this (Nat.pow_le_pow_right (by decide) (by decide))
  exact ⟨S, s0, s1, ⟨hw, hS, x.M0, s0, hms, x.B9, fun q hq => x.g _ (hw.t q hq)⟩, ⟨hw, hS, x.M0, s0, hms, x.B9, fun q hq => x.h _ (hw.t q hq)⟩⟩
theorem RwOk.gn (x : RwOk G w M B g h) (hk : k < G.length) : NB M 1000 (gnV G k) := by
  have hm := vl_mem hk
  have hg := (x.W.p _ hm).g
  have c := q_small hg
  exact ⟨zt_den (red_small hg) (x.gd _ hm), c.1, c.2⟩
theorem RwOk.big {r : Rat} {M B S A : Nat} (x : RwOk G w M B g h) (s0 : 0 < S) (s1 : S ≤ 999) (ha : A ≤ 4) (hr : NB (M * S) (A * B) r) : Big 2900 (canon r) := by
  have hms : M * S < 2 ^ 1910 := by
    have := Nat.mul_lt_mul_of_lt_of_le x.MS (Nat.le_trans s1 (by decide : 999 ≤ 2 ^ 10)) (by decide)
    rwa [← Nat.pow_add] at this
  have b : A * B ≤ 2 ^ 902 := by
    have := Nat.mul_le_mul ha x.B9
    exact Nat.le_trans this (by decide +kernel)
  exact nb_big (hr.mono (Nat.dvd_refl _) (Nat.le_max_left _ 1)) (Nat.mul_pos x.M0 s0) (Nat.le_max_right _ 1) (i := 902) (Nat.max_le.mpr ⟨b, Nat.one_le_two_pow⟩) hms (by decide)
theorem RwOk.nx (x : RwOk G w M B g h) {q : Nat × Nat} (hx : q.1 < G.length) (hq : (vl G q.1).k ≠ none → q.2 < (vl G q.1).bs.length) : ∃ S, 0 < S ∧ S ≤ 999 ∧ NB (M * S) B (nxQ (vl G q.1) g q.2) ∧ NB (M * S) B (nxQ (vl G q.1) h q.2) := by
  obtain ⟨S, s0, s1, b1, b2⟩ := x.beh hx
  refine ⟨S, s0, s1, ?_⟩
  by_cases hd : (vl G q.1).k = none
  · rw [nxQ_draw hd, nxQ_draw hd]
    exact ⟨b1.nb, b2.nb⟩
  · rw [nxQ_side hd, nxQ_side hd]
    have ht := tgB_lt (vl_wf x.W hx) (hq hd)
    exact ⟨(x.g _ ht).mono (Nat.dvd_mul_right _ _) (Nat.le_refl _), (x.h _ ht).mono (Nat.dvd_mul_right _ _) (Nat.le_refl _)⟩
theorem RwOk.sl (x : RwOk G w M B g h) {q : Nat × Nat} (hx : q.1 < G.length) (hq : (vl G q.1).k ≠ none → q.2 < (vl G q.1).bs.length) :
    Big 2900 (canon (nxQ (vl G q.1) g q.2)) ∧ Big 2900 (canon (nxQ (vl G q.1) h q.2)) ∧ Big 2900 (canon (gnV G q.1 + nxQ (vl G q.1) h q.2)) ∧ Big 2900 (canon (g q.1 + h q.1)) ∧ Big 2900 (canon (shQ G g q)) ∧ Big 2900 (canon (boQ G g h q)) := by
  obtain ⟨S, s0, s1, n1, n2⟩ := x.nx hx hq
  have b1 := x.B1
  have gS := (x.g _ hx).mono (Nat.dvd_mul_right M S) (Nat.le_refl _)
  have hS := (x.h _ hx).mono (Nat.dvd_mul_right M S) (Nat.le_refl _)
  have eS := (x.gn hx).mono (Nat.dvd_mul_right M S) b1
  have e1 := nb_add eS n2
  have e2 := nb_add gS hS
  refine ⟨x.big s0 s1 (A := 1) (by decide) (by rw [Nat.one_mul]; exact n1), x.big s0 s1 (A := 1) (by decide) (by rw [Nat.one_mul]; exact n2), x.big s0 s1 (A := 2) (by decide) (by rw [Nat.two_mul]; exact e1), x.big s0 s1 (A := 2) (by decide) (by rw [Nat.two_mul]; exact e2), x.big s0 s1 (A := 2) (by decide) (by rw [Nat.two_mul]; exact nb_sub n1 gS), x.big s0 s1 (A := 4) (by decide) ?_⟩
  have e3 := nb_sub e1 e2
  rw [show 4 * B = B + B + (B + B) by omega]
  exact e3
end
def stC (G : List PlV) (o : Bool) (c : Nat → Nat) (k : Nat) : PyData := if (vl G k).k = some o then .int (c k : Int) else .none
end Md
set_option Elab.async false
set_option linter.all false
set_option maxRecDepth 100000
set_option maxHeartbeats 2000000
namespace Md
open PySem L2 Evl
theorem lead_exists2 {C : List PlC} (h : WfC C) : ∃ f Z0 Z, (0 < Z0 ∧ Z0 ≤ 4320 ^ (2 * C.length) ∧ Z0 ∣ Z ∧ ∀ y, y < C.length → NB (denL (gainsC C) * Z0) 1000 (longC C y)) ∧ LeadOk C (longC C) f ∧ 0 < Z ∧ Z ≤ 4320 ^ (5 * C.length) ∧ ∀ y, y < C.length → NB (denL (gainsC C) * Z) (4000 * 4320 ^ (C.length + 1)) (f y) := by
  obtain ⟨Z0, z0, z1, hg⟩ := long_nb h
  obtain ⟨kn, W, inv⟩ := lead_ginv h z0 z1 hg _ (Nat.le_refl _)
  obtain ⟨ip, ig⟩ := ginv_pass inv
  have hsz := size_all h
  have h12 := h.l12
  have hpl := nodup_len (pass_nodup (C := C)) pass_lt
  have hW2 : W ≤ 4320 ^ (3 * C.length) := Nat.le_trans inv.z1 (Nat.pow_le_pow_right (by decide) (by omega))
  obtain ⟨f, D, hF, d0, d1, d2, _⟩ := fill_dataS h pass_nodup (by omega) pass_lt (out_pass h) (e := fun y => gainC C y - longC C y) (kn := kn) (M := denL (gainsC C) * Z0 * W) (B := 4000 * 4320 ^ (C.length - (passL C).length)) (Nat.mul_pos (Nat.mul_pos (unit_lt h).1 z0) inv.z0) (Nat.mul_pos (by decide) (Nat.pow_pos (by decide))) (sz_last h z1 hW2)
    (fun y hy => (ahead_nb h hg y (pass_lt y hy)).mono (Nat.dvd_mul_right _ _) (Nat.le_trans (by decide : 2000 ≤ 4000 * 1) (Nat.mul_le_mul_left 4000 (Nat.pow_pos (by decide))))) (fun y _ => inv.nb y) ip
  obtain ⟨c1, c2, c3, c4⟩ := lead_last h z0 z1 inv d0 d1.1 hF d2
  exact ⟨f, Z0, _, ⟨z0, z1, Nat.dvd_trans (Nat.dvd_mul_right Z0 W) (Nat.dvd_mul_right _ _), hg⟩, c1, c2, c3, c4⟩
theorem both_sizes {C : List PlC} (h : WfC C) : ∃ M1 M, 0 < M1 ∧ 0 < M ∧ M1 ∣ M ∧ M1 < 2 ^ 432 ∧ M < 2 ^ 846 ∧ (∀ y, y < C.length → NB M1 1000 (longC C y)) ∧ ∀ y, y < C.length → NB M (2 ^ 169) (leadC C y) := by
  obtain ⟨f, Z0, Z, ⟨z0, z1, dz, hg⟩, a, b, c, d⟩ := lead_exists2 h
  have h12 := h.l12
  refine ⟨_, _, Nat.mul_pos (unit_lt h).1 z0, Nat.mul_pos (unit_lt h).1 b, Nat.mul_dvd_mul_left _ dz, unit_lt13 (j := 0) h (Nat.le_trans z1 (pow288 (k := 2 * C.length) (a := 24) (by omega))), unit_lt13 (j := 0) h (Nat.le_trans c (pow288' (k := 5 * C.length) (by omega))), hg, fun y hy => ?_⟩
  rw [lead_unique h (lead_ok h) a y hy]
  refine (d y hy).mono (Nat.dvd_refl _) ?_
  have : 4320 ^ (C.length + 1) ≤ 4320 ^ 13 := Nat.pow_le_pow_right (by decide) (by omega)
  exact Nat.le_trans (Nat.mul_le_mul_left 4000 this) (by decide +kernel)
section
variable {G : List PlV} {M0 : Nat} {c : Nat → Nat}
theorem RigOk.gdv (x : RigOk G M0) {N : Nat} : ∀ p ∈ G, p.g.2.natAbs ∣ N * M0 := fun p hp => Nat.dvd_trans (x.g p hp) (Nat.dvd_mul_left _ _)
theorem RigOk.sizes (x : RigOk G M0) (hc : OkC G c) : ∃ M1 M, 0 < M1 ∧ 0 < M ∧ M1 < 2 ^ 432 ∧ M < 2 ^ 863 ∧ (∀ p ∈ G, p.g.2.natAbs ∣ M) ∧ (∀ k, k < G.length → NB M1 1000 (longC (chV G c) k)) ∧ (∀ k, k < G.length → NB M 1000 (longC (chV G c) k)) ∧ ∀ k, k < G.length → NB M (2 ^ 169) (leadC (chV G c) k) := by
  have hwf := x.wfc hc
  have hl : (chV G c).length = G.length := chV_len
  obtain ⟨M1, M, a0, b0, dv, a1, b1, a2, b2⟩ := both_sizes hwf
  rw [hl] at a2 b2
  refine ⟨M1, M * M0, a0, Nat.mul_pos b0 x.m0, a1, ?_, x.gdv, a2, fun k hk => (a2 k hk).mono (Nat.dvd_trans dv (Nat.dvd_mul_right _ _)) (Nat.le_refl _), fun k hk => (b2 k hk).mono (Nat.dvd_mul_right _ _) (Nat.le_refl _)⟩
  have m2 := Nat.mul_lt_mul_of_lt_of_le b1 x.mb (Nat.two_pow_pos 17)
  rw [← Nat.pow_add] at m2
  exact m2
theorem RigOk.rw (x : RigOk G M0) (hc : OkC G c) : ∃ M, RwOk G 360 M (2 ^ 169) (longC (chV G c)) (leadC (chV G c)) := by
  obtain ⟨M1, M, _, m0, _, m2, gd, _, g2, h2⟩ := x.sizes hc
  exact ⟨M, x.W, by decide, m0, Nat.lt_of_lt_of_le m2 (Nat.pow_le_pow_right (by decide) (by decide)), by decide +kernel, Nat.pow_le_pow_right (by decide) (by decide), gd, fun k hk => (g2 k hk).mono (Nat.dvd_refl _) (by decide +kernel), h2⟩
end
end Md
namespace Md
open PySem L2 Evl
section
variable {G : List PlV} {o : Bool} {c : Nat → Nat} {w : Nat}
theorem el_range {k : Nat} (hk : (vl G k).k ≠ none) : (vl G k).el = (List.range (vl G k).bs.length).map fun i => PyData.int (tgB (vl G k) i : Int) := by
  rw [el_side hk]
  exact (map_getDn (vl G k).bs ((1, 1), 0) fun q => PyData.int (q.2 : Int)).symm
end
end Md
namespace Md
open PySem L2 Evl
section
variable {G : List PlV} {c : Nat → Nat} {g h : Nat → Rat} {w M B : Nat}
end
end Md
set_option Elab.async false
set_option linter.all false
set_option maxRecDepth 100000
set_option maxHeartbeats 2000000
namespace Md
open PySem L2 Evl
theorem WfV.monoW {w v n : Nat} {p : PlV} (h : WfV w n p) (hw : w ≤ v) : WfV v n p := ⟨h.g, h.l1, h.l6, h.t, h.c, fun hk => by
  obtain ⟨W, a, b, c⟩ := h.w hk
  exact ⟨W, a, Nat.le_trans b hw, c⟩, h.s⟩
theorem WfVG.monoW {w v : Nat} {G : List PlV} (h : WfVG w G) (hw : w ≤ v) : WfVG v G := ⟨h.l1, h.l12, fun p hp => (h.p p hp).monoW hw⟩
theorem ofP_pos {many : Int} {p : Pl} (h : WfP many p) : (ofP p).k = none → ∀ q ∈ (ofP p).bs, 0 < q.1.1 := fun hk q hq => by
  cases p with
  | side g o ts => cases hk
  | draw g bs =>
    obtain ⟨h1, h2, h3, h4, ws, w1, w2, w3⟩ := h
    have hpos := sum_pos w2
    obtain ⟨q', hq', rfl⟩ := List.mem_map.mp hq
    have hm : q'.1 ∈ bs.map (·.1) := List.mem_map.mpr ⟨q', hq', rfl⟩
    rw [w3] at hm
    obtain ⟨w, hw, e⟩ := List.mem_map.mp hm
    have hw2 := w2 w hw
    show 0 < q'.1.1
    rw [← e, num_canon (by omega)]
    have a : (0 : Rat) < (w : Rat) / ((ws.sum : Int) : Rat) := by
      have d0 : (0 : Rat) < ((ws.sum : Int) : Rat) := cast_pos (by omega)
      have n0 : (0 : Rat) < (w : Rat) := cast_pos (by omega)
      exact (Rat.lt_div_iff d0).mpr (by rw [Rat.zero_mul]; exact n0)
    exact canon_num_pos a
def PosG (G : List PlV) : Prop := ∀ p ∈ G, p.k = none → ∀ q ∈ p.bs, 0 < q.1.1
def kGameP : Con := con2 fun x y P => ∃ (ds : List Int) (most : Int), x = .list (ds.map PyData.int) ∧ y = .int most ∧ 1 ≤ most ∧ most ≤ 12 ∧ 1 + 15 * most ≤ (ds.length : Int) ∧ (∀ d ∈ ds, 0 ≤ d ∧ d < 1000) ∧
  ∀ G : List PlV, WfVG 30 G → ShG G → PosG G → (G.length : Int) ≤ most → P (gvD G)
theorem kGameP_i {ds : List Int} {most : Int} {P : PyData → Prop} (h1 : 1 ≤ most) (h2 : most ≤ 12) (h3 : 1 + 15 * most ≤ (ds.length : Int)) (h4 : ∀ d ∈ ds, 0 ≤ d ∧ d < 1000)
    (k : ∀ G : List PlV, WfVG 30 G → ShG G → PosG G → (G.length : Int) ≤ most → P (gvD G)) : kGameP [.list (ds.map PyData.int), .int most] P := ⟨ds, most, rfl, rfl, h1, h2, h3, h4, k⟩
theorem c_gameP {K : PySem.W.Frag} {vs : List V} {h : Hp} {Q : VK} {E : XK} (x : spP K kGameP vs h Q E) : spGame6S K vs h Q E := by
  obtain ⟨b, ds, P, e, hA, hR, k⟩ := x
  obtain ⟨a, c, rfl, l, most, rfl, rfl, h1, h2, h3, h4, p⟩ := con2_is hR
  exact ⟨b, l, most, e, hA, h1, h2, h3, h4, fun v b' h' G g w hl hv => k v b' h' _ g (p (G.map ofP) (ofG_wf w.1) (fun q hq => by
    obtain ⟨q, hq1, rfl⟩ := List.mem_map.mp hq
    rw [ofP_g]
    exact w.2 q hq1) (fun q hq => by
    obtain ⟨q, hq1, rfl⟩ := List.mem_map.mp hq
    exact ofP_pos (w.1.2.2 q hq1)) (by rw [List.length_map]; exact hl)) (by rw [ofG_D w.1]; exact hv)⟩
theorem rig_of {G : List PlV} {w : Nat} (h : WfVG w G) (hw : w ≤ 360) (hs : ShG G) (hp : PosG G) : RigOk G 6 := ⟨h.monoW hw, fun p hp => (hs p hp).1, by decide, by decide, hp⟩
section
variable {C : List PlC} {g k : Nat → Rat}
theorem abs_bd (f : Nat → Rat) (n : Nat) : ∃ H : Rat, 0 ≤ H ∧ ∀ x, x < n → -H ≤ f x ∧ f x ≤ H := by
  induction n with
  | zero => exact ⟨0, Rat.le_refl, fun x hx => absurd hx (Nat.not_lt_zero _)⟩
  | succ n ih =>
    obtain ⟨H, h0, h1⟩ := ih
    rcases Rat.le_total (a := 0) (b := f n) with q | q
    · refine ⟨H + f n, by grind, fun x hx => ?_⟩
      rcases Nat.lt_or_ge x n with z | z
      · have := h1 x z
        grind
      · have : x = n := by omega
        subst this
        grind
    · refine ⟨H - f n, by grind, fun x hx => ?_⟩
      rcases Nat.lt_or_ge x n with z | z
      · have := h1 x z
        grind
      · have : x = n := by omega
        subst this
        grind
theorem arch_le {a c : Rat} (n : Nat) (h : ∀ p : Nat, n ≤ p → 1 ≤ p → natR p * a ≤ c) : a ≤ 0 := by
  refine Classical.byContradiction fun hn => ?_
  have ha : 0 < a := by grind
  obtain ⟨p, q1, q2, q3⟩ := arch (c / a) n
  have := (Rat.div_lt_iff ha).mp q3
  have := h p q1 q2
  grind
theorem alg_sub {P ε gy mg ky mk gg H : Rat} (e : ε * P = 1) (a2 : gy + ky ≤ gg + mk) (a4 : (P - 1) * gy ≤ (P - 1) * mg) (a5 : ε * mk ≤ ε * H) : P * gy + ky - H ≤ gg + (1 - ε) * (P * mg + mk - H) := by
  have h : (1 - ε) * (P * mg + mk - H) = P * mg - (ε * P) * mg + mk - ε * mk - H + ε * H := by grind
  rw [h, e]
  grind
theorem alg_sup {P ε gy mg ky mk gg H : Rat} (e : ε * P = 1) (a2 : gg + mk ≤ gy + ky) (a4 : (P - 1) * mg ≤ (P - 1) * gy) (a5 : ε * -H ≤ ε * mk) : gg + (1 - ε) * (P * mg + mk - -H) ≤ P * gy + ky - -H := by
  have h : (1 - ε) * (P * mg + mk - -H) = P * mg - (ε * P) * mg + mk - ε * mk + H - ε * H := by grind
  rw [h, e]
  grind
theorem sub_long (h : WfC C) (hex : ∀ p, 2 ≤ p → ∃ w, IsWor C (natR (p - 1) / natR p) (gainC C) w) (h1 : ∀ x, x < C.length → g x ≤ meanC C g x) (h2 : ∀ x, x < C.length → g x + k x ≤ gainC C x + meanC C k x) : ∀ x, x < C.length → g x ≤ longC C x := fun x hx => by
  have hM := WfC.toM h
  obtain ⟨K, K0, hK⟩ := near_one h
  obtain ⟨H, H0, hH⟩ := abs_bd k C.length
  have key : ∀ p : Nat, 2 ≤ p → 1 ≤ p → natR p * (g x - longC C x) ≤ leadC C x - k x + H + K := fun p hp _ => by
    obtain ⟨w, hw⟩ := hex p hp
    have p0 : (0 : Rat) < natR p := natR_pos (by omega)
    have pn : natR p ≠ 0 := by grind
    have e1 : natR (p - 1) + 1 = natR p := by
      have := natR_add (p - 1) 1
      rw [natR_one, show p - 1 + 1 = p by omega] at this
      exact this.symm
    obtain ⟨b0, b1⟩ := beta_p hp
    obtain ⟨ε, hε⟩ : ∃ ε : Rat, ε = 1 / natR p := ⟨_, rfl⟩
    have ε1 : ε * natR p = 1 := by rw [hε]; grind
    have ε0 : 0 ≤ ε := by
      rw [hε]
      exact le_div' p0 (by rw [Rat.zero_mul]; decide +kernel)
    have eβ : natR (p - 1) / natR p = 1 - ε := by
      rw [hε]
      grind
    have ew : ∀ y, meanC C (fun y => natR p * g y + k y - H) y = natR p * meanC C g y + meanC C k y - meanC C (fun _ => H) y := fun y => by
      rw [mean_sub]
      have : meanC C (fun y => natR p * g y + k y) y = natR p * meanC C g y + meanC C k y := by
        rw [← mean_mulC]
        exact wsum_add _ _ _
      rw [this]
    have mc : ∀ y, y < C.length → meanC C (fun _ => H) y = H := fun y hy => by
      have b := wsum_mul (plC C y).bs H (fun _ => 1)
      have s := hM.s y hy
      rw [s, Rat.mul_one] at b
      exact b
    have hw2 := wor_ge hM (Rat.le_of_lt b0) b1 (f := fun y => natR p * g y + k y - H) (fun y hy => by
      rw [ew, mc y hy, eβ]
      have a1 := h1 y hy
      have a2 := h2 y hy
      have a3 : meanC C k y ≤ H := meanM_le hM hy fun j hj => (hH j hj).2
      have p1 : (0 : Rat) ≤ natR (p - 1) := natR_nonneg _
      have a4 := Rat.mul_le_mul_of_nonneg_left a1 p1
      have a5 := Rat.mul_le_mul_of_nonneg_left a3 ε0
      have e2 : natR (p - 1) = natR p - 1 := by grind
      rw [e2] at a4
      exact alg_sub ε1 a2 a4 a5) hw x hx
    have hw3 := (hK p hp w hw x hx).2
    have small : K / natR p ≤ K := by
      have p1 : (1 : Rat) ≤ natR p := by
        have : natR 1 ≤ natR p := natR_le (by omega)
        rwa [natR_one] at this
      refine Md.div_le' p0 ?_
      have := Rat.mul_le_mul_of_nonneg_left p1 K0
      rwa [Rat.mul_one] at this
    grind
  have := arch_le 2 key
  grind
theorem sup_long (h : WfC C) (hex : ∀ p, 2 ≤ p → ∃ w, IsWor C (natR (p - 1) / natR p) (gainC C) w) (h1 : ∀ x, x < C.length → meanC C g x ≤ g x) (h2 : ∀ x, x < C.length → gainC C x + meanC C k x ≤ g x + k x) : ∀ x, x < C.length → longC C x ≤ g x := fun x hx => by
  have hM := WfC.toM h
  obtain ⟨K, K0, hK⟩ := near_one h
  obtain ⟨H, H0, hH⟩ := abs_bd k C.length
  have key : ∀ p : Nat, 2 ≤ p → 1 ≤ p → natR p * (longC C x - g x) ≤ k x - leadC C x + H + K := fun p hp _ => by
    obtain ⟨w, hw⟩ := hex p hp
    have p0 : (0 : Rat) < natR p := natR_pos (by omega)
    have pn : natR p ≠ 0 := by grind
    have e1 : natR (p - 1) + 1 = natR p := by
      have := natR_add (p - 1) 1
      rw [natR_one, show p - 1 + 1 = p by omega] at this
      exact this.symm
    obtain ⟨b0, b1⟩ := beta_p hp
    obtain ⟨ε, hε⟩ : ∃ ε : Rat, ε = 1 / natR p := ⟨_, rfl⟩
    have ε1 : ε * natR p = 1 := by rw [hε]; grind
    have ε0 : 0 ≤ ε := by
      rw [hε]
      exact le_div' p0 (by rw [Rat.zero_mul]; decide +kernel)
    have eβ : natR (p - 1) / natR p = 1 - ε := by
      rw [hε]
      grind
    have ew : ∀ y, meanC C (fun y => natR p * g y + k y - (-H)) y = natR p * meanC C g y + meanC C k y - meanC C (fun _ => -H) y := fun y => by
      rw [mean_sub]
      have : meanC C (fun y => natR p * g y + k y) y = natR p * meanC C g y + meanC C k y := by
        rw [← mean_mulC]
        exact wsum_add _ _ _
      rw [this]
    have mc : ∀ y, y < C.length → meanC C (fun _ => -H) y = -H := fun y hy => by
      have b := wsum_mul (plC C y).bs (-H) (fun _ => 1)
      have s := hM.s y hy
      rw [s, Rat.mul_one] at b
      exact b
    have hw2 := wor_le hM (Rat.le_of_lt b0) b1 (f := fun y => natR p * g y + k y - (-H)) (fun y hy => by
      rw [ew, mc y hy, eβ]
      have a1 := h1 y hy
      have a2 := h2 y hy
      have a3 : -H ≤ meanC C k y := by
        have := meanM_le hM hy (f := fun j => (-1) * k j) (c := H) fun j hj => by
          have := (hH j hj).1
          grind
        rw [mean_mulC] at this
        grind
      have p1 : (0 : Rat) ≤ natR (p - 1) := natR_nonneg _
      have a4 := Rat.mul_le_mul_of_nonneg_left a1 p1
      have a5 := Rat.mul_le_mul_of_nonneg_left a3 ε0
      have e2 : natR (p - 1) = natR p - 1 := by grind
      rw [e2] at a4
      exact alg_sup ε1 a2 a4 a5) hw x hx
    have hw3 := (hK p hp w hw x hx).1
    have small : K / natR p ≤ K := by
      have p1 : (1 : Rat) ≤ natR p := by
        have : natR 1 ≤ natR p := natR_le (by omega)
        rwa [natR_one] at this
      refine Md.div_le' p0 ?_
      have := Rat.mul_le_mul_of_nonneg_left p1 K0
      rwa [Rat.mul_one] at this
    grind
  have := arch_le 2 key
  grind
end
section
variable {G : List PlV} {c d : Nat → Nat} {g h g' h' : Nat → Rat} {M0 : Nat}
theorem RightC.low (r : RightC G c g h) {q : Nat × Nat} (hq : q ∈ ctL G true c) : 0 ≤ shQ G g q ∧ 0 ≤ boQ G g h q := r.s _ (List.mem_append_left _ (List.mem_map.mpr ⟨q, hq, rfl⟩))
theorem RightC.upp (r : RightC G c g h) {q : Nat × Nat} (hq : q ∈ ctL G false c) : shQ G g q ≤ 0 ∧ boQ G g h q ≤ 0 := by
  obtain ⟨a, b⟩ := r.s _ (List.mem_append_right _ (List.mem_map.mpr ⟨q, hq, rfl⟩))
  have a : 0 ≤ -shQ G g q := a
  have b : 0 ≤ -boQ G g h q := b
  constructor <;> grind
theorem mean_nx {e : Nat → Nat} {f : Nat → Rat} {x : Nat} (hx : x < G.length) : meanC (chV G e) f x = nxQ (vl G x) f (e x) := by
  by_cases hk : (vl G x).k = none
  · rw [mean_draw hx hk, nxQ_draw hk]
    unfold vW
    rw [hk]
  · rw [mean_side hx hk, nxQ_side hk, tgV_B]
theorem nx_any {f : Nat → Rat} {x i j : Nat} (hk : (vl G x).k = none) : nxQ (vl G x) f i = nxQ (vl G x) f j := by rw [nxQ_draw hk, nxQ_draw hk]
theorem RightC.ustep (r : RightC G c g h) {w : Nat} (hW : WfVG w G) {t : Rat} (ht : 0 ≤ t) {x : Nat} (hx : x < G.length) : gnV G x + vW (vl G x) (fun y => h y + t * g y) ≤ (t + 1) * g x + h x := by
  have fin : ∀ q : Nat × Nat, q.1 = x → q ∈ ctL G false c → gnV G x + nxQ (vl G x) (fun y => h y + t * g y) q.2 ≤ (t + 1) * g x + h x := fun q e hq => by
    obtain ⟨a, b⟩ := r.upp hq
    rw [nx_lin]
    unfold shQ at a
    unfold boQ at b
    rw [e] at a b
    have := Rat.mul_le_mul_of_nonneg_left a ht
    grind
  have hw := vl_wf hW hx
  cases q : (vl G x).k with
  | none =>
    have := fin (x, 0) rfl (ct_draw hx q)
    rw [nxQ_draw q] at this
    exact this
  | some o =>
    have hn : (vl G x).k ≠ none := by rw [q]; intro z; cases z
    cases o with
    | true =>
      have hb := best_lt (f := fun y => h y + t * g y) hw q
      have := fin (x, bestI (vl G x) fun y => h y + t * g y) rfl (ct_all hx q (by decide) hb)
      rw [nxQ_side hn] at this
      have e := best_is (f := fun y => h y + t * g y) hw q
      rw [← e]
      exact this
    | false =>
      have := fin (x, c x) rfl (ct_own hx q)
      rw [nxQ_side hn] at this
      have hl := vW_le (f := fun y => h y + t * g y) q (r.ok x hx hn)
      grind
theorem RightC.lstep (r : RightC G c g h) {w : Nat} (hW : WfVG w G) {t : Rat} (ht : 0 ≤ t) {x : Nat} (hx : x < G.length) : (t + 1) * g x + h x ≤ gnV G x + vW (vl G x) (fun y => h y + t * g y) := by
  have fin : ∀ q : Nat × Nat, q.1 = x → q ∈ ctL G true c → (t + 1) * g x + h x ≤ gnV G x + nxQ (vl G x) (fun y => h y + t * g y) q.2 := fun q e hq => by
    obtain ⟨a, b⟩ := r.low hq
    rw [nx_lin]
    unfold shQ at a
    unfold boQ at b
    rw [e] at a b
    have := Rat.mul_le_mul_of_nonneg_left a ht
    grind
  have hw := vl_wf hW hx
  cases q : (vl G x).k with
  | none =>
    have := fin (x, 0) rfl (ct_draw hx q)
    rw [nxQ_draw q] at this
    exact this
  | some o =>
    have hn : (vl G x).k ≠ none := by rw [q]; intro z; cases z
    cases o with
    | false =>
      have hb := best_lt (f := fun y => h y + t * g y) hw q
      have := fin (x, bestI (vl G x) fun y => h y + t * g y) rfl (ct_all hx q (by decide) hb)
      rw [nxQ_side hn] at this
      have e := best_is (f := fun y => h y + t * g y) hw q
      rw [← e]
      exact this
    | true =>
      have := fin (x, c x) rfl (ct_own hx q)
      rw [nxQ_side hn] at this
      have hl := vW_ge (f := fun y => h y + t * g y) q (r.ok x hx hn)
      grind
theorem wG_succ (t x : Nat) : wG G 1 (t + 1) x = gnV G x + vW (vl G x) (wG G 1 t) := by
  show qN (vl G x).g + 1 * vW (vl G x) (wG G 1 t) = _
  rw [Rat.one_mul]
  rfl
theorem natR_succ (t : Nat) : natR (t + 1) = natR t + 1 := by rw [natR_add, natR_one]
theorem RightC.wupp (r : RightC G c g h) {w : Nat} (hW : WfVG w G) {m : Rat} (hm : ∀ x, x < G.length → m ≤ h x) : ∀ t x, x < G.length → wG G 1 t x ≤ natR t * g x + h x - m
  | 0, x, hx => by
    have : wG G 1 0 x = 0 := rfl
    rw [this]
    have := hm x hx
    have e : natR 0 = 0 := rfl
    rw [e]
    grind
  | t + 1, x, hx => by
    have ih := RightC.wupp r hW hm t
    rw [wG_succ, natR_succ]
    have a : vW (vl G x) (wG G 1 t) ≤ vW (vl G x) (fun y => (h y + natR t * g y) + (-m)) := vW_mono (vl_wf hW hx) fun j hj => by
      have := ih j hj
      grind
    rw [vW_add (vl_wf hW hx)] at a
    have b := r.ustep hW (natR_nonneg t) hx
    grind
theorem RightC.wlow (r : RightC G c g h) {w : Nat} (hW : WfVG w G) {m : Rat} (hm : ∀ x, x < G.length → h x ≤ m) : ∀ t x, x < G.length → natR t * g x + h x - m ≤ wG G 1 t x
  | 0, x, hx => by
    have : wG G 1 0 x = 0 := rfl
    rw [this]
    have := hm x hx
    have e : natR 0 = 0 := rfl
    rw [e]
    grind
  | t + 1, x, hx => by
    have ih := RightC.wlow r hW hm t
    rw [wG_succ, natR_succ]
    have a : vW (vl G x) (fun y => (h y + natR t * g y) + (-m)) ≤ vW (vl G x) (wG G 1 t) := vW_mono (vl_wf hW hx) fun j hj => by
      have := ih j hj
      grind
    rw [vW_add (vl_wf hW hx)] at a
    have b := r.lstep hW (natR_nonneg t) hx
    grind
theorem RightC.rise_hi (r : RightC G c g h) {w : Nat} (hW : WfVG w G) {t : Nat} {m : Rat} (hm : ∀ x, x < G.length → wG G 1 (t + 1) x - wG G 1 t x ≤ m) : ∀ x, x < G.length → g x ≤ m := fun x hx => by
  have up : ∀ j y, y < G.length → wG G 1 (t + j + 1) y ≤ wG G 1 (t + j) y + m := fun j => by
    induction j with
    | zero =>
      intro y hy
      have := hm y hy
      show wG G 1 (t + 1) y ≤ wG G 1 t y + m
      grind
    | succ j ih =>
      intro y hy
      have e1 : t + (j + 1) + 1 = (t + j + 1) + 1 := by omega
      have e2 : t + (j + 1) = (t + j) + 1 := by omega
      rw [e1, e2, wG_succ (t + j + 1), wG_succ (t + j)]
      have a : vW (vl G y) (wG G 1 (t + j + 1)) ≤ vW (vl G y) (fun z => wG G 1 (t + j) z + m) := vW_mono (vl_wf hW hy) fun z hz => ih z hz
      rw [vW_add (vl_wf hW hy)] at a
      grind
  have sum : ∀ j, wG G 1 (t + j) x ≤ wG G 1 t x + natR j * m := fun j => by
    induction j with
    | zero =>
      have e : natR 0 = 0 := rfl
      rw [e, Nat.add_zero]
      grind
    | succ j ih =>
      have := up j x hx
      have e2 : t + (j + 1) = t + j + 1 := by omega
      rw [e2, natR_succ]
      grind
  obtain ⟨H, H0, hH⟩ := abs_bd h G.length
  have key : ∀ p : Nat, 0 ≤ p → 1 ≤ p → natR p * (g x - m) ≤ wG G 1 t x - natR t * g x - h x + H := fun p _ _ => by
    have a := r.wlow hW (fun y hy => (hH y hy).2) (t + p) x hx
    have b := sum p
    rw [natR_add] at a
    grind
  have := arch_le 0 key
  grind
theorem RightC.rise_lo (r : RightC G c g h) {w : Nat} (hW : WfVG w G) {t : Nat} {m : Rat} (hm : ∀ x, x < G.length → m ≤ wG G 1 (t + 1) x - wG G 1 t x) : ∀ x, x < G.length → m ≤ g x := fun x hx => by
  have up : ∀ j y, y < G.length → wG G 1 (t + j) y + m ≤ wG G 1 (t + j + 1) y := fun j => by
    induction j with
    | zero =>
      intro y hy
      have := hm y hy
      show wG G 1 t y + m ≤ wG G 1 (t + 1) y
      grind
    | succ j ih =>
      intro y hy
      have e1 : t + (j + 1) + 1 = (t + j + 1) + 1 := by omega
      have e2 : t + (j + 1) = (t + j) + 1 := by omega
      rw [e1, e2, wG_succ (t + j + 1), wG_succ (t + j)]
      have a : vW (vl G y) (fun z => wG G 1 (t + j) z + m) ≤ vW (vl G y) (wG G 1 (t + j + 1)) := vW_mono (vl_wf hW hy) fun z hz => ih z hz
      rw [vW_add (vl_wf hW hy)] at a
      grind
  have sum : ∀ j, wG G 1 t x + natR j * m ≤ wG G 1 (t + j) x := fun j => by
    induction j with
    | zero =>
      have e : natR 0 = 0 := rfl
      rw [e, Nat.add_zero]
      grind
    | succ j ih =>
      have := up j x hx
      have e2 : t + (j + 1) = t + j + 1 := by omega
      rw [e2, natR_succ]
      grind
  obtain ⟨H, H0, hH⟩ := abs_bd h G.length
  have key : ∀ p : Nat, 0 ≤ p → 1 ≤ p → natR p * (m - g x) ≤ natR t * g x + h x - wG G 1 t x + H := fun p _ _ => by
    have a := r.wupp hW (m := -H) (fun y hy => by have := (hH y hy).1; grind) (t + p) x hx
    have b := sum p
    rw [natR_add] at a
    grind
  have := arch_le 0 key
  grind
end
end Md
set_option Elab.async false
set_option linter.all false
set_option maxRecDepth 100000
set_option maxHeartbeats 2000000
namespace Md
open PySem L2 Evl
def SgnOk (G : List PlV) (o : Bool) (c : Nat → Nat) (g h : Nat → Rat) : Prop := ∀ q ∈ ctL G o c, if o = true then 0 ≤ shQ G g q ∧ 0 ≤ boQ G g h q else shQ G g q ≤ 0 ∧ boQ G g h q ≤ 0
instance {G : List PlV} {o : Bool} {c : Nat → Nat} {g h : Nat → Rat} : Decidable (SgnOk G o c g h) := by
  unfold SgnOk
  exact inferInstance
def riL (G : List PlV) (t : Nat) : List Rat := (List.range G.length).map fun k => wG G 1 (t + 1) k - wG G 1 t k
def kBrk : Con := con2 fun x y P => ∃ (G : List PlV) (w U t T : Nat), x = gvD G ∧ y = .int (t : Int) ∧ Wor G w U T ∧ t ≤ T ∧ P (.tuple [nQ (tkQ false (riL G t)), nQ (tkQ true (riL G t))])
theorem kBrk_i {G : List PlV} {w U t T : Nat} {P : PyData → Prop} (x : Wor G w U T) (h : t ≤ T) (q : P (.tuple [nQ (tkQ false (riL G t)), nQ (tkQ true (riL G t))])) : kBrk [gvD G, .int (t : Int)] P := ⟨G, w, U, t, T, rfl, rfl, x, h, q⟩
end Md
set_option Elab.async false
set_option linter.all false
set_option maxRecDepth 100000
set_option maxHeartbeats 2000000
namespace Md
open PySem L2 Evl
end Md
namespace Md
open PySem L2 Evl
end Md
set_option Elab.async false
set_option linter.all false
set_option maxRecDepth 100000
set_option maxHeartbeats 2000000
namespace Md
open PySem L2 Evl
structure LowC (G : List PlV) (c : Nat → Nat) (g h : Nat → Rat) : Prop where
  ok : OkC G c
  s : ∀ q ∈ ctL G true c, 0 ≤ shQ G g q ∧ 0 ≤ boQ G g h q
structure UppC (G : List PlV) (c : Nat → Nat) (g h : Nat → Rat) : Prop where
  ok : OkC G c
  s : ∀ q ∈ ctL G false c, shQ G g q ≤ 0 ∧ boQ G g h q ≤ 0
section
variable {G : List PlV} {c d : Nat → Nat} {g h g' h' : Nat → Rat} {M0 : Nat}
theorem RightC.toLow (r : RightC G c g h) : LowC G c g h := ⟨r.ok, fun _ hq => r.low hq⟩
theorem RightC.toUpp (r : RightC G c g h) : UppC G c g h := ⟨r.ok, fun _ hq => r.upp hq⟩
end
structure Alike (G H : List PlV) : Prop where
  l : H.length = G.length
  k : ∀ x, x < G.length → (vl H x).k = (vl G x).k ∧ (vl H x).bs = (vl G x).bs
section
variable {G H : List PlV} {c : Nat → Nat} {g h : Nat → Rat} {o : Bool}
theorem Alike.nx (a : Alike G H) {x i : Nat} (hx : x < G.length) (f : Nat → Rat) : nxQ (vl H x) f i = nxQ (vl G x) f i := by
  obtain ⟨e1, e2⟩ := a.k x hx
  unfold nxQ vW tgB
  rw [e1, e2]
theorem Alike.ctP (a : Alike G H) {x : Nat} (hx : x < G.length) : ctP H o c x = ctP G o c x := by
  obtain ⟨e1, e2⟩ := a.k x hx
  unfold Md.ctP
  rw [e1, e2]
theorem Alike.ct (a : Alike G H) : ctL H o c = ctL G o c := by
  unfold ctL
  rw [a.l]
  have : ∀ l : List Nat, (∀ x ∈ l, x < G.length) → l.flatMap (Md.ctP H o c) = l.flatMap (Md.ctP G o c) := fun l => by
    induction l with
    | nil => exact fun _ => rfl
    | cons x l ih =>
      intro hl
      rw [List.flatMap_cons, List.flatMap_cons, a.ctP (hl x List.mem_cons_self), ih fun y hy => hl y (List.mem_cons_of_mem _ hy)]
  exact this _ fun x hx => List.mem_range.mp hx
theorem Alike.ok (a : Alike G H) (hc : OkC G c) : OkC H c := fun x hx hk => by
  rw [a.l] at hx
  obtain ⟨e1, e2⟩ := a.k x hx
  rw [e2]
  exact hc x hx (by rw [← e1]; exact hk)
theorem Alike.sh (a : Alike G H) {q : Nat × Nat} (hq : q.1 < G.length) : shQ H g q = shQ G g q := by
  unfold shQ
  rw [a.nx hq]
theorem Alike.bo (a : Alike G H) {q : Nat × Nat} (hq : q.1 < G.length) : boQ H g h q = boQ G g h q + (gnV H q.1 - gnV G q.1) := by
  unfold boQ
  rw [a.nx hq]
  grind
end
section
variable {G H : List PlV} {c d : Nat → Nat} {g h g' h' : Nat → Rat} {M0 M1 : Nat}
end
end Md
namespace Md
open PySem L2 Evl
structure Swap (G H : List PlV) : Prop where
  l : H.length = G.length
  k : ∀ x, x < G.length → (vl H x).k = (vl G x).k.map (!·) ∧ (vl H x).bs = (vl G x).bs
section
variable {G H : List PlV} {c d : Nat → Nat} {g h g' h' : Nat → Rat} {o : Bool} {M0 M1 : Nat}
theorem Swap.none (a : Swap G H) {x : Nat} (hx : x < G.length) : (vl H x).k = none ↔ (vl G x).k = none := by
  rw [(a.k x hx).1]
  cases (vl G x).k <;> simp
theorem Swap.some (a : Swap G H) {x : Nat} (hx : x < G.length) : (vl H x).k = some (!o) ↔ (vl G x).k = some o := by
  rw [(a.k x hx).1]
  cases (vl G x).k with
  | none => simp
  | some p => cases p <;> cases o <;> simp
theorem Swap.nx (a : Swap G H) {x i : Nat} (hx : x < G.length) (f : Nat → Rat) : nxQ (vl H x) (fun y => -f y) i = -nxQ (vl G x) f i := by
  have e2 := (a.k x hx).2
  by_cases hk : (vl G x).k = Option.none
  · have hk2 := (a.none hx).mpr hk
    rw [nxQ_draw hk, nxQ_draw hk2]
    unfold vW
    rw [hk, hk2]
    show wsum _ _ = -wsum _ _
    rw [e2]
    have := wsum_mul (vl G x).bs (-1) f
    have e : wsum (vl G x).bs (fun y => -f y) = wsum (vl G x).bs (fun j => -1 * f j) := wsum_congr fun q _ => by grind
    rw [e, this]
    grind
  · have hk2 : (vl H x).k ≠ Option.none := fun z => hk ((a.none hx).mp z)
    rw [nxQ_side hk, nxQ_side hk2]
    unfold tgB
    rw [e2]
theorem Swap.ct (a : Swap G H) {q : Nat × Nat} : q ∈ ctL H (!o) c ↔ q ∈ ctL G o c := by
  rw [mem_ct, mem_ct, a.l]
  refine ⟨fun ⟨hx, hm⟩ => ⟨hx, ?_⟩, fun ⟨hx, hm⟩ => ⟨hx, ?_⟩⟩
  all_goals
    have e2 := (a.k q.1 hx).2
    have n := a.none hx
    have s := a.some (o := o) hx
    unfold ctP at hm ⊢
    by_cases hk : (vl G q.1).k = Option.none
    · have hk2 := n.mpr hk
      simp only [hk, hk2, if_true] at hm ⊢
      exact hm
    · have hk2 : ¬ (vl H q.1).k = Option.none := fun z => hk (n.mp z)
      by_cases ho : (vl G q.1).k = Option.some o
      · have ho2 := s.mpr ho
        rw [if_neg hk, if_pos ho] at *
        rw [if_neg hk2, if_pos ho2] at *
        exact hm
      · have ho2 : ¬ (vl H q.1).k = Option.some (!o) := fun z => ho (s.mp z)
        rw [if_neg hk, if_neg ho] at *
        rw [if_neg hk2, if_neg ho2] at *
        first
          | exact hm
          | (rw [e2] at hm; exact hm)
          | (rw [e2]; exact hm)
theorem Swap.ok (a : Swap G H) (hc : OkC G c) : OkC H c := fun x hx hk => by
  rw [a.l] at hx
  rw [(a.k x hx).2]
  exact hc x hx fun z => hk ((a.none hx).mpr z)
theorem Swap.sh (a : Swap G H) {q : Nat × Nat} (hq : q.1 < G.length) : shQ H (fun y => -g y) q = -shQ G g q := by
  unfold shQ
  rw [a.nx hq]
  grind
theorem Swap.bo (a : Swap G H) {q : Nat × Nat} (hq : q.1 < G.length) : boQ H (fun y => -g y) (fun y => -h y) q = -boQ G g h q + (gnV H q.1 + gnV G q.1) := by
  unfold boQ
  rw [a.nx hq]
  grind
theorem LowC.swap (r : LowC G c g h) (a : Swap G H) (he : ∀ x, x < G.length → gnV H x = -gnV G x) : UppC H c (fun y => -g y) (fun y => -h y) := ⟨a.ok r.ok, fun q hq => by
  have hq : q ∈ ctL G true c := a.ct.mp hq
  have hx := (ct_cases hq).1
  obtain ⟨b1, b2⟩ := r.s q hq
  rw [a.sh hx, a.bo hx]
  have := he _ hx
  constructor <;> grind⟩
theorem UppC.swap (r : UppC G c g h) (a : Swap G H) (he : ∀ x, x < G.length → gnV H x = -gnV G x) : LowC H c (fun y => -g y) (fun y => -h y) := ⟨a.ok r.ok, fun q hq => by
  have hq : q ∈ ctL G false c := a.ct.mp hq
  have hx := (ct_cases hq).1
  obtain ⟨b1, b2⟩ := r.s q hq
  rw [a.sh hx, a.bo hx]
  have := he _ hx
  constructor <;> grind⟩
end
section
variable {G H : List PlV} {c d : Nat → Nat} {g h g' h' : Nat → Rat} {M0 M1 : Nat}
end
end Md
set_option Elab.async false
set_option linter.all false
set_option maxRecDepth 100000
set_option maxHeartbeats 2000000
namespace Md
open PySem L2 Evl
end Md
namespace Md
open PySem L2 Evl
theorem any_nats {S : List Nat} {k : Nat} : ((S.map fun i : Nat => PyData.int (i : Int)).any fun z => PyData.eqv z (.int (k : Int))) = decide (k ∈ S) := by
  rw [Bool.eq_iff_iff, List.any_eq_true, decide_eq_true_iff]
  constructor
  · rintro ⟨z, hz, e⟩
    obtain ⟨i, hi, rfl⟩ := List.mem_map.mp hz
    rw [eqv_ii, beq_iff_eq] at e
    have : i = k := by omega
    rw [← this]
    exact hi
  · exact fun h => ⟨.int (k : Int), List.mem_map.mpr ⟨k, h, rfl⟩, by rw [eqv_ii, beq_self_eq_true]⟩
end Md
namespace Md
open PySem L2 Evl
theorem gG_like {G : List PlV} {e : Nat → Rat} : Alike G (gG G e) := ⟨gG_len, fun x hx => by
  rw [gG_at hx]
  exact ⟨rfl, rfl⟩⟩
end Md
set_option Elab.async false
set_option linter.all false
set_option maxRecDepth 100000
set_option maxHeartbeats 2000000
namespace Md
open PySem L2 Evl
def dSorted (da : DE) : DN := fun Γ P => da Γ fun x => ∃ ns : List Int, x = .list (ns.map PyData.int) ∧ ∀ ns' : List Int, ns'.Perm ns → ns'.Pairwise (· ≤ ·) → P (ns'.map PyData.int)
theorem dta_ofInts {K : PySem.W.Frag} (b : Hp) : ∀ ns : List Int, DtA K b (ns.map V.int) (ns.map PyData.int)
  | [] => DtA.nil
  | n :: ns => DtA.cons (Dt.int n) (dta_ofInts b ns)
theorem z_sorted {K : PySem.W.Frag} {ta : TE} {da : DE} (x : SimE K ta da) : SimN K (tCB (rSortedI K) (tCons ta tNil)) (dSorted da) := fun σ Γ b r P hp h e Q q => x σ Γ b r _ hp h e _ fun v b2 h2 d g2 hp2 hv => by
  obtain ⟨ns, rfl, hp3⟩ := hp2
  obtain ⟨a, xs, rfl, k1, k2⟩ := hv.listI
  obtain rfl := dta_ints k2
  exact ⟨a, ns, rfl, sq_of (g2.gi _ _ k1), fun ns' p hperm hsort np => q p _ b2 _ _ (gone g2 np) (none_of g2.gi np) (g2.trans (Gr.hid g2.gi np)) upd_same (dta_ofInts b2 ns') (hp3 ns' hperm hsort)⟩
end Md
namespace Md
open PySem L2 Evl
def dForL (ws : List Nat) (i : Nat) (dg : DG) (du : DS) : DS := fun DD Γ => match gat Γ i with
  | some (.o ds) => ∃ I : Nat → Gam → Prop, I 0 (wipeG Γ ws) ∧ (∀ k x Γ', ds[k]? = some x → I k Γ' → dg x Γ' fun Γ1 => du { DD with nx := fun Γ2 => I (k + 1) (wipeG Γ2 ws), ct := fun Γ2 => I (k + 1) (wipeG Γ2 ws), bk := DD.nx } Γ1) ∧ ∀ Γ', I ds.length Γ' → DD.nx Γ'
  | _ => False
theorem z_forL {K : PySem.W.Frag} {ws js : List Nat} {i : Nat} {g : TG} {dg : DG} {u : TS} {du : DS} (xg : SimG K g dg js) (xu : SimS K u du) : SimS K (tFor (iList K (tCB (rListS K) (tCons (tVar i) tNil))) g u) (dForL ws i dg du) := fun b0 h0 bf D DD M b h Γ σ r p => by
  unfold dForL at p
  split at p
  next ds e =>
    obtain ⟨q, us, k1, k2, k3, k4, k5⟩ := r.o i ds e
    obtain ⟨I, i0, is, ie⟩ := p
    refine ⟨.ref q, k1, q, us, rfl, Or.inl (sq_of k2), fun l hl => ?_⟩
    have nb : b l = none := none_of r.g.gi hl
    have g1 : Gr b h (upd b l (.lst us)) (upd h l (.lst us)) := (Gr.hid r.g.gi hl).tell hl nb upd_same
    have r1 := r.up g1
    have k6 := k5.up g1.gb
    refine ⟨l, rfl, ⟨us, sq_of upd_same⟩, ?_⟩
    refine for_core M (xs := ds) ⟨fun h => SqL K h l us, YAt us, ?_, fun h e => sq_of (e _ _ upd_same), ?_⟩ xg xu r1.f (Rel.forget ⟨r1.r, r1.g, Ex.refl _, r1.o, r1.u⟩ ws) I i0 is ie
    · rw [← k6.length]
      exact walk_list
    · rintro i x b2 h2 v h3 hx e2 e3 ⟨rfl, hy⟩
      obtain ⟨d, hd, hv⟩ := k6.getV hy
      rw [hx] at hd
      cases hd
      exact ⟨b2, Gr.refl e3, hv.up e2⟩
  next => cases p
end Md
namespace Md
open PySem L2 Evl
inductive RchG (G : List PlV) (x : Nat) : Nat → Prop
  | refl : RchG G x x
  | step {y : Nat} {q : BrC} (h : RchG G x y) (hq : q ∈ (vl G y).bs) : RchG G x q.2
open Classical in
noncomputable def rcL (G : List PlV) (x : Nat) : List Nat := (List.range G.length).filter fun y => decide (RchG G x y)
section
variable {G : List PlV} {w x y : Nat}
theorem rchG_lt (hW : WfVG w G) (hx : x < G.length) (h : RchG G x y) : y < G.length := by
  induction h with
  | refl => exact hx
  | step h hq ih => exact (vl_wf hW ih).t _ hq
open Classical in
theorem mem_rcL (hW : WfVG w G) (hx : x < G.length) : y ∈ rcL G x ↔ RchG G x y := by
  unfold rcL
  rw [List.mem_filter, List.mem_range, decide_eq_true_iff]
  exact ⟨fun z => z.2, fun z => ⟨rchG_lt hW hx z, z⟩⟩
structure FndG (G : List PlV) (x : Nat) (l : List Nat) : Prop where
  nd : l.Nodup
  r : ∀ y ∈ l, RchG G x y
  m : x ∈ l
theorem FndG.add {l : List Nat} (f : FndG G x l) {y : Nat} (hy : y ∈ l) {q : BrC} (hq : q ∈ (vl G y).bs) : FndG G x (if q.2 ∈ l then l else l ++ [q.2]) := by
  split
  · exact f
  · rename_i h
    refine ⟨List.nodup_append.mpr ⟨f.nd, by simp, fun a ha b hb => ?_⟩, fun z hz => ?_, List.mem_append_left _ f.m⟩
    · rw [List.mem_singleton.mp hb]
      intro e
      rw [e] at ha
      exact h ha
    · rcases List.mem_append.mp hz with hz | hz
      · exact f.r z hz
      · rw [List.mem_singleton.mp hz]
        exact .step (f.r y hy) hq
def ClsG (G : List PlV) (l : List Nat) : Prop := ∀ y ∈ l, ∀ q ∈ (vl G y).bs, q.2 ∈ l
theorem cls_all {l : List Nat} (h : ClsG G l) (hx : x ∈ l) (hy : RchG G x y) : y ∈ l := by
  induction hy with
  | refl => exact hx
  | step _ hq ih => exact h _ ih _ hq
theorem fnd_len (hW : WfVG w G) (hx : x < G.length) {l : List Nat} (f : FndG G x l) : l.length ≤ G.length := nodup_len f.nd fun y hy => rchG_lt hW hx (f.r y hy)
theorem fnd_sorted (hW : WfVG w G) (hx : x < G.length) {l : List Nat} (f : FndG G x l) (hc : ClsG G l) {ns : List Int} (hp : ns.Perm (l.map fun y : Nat => (y : Int))) (hs : ns.Pairwise (· ≤ ·)) : ns = (rcL G x).map fun y : Nat => (y : Int) := by
  have hnd : ns.Nodup := by
    refine hp.nodup_iff.mpr ?_
    exact List.Pairwise.map _ (fun a b hab e => hab (by omega)) f.nd
  refine sorted_ext ?_ ?_ fun y => ?_
  · have := hs.and hnd
    exact this.imp fun {a b} z => by
      have h1 := z.1
      have h2 := z.2
      omega
  · refine List.Pairwise.map _ (fun a b hab => ?_) ((range_sorted G.length).filter _)
    omega
  · rw [hp.mem_iff, List.mem_map, List.mem_map]
    constructor
    · rintro ⟨a, ha, rfl⟩
      exact ⟨a, (mem_rcL hW hx).mpr (f.r a ha), rfl⟩
    · rintro ⟨a, ha, rfl⟩
      exact ⟨a, cls_all hc f.m ((mem_rcL hW hx).mp ha), rfl⟩
end
def kLRe : ConN := conN2 fun u v P => ∃ (G : List PlV) (w x : Nat), u = gvD G ∧ v = .int (x : Int) ∧ WfVG w G ∧ x < G.length ∧ P ((rcL G x).map fun y : Nat => PyData.int (y : Int))
theorem kLRe_i {G : List PlV} {w x : Nat} {P : List PyData → Prop} (h1 : WfVG w G) (h2 : x < G.length) (p : P ((rcL G x).map fun y : Nat => PyData.int (y : Int))) : kLRe [gvD G, .int (x : Int)] P := ⟨G, w, x, rfl, rfl, h1, h2, p⟩
end Md
namespace Md
open PySem L2 Evl
def alF (G : List PlV) (o : Bool) : Nat → List (List PyData)
  | 0 => [[]]
  | i + 1 => if (vl G i).k = some o then (alF G o i).flatMap fun row => (List.range (vl G i).bs.length).map fun b : Nat => row ++ [.int (b : Int)] else (alF G o i).map fun row => row ++ [.none]
def kAll : Con := con2 fun x y P => ∃ (G : List PlV) (o : Bool), x = gvD G ∧ y = .str (kdV (some o)) ∧ G.length ≤ 12 ∧ (∀ p ∈ G, p.bs.length ≤ 6) ∧ (∀ i, i ≤ G.length → (alF G o i).length ≤ 1000) ∧ P (.list ((alF G o G.length).map PyData.list))
theorem kAll_i {G : List PlV} {o : Bool} {P : PyData → Prop} (h1 : G.length ≤ 12) (h2 : ∀ p ∈ G, p.bs.length ≤ 6) (h3 : ∀ i, i ≤ G.length → (alF G o i).length ≤ 1000) (p : P (.list ((alF G o G.length).map PyData.list))) : kAll [gvD G, .str (kdV (some o))] P := ⟨G, o, rfl, rfl, h1, h2, h3, p⟩
theorem al_row {G : List PlV} {o : Bool} : ∀ {i : Nat} {row : List PyData}, row ∈ alF G o i → row.length = i
  | 0, row, h => by
    rw [List.mem_singleton.mp h]
    rfl
  | i + 1, row, h => by
    unfold alF at h
    split at h
    · obtain ⟨r, hr, h⟩ := List.mem_flatMap.mp h
      obtain ⟨b, _, rfl⟩ := List.mem_map.mp h
      rw [List.length_append, al_row hr]
      rfl
    · obtain ⟨r, hr, rfl⟩ := List.mem_map.mp h
      rw [List.length_append, al_row hr]
      rfl
end Md
namespace Md
open PySem L2 Evl
def kLwr : Con := con2 fun x y P => ∃ (n : Nat) (s : Bool) (f : Nat → Rat) (L : List (Nat → Rat)), x = .list ((f :: L).map (listQ n)) ∧ y = .bool s ∧ n ≤ 1000 ∧ L.length ≤ 1000 ∧ (∀ e ∈ f :: L, ∀ k, k < n → Ok (e k)) ∧ P (listQ n fun k => tkQ (!s) ((f :: L).map fun e => e k))
theorem kLwr_i {n : Nat} {s : Bool} {f : Nat → Rat} {L : List (Nat → Rat)} {P : PyData → Prop} (h1 : n ≤ 1000) (h2 : L.length ≤ 1000) (h3 : ∀ e ∈ f :: L, ∀ k, k < n → Ok (e k)) (p : P (listQ n fun k => tkQ (!s) ((f :: L).map fun e => e k))) : kLwr [.list ((f :: L).map (listQ n)), .bool s] P := ⟨n, s, f, L, rfl, rfl, h1, h2, h3, p⟩
theorem tk_snocT {l : List Rat} (hl : 0 < l.length) (r : Rat) : tkQ true (l ++ [r]) = if tkQ true l < r then r else tkQ true l := by
  have m := tk_mem (o := true) hl
  by_cases h : tkQ true l < r
  · rw [if_pos h]
    refine tk_is (List.mem_append_right _ (List.mem_singleton.mpr rfl)) fun y hy => ?_
    rw [if_pos rfl]
    rcases List.mem_append.mp hy with hy | hy
    · have := tk_hi hy
      grind
    · rw [List.mem_singleton.mp hy]
      exact Rat.le_refl
  · rw [if_neg h]
    refine tk_is (List.mem_append_left _ m) fun y hy => ?_
    rw [if_pos rfl]
    rcases List.mem_append.mp hy with hy | hy
    · exact tk_hi hy
    · rw [List.mem_singleton.mp hy]
      grind
theorem tk_snocF {l : List Rat} (hl : 0 < l.length) (r : Rat) : tkQ false (l ++ [r]) = if r < tkQ false l then r else tkQ false l := by
  have m := tk_mem (o := false) hl
  by_cases h : r < tkQ false l
  · rw [if_pos h]
    refine tk_is (List.mem_append_right _ (List.mem_singleton.mpr rfl)) fun y hy => ?_
    rw [if_neg (by decide)]
    rcases List.mem_append.mp hy with hy | hy
    · have := tk_lo hy
      grind
    · rw [List.mem_singleton.mp hy]
      exact Rat.le_refl
  · rw [if_neg h]
    refine tk_is (List.mem_append_left _ m) fun y hy => ?_
    rw [if_neg (by decide)]
    rcases List.mem_append.mp hy with hy | hy
    · exact tk_lo hy
    · rw [List.mem_singleton.mp hy]
      grind
end Md
set_option Elab.async false
set_option linter.all false
set_option maxRecDepth 100000
set_option maxHeartbeats 2000000
namespace Md
open PySem L2 Evl
mutual
def nol : PyData → Bool
  | .none => true
  | .bool _ => true
  | .int _ => true
  | .str _ => true
  | .tuple ds => nolA ds
  | _ => false
def nolA : List PyData → Bool
  | [] => true
  | d :: ds => nol d && nolA ds
end
theorem nolA_all : ∀ {ds : List PyData}, (∀ d ∈ ds, nol d = true) → nolA ds = true
  | [], _ => rfl
  | d :: ds, h => by
    show (nol d && nolA ds) = true
    rw [h d List.mem_cons_self, nolA_all fun x hx => h x (List.mem_cons_of_mem _ hx)]
    rfl
theorem nol_nQ (r : Rat) : nol (nQ r) = true := rfl
def ownA (Γ : Gam) (σ : L2.St) (a : Addr) : Prop := ∃ i ds, gat Γ i = some (.o ds) ∧ σ[i]? = some (some (.ref a))
section
variable {K : PySem.W.Frag} {b0 h0 bf b h b' h' b1 b2 h2 : Hp} {Γ Γ' : Gam} {σ σ' : L2.St}
theorem Rel.all2 (x : Rel K b0 h0 bf b h Γ σ) : ∃ b1, Ex b b1 ∧ Ex b1 h ∧ RelD K b1 (allD Γ) σ ∧ ∀ a, ¬ ownA Γ σ a → b1 a = b a := by
  classical
  let B : Hp := fun a => if ownA Γ σ a then h a else b a
  have e1 : Ex b B := fun a o ha => by
    show (if _ then _ else _) = _
    by_cases c : ownA Γ σ a
    · obtain ⟨i, ds, c1, c2⟩ := c
      obtain ⟨p, us, k1, k2, k3, _⟩ := x.o i ds c1
      rw [c2] at k1
      cases k1
      rw [ha] at k3
      cases k3
    · rw [if_neg c]
      exact ha
  have e2 : Ex B h := fun a o ha => by
    have ha : (if _ then _ else _) = _ := ha
    by_cases c : ownA Γ σ a
    · rw [if_pos c] at ha
      exact ha
    · rw [if_neg c] at ha
      exact x.g.gi _ _ ha
  have la : ∀ Γ : Gam, (allD Γ).length = Γ.length := fun Γ => by
    induction Γ with
    | nil => rfl
    | cons s l ih =>
      match s with
      | none => exact congrArg Nat.succ ih
      | some (.d x) => exact congrArg Nat.succ ih
      | some (.o x) => exact congrArg Nat.succ ih
  refine ⟨B, e1, e2, ⟨by rw [la, x.r.len], fun i z e => ?_⟩, fun a ha => if_neg ha⟩
  rw [allD_gat] at e
  cases q : gat Γ i with
  | none =>
    rw [q] at e
    cases e
  | some s =>
    cases s with
    | d y =>
      rw [q] at e
      cases e
      obtain ⟨v, k1, k2⟩ := x.r.d i _ q
      exact ⟨v, k1, k2.up e1⟩
    | o ds =>
      rw [q] at e
      cases e
      obtain ⟨p, us, k1, k2, k3, k4, k5⟩ := x.o i ds q
      refine ⟨.ref p, k1, Dt.list ?_ (k5.up e1)⟩
      show (if _ then _ else _) = _
      rw [if_pos ⟨i, ds, q, k1⟩]
      exact k2
mutual
theorem Dt.noL {A : Addr → Prop} (hb : ∀ a, ¬ A a → b' a = b a) (hA : ∀ a, A a → ∃ us, b a = some (.lst us)) : ∀ (d : PyData) (v : V), nol d = true → Dt K b v d → Dt K b' v d
  | .none, _, _, h => by cases h; exact Dt.none
  | .bool b, _, _, h => by cases h; exact Dt.bool b
  | .int i, _, _, h => by cases h; exact Dt.int i
  | .str x, _, _, h => by cases h; exact Dt.str x
  | .list ds, _, n, h => by cases n
  | .tuple ds, _, n, h => by
    cases h with
    | tuple h1 h2 =>
      have h3 := DtA.noL hb hA ds _ n h2
      refine Dt.tuple ?_ h3
      have key : ∀ a o, b a = some o → (∀ us, o ≠ .lst us) → b' a = some o := fun a o e q => by
        by_cases c : A a
        · obtain ⟨us, hu⟩ := hA a c
          rw [e] at hu
          cases hu
          exact absurd rfl (q us)
        · rw [hb a c]; exact e
      rcases h1 with h1 | h1
      · refine Or.inl ?_
        rcases h1 with h1 | ⟨o, h1⟩
        · exact Or.inl (key _ _ h1 fun us z => by cases z)
        · exact Or.inr ⟨o, key _ _ h1 fun us z => by cases z⟩
      · exact Or.inr h1
  | .dict _, _, n, h => by cases n
theorem DtA.noL {A : Addr → Prop} (hb : ∀ a, ¬ A a → b' a = b a) (hA : ∀ a, A a → ∃ us, b a = some (.lst us)) : ∀ (ds : List PyData) (vs : List V), nolA ds = true → DtA K b vs ds → DtA K b' vs ds
  | [], _, _, h => by cases h; exact DtA.nil
  | d :: ds, _, n, h => by
    have n1 : nol d = true ∧ nolA ds = true := by
      have : (nol d && nolA ds) = true := n
      rwa [Bool.and_eq_true] at this
    cases h with
    | cons h1 h2 => exact DtA.cons (Dt.noL hb hA d _ n1.1 h1) (DtA.noL hb hA ds _ n1.2 h2)
end
theorem Rel.untell (x : Rel K b0 h0 bf b h Γ σ) (e2 : Ex b1 h) (ra : RelD K b1 (allD Γ) σ) (hb : ∀ a, ¬ ownA Γ σ a → b1 a = b a) (e1 : Ex b b1) (g : Gr b1 h b2 h2) :
    ∃ b3, Gr b h b3 h2 ∧ (∀ d v, nol d = true → Dt K b2 v d → Dt K b3 v d) ∧ (∀ ds vs, nolA ds = true → DtA K b2 vs ds → DtA K b3 vs ds) ∧ ∀ p, b2 p = none → b3 p = none := by
  classical
  have own : ∀ a, ownA Γ σ a → ∃ us, b2 a = some (.lst us) ∧ b a = none := fun a ⟨i, ds, c1, c2⟩ => by
    obtain ⟨p, us, k1, k2, k3, _⟩ := x.o i ds c1
    rw [c2] at k1
    cases k1
    obtain ⟨v, l1, l2⟩ := ra.d i (.list ds) (by rw [allD_gat, c1]; rfl)
    rw [c2] at l1
    cases l1
    obtain ⟨a', xs, ea, l3, _⟩ := l2.listI
    cases ea
    exact ⟨xs, g.gb _ _ l3, k3⟩
  let B : Hp := fun a => if ownA Γ σ a then none else b2 a
  have hB : ∀ a, ¬ ownA Γ σ a → B a = b2 a := fun a ha => if_neg ha
  refine ⟨B, ⟨fun a o ha => ?_, g.gh, fun a o ha => ?_, fun a h1 h3 => ?_⟩, fun d v n q => Dt.noL hB (fun a ha => ⟨_, (own a ha).choose_spec.1⟩) d v n q, fun ds vs n q => DtA.noL hB (fun a ha => ⟨_, (own a ha).choose_spec.1⟩) ds vs n q, fun p hp => ?_⟩
  · by_cases c : ownA Γ σ a
    · have := (own a c).choose_spec.2
      rw [ha] at this
      cases this
    · rw [hB a c]
      exact g.gb _ _ (e1 _ _ ha)
  · by_cases c : ownA Γ σ a
    · have ha : (if _ then _ else _) = _ := ha
      rw [if_pos c] at ha
      cases ha
    · rw [hB a c] at ha
      exact g.gi _ _ ha
  · by_cases c : ownA Γ σ a
    · exact if_pos c
    · rw [hB a c]
      exact g.gf a (by rw [hb a c]; exact h1) h3
  · by_cases c : ownA Γ σ p
    · exact if_pos c
    · rw [hB p c]
      exact hp
end
def dAsgX (de : DE) (dg : DG) : DS := fun DD Γ => de (allD Γ) fun x => nol x = true ∧ dg x Γ DD.nx
def dAsgXN (i : Nat) (dn : DN) : DS := fun DD Γ => dn (allD Γ) fun ds => nolA ds = true ∧ DD.nx (Γ.set i (some (.d (.list ds))))
def dAsgXO (i : Nat) (dn : DN) : DS := fun DD Γ => dn (allD Γ) fun ds => nolA ds = true ∧ i < Γ.length ∧ DD.nx (Γ.set i (some (.o ds)))
def dAppX (i : Nat) (de : DE) : DS := fun DD Γ => match gat Γ i with
  | some (.o ds) => de (allD Γ) fun x => nol x = true ∧ ds.length < 100000 ∧ DD.nx (Γ.set i (some (.o (ds ++ [x]))))
  | _ => False
def dAppXN (i : Nat) (dn : DN) : DS := fun DD Γ => match gat Γ i with
  | some (.o ds) => dn (allD Γ) fun es => nolA es = true ∧ ds.length < 100000 ∧ DD.nx (Γ.set i (some (.o (ds ++ [.list es]))))
  | _ => False
def dSetX (i : Nat) (dj de : DE) : DS := fun DD Γ => match gat Γ i with
  | some (.o ds) => de (allD Γ) fun x => nol x = true ∧ dj (allD Γ) fun k => onI k fun k => ∃ j, L2.ixN ds.length k = some j ∧ DD.nx (Γ.set i (some (.o (ds.set j x))))
  | _ => False
def dSetXN (i : Nat) (dj : DE) (dn : DN) : DS := fun DD Γ => match gat Γ i with
  | some (.o ds) => dn (allD Γ) fun es => nolA es = true ∧ dj (allD Γ) fun k => onI k fun k => ∃ j, L2.ixN ds.length k = some j ∧ DD.nx (Γ.set i (some (.o (ds.set j (.list es)))))
  | _ => False
def dAsgIx (m i : Nat) (dj : DE) : DS := fun DD Γ => match gat Γ i with
  | some (.o ds) => dj (allD Γ) fun k => onI k fun k => ∃ x, L2.atI ds k = some x ∧ m < Γ.length ∧ DD.nx (Γ.set m (some (.d x)))
  | _ => False
def dSetIx (i : Nat) (dj dl : DE) : DS := fun DD Γ => match gat Γ i with
  | some (.o ds) => dl (allD Γ) fun l => onI l fun l => ∃ x, L2.atI ds l = some x ∧ dj (allD Γ) fun k => onI k fun k => ∃ j, L2.ixN ds.length k = some j ∧ DD.nx (Γ.set i (some (.o (ds.set j x))))
  | _ => False
def dRetX (de : DE) : DS := fun DD Γ => de (allD Γ) fun x => nol x = true ∧ DD.rt x
def dRetXN (dn : DN) : DS := fun DD Γ => dn (allD Γ) fun ds => nolA ds = true ∧ DD.ro ds
section
variable {K : PySem.W.Frag} {te ta tb tj tl : TE} {ts tk tr : TA} {da db de dj dl : DE} {dn dr dk di : DN} {tt : TT} {dt : DT} {g : TG} {dg : DG} {js : List Nat} {t u w : TS} {dt1 du dw : DS} {wi : TI}
theorem z_asgX (x : SimE K te de) (y : SimG K g dg js) : SimS K (tAsg te g) (dAsgX de dg) := fun b0 h0 bf D DD M b h Γ σ r p => by
  obtain ⟨b1, e1, e2, ra, hb⟩ := r.all2
  refine x σ _ b1 ra _ p h e2 _ fun v b2 h2 d g2 hp hv => ?_
  obtain ⟨b3, g3, hn, _⟩ := r.untell e2 ra hb e1 g2
  exact y σ Γ b3 h2 v d (r.r.up g3.gb) (hn d v hp.1 hv) g3.gi _ hp.2 _ fun σ1 Γ1 r1 p1 hp1 => M.nx b3 h2 Γ1 σ1 ((r.up g3).put p1 r1) hp1
theorem z_asgXN {i : Nat} (x : SimN K te dn) : SimS K (tAsg te (gName i)) (dAsgXN i dn) := fun b0 h0 bf D DD M b h Γ σ r p => by
  obtain ⟨b1, e1, e2, ra, hb⟩ := r.all2
  refine x σ _ b1 ra _ p h e2 _ fun q us b2 h2 ds nq nb g2 hq hA hp => ?_
  obtain ⟨b3, g3, _, hn, hz⟩ := r.untell e2 ra hb e1 g2
  have g4 := g3.tell nq (hz q nb) hq
  have en : Ex b3 (upd b3 q (.lst us)) := Ex.new (hz q nb)
  exact M.nx _ h2 _ _ ((r.up g4).put Put.one ((r.r.up g4.gb).set (Dt.list upd_same ((hn ds us hp.1 hA).up en)))) hp.2
theorem z_setX {i : Nat} (x : SimE K te de) (y : SimE K tj dj) : SimS K (tAsg te (gSub (tVar i) tj rSetL)) (dSetX i dj de) := fun b0 h0 bf D DD M b h Γ σ r p => by
  unfold dSetX at p
  split at p
  next ds e =>
    obtain ⟨b1, e1, e2, ra, hb⟩ := r.all2
    refine x σ _ b1 ra _ p h e2 _ fun v b2 h2 d g2 hp hv => ?_
    obtain ⟨b3, g3, hn, _⟩ := r.untell e2 ra hb e1 g2
    have r2 := r.up g3
    obtain ⟨q, us, k1, k2, k3, k4, k5⟩ := r2.o i ds e
    obtain ⟨c1, f1, f2, rc⟩ := r2.all
    refine ⟨.ref q, k1, y σ _ c1 rc _ hp.2 h2 f2 _ fun kv b4 h4 kd g4 hp4 hkv => ?_⟩
    obtain ⟨k, rfl, j, hj, hp5⟩ := onI_is hp4
    have g5 : Gr b3 h2 b3 h4 := Gr.stay r2.g.gi g4.gh
    exact ⟨q, us, k, j, rfl, hkv.intI, g4.gh _ _ k2, by rw [k5.length]; exact hj, M.nx b3 _ _ _ ((r2.up g5).mut e k1 (DtA.set2 (hn d v hp.1 hv) j k5)) hp5⟩
  next => cases p
theorem z_setXN {i : Nat} (x : SimN K te dn) (y : SimE K tj dj) : SimS K (tAsg te (gSub (tVar i) tj rSetL)) (dSetXN i dj dn) := fun b0 h0 bf D DD M b h Γ σ r p => by
  unfold dSetXN at p
  split at p
  next ds e =>
    obtain ⟨b1, e1, e2, ra, hb⟩ := r.all2
    refine x σ _ b1 ra _ p h e2 _ fun q2 us2 b2 h2 es nq nb g2 hq hA hp => ?_
    obtain ⟨b3, g3, _, hn, hz⟩ := r.untell e2 ra hb e1 g2
    have g4 := g3.tell nq (hz q2 nb) hq
    have en : Ex b3 (upd b3 q2 (.lst us2)) := Ex.new (hz q2 nb)
    have r2 := r.up g4
    obtain ⟨q, us, k1, k2, k3, k4, k5⟩ := r2.o i ds e
    obtain ⟨c1, f1, f2, rc⟩ := r2.all
    refine ⟨.ref q, k1, y σ _ c1 rc _ hp.2 h2 f2 _ fun kv b4 h4 kd g5 hp4 hkv => ?_⟩
    obtain ⟨k, rfl, j, hj, hp5⟩ := onI_is hp4
    have g6 : Gr (upd b3 q2 (.lst us2)) h2 (upd b3 q2 (.lst us2)) h4 := Gr.stay r2.g.gi g5.gh
    exact ⟨q, us, k, j, rfl, hkv.intI, g5.gh _ _ k2, by rw [k5.length]; exact hj, M.nx _ _ _ _ ((r2.up g6).mut e k1 (DtA.set2 (Dt.list upd_same ((hn es us2 hp.1 hA).up en)) j k5)) hp5⟩
  next => cases p
theorem z_asgIx {m i : Nat} (y : SimE K tj dj) : SimS K (tAsg (tOp (rIxL K) (tVar i) tj) (gName m)) (dAsgIx m i dj) := fun b0 h0 bf D DD M b h Γ σ r p => by
  unfold dAsgIx at p
  split at p
  next ds e =>
    obtain ⟨q, us, k1, k2, k3, k4, k5⟩ := r.o i ds e
    obtain ⟨b1, e1, e2, ra⟩ := r.all
    refine ⟨.ref q, k1, y σ _ b1 ra _ p h e2 _ fun kv b2 h2 kd g2 hp hkv => ?_⟩
    obtain ⟨k, rfl, x, hx, hm, hp2⟩ := onI_is hp
    obtain ⟨v, hv, hd⟩ := k5.atI hx
    have g3 : Gr b h b h2 := Gr.stay r.g.gi g2.gh
    exact ⟨q, us, k, v, rfl, hkv.intI, sq_of (g2.gh _ _ k2), hv, M.nx b h2 _ _ ((r.up g3).put Put.one (r.r.set hd)) hp2⟩
  next => cases p
theorem z_setIx {i : Nat} (x : SimE K tl dl) (y : SimE K tj dj) : SimS K (tAsg (tOp (rIxL K) (tVar i) tl) (gSub (tVar i) tj rSetL)) (dSetIx i dj dl) := fun b0 h0 bf D DD M b h Γ σ r p => by
  unfold dSetIx at p
  split at p
  next ds e =>
    obtain ⟨q, us, k1, k2, k3, k4, k5⟩ := r.o i ds e
    obtain ⟨b1, e1, e2, ra⟩ := r.all
    refine ⟨.ref q, k1, x σ _ b1 ra _ p h e2 _ fun lv b2 h2 ld g2 hp hlv => ?_⟩
    obtain ⟨l, rfl, z, hz, hp2⟩ := onI_is hp
    obtain ⟨v, hv, hd⟩ := k5.atI hz
    have g3 : Gr b h b h2 := Gr.stay r.g.gi g2.gh
    have r2 := r.up g3
    refine ⟨q, us, l, v, rfl, hlv.intI, sq_of (g2.gh _ _ k2), hv, ?_⟩
    obtain ⟨c1, f1, f2, rc⟩ := r2.all
    refine ⟨.ref q, k1, y σ _ c1 rc _ hp2 h2 f2 _ fun kv b4 h4 kd g4 hp4 hkv => ?_⟩
    obtain ⟨k, rfl, j, hj, hp5⟩ := onI_is hp4
    have g5 : Gr b h2 b h4 := Gr.stay r2.g.gi g4.gh
    exact ⟨q, us, k, j, rfl, hkv.intI, g4.gh _ _ (g2.gh _ _ k2), by rw [k5.length]; exact hj, M.nx b _ _ _ ((r2.up g5).mut e k1 (DtA.set2 hd j k5)) hp5⟩
  next => cases p
theorem z_retXN (x : SimN K te dn) : SimS K (tRet te) (dRetXN dn) := fun b0 h0 bf D DD M b h Γ σ r p => by
  obtain ⟨b1, e1, e2, ra, hb⟩ := r.all2
  refine x σ _ b1 ra _ p h e2 _ fun q us b2 h2 ds nq nb g2 hq hA hp => ?_
  obtain ⟨b3, g3, _, hn, hz⟩ := r.untell e2 ra hb e1 g2
  exact M.ro b3 h2 q us ds (r.g.trans g3) (hz q nb) (gone r.g nq) hq (hn ds us hp.1 hA) hp.2
end
end Md
set_option Elab.async false
set_option linter.all false
set_option maxRecDepth 100000
set_option maxHeartbeats 2000000
namespace Md
open PySem L2 Evl
def KerR (n : Nat) (f : Nat → Nat → Rat) (z : Nat → Rat) : Prop := ∀ i, i < n → sumR (n + 1) (fun j => f i j * z j) = 0
def TrivR (n : Nat) (f : Nat → Nat → Rat) : Prop := ∀ z : Nat → Rat, z n = 0 → KerR n f z → ∀ j, j < n → z j = 0
def SolR (n : Nat) (f : Nat → Nat → Rat) (x : Nat → Rat) : Prop := ∀ i, i < n → sumR n (fun j => f i j * x j) = f i n
def RSz (B E V n : Nat) (r : Nat → Rat) : Prop := ∃ d : Nat, 0 < d ∧ d ≤ B ∧ (∀ j, j < n → NB 1 B (r j * natR d)) ∧ NB E V (r n * natR d)
def gjA (f : Nat → Nat → Rat) (c p : Nat) : Nat → Nat → Rat := fun i => if i = c then fun j => 1 / f p c * f p j else if i = p then f c else f i
def gjE (f : Nat → Nat → Rat) (c m : Nat) : Nat → Nat → Rat := fun i => if i < m ∧ i ≠ c then fun j => f i j - f i c * f c j else f i
theorem nb_up {M B d : Nat} {r : Rat} (h : NB M B (r * natR d)) (hd : 0 < d) : NB (M * d) B r := by
  obtain ⟨z, hz⟩ := h.zt
  have d1 : (1 : Rat) ≤ natR d := by
    have := natR_le (show 1 ≤ d from hd)
    rwa [natR_one] at this
  have lo := h.lo
  have hi := h.hi
  have B0 := natR_nonneg B
  refine ⟨⟨z, ?_⟩, ?_, ?_⟩
  · rw [← hz]
    have e : (((M * d : Nat) : Int) : Rat) = natR M * natR d := natR_mul M d
    rw [e]
    show _ = r * natR d * natR M
    grind
  · refine Classical.byContradiction fun hn => ?_
    have q : r < -natR B := by grind
    have d0 : (0 : Rat) ≤ natR d := natR_nonneg d
    have a := Rat.mul_le_mul_of_nonneg_right (Rat.le_of_lt q) d0
    have r0 : r ≤ 0 := by grind
    have b := Rat.mul_le_mul_of_nonneg_left (show (0:Rat) ≤ natR d - 1 by grind) (show (0:Rat) ≤ -r by grind)
    grind
  · refine Classical.byContradiction fun hn => ?_
    have q : natR B < r := by grind
    have r0 : 0 ≤ r := by grind
    have b := Rat.mul_le_mul_of_nonneg_left (show (0:Rat) ≤ natR d - 1 by grind) r0
    grind
theorem RSz.up {B E V n B' V' : Nat} {r : Nat → Rat} (x : RSz B E V n r) (h1 : B ≤ B') (h2 : V ≤ V') : RSz B' E V' n r := by
  obtain ⟨d, d0, d1, h, k⟩ := x
  exact ⟨d, d0, Nat.le_trans d1 h1, fun j hj => (h j hj).mono (Nat.dvd_refl _) h1, k.mono (Nat.dvd_refl _) h2⟩
theorem RSz.nb {B E V n : Nat} {r : Nat → Rat} (x : RSz B E V n r) (hV : B ≤ V) : ∃ d, 0 < d ∧ d ≤ B ∧ ∀ j, j < n + 1 → NB (E * d) V (r j) := by
  obtain ⟨d, d0, d1, h, k⟩ := x
  refine ⟨d, d0, d1, fun j hj => ?_⟩
  rcases Nat.lt_or_ge j n with q | q
  · exact (nb_up (h j q) d0).mono (by rw [Nat.one_mul]; exact Nat.dvd_mul_left _ _) hV
  · have e : j = n := by omega
    subst e
    exact nb_up k d0
theorem nb_int_of {B : Nat} {r : Rat} (h : NB 1 B r) : ∃ z : Int, r = (z : Rat) ∧ z.natAbs ≤ B := by
  obtain ⟨z, hz⟩ := h.zt
  have e : r = (z : Rat) := by
    rw [← hz]
    show r = r * natR 1
    rw [natR_one, Rat.mul_one]
  refine ⟨z, e, ?_⟩
  have := nb_abs h (z := z) (by rw [natR_one, Rat.mul_one]; exact e.symm)
  omega
theorem RSz.scale {B E V n c : Nat} {r : Nat → Rat} (x : RSz B E V n r) (hc : c < n) (h0 : r c ≠ 0) : RSz B E V n fun j => 1 / r c * r j := by
  obtain ⟨d, d0, d1, h, k⟩ := x
  obtain ⟨z, hz, hb⟩ := nb_int_of (h c hc)
  have dp : natR d ≠ 0 := by have := natR_pos d0; grind
  have z0 : z ≠ 0 := fun e => by
    rw [e] at hz
    have hz : r c * natR d = 0 := hz
    rcases Rat.mul_eq_zero.mp hz with q | q
    · exact h0 q
    · exact dp q
  have es : natR z.natAbs = (z : Rat) ∨ natR z.natAbs = -(z : Rat) := by
    have e : natR z.natAbs = ((z.natAbs : Int) : Rat) := rfl
    rw [e]
    rcases Int.natAbs_eq z with q | q
    · exact Or.inl (by rw [← q])
    · refine Or.inr ?_
      rw [← Rat.intCast_neg]
      congr 1
      omega
  have key : ∀ j, 1 / r c * r j * natR z.natAbs = r j * natR d ∨ 1 / r c * r j * natR z.natAbs = -(r j * natR d) := fun j => by
    rcases es with e | e
    · refine Or.inl ?_
      rw [e, ← hz]
      grind
    · refine Or.inr ?_
      rw [e, ← hz]
      grind
  have g : ∀ {M B : Nat} {j : Nat}, NB M B (r j * natR d) → NB M B (1 / r c * r j * natR z.natAbs) := fun {M B j} hh => by
    rcases key j with e | e
    · rw [e]; exact hh
    · rw [e]; exact nb_neg hh
  exact ⟨z.natAbs, by omega, hb, fun j hj => g (h j hj), g k⟩
theorem RSz.elim {B E V n c : Nat} {q s : Nat → Rat} (x : RSz B E V n q) (y : RSz B E V n s) (hc : c < n) : RSz (2 * (B * B)) E (2 * (B * V)) n fun j => q j - q c * s j := by
  obtain ⟨d, d0, d1, h, k⟩ := x
  obtain ⟨e, e0, e1, h', k'⟩ := y
  have B0 : 0 < B := by omega
  refine ⟨d * e, Nat.mul_pos d0 e0, Nat.le_trans (Nat.mul_le_mul d1 e1) (by omega), fun j hj => ?_, ?_⟩
  · have a := nb_mul (h j hj) ((nb_nat e).mono (Nat.dvd_refl _) e1)
    have b := nb_mul (h c hc) (h' j hj)
    have t := nb_sub a b
    have ee : (q j - q c * s j) * natR (d * e) = q j * natR d * natR e - q c * natR d * (s j * natR e) := by
      rw [natR_mul]
      grind
    rw [ee]
    exact t.mono (Nat.dvd_refl _) (by omega)
  · have a := nb_mul k ((nb_nat e).mono (Nat.dvd_refl _) e1)
    have b := nb_mul (h c hc) k'
    rw [Nat.mul_one] at a
    rw [Nat.one_mul] at b
    have t := nb_sub a b
    have ee : (q n - q c * s n) * natR (d * e) = q n * natR d * natR e - q c * natR d * (s n * natR e) := by
      rw [natR_mul]
      grind
    rw [ee]
    exact t.mono (Nat.dvd_refl _) (by rw [Nat.mul_comm V B]; omega)
theorem RSz.elim' {B E V n c : Nat} {q s : Nat → Rat} (x : RSz B E V n q) (y : RSz B E V n s) (hc : c < n) (hV : B ≤ V) (E0 : 0 < E) : ∃ M, 0 < M ∧ M ≤ E * (B * B) ∧ ∀ j, j < n + 1 → NB M (B * V) (q c * s j) := by
  obtain ⟨d, d0, d1, h, k⟩ := x
  obtain ⟨e, e0, e1, h'⟩ := y.nb hV
  have a := nb_up (h c hc) d0
  rw [Nat.one_mul] at a
  refine ⟨d * (E * e), Nat.mul_pos d0 (Nat.mul_pos E0 e0), ?_, fun j hj => nb_mul a (h' j hj)⟩
  have := Nat.mul_le_mul d1 e1
  calc d * (E * e) = E * (d * e) := by rw [← Nat.mul_assoc, Nat.mul_comm d E, Nat.mul_assoc]
    _ ≤ E * (B * B) := Nat.mul_le_mul_left E this
def bG (B : Nat) : Nat → Nat
  | 0 => B
  | c + 1 => 2 * (bG B c * bG B c)
def vG (B V : Nat) : Nat → Nat
  | 0 => V
  | c + 1 => 2 * (bG B c * vG B V c)
structure GjI (n B E V : Nat) (f0 f : Nat → Nat → Rat) (c : Nat) : Prop where
  ker : ∀ z, KerR n f z → KerR n f0 z
  un : ∀ i j, i < n → j < c → f i j = if i = j then 1 else 0
  sz : ∀ i, i < n → RSz (bG B c) E (vG B V c) n (f i)
theorem sum_only {n c : Nat} {g : Nat → Rat} (h : c < n) (h0 : ∀ j, c < j → j < n → g j = 0) : sumR n g = sumR c g + g c := by
  rw [sumR_low (m := c + 1) h (fun y h1 h2 => h0 y h1 h2), sumR_succ]
theorem GjI.pivot {n B E V c : Nat} {f0 f : Nat → Nat → Rat} (x : GjI n B E V f0 f c) (ht : TrivR n f0) (hc : c < n) : ∃ k, c ≤ k ∧ k < n ∧ f k c ≠ 0 := by
  refine Classical.byContradiction fun hn => ?_
  have h0 : ∀ k, c ≤ k → k < n → f k c = 0 := fun k h1 h2 => Classical.byContradiction fun h => hn ⟨k, h1, h2, h⟩
  have z := ht (fun j => if j < c then -f j c else if j = c then 1 else 0) (by rw [if_neg (by omega), if_neg (by omega)]) (x.ker _ fun i hi => ?_) c hc
  · rw [if_neg (by omega), if_pos rfl] at z
    exact absurd z (by decide)
  · rw [sum_only (c := c) (by omega) (fun j h1 h2 => by rw [if_neg (by omega), if_neg (by omega), Rat.mul_zero])]
    rw [if_neg (Nat.lt_irrefl c), if_pos rfl, Rat.mul_one]
    have e : sumR c (fun j => f i j * if j < c then -f j c else if j = c then 1 else 0) = sumR c fun j => if j = i then -f i c else 0 := sumR_congr fun j hj => by
      rw [if_pos hj, x.un i j hi hj]
      by_cases q : j = i
      · subst q
        rw [if_pos rfl, if_pos rfl]
        grind
      · rw [if_neg (fun e => q e.symm), if_neg q, Rat.zero_mul]
    rw [e]
    rcases Nat.lt_or_ge i c with q | q
    · rw [sumR_one _ q]
      grind
    · rw [sumR_zeros (fun j hj => if_neg (by omega)), h0 i q hi]
      grind
theorem GjI.step {n B E V c p : Nat} {f0 f : Nat → Nat → Rat} (x : GjI n B E V f0 f c) (hc : c < n) (h1 : c ≤ p) (hp : p < n) (h0 : f p c ≠ 0) : GjI n B E V f0 (gjE (gjA f c p) c n) (c + 1) := by
  have hB : ∀ c, bG B c ≤ bG B (c + 1) := fun c => by
    show _ ≤ 2 * (bG B c * bG B c)
    rcases Nat.eq_zero_or_pos (bG B c) with q | q
    · rw [q]; exact Nat.zero_le _
    · have := Nat.le_mul_of_pos_left (bG B c) q
      omega
  have B1 : 0 < bG B c := by
    obtain ⟨d, d0, d1, _⟩ := x.sz c hc
    omega
  have hV : vG B V c ≤ vG B V (c + 1) := by
    show _ ≤ 2 * (bG B c * vG B V c)
    have := Nat.le_mul_of_pos_left (vG B V c) B1
    omega
  have eA : ∀ i, i < n → RSz (bG B c) E (vG B V c) n (gjA f c p i) := fun i hi => by
    unfold gjA
    split
    · exact (x.sz p hp).scale hc h0
    · split
      · exact x.sz c hc
      · exact x.sz i hi
  have ec : gjA f c p c = fun j => 1 / f p c * f p j := if_pos rfl
  have eu : ∀ i j, i < n → j < c → gjA f c p i j = if i = j then 1 else 0 := fun i j hi hj => by
    unfold gjA
    split
    · rename_i e
      show 1 / f p c * f p j = _
      rw [x.un p j hp hj, if_neg (by omega), if_neg (by omega), Rat.mul_zero]
    · split
      · rename_i e1 e2
        rw [x.un c j hc hj, if_neg (by omega), if_neg (by omega)]
      · exact x.un i j hi hj
  have e1 : gjA f c p c c = 1 := by
    rw [ec]
    show 1 / f p c * f p c = 1
    grind
  refine ⟨fun z hz => x.ker z fun i hi => ?_, fun i j hi hj => ?_, fun i hi => ?_⟩
  · -- the row c
    have kc : sumR (n + 1) (fun j => gjA f c p c j * z j) = 0 := by
      have := hz c hc
      unfold gjE at this
      rwa [if_neg (fun h => h.2 rfl)] at this
    have ki : ∀ i, i < n → i ≠ c → sumR (n + 1) (fun j => gjA f c p i j * z j) = 0 := fun i hi hic => by
      have a := hz i hi
      unfold gjE at a
      rw [if_pos ⟨hi, hic⟩] at a
      have e : sumR (n + 1) (fun j => (gjA f c p i j - gjA f c p i c * gjA f c p c j) * z j) = sumR (n + 1) (fun j => gjA f c p i j * z j) + -gjA f c p i c * sumR (n + 1) (fun j => gjA f c p c j * z j) := by
        rw [← sumR_mul, ← sumR_add]
        exact sumR_congr fun j _ => by grind
      rw [e, kc] at a
      grind
    have kp : sumR (n + 1) (fun j => f p j * z j) = 0 := by
      rw [ec] at kc
      have e : sumR (n + 1) (fun j => 1 / f p c * f p j * z j) = 1 / f p c * sumR (n + 1) (fun j => f p j * z j) := by
        rw [← sumR_mul]
        exact sumR_congr fun j _ => by grind
      rw [e] at kc
      rcases Rat.mul_eq_zero.mp kc with q | q
      · exfalso
        have : f p c * (1 / f p c) = 1 := by grind
        rw [q, Rat.mul_zero] at this
        exact absurd this (by decide)
      · exact q
    by_cases q : i = p
    · rw [q]; exact kp
    · by_cases q2 : i = c
      · rw [q2]
        have a := ki p hp (fun e => q (by omega))
        unfold gjA at a
        rw [if_neg (fun e => q (by omega)), if_pos rfl] at a
        exact a
      · have a := ki i hi q2
        unfold gjA at a
        rw [if_neg q2, if_neg q] at a
        exact a
  · unfold gjE
    split
    · rename_i h
      show gjA f c p i j - gjA f c p i c * gjA f c p c j = _
      rcases Nat.lt_or_ge j c with q | q
      · rw [eu c j hc q, if_neg (by omega), eu i j hi q]
        grind
      · have e : j = c := by omega
        rw [e, e1, if_neg h.2]
        grind
    · rename_i h
      have e : i = c := Classical.byContradiction fun q => h ⟨hi, q⟩
      subst e
      rcases Nat.lt_or_ge j i with q | q
      · exact eu i j hi q
      · have e : j = i := by omega
        rw [e, e1, if_pos rfl]
  · unfold gjE
    split
    · exact (eA i hi).elim (eA c hc) hc
    · exact (eA i hi).up (hB c) hV
theorem GjI.fin {n B E V : Nat} {f0 f : Nat → Nat → Rat} (x : GjI n B E V f0 f n) : SolR n f0 fun j => f j n := fun i hi => by
  have h := x.ker (fun j => if j < n then f j n else -1) (fun i hi => ?_) i hi
  · rw [sumR_succ] at h
    have ew : (fun j => if j < n then f j n else -1) n = (-1 : Rat) := if_neg (Nat.lt_irrefl n)
    rw [ew] at h
    have e : sumR n (fun j => f0 i j * if j < n then f j n else -1) = sumR n fun j => f0 i j * f j n := sumR_congr fun j hj => by rw [if_pos hj]
    rw [e] at h
    show sumR n (fun j => f0 i j * f j n) = _
    grind
  · rw [sumR_succ]
    have ew : (fun j => if j < n then f j n else -1) n = (-1 : Rat) := if_neg (Nat.lt_irrefl n)
    rw [ew]
    have e : sumR n (fun j => f i j * if j < n then f j n else -1) = sumR n fun j => if j = i then f i n else 0 := sumR_congr fun j hj => by
      rw [if_pos hj, x.un i j hi hj]
      by_cases q : i = j
      · subst q
        rw [if_pos rfl, if_pos rfl, Rat.one_mul]
      · rw [if_neg q, if_neg (fun e => q e.symm), Rat.zero_mul]
    rw [e, sumR_one _ hi]
    grind
end Md
namespace Md
open PySem L2 Evl
theorem dfor_rng {Γ : Gam} {DD : DEnds} {di : DN} {dg : DG} {du : DS} {ws : List Nat} (n : Nat) (enc : Nat → PyData) (hi : ∀ k : List PyData → Prop, k ((List.range n).map enc) → di Γ k) (I : Nat → Gam → Prop) (h0 : I 0 (wipeG Γ ws))
    (hs : ∀ i Γ', i < n → I i Γ' → dg (enc i) Γ' fun Γ1 => du { DD with nx := fun Γ2 => I (i + 1) (wipeG Γ2 ws), ct := fun Γ2 => I (i + 1) (wipeG Γ2 ws), bk := DD.nx } Γ1) (he : ∀ Γ', I n Γ' → DD.nx Γ') : dFor ws di dg du DD Γ :=
  dfor_inv (List.range n) enc hi I h0 (fun i a Γ' ha hI => by
    have hl := (List.getElem?_eq_some_iff.mp ha).1
    rw [List.length_range] at hl
    rw [List.getElem?_range hl] at ha
    cases ha
    exact hs i Γ' hl hI) fun Γ' h => he Γ' (by rwa [List.length_range] at h)
theorem dlc_rng {Γ : Gam} {di : DN} {dg : DG} {de : DE} {vs : List Nat} {P : List PyData → Prop} (n : Nat) (enc r : Nat → PyData) (hi : ∀ k : List PyData → Prop, k ((List.range n).map enc) → di Γ k) (hl : n ≤ 40000)
    (h : ∀ i, i < n → ∀ k : PyData → Prop, k (r i) → dg (enc i) (wipeG Γ vs) fun Γ1 => de Γ1 k) (hp : P ((List.range n).map r)) : dLc di dg dYes de vs Γ P :=
  dlc_map (List.range n) enc r hi (by rw [List.length_range]; exact hl) (fun a ha => h a (List.mem_range.mp ha)) hp
def rowsL (n m : Nat) (f : Nat → Nat → Rat) : List PyData := (List.range n).map fun i => listQ m (f i)
theorem rowsL_len (n m : Nat) (f : Nat → Nat → Rat) : (rowsL n m f).length = n := by
  unfold rowsL
  rw [List.length_map, List.length_range]
theorem rowsL_get {n m i : Nat} {f : Nat → Nat → Rat} (h : i < n) : (rowsL n m f)[i]? = some (listQ m (f i)) := by
  unfold rowsL
  rw [List.getElem?_map, List.getElem?_range h]
  rfl
theorem rowsL_at {n m i : Nat} {f : Nat → Nat → Rat} (h : i < n) : L2.atI (rowsL n m f) (i : Int) = some (listQ m (f i)) := atI_nat (rowsL_get h)
theorem rowsL_set {n m i : Nat} {f : Nat → Nat → Rat} {r : Nat → Rat} : (rowsL n m f).set i (listQ m r) = rowsL n m (fun k => if k = i then r else f k) := by
  refine List.ext_getElem? fun k => ?_
  rw [List.getElem?_set, rowsL_len]
  by_cases c : i = k
  · subst c
    rw [if_pos rfl]
    by_cases q : i < n
    · rw [if_pos q, rowsL_get q, if_pos rfl]
    · rw [if_neg q]
      exact (List.getElem?_eq_none (by rw [rowsL_len]; omega)).symm
  · rw [if_neg c]
    by_cases q : k < n
    · rw [rowsL_get q, rowsL_get q, if_neg (fun e => c e.symm)]
    · rw [List.getElem?_eq_none (by rw [rowsL_len]; omega), List.getElem?_eq_none (by rw [rowsL_len]; omega)]
theorem rowsL_congr {n m : Nat} {f g : Nat → Nat → Rat} (h : ∀ i, i < n → f i = g i) : rowsL n m f = rowsL n m g := by
  unfold rowsL
  exact List.map_congr_left fun i hi => by rw [h i (List.mem_range.mp hi)]
structure GjOk (n B E V : Nat) : Prop where
  n12 : n ≤ 12
  B1 : 1 ≤ B
  BV : B ≤ V
  E0 : 0 < E
  Eb : E ≤ 2 ^ 200
  bb : bG B n ≤ 2 ^ 895
  vb : vG B V n ≤ 2 ^ 1000
theorem bG_pos {B : Nat} (h : 1 ≤ B) : ∀ c, 1 ≤ bG B c
  | 0 => h
  | c + 1 => by
    have := bG_pos h c
    show 1 ≤ 2 * (bG B c * bG B c)
    have := Nat.mul_le_mul this this
    omega
theorem bG_succ {B : Nat} (h : 1 ≤ B) (c : Nat) : bG B c ≤ bG B (c + 1) := by
  have := Nat.le_mul_of_pos_left (bG B c) (bG_pos h c)
  show _ ≤ 2 * (bG B c * bG B c)
  omega
theorem vG_succ {B V : Nat} (h : 1 ≤ B) (c : Nat) : vG B V c ≤ vG B V (c + 1) := by
  have := Nat.le_mul_of_pos_left (vG B V c) (bG_pos h c)
  show _ ≤ 2 * (bG B c * vG B V c)
  omega
theorem bG_mono {B : Nat} (h : 1 ≤ B) {c : Nat} : ∀ {n : Nat}, c ≤ n → bG B c ≤ bG B n
  | 0, hc => by rw [Nat.le_zero.mp hc]; exact Nat.le_refl _
  | n + 1, hc => by
    rcases Nat.lt_or_ge n c with q | q
    · rw [show c = n + 1 by omega]; exact Nat.le_refl _
    · exact Nat.le_trans (bG_mono h q) (bG_succ h n)
theorem vG_mono {B V : Nat} (h : 1 ≤ B) {c : Nat} : ∀ {n : Nat}, c ≤ n → vG B V c ≤ vG B V n
  | 0, hc => by rw [Nat.le_zero.mp hc]; exact Nat.le_refl _
  | n + 1, hc => by
    rcases Nat.lt_or_ge n c with q | q
    · rw [show c = n + 1 by omega]; exact Nat.le_refl _
    · exact Nat.le_trans (vG_mono h q) (vG_succ h n)
theorem bG_le_vG {B V : Nat} (h : B ≤ V) : ∀ c, bG B c ≤ vG B V c
  | 0 => h
  | c + 1 => Nat.mul_le_mul_left 2 (Nat.mul_le_mul_left _ (bG_le_vG h c))
section
variable {n B E V c : Nat} {r q s : Nat → Rat}
theorem GjOk.ok (x : GjOk n B E V) (hc : c ≤ n) (h : RSz (bG B c) E (vG B V c) n r) {j : Nat} (hj : j < n + 1) : Ok (r j) := by
  obtain ⟨d, d0, d1, hn⟩ := h.nb (bG_le_vG x.BV c)
  have d2 := Nat.le_trans d1 (Nat.le_trans (bG_mono x.B1 hc) x.bb)
  refine nb_ok (hn j hj) (Nat.mul_pos x.E0 d0) (Nat.lt_of_le_of_lt (Nat.mul_le_mul x.Eb d2) ?_) (Nat.le_trans (vG_mono x.B1 hc) x.vb)
  rw [← Nat.pow_add]
  exact Nat.pow_lt_pow_right (by decide) (by decide)
theorem GjOk.oke (x : GjOk n B E V) (hc : c < n) (h : RSz (bG B c) E (vG B V c) n q) (h' : RSz (bG B c) E (vG B V c) n s) {k j : Nat} (hk : k < n) (hj : j < n + 1) : Ok (q k * s j) := by
  obtain ⟨M, m0, m1, hn⟩ := h.elim' h' hk (bG_le_vG x.BV c) x.E0
  have b1 : bG B c * bG B c ≤ 2 ^ 895 := Nat.le_trans (by show _ ≤ 2 * (bG B c * bG B c); omega : bG B c * bG B c ≤ bG B (c + 1)) (Nat.le_trans (bG_mono x.B1 hc) x.bb)
  have v1 : bG B c * vG B V c ≤ 2 ^ 1000 := Nat.le_trans (by show _ ≤ 2 * (bG B c * vG B V c); omega : bG B c * vG B V c ≤ vG B V (c + 1)) (Nat.le_trans (vG_mono x.B1 hc) x.vb)
  refine nb_ok (hn j hj) m0 (Nat.lt_of_le_of_lt (Nat.le_trans m1 (Nat.mul_le_mul x.Eb b1)) ?_) v1
  rw [← Nat.pow_add]
  exact Nat.pow_lt_pow_right (by decide) (by decide)
theorem RSz.numB (h : RSz B E V n r) {j : Nat} (hj : j < n) : (r j).num.natAbs ≤ B := by
  obtain ⟨d, d0, d1, hn, _⟩ := h
  obtain ⟨z, hz, hb⟩ := nb_int_of (hn j hj)
  have dz : (0 : Rat) < natR d := natR_pos d0
  have e : r j = (z : Rat) / ((d : Int) : Rat) := by
    have e2 : ((d : Int) : Rat) = natR d := rfl
    rw [e2, ← hz]
    grind
  have c := num_canon (n := z) (d := (d : Int)) (by omega)
  rw [← e] at c
  have g := congrArg (·.1) c
  have g : (num z (d : Int)).1 = (r j).num := g
  rw [← g, num_pos (by omega)]
  show (z / ((Nat.gcd z.natAbs (d : Int).natAbs : Nat) : Int)).natAbs ≤ B
  rw [Int.natAbs_ediv_of_dvd (cast_dvd (Nat.gcd_dvd_left _ _))]
  exact Nat.le_trans (Nat.div_le_self _ _) hb
end
def kNumI : Con := con2 fun x y P => ∃ r : Rat, x = .int (r.den : Int) ∧ y = .int r.num ∧ r ≠ 0 ∧ Big 4000 (canon r) ∧ r.num.natAbs < 2 ^ 1998 ∧ P (nQ (1 / r))
theorem kNumI_i {r : Rat} {P : PyData → Prop} (h1 : r ≠ 0) (h2 : Ok r) (h3 : r.num.natAbs < 2 ^ 1998) (p : P (nQ (1 / r))) : kNumI [.int (r.den : Int), .int r.num] P := ⟨r, rfl, rfl, h1, h2.1, h3, p⟩
theorem num_inv {r : Rat} (h : r ≠ 0) : num (r.den : Int) r.num = canon (1 / r) := by
  have hn : r.num ≠ 0 := fun e => h (Rat.num_eq_zero.mp e)
  have er : r = (r.num : Rat) / ((r.den : Int) : Rat) := (q_canon r).symm
  have dn : ((r.den : Int) : Rat) ≠ 0 := cast_ne (by have := r.den_pos; omega)
  have nn : (r.num : Rat) ≠ 0 := cast_ne hn
  rcases Int.lt_or_gt_of_ne hn with q | q
  · have e : num (r.den : Int) r.num = num (-(r.den : Int)) (-r.num) := by
      unfold num
      rw [if_pos q, if_pos q, if_neg (by omega), if_neg (by omega), Int.natAbs_neg, Int.natAbs_neg]
    rw [e, num_canon (by omega)]
    congr 1
    rw [Rat.intCast_neg, Rat.intCast_neg]
    generalize (r.num : Rat) = a at *
    generalize ((r.den : Int) : Rat) = b at *
    rw [er]
    grind
  · rw [num_canon q]
    congr 1
    generalize (r.num : Rat) = a at *
    generalize ((r.den : Int) : Rat) = b at *
    rw [er]
    grind
theorem c_numI {K : PySem.W.Frag} {vs : List V} {h : Hp} {Q : VK} {E : XK} (x : spP K kNumI vs h Q E) : spNumberW K vs h Q E := by
  obtain ⟨b, ds, P, e, hA, hR, k⟩ := x
  obtain ⟨a, c, rfl, r, rfl, rfl, h0, h1, h2, p⟩ := con2_is hR
  have hn : r.num ≠ 0 := fun e => h0 (Rat.num_eq_zero.mp e)
  have u : (2 : Nat) ^ 4000 ≤ 2 ^ 8100 := Nat.pow_le_pow_right (by decide) (by decide)
  refine ⟨b, _, e, hA, rfl, ⟨_, _, rfl, hn, Nat.lt_of_lt_of_le h1.2 u, Nat.lt_of_lt_of_le h1.1 u, ?_⟩, fun v b' h' d' g hf hv => k v b' h' d' g ?_ hv⟩
  · have := Nat.gcd_pos_of_pos_right ((r.den : Int)).natAbs (show 0 < r.num.natAbs by omega)
    exact Nat.lt_of_lt_of_le h2 (Nat.le_mul_of_pos_right _ this)
  · rw [hf _ _ rfl, num_inv h0]
    exact p
def kLSol : ConN := conN2 fun x y P => ∃ (n B E V : Nat) (f : Nat → Nat → Rat), x = .list (rowsL n (n + 1) f) ∧ y = .int (n : Int) ∧ GjOk n B E V ∧ (∀ i, i < n → RSz B E V n (f i)) ∧ TrivR n f ∧ ∀ x, SolR n f x → P ((List.range n).map fun k => nQ (x k))
theorem kLSol_i {n B E V : Nat} {f : Nat → Nat → Rat} {P : List PyData → Prop} (h1 : GjOk n B E V) (h2 : ∀ i, i < n → RSz B E V n (f i)) (h3 : TrivR n f) (p : ∀ x, SolR n f x → P ((List.range n).map fun k => nQ (x k))) : kLSol [.list (rowsL n (n + 1) f), .int (n : Int)] P := ⟨n, B, E, V, f, rfl, rfl, h1, h2, h3, p⟩
theorem gj_start {n B E V : Nat} {f : Nat → Nat → Rat} (h : ∀ i, i < n → RSz B E V n (f i)) : GjI n B E V f f 0 := ⟨fun _ h => h, fun i j _ hj => absurd hj (Nat.not_lt_zero _), h⟩
end Md
namespace Md
open PySem L2 Evl
theorem numz_dec (r : Rat) : decide (r.num = 0) = decide (r = 0) := decide_eq_decide.mpr Rat.num_eq_zero
theorem inv_ok {n B E V c : Nat} {r : Nat → Rat} (x : GjOk n B E V) (hc : c ≤ n) (h : RSz (bG B c) E (vG B V c) n r) {k : Nat} (hk : k < n) (h0 : r k ≠ 0) : Ok (1 / r k) ∧ (r k).num.natAbs < 2 ^ 1998 := by
  have b1 : bG B c ≤ 2 ^ 895 := Nat.le_trans (bG_mono x.B1 hc) x.bb
  have hn := h.numB hk
  have u : (2 : Nat) ^ 890 < 2 ^ 1998 := Nat.pow_lt_pow_right (by decide) (by decide)
  have m1 : (r k).num.natAbs < 2 ^ 1998 := by omega
  refine ⟨?_, m1⟩
  have ok := x.ok hc h (j := k) (by omega)
  have e := num_inv h0
  have n0 : (r k).num ≠ 0 := fun e => h0 (Rat.num_eq_zero.mp e)
  -- the parts of the inverse are those of the number
  have g : Nat.gcd ((r k).den : Int).natAbs (r k).num.natAbs = 1 := by
    rw [Int.natAbs_natCast, Nat.gcd_comm]
    exact (r k).reduced
  have p1 : (canon (1 / r k)).1.natAbs = (r k).den ∧ (canon (1 / r k)).2.natAbs = (r k).num.natAbs := by
    rw [← e]
    unfold num
    rw [g]
    constructor
    · show ((if _ then _ else _) / ((1 : Nat) : Int) : Int).natAbs = _
      rw [Int.natCast_one, Int.ediv_one]
      split
      · rw [Int.natAbs_neg, Int.natAbs_natCast]
      · rw [Int.natAbs_natCast]
    · show ((if _ then _ else _) / ((1 : Nat) : Int) : Int).natAbs = _
      rw [Int.natCast_one, Int.ediv_one]
      split
      · rw [Int.natAbs_neg]
      · rfl
  have d9 : (r k).den < 2 ^ 4000 := Nat.lt_of_lt_of_le ok.2 (Nat.pow_le_pow_right (by decide) (by decide))
  refine ⟨⟨?_, ?_⟩, ?_⟩
  · rw [p1.1]; exact d9
  · rw [p1.2]; exact Nat.lt_of_lt_of_le m1 (Nat.pow_le_pow_right (by decide) (by decide))
  · have e2 : (canon (1 / r k)).2.natAbs = (1 / r k).den := Int.natAbs_natCast _
    rw [← e2, p1.2]
    exact m1
end Md
namespace Md
open PySem L2 Evl
theorem gj_swap {n m c : Nat} {g : Nat → Nat → Rat} : (rowsL n (n + 1) fun k => if k = m then g c else g k).set c (.list ((List.range (n + 1)).map fun j => nQ (1 / g m c * g m j))) = rowsL n (n + 1) (gjE (gjA g c m) c 0) := by
  have e : PyData.list ((List.range (n + 1)).map fun j => nQ (1 / g m c * g m j)) = listQ (n + 1) fun j => 1 / g m c * g m j := rfl
  rw [e, rowsL_set]
  refine rowsL_congr fun i _ => ?_
  have e0 : gjE (gjA g c m) c 0 i = gjA g c m i := if_neg fun h => absurd h.1 (Nat.not_lt_zero _)
  rw [e0]
  rfl
theorem gj_stay {n c k : Nat} {f : Nat → Nat → Rat} (h : k = c ∨ f k c = 0) : rowsL n (n + 1) (gjE f c k) = rowsL n (n + 1) (gjE f c (k + 1)) := by
  refine rowsL_congr fun i _ => ?_
  unfold gjE
  by_cases q : i < k ∧ i ≠ c
  · rw [if_pos q, if_pos ⟨by omega, q.2⟩]
  · rw [if_neg q]
    by_cases q2 : i < k + 1 ∧ i ≠ c
    · rw [if_pos q2]
      have e : i = k := by
        have := q2.1
        have := q2.2
        rcases Nat.lt_or_ge i k with z | z
        · exact absurd ⟨z, q2.2⟩ q
        · omega
      subst e
      rcases h with h | h
      · exact absurd h q2.2
      · funext j
        rw [h, Rat.zero_mul, Rat.sub_eq_add_neg, Rat.neg_zero, Rat.add_zero]
    · rw [if_neg q2]
theorem gj_next {n c k : Nat} {f : Nat → Nat → Rat} (hk : k ≠ c) : (rowsL n (n + 1) (gjE f c k)).set k (.list ((List.range (n + 1)).map fun j => nQ (f k j + -f k c * f c j))) = rowsL n (n + 1) (gjE f c (k + 1)) := by
  have e : PyData.list ((List.range (n + 1)).map fun j => nQ (f k j + -f k c * f c j)) = listQ (n + 1) fun j => f k j + -f k c * f c j := rfl
  rw [e, rowsL_set]
  refine rowsL_congr fun i _ => ?_
  by_cases q : i = k
  · subst q
    rw [if_pos rfl]
    unfold gjE
    rw [if_pos ⟨Nat.lt_succ_self i, hk⟩]
    funext j
    grind
  · rw [if_neg q]
    unfold gjE
    by_cases q2 : i < k ∧ i ≠ c
    · rw [if_pos q2, if_pos ⟨by omega, q2.2⟩]
    · rw [if_neg q2, if_neg (fun h => q2 ⟨by have := h.1; omega, h.2⟩)]
theorem gjE_own {f : Nat → Nat → Rat} {c k : Nat} : gjE f c k k = f k := if_neg fun h => Nat.lt_irrefl _ h.1
theorem gjE_c {f : Nat → Nat → Rat} {c k : Nat} : gjE f c k c = f c := if_neg fun h => h.2 rfl
theorem GjI.stepA {n B E V c p : Nat} {f0 f : Nat → Nat → Rat} (x : GjI n B E V f0 f c) (hc : c < n) (hp : p < n) (h0 : f p c ≠ 0) (i : Nat) (hi : i < n) : RSz (bG B c) E (vG B V c) n (gjA f c p i) := by
  unfold gjA
  split
  · exact (x.sz p hp).scale hc h0
  · split
    · exact x.sz c hc
    · exact x.sz i hi
end Md
namespace Md
open PySem L2 Evl
theorem ok_neg {r : Rat} (h : Ok r) : Ok (-r) := by
  refine ⟨⟨?_, h.1.2⟩, h.2⟩
  have : (canon (-r)).1.natAbs = (canon r).1.natAbs := Int.natAbs_neg r.num
  rw [this]
  exact h.1.1
end Md
namespace Md
open PySem L2 Evl
theorem nums_snoc {n : Nat} {f : Nat → Rat} {r : Rat} : ((List.range n).map fun k => nQ (f k)) ++ [nQ r] = (List.range (n + 1)).map fun k => nQ (if k < n then f k else r) := by
  rw [List.range_succ, List.map_append]
  congr 1
  · exact List.map_congr_left fun k hk => by rw [if_pos (List.mem_range.mp hk)]
  · rw [List.map_cons, List.map_nil, if_neg (Nat.lt_irrefl n)]
theorem nums_set {n i : Nat} {f : Nat → Rat} {r : Rat} : ((List.range n).map fun k => nQ (f k)).set i (nQ r) = (List.range n).map fun k => nQ (if k = i then r else f k) := by
  refine List.ext_getElem? fun k => ?_
  rw [List.getElem?_set, List.length_map, List.length_range]
  by_cases c : i = k
  · subst c
    rw [if_pos rfl]
    by_cases q : i < n
    · rw [if_pos q, List.getElem?_map, List.getElem?_range q]
      show _ = some (nQ (if i = i then r else f i))
      rw [if_pos rfl]
    · rw [if_neg q]
      exact (List.getElem?_eq_none (by rw [List.length_map, List.length_range]; omega)).symm
  · rw [if_neg c, List.getElem?_map, List.getElem?_map]
    by_cases q : k < n
    · rw [List.getElem?_range q]
      show some (nQ (f k)) = some (nQ (if k = i then r else f k))
      rw [if_neg fun e => c e.symm]
    · rw [List.getElem?_eq_none (by rw [List.length_range]; omega)]
      rfl
theorem nums_congr {n : Nat} {f g : Nat → Rat} (h : ∀ k, k < n → f k = g k) : ((List.range n).map fun k => nQ (f k)) = (List.range n).map fun k => nQ (g k) := List.map_congr_left fun k hk => by rw [h k (List.mem_range.mp hk)]
theorem rowsL_snoc {n m : Nat} {f : Nat → Nat → Rat} {g : Nat → Rat} (h : ∀ j, j < m → f n j = g j) : rowsL n m f ++ [.list ((List.range m).map fun j => nQ (g j))] = rowsL (n + 1) m f := by
  unfold rowsL
  rw [List.range_succ, List.map_append, List.map_cons, List.map_nil]
  congr 2
  unfold listQ
  rw [nums_congr h]
theorem nums_nol {n : Nat} {f : Nat → Rat} : nolA ((List.range n).map fun k => nQ (f k)) = true := nolA_all fun d hd => by
  obtain ⟨k, _, rfl⟩ := List.mem_map.mp hd
  exact nol_nQ _
theorem nats_rng (l : List Nat) : l.map (fun x : Nat => PyData.int (x : Int)) = (List.range l.length).map fun a => PyData.int ((l.getD a 0 : Nat) : Int) := (map_getDn l 0 fun x : Nat => PyData.int (x : Int)).symm
theorem nats_drop (l : List Nat) : (l.map fun x : Nat => PyData.int (x : Int)).drop 1 = (List.range (l.length - 1)).map fun a => PyData.int ((l.getD (a + 1) 0 : Nat) : Int) := by
  cases l with
  | nil => rfl
  | cons x l =>
    show l.map (fun x : Nat => PyData.int (x : Int)) = (List.range l.length).map fun a => PyData.int ((l.getD a 0 : Nat) : Int)
    exact nats_rng l
end Md
namespace Md
open PySem L2 Evl
theorem onL_chD {C : List PlC} {k : List PyData → Prop} : onL (chD C) k = k (C.map PlC.D) := rfl
theorem onT_C {p : PlC} {k : List PyData → Prop} : onT p.D k = k [nD p.g, .str "draw", .list (p.bs.map brC)] := rfl
theorem chD_at {C : List PlC} {y : Nat} (h : y < C.length) : L2.atI (C.map PlC.D) (y : Int) = some (plC C y).D := atI_nat (by rw [List.getElem?_map, plC_get h]; rfl)
theorem nats_at2 {l : List Nat} {a : Nat} (h : a < l.length) : L2.atI (l.map fun x : Nat => PyData.int (x : Int)) (a : Int) = some (.int ((l.getD a 0 : Nat) : Int)) := by
  rw [nats_rng]
  exact atI_nat (by rw [List.getElem?_map, List.getElem?_range h]; rfl)
theorem sh_natL (l : List Nat) : SeqAt.shaped (.list (l.map fun x : Nat => PyData.int (x : Int))) = true := sh_nats l
theorem atI_two {α : Type} {a b c : α} {l : List α} : L2.atI (a :: b :: c :: l) 2 = some c := by
  show L2.atI (a :: b :: c :: l) ((2 : Nat) : Int) = _
  exact atI_nat rfl
theorem idx_nats {l : List Nat} (hn : l.Nodup) {a : Nat} (ha : a < l.length) {Q : Nat → Prop} (q : Q a) : ∃ (j : Nat) (z : PyData), (l.map fun x : Nat => PyData.int (x : Int))[j]? = some z ∧ PyData.eqv z (.int ((l.getD a 0 : Nat) : Int)) = true ∧ (∀ (m : Nat) (z' : PyData), m < j → (l.map fun x : Nat => PyData.int (x : Int))[m]? = some z' → PyData.eqv z' (.int ((l.getD a 0 : Nat) : Int)) = false) ∧ Q j := by
  refine ⟨a, .int ((l.getD a 0 : Nat) : Int), ?_, ?_, fun m z' hm hz => ?_, q⟩
  · rw [nats_rng, List.getElem?_map, List.getElem?_range ha]
    rfl
  · show (((l.getD a 0 : Nat) : Int) == ((l.getD a 0 : Nat) : Int)) = true
    exact beq_self_eq_true _
  · rw [nats_rng, List.getElem?_map, List.getElem?_range (by omega)] at hz
    cases hz
    show (((l.getD m 0 : Nat) : Int) == ((l.getD a 0 : Nat) : Int)) = false
    refine beq_eq_false_iff_ne.mpr fun e => ?_
    have := nodup_getD hn (i := m) (j := a) (by omega) ha (by omega)
    omega
end Md
set_option Elab.async false
set_option linter.all false
set_option maxRecDepth 100000
set_option maxHeartbeats 2000000
namespace Md
open PySem L2 Evl
def indN (k : Nat) : Nat → Rat := fun z => if z = k then 1 else 0
def cgF (C : List PlC) (l : List Nat) (i a : Nat) : Rat :=
  if i + 1 < l.length then (if a < l.length then (if l.getD a 0 = l.getD (i + 1) 0 then 1 else 0) - meanC C (indN (l.getD (i + 1) 0)) (l.getD a 0) else 0) else 1
def lvF (C : List PlC) (g : Nat → Rat) (l : List Nat) (i a : Nat) : Rat :=
  if a < l.length then (if l.getD a 0 = l.getD i 0 then 1 else 0) - meanC C (indN (l.getD a 0)) (l.getD i 0) else meanC C (fun y => if y ∈ l then 0 else g y) (l.getD i 0)
section
variable {C : List PlC} {x : Nat} {L : List Nat}
theorem mean_in (h : WfC C) (G : IsGrp C x L) (u : Nat → Rat) {a : Nat} (ha : a < (x :: L).length) : meanC C u ((x :: L).getD a 0) = sumR (x :: L).length fun j => meanC C (indN ((x :: L).getD j 0)) ((x :: L).getD a 0) * u ((x :: L).getD j 0) := by
  have e := mean_wt C (x :: L) (x :: L).length ((x :: L).getD a 0) (fun j => u ((x :: L).getD j 0))
  unfold indN
  rw [← e]
  refine mean_congr h fun q hq => ?_
  have hq2 := grp_closed h G (getD_mem ha) hq
  obtain ⟨j, hj, hl, e2⟩ := take_getD (L := x :: L) (m := (x :: L).length) (by rw [List.take_length]; exact hq2)
  rw [← e2, wt_at G.nd (Nat.le_refl _) hj]
theorem cg_dual (h : WfC C) (G : IsGrp C x L) {p u : Nat → Rat} (hp : ∀ j, 1 ≤ j → j < (x :: L).length → sumR (x :: L).length (fun a => ((if (x :: L).getD a 0 = (x :: L).getD j 0 then 1 else 0) - meanC C (indN ((x :: L).getD j 0)) ((x :: L).getD a 0)) * p a) = 0) (hu : u x = 0) :
    sumR (x :: L).length (fun a => p a * (u ((x :: L).getD a 0) - meanC C u ((x :: L).getD a 0))) = 0 := by
  have e1 : sumR (x :: L).length (fun a => p a * (u ((x :: L).getD a 0) - meanC C u ((x :: L).getD a 0))) = sumR (x :: L).length fun a => sumR (x :: L).length fun j => u ((x :: L).getD j 0) * (((if (x :: L).getD a 0 = (x :: L).getD j 0 then 1 else 0) - meanC C (indN ((x :: L).getD j 0)) ((x :: L).getD a 0)) * p a) := sumR_congr fun a ha => by
    rw [mean_in h G u ha]
    have e2 : u ((x :: L).getD a 0) = sumR (x :: L).length fun j => (if j = a then u ((x :: L).getD a 0) else 0) := (sumR_one _ ha).symm
    have e3 : sumR (x :: L).length (fun j => u ((x :: L).getD j 0) * (((if (x :: L).getD a 0 = (x :: L).getD j 0 then 1 else 0) - meanC C (indN ((x :: L).getD j 0)) ((x :: L).getD a 0)) * p a)) = p a * (sumR (x :: L).length (fun j => (if j = a then u ((x :: L).getD a 0) else 0)) + (-1) * sumR (x :: L).length (fun j => meanC C (indN ((x :: L).getD j 0)) ((x :: L).getD a 0) * u ((x :: L).getD j 0))) := by
      rw [← sumR_mul, ← sumR_add, ← sumR_mul]
      refine sumR_congr fun j hj => ?_
      by_cases q : j = a
      · subst q
        rw [if_pos rfl, if_pos rfl]
        grind
      · rw [if_neg q, if_neg fun e => q (nodup_getD G.nd hj ha e.symm)]
        grind
    rw [e3, ← e2]
    grind
  rw [e1, sumR_comm]
  refine sumR_zeros fun j hj => ?_
  rw [sumR_mul]
  rcases Nat.eq_zero_or_pos j with q | q
  · subst q
    have : (x :: L).getD 0 0 = x := rfl
    rw [this, hu, Rat.zero_mul]
  · rw [hp j q hj, Rat.mul_zero]
theorem cg_mean (h : WfC C) (G : IsGrp C x L) (e : Nat → Rat) : ∃ m, GrpMean C x L e m := by
  have hL : ∀ y ∈ L, y < C.length := fun y hy => G.lt y (List.mem_cons_of_mem x hy)
  have hn : L.Nodup := (List.nodup_cons.mp G.nd).2
  obtain ⟨s, hs⟩ := fill_ex h hn hL (out_tail h G) e (fun _ => 0) fun _ _ => rfl
  obtain ⟨t, ht⟩ := fill_ex h hn hL (out_tail h G) (fun _ => 1) (fun _ => 0) fun _ _ => rfl
  exact ⟨_, s, t, hs, ht, rfl⟩
theorem cg_key (h : WfC C) (G : IsGrp C x L) {e : Nat → Rat} {m : Rat} (hm : GrpMean C x L e m) {p : Nat → Rat} (hp : ∀ j, 1 ≤ j → j < (x :: L).length → sumR (x :: L).length (fun a => ((if (x :: L).getD a 0 = (x :: L).getD j 0 then 1 else 0) - meanC C (indN ((x :: L).getD j 0)) ((x :: L).getD a 0)) * p a) = 0) :
    sumR (x :: L).length (fun a => p a * e ((x :: L).getD a 0)) = m * sumR (x :: L).length p := by
  have hL : ∀ y ∈ L, y < C.length := fun y hy => G.lt y (List.mem_cons_of_mem x hy)
  have hn := List.nodup_cons.mp G.nd
  obtain ⟨u, hu⟩ := fill_ex h hn.2 hL (out_tail h G) (fun y => e y - m) (fun _ => 0) fun _ _ => rfl
  have r := grp_round h G hm hu
  have u0 := hu.out x hn.1
  have d := cg_dual h G hp u0
  have e1 : sumR (x :: L).length (fun a => p a * (u ((x :: L).getD a 0) - meanC C u ((x :: L).getD a 0))) = sumR (x :: L).length (fun a => p a * e ((x :: L).getD a 0)) + (-m) * sumR (x :: L).length p := by
    rw [← sumR_mul, ← sumR_add]
    refine sumR_congr fun a ha => ?_
    have hy := getD_mem ha
    have : u ((x :: L).getD a 0) - meanC C u ((x :: L).getD a 0) = e ((x :: L).getD a 0) - m := by
      rcases List.mem_cons.mp hy with q | q
      · rw [q, u0]
        grind
      · rw [hu.eq _ q]
        grind
    rw [this]
    grind
  rw [e1] at d
  grind
theorem long_head (h : WfC C) (hx : x ∈ headsL C) (hr : reachL C x = x :: L) : GrpMean C x L (gainC C) (longC C x) ∧ ∀ y ∈ x :: L, longC C y = longC C x := by
  obtain ⟨m, hm, ha⟩ := (long_ok h).grp x hx L hr
  have e := ha x List.mem_cons_self
  rw [e]
  exact ⟨hm, fun y hy => ha y hy⟩
theorem cg_rows {p : Nat → Rat} {l : List Nat} {v : Nat → Rat} (hs : ∀ i, i < l.length → sumR l.length (fun j => cgF C l i j * p j) = v i) : (∀ j, 1 ≤ j → j < l.length → sumR l.length (fun a => ((if l.getD a 0 = l.getD j 0 then 1 else 0) - meanC C (indN (l.getD j 0)) (l.getD a 0)) * p a) = v (j - 1)) ∧ (0 < l.length → sumR l.length p = v (l.length - 1)) := by
  refine ⟨fun j h1 hj => ?_, fun h0 => ?_⟩
  · rw [← hs (j - 1) (by omega)]
    refine sumR_congr fun a ha => ?_
    unfold cgF
    rw [show j - 1 + 1 = j by omega, if_pos hj, if_pos ha]
  · rw [← hs (l.length - 1) (by omega)]
    refine sumR_congr fun a ha => ?_
    unfold cgF
    rw [if_neg (by omega), Rat.one_mul]
theorem cg_last {l : List Nat} {i : Nat} : cgF C l i l.length = if i + 1 < l.length then 0 else 1 := by
  unfold cgF
  rw [if_neg (Nat.lt_irrefl _)]
theorem cg_sol (h : WfC C) (hx : x ∈ headsL C) (hr : reachL C x = x :: L) (G : IsGrp C x L) {p : Nat → Rat} (hs : SolR (x :: L).length (cgF C (x :: L)) p) : sumR (x :: L).length (fun a => p a * gainC C ((x :: L).getD a 0)) = longC C x := by
  obtain ⟨h1, h2⟩ := cg_rows (C := C) hs
  have hl : 0 < (x :: L).length := Nat.zero_lt_succ _
  have k := cg_key h G (long_head h hx hr).1 (p := p) fun j j1 hj => by
    rw [h1 j j1 hj, cg_last, if_pos (by omega)]
  rw [k, h2 hl, cg_last, if_neg (by omega), Rat.mul_one]
theorem cg_triv (h : WfC C) (G : IsGrp C x L) : TrivR (x :: L).length (cgF C (x :: L)) := fun z z0 hk j hj => by
  have hs : ∀ i, i < (x :: L).length → sumR (x :: L).length (fun j => cgF C (x :: L) i j * z j) = 0 := fun i hi => by
    have := hk i hi
    rw [sumR_succ, z0, Rat.mul_zero, Rat.add_zero] at this
    exact this
  obtain ⟨h1, h2⟩ := cg_rows (C := C) (v := fun _ => 0) hs
  obtain ⟨m, hm⟩ := cg_mean h G (indN ((x :: L).getD j 0))
  have k := cg_key h G hm (p := z) h1
  rw [h2 (Nat.zero_lt_succ _), Rat.mul_zero] at k
  rw [← k]
  have e : sumR (x :: L).length (fun a => z a * indN ((x :: L).getD j 0) ((x :: L).getD a 0)) = sumR (x :: L).length fun a => if a = j then z j else 0 := sumR_congr fun a ha => by
    unfold indN
    by_cases q : a = j
    · subst q
      rw [if_pos rfl, if_pos rfl, Rat.mul_one]
    · rw [if_neg q, if_neg fun e => q (nodup_getD G.nd ha hj e), Rat.mul_zero]
  rw [e, sumR_one _ hj]
theorem lv_dot {g : Nat → Rat} {l : List Nat} (hn : l.Nodup) {i : Nat} (hi : i < l.length) (z : Nat → Rat) : sumR l.length (fun a => lvF C g l i a * z a) = z i - meanC C (wt l l.length z) (l.getD i 0) := by
  rw [mean_wt]
  have e : sumR l.length (fun a => lvF C g l i a * z a) = sumR l.length (fun a => if a = i then z i else 0) + (-1) * sumR l.length fun a => meanC C (indN (l.getD a 0)) (l.getD i 0) * z a := by
    rw [← sumR_mul, ← sumR_add]
    refine sumR_congr fun a ha => ?_
    unfold lvF
    rw [if_pos ha]
    by_cases q : a = i
    · subst q
      rw [if_pos rfl, if_pos rfl]
      grind
    · rw [if_neg q, if_neg fun e => q (nodup_getD hn ha hi e)]
      grind
  rw [e, sumR_one _ hi]
  show _ + -1 * sumR l.length (fun j => meanC C (indN (l.getD j 0)) (l.getD i 0) * z j) = z i - sumR l.length (fun j => meanC C (indN (l.getD j 0)) (l.getD i 0) * z j)
  grind
theorem lv_triv {g : Nat → Rat} (h : WfC C) : TrivR (passL C).length (lvF C g (passL C)) := fun z z0 hk j hj => by
  have hn := pass_nodup (C := C)
  have hw : IsFill C (passL C) (fun _ => 0) (fun _ => 0) (wt (passL C) (passL C).length z) := ⟨fun y hy => by
    obtain ⟨i, hi, _, e⟩ := take_getD (L := passL C) (m := (passL C).length) (by rw [List.take_length]; exact hy)
    have := hk i hi
    rw [sumR_succ, z0, Rat.mul_zero, Rat.add_zero, lv_dot hn hi] at this
    rw [← e, wt_at hn (Nat.le_refl _) hi]
    grind, fun y hy => wt_out (Nat.le_refl _) _ (by rw [List.take_length]; exact hy)⟩
  have h0 : IsFill C (passL C) (fun _ => 0) (fun _ => 0) (fun _ => 0) := ⟨fun y hy => by
    have : meanC C (fun _ => (0 : Rat)) y = 0 := mean_const h 0 (pass_lt y hy)
    rw [this]
    exact (Rat.add_zero 0).symm, fun y _ => rfl⟩
  have e := fill_unique h pass_lt (out_pass h) hw h0 ((passL C).getD j 0)
  rw [wt_at hn (Nat.le_refl _) hj] at e
  exact e
theorem lv_sol (h : WfC C) {p : Nat → Rat} (hs : SolR (passL C).length (lvF C (longC C) (passL C)) p) : ∀ i, i < (passL C).length → p i = longC C ((passL C).getD i 0) := fun i hi => by
  have hn := pass_nodup (C := C)
  have ec : ∀ i, lvF C (longC C) (passL C) i (passL C).length = meanC C (fun y => if y ∈ passL C then 0 else longC C y) ((passL C).getD i 0) := fun i => by
    unfold lvF
    rw [if_neg (Nat.lt_irrefl _)]
  have hw : IsFill C (passL C) (fun y => meanC C (fun y => if y ∈ passL C then 0 else longC C y) y) (fun _ => 0) (wt (passL C) (passL C).length p) := ⟨fun y hy => by
    obtain ⟨i, hi, _, e⟩ := take_getD (L := passL C) (m := (passL C).length) (by rw [List.take_length]; exact hy)
    have := hs i hi
    rw [lv_dot hn hi, ec] at this
    rw [← e, wt_at hn (Nat.le_refl _) hi]
    grind, fun y hy => wt_out (Nat.le_refl _) _ (by rw [List.take_length]; exact hy)⟩
  have h0 : IsFill C (passL C) (fun y => meanC C (fun y => if y ∈ passL C then 0 else longC C y) y) (fun _ => 0) (fun y => if y ∈ passL C then longC C y else 0) := ⟨fun y hy => by
    rw [if_pos hy, ← mean_addC]
    have a := (long_ok h).pas y hy
    rw [a]
    refine wsum_congr fun q _ => ?_
    show _ = (if _ then _ else _) + if _ then _ else _
    by_cases c : q.2 ∈ passL C
    · rw [if_pos c, if_pos c, Rat.zero_add]
    · rw [if_neg c, if_neg c, Rat.add_zero], fun y hy => if_neg hy⟩
  have e := fill_unique h pass_lt (out_pass h) hw h0 ((passL C).getD i 0)
  rw [wt_at hn (Nat.le_refl _) hi, if_pos (getD_mem hi)] at e
  exact e
theorem in_group (h : WfC C) {k : Nat} (hk : k < C.length) (hb : ∀ y ∈ reachL C k, k ∈ reachL C y) : ∃ x L, x ∈ headsL C ∧ reachL C x = x :: L ∧ IsGrp C x L ∧ reachL C k = x :: L ∧ k ∈ x :: L := by
  rcases pass_or (C := C) hk with q | ⟨x, hx, hkx⟩
  · exfalso
    -- from k some group is reached, so k is in it
    obtain ⟨w, x, hw, hx, hwx⟩ := grp_in h (Z := fun y => y ∈ reachL C k) (z := k) (self_mem h hk) (fun y hy => reach_lt hy) fun w hw q hq => (mem_reachL h hk).mpr (.step ((mem_reachL h hk).mp hw) hq)
    have hxl := (mem_heads.mp hx).1
    refine (mem_pass.mp q).2 x hx ?_
    exact (mem_reachL h hxl).mpr (((mem_reachL h hxl).mp hwx).trans ((mem_reachL h (reach_lt hw)).mp (hb w hw)))
  · obtain ⟨L, e, G⟩ := head_grp h hx
    rw [e] at hkx
    exact ⟨x, L, hx, e, G, G.al k hkx, hkx⟩
theorem not_group (h : WfC C) {k : Nat} (hk : k < C.length) : k ∈ passL C ↔ ¬ ∀ y ∈ reachL C k, k ∈ reachL C y := by
  constructor
  · intro hp hb
    obtain ⟨x, L, hx, e, G, _, hm⟩ := in_group h hk hb
    exact (mem_pass.mp hp).2 x hx (by rw [e]; exact hm)
  · intro hn
    rcases pass_or (C := C) hk with q | ⟨x, hx, hkx⟩
    · exact q
    · refine absurd (fun y hy => ?_) hn
      obtain ⟨L, e, G⟩ := head_grp h hx
      rw [e] at hkx
      have e2 := G.al k hkx
      rw [e2] at hy
      rw [G.al y hy]
      exact hkx
end
end Md
namespace Md
open PySem L2 Evl
structure LcOk (C : List PlC) (D : Nat) : Prop where
  W : WfC C
  l5 : C.length ≤ 5
  D0 : 0 < D
  Db : D ≤ 2 ^ 26
  dv : ∀ p ∈ C, ∀ q ∈ p.bs, q.1.2.natAbs ∣ D
section
variable {C : List PlC} {D : Nat}
theorem vl_toV {k : Nat} (hk : k < C.length) : vl (C.map ofC) k = ofC (plC C k) := by
  have h := vl_get (G := C.map ofC) (k := k) (by rw [List.length_map]; exact hk)
  rw [List.getElem?_map, plC_get hk] at h
  exact (Option.some.inj h).symm
theorem rch_toV (h : WfC C) {x y : Nat} (hx : x < C.length) : RchG (C.map ofC) x y ↔ Reach C x y := by
  constructor
  · intro r
    induction r with
    | refl => exact .refl
    | step r hq ih =>
      have hl := rchG_lt (ofC_wf h) (by rw [List.length_map]; exact hx) r
      rw [List.length_map] at hl
      rw [vl_toV hl] at hq
      exact .step ih hq
  · intro r
    induction r with
    | refl => exact .refl
    | step r hq ih =>
      have hl := r.lt h hx
      exact .step ih (by rw [vl_toV hl]; exact hq)
theorem rcL_toV (h : WfC C) {x : Nat} (hx : x < C.length) : rcL (C.map ofC) x = reachL C x := by
  unfold rcL reachL
  rw [List.length_map]
  refine List.filter_congr fun y _ => ?_
  exact decide_eq_decide.mpr (rch_toV h hx)
theorem LcOk.sc (x : LcOk C D) {k : Nat} (hk : k < C.length) : scaleC C k ∣ D := denL_to fun c hc => by
  obtain ⟨q, hq, rfl⟩ := List.mem_map.mp hc
  exact x.dv _ (List.mem_of_getElem? (plC_get hk)) q hq
theorem LcOk.mean (x : LcOk C D) {k : Nat} (hk : k < C.length) {f : Nat → Rat} {M B : Nat} (hf : ∀ y, y < C.length → NB M B (f y)) : NB (M * D) B (meanC C f k) := (nb_mean x.W hk hf).mono (Nat.mul_dvd_mul_left _ (x.sc hk)) (Nat.le_refl _)
theorem nb_ind {k y : Nat} : NB 1 1 (indN k y) := by
  unfold indN
  split
  · exact nb_one (Nat.le_refl _)
  · exact nb_zero _ _
theorem nb_01 {p : Prop} [Decidable p] : NB 1 1 (if p then (1 : Rat) else 0) := by
  split
  · exact nb_one (Nat.le_refl _)
  · exact nb_zero _ _
theorem LcOk.ent (x : LcOk C D) {p : Prop} [Decidable p] {k j : Nat} (hk : k < C.length) : NB D 2 ((if p then (1 : Rat) else 0) - meanC C (indN j) k) := by
  have a := (nb_01 (p := p)).mono (Nat.one_dvd D) (Nat.le_refl 1)
  have b := x.mean hk (f := indN j) fun y _ => nb_ind
  rw [Nat.one_mul] at b
  exact nb_sub a b
theorem nb_sc {M D B : Nat} {r : Rat} (h : NB (M * D) B r) : NB M (B * D) (r * natR D) := by
  refine ⟨zt_scale h.zt, ?_, ?_⟩
  · have := Rat.mul_le_mul_of_nonneg_right h.lo (natR_nonneg D)
    rw [natR_mul]
    grind
  · have := Rat.mul_le_mul_of_nonneg_right h.hi (natR_nonneg D)
    rw [natR_mul]
    exact this
theorem LcOk.cgR (x : LcOk C D) {l : List Nat} (hl : ∀ y ∈ l, y < C.length) {i : Nat} : RSz (2 * D) 1 (2 * D) l.length (cgF C l i) := by
  have D0 := x.D0
  by_cases q : i + 1 < l.length
  · refine ⟨D, D0, by omega, fun j hj => ?_, ?_⟩
    · unfold cgF
      rw [if_pos q, if_pos hj]
      have := x.ent (p := l.getD j 0 = l.getD (i + 1) 0) (k := l.getD j 0) (j := l.getD (i + 1) 0) (hl _ (getD_mem hj))
      exact nb_sc (by rw [Nat.one_mul]; exact this)
    · rw [cg_last, if_pos q, Rat.zero_mul]
      exact nb_zero _ _
  · have e : ∀ j, cgF C l i j = 1 := fun j => by
      unfold cgF
      rw [if_neg q]
    refine ⟨1, by decide, by omega, fun j _ => ?_, ?_⟩
    · rw [e, Rat.one_mul]
      exact (nb_nat 1).mono (Nat.dvd_refl _) (by omega)
    · rw [e, Rat.one_mul]
      exact (nb_nat 1).mono (Nat.dvd_refl _) (by omega)
theorem bG_le {A B : Nat} (h : A ≤ B) : ∀ c, bG A c ≤ bG B c
  | 0 => h
  | c + 1 => Nat.mul_le_mul_left 2 (Nat.mul_le_mul (bG_le h c) (bG_le h c))
theorem vG_le {A B V W : Nat} (h : A ≤ B) (hv : V ≤ W) : ∀ c, vG A V c ≤ vG B W c
  | 0 => hv
  | c + 1 => Nat.mul_le_mul_left 2 (Nat.mul_le_mul (bG_le h c) (vG_le h hv c))
theorem gj_ok {n B E V : Nat} (h5 : n ≤ 5) (h1 : 1 ≤ B) (h2 : B ≤ 2 ^ 27) (h3 : B ≤ V) (h4 : V ≤ 2 ^ 40) (h6 : 0 < E) (h7 : E ≤ 2 ^ 200) : GjOk n B E V := by
  refine ⟨by omega, h1, h3, h6, h7, ?_, ?_⟩
  · exact Nat.le_trans (bG_le h2 n) (Nat.le_trans (bG_mono (by decide) h5) (by decide +kernel))
  · exact Nat.le_trans (vG_le h2 h4 n) (Nat.le_trans (vG_mono (by decide) h5) (by decide +kernel))
theorem LcOk.long (x : LcOk C D) : ∃ E, 0 < E ∧ E ≤ 2 ^ 200 ∧ ∀ y, y < C.length → NB E 1000 (longC C y) := by
  obtain ⟨Z, z0, z1, hn⟩ := long_nb x.W
  obtain ⟨U, u0, u1, hu⟩ := unit_le x.W.p
  have d1 : denL (gainsC C) ∣ U := denL_to hu
  refine ⟨U * Z, Nat.mul_pos u0 z0, ?_, fun y hy => (hn y hy).mono (Nat.mul_dvd_mul_right d1 _) (Nat.le_refl _)⟩
  have a : 999 ^ C.length ≤ 999 ^ 5 := Nat.pow_le_pow_right (by decide) x.l5
  have b : 4320 ^ (2 * C.length) ≤ 4320 ^ 10 := Nat.pow_le_pow_right (by decide) (by have := x.l5; omega)
  exact Nat.le_trans (Nat.mul_le_mul (Nat.le_trans u1 a) (Nat.le_trans z1 b)) (by decide +kernel)
theorem LcOk.lvR (x : LcOk C D) {E : Nat} {l : List Nat} (hl : ∀ y ∈ l, y < C.length) (hE : ∀ y, y < C.length → NB E 1000 (longC C y)) {i : Nat} (hi : i < l.length) : RSz (2 * D) E (1000 * D) l.length (lvF C (longC C) l i) := by
  have D0 := x.D0
  have hk := hl _ (getD_mem hi)
  refine ⟨D, D0, by omega, fun j hj => ?_, ?_⟩
  · unfold lvF
    rw [if_pos hj]
    have := x.ent (p := l.getD j 0 = l.getD i 0) (k := l.getD i 0) (j := l.getD j 0) hk
    exact nb_sc (by rw [Nat.one_mul]; exact this)
  · unfold lvF
    rw [if_neg (Nat.lt_irrefl _)]
    refine nb_sc (x.mean hk fun y hy => ?_)
    split
    · exact nb_zero _ _
    · exact hE y hy
end
noncomputable section
def kLCg : Con := con2 fun u v P => ∃ (C : List PlC) (D x : Nat) (L : List Nat), u = chD C ∧ v = natsD (x :: L) ∧ LcOk C D ∧ x ∈ headsL C ∧ reachL C x = x :: L ∧ IsGrp C x L ∧ P (nQ (longC C x))
theorem kLCg_i {C : List PlC} {D x : Nat} {L : List Nat} {P : PyData → Prop} (h1 : LcOk C D) (h2 : x ∈ headsL C) (h3 : reachL C x = x :: L) (h4 : IsGrp C x L) (p : P (nQ (longC C x))) : kLCg [chD C, natsD (x :: L)] P := ⟨C, D, x, L, rfl, rfl, h1, h2, h3, h4, p⟩
def kLGn : ConN := conN1 fun u P => ∃ (C : List PlC) (D : Nat), u = chD C ∧ LcOk C D ∧ P ((List.range C.length).map fun k => nQ (longC C k))
theorem kLGn_i {C : List PlC} {D : Nat} {P : List PyData → Prop} (h1 : LcOk C D) (p : P ((List.range C.length).map fun k => nQ (longC C k))) : kLGn [chD C] P := ⟨C, D, rfl, h1, p⟩
end
end Md
namespace Md
open PySem L2 Evl
def rsC (C : List PlC) (l : List Nat) (k a t b : Nat) : Rat := if b < l.length then (if l.getD b 0 = k then 1 else 0) - (if b < a then meanC C (indN k) (l.getD b 0) else if b = a then wsum ((plC C (l.getD b 0)).bs.take t) (indN k) else 0) else 0
section
variable {C : List PlC} {D : Nat} {l : List Nat} {k a t b : Nat}
theorem rsC_start : rsC C l k 0 0 b = if b < l.length then (if l.getD b 0 = k then 1 else 0) else 0 := by
  unfold rsC
  by_cases q : b < l.length
  · rw [if_pos q, if_pos q, if_neg (Nat.not_lt_zero b)]
    have : (if b = 0 then wsum ((plC C (l.getD b 0)).bs.take 0) (indN k) else 0) = (0 : Rat) := by
      split
      · rw [List.take_zero]
        rfl
      · rfl
    rw [this]
    grind
  · rw [if_neg q, if_neg q]
theorem rsC_turn (ha : a < l.length) : rsC C l k a (plC C (l.getD a 0)).bs.length b = rsC C l k (a + 1) 0 b := by
  unfold rsC
  by_cases q : b < l.length
  · rw [if_pos q, if_pos q]
    by_cases q1 : b < a
    · rw [if_pos q1, if_pos (show b < a + 1 by omega)]
    · rw [if_neg q1]
      by_cases q2 : b = a
      · subst q2
        rw [if_pos rfl, if_pos (Nat.lt_succ_self b), List.take_length]
        rfl
      · rw [if_neg q2, if_neg (show ¬ b < a + 1 by omega)]
        have : (if b = a + 1 then wsum ((plC C (l.getD b 0)).bs.take 0) (indN k) else 0) = (0 : Rat) := by
          split
          · rw [List.take_zero]
            rfl
          · rfl
        rw [this]
  · rw [if_neg q, if_neg q]
theorem rsC_end {i : Nat} (hi : i + 1 < l.length) : rsC C l (l.getD (i + 1) 0) l.length 0 b = cgF C l i b := by
  unfold rsC cgF
  rw [if_pos hi]
  by_cases q : b < l.length
  · rw [if_pos q, if_pos q, if_pos q]
  · rw [if_neg q, if_neg q]
theorem take_wsum {bs : List BrC} {q : BrC} (h : bs[t]? = some q) (f : Nat → Rat) : wsum (bs.take (t + 1)) f = wsum (bs.take t) f + qN q.1 * f q.2 := by
  rw [List.take_add_one, h]
  exact wsum_snoc _ _ _
theorem rsC_step {q : BrC} (ha : a < l.length) (hq : (plC C (l.getD a 0)).bs[t]? = some q) : rsC C l k a (t + 1) b = if q.2 = k then (if b = a then rsC C l k a t a + -qN q.1 else rsC C l k a t b) else rsC C l k a t b := by
  have tw := take_wsum hq (indN k)
  by_cases c : b = a
  · subst c
    have e1 : ∀ t, rsC C l k b t b = (if l.getD b 0 = k then 1 else 0) - wsum ((plC C (l.getD b 0)).bs.take t) (indN k) := fun t => by
      unfold rsC
      rw [if_pos ha, if_neg (Nat.lt_irrefl b), if_pos rfl]
    rw [e1, e1, tw, if_pos rfl]
    unfold indN
    by_cases z : q.2 = k
    · rw [if_pos z, if_pos z]
      grind
    · rw [if_neg z, if_neg z]
      grind
  · have e1 : rsC C l k a (t + 1) b = rsC C l k a t b := by
      unfold rsC
      by_cases q : b < l.length
      · rw [if_pos q, if_pos q, if_neg c, if_neg c]
      · rw [if_neg q, if_neg q]
    rw [e1, if_neg c]
    split <;> rfl
theorem LcOk.part (x : LcOk C D) {y : Nat} (hy : y < C.length) {f : Nat → Rat} {M B : Nat} (hf : ∀ y, y < C.length → NB M B (f y)) (t : Nat) : NB (M * D) B (wsum ((plC C y).bs.take t) f) := by
  have hm := List.mem_of_getElem? (plC_get hy)
  exact (nb_part (x.W.p _ hm) (fun q hq => hf _ ((x.W.p _ hm).q q hq).2.2) t).mono (Nat.mul_dvd_mul_left _ (x.sc hy)) (Nat.le_refl _)
theorem LcOk.rs (x : LcOk C D) (hl : ∀ y ∈ l, y < C.length) : NB D 2 (rsC C l k a t b) := by
  unfold rsC
  split
  · rename_i hb
    have hy := hl _ (getD_mem hb)
    have a1 := (nb_01 (p := l.getD b 0 = k)).mono (Nat.one_dvd D) (Nat.le_refl 1)
    refine nb_sub (A := 1) (B := 1) a1 ?_
    split
    · have := x.mean hy (f := indN k) fun y _ => nb_ind
      rwa [Nat.one_mul] at this
    · split
      · have := x.part hy (f := indN k) (fun y _ => nb_ind) t
        rwa [Nat.one_mul] at this
      · exact nb_zero _ _
  · exact nb_zero _ _
end
end Md
namespace Md
open PySem L2 Evl
theorem sum_nb {A B : Nat} : ∀ {l : List Rat}, (∀ r ∈ l, ∃ M, 0 < M ∧ M ≤ A ∧ NB M B r) → ∃ M, 0 < M ∧ M ≤ A ^ l.length ∧ NB M (l.length * B) l.sum
  | [], _ => ⟨1, by decide, by rw [List.length_nil, Nat.pow_zero]; exact Nat.le_refl _, nb_zero _ _⟩
  | r :: l, h => by
    obtain ⟨M, m0, m1, hm⟩ := h r List.mem_cons_self
    obtain ⟨N, n0, n1, hn⟩ := sum_nb fun r hr => h r (List.mem_cons_of_mem _ hr)
    refine ⟨M * N, Nat.mul_pos m0 n0, ?_, ?_⟩
    · rw [List.length_cons, Nat.pow_succ, Nat.mul_comm]
      exact Nat.mul_le_mul n1 m1
    · rw [List.sum_cons, List.length_cons, Nat.add_mul, Nat.one_mul, Nat.add_comm]
      exact nb_add (hm.mono (Nat.dvd_mul_right _ _) (Nat.le_refl _)) (hn.mono (Nat.dvd_mul_left _ _) (Nat.le_refl _))
theorem sums_ok {A B n : Nat} {l : List Rat} (h : ∀ r ∈ l, ∃ M, 0 < M ∧ M ≤ A ∧ NB M B r) (hl : l.length ≤ n) (hn : n ≤ 1000) (hA : 1 ≤ A) (h1 : A ^ n < 2 ^ 1998) (h2 : n * B ≤ 2 ^ 1000) : ∀ i, i ≤ l.length → Ok (l.take i).sum := fun i hi => by
  obtain ⟨M, m0, m1, hm⟩ := sum_nb (l := l.take i) fun r hr => h r (List.mem_of_mem_take hr)
  have hl2 : (l.take i).length ≤ n := by rw [List.length_take]; omega
  exact nb_ok hm m0 (Nat.lt_of_le_of_lt (Nat.le_trans m1 (Nat.pow_le_pow_right hA hl2)) h1) (Nat.le_trans (Nat.mul_le_mul_right _ hl2) h2)
theorem sum_rng (n : Nat) (f : Nat → Rat) : ((List.range n).map f).sum = sumR n f := rfl
section
variable {C : List PlC} {x : Nat} {L : List Nat}
theorem cg_size (h : WfC C) (hx : x ∈ headsL C) (hr : reachL C x = x :: L) (G : IsGrp C x L) (h5 : (x :: L).length ≤ 5) {p : Nat → Rat} (hs : SolR (x :: L).length (cgF C (x :: L)) p) {a : Nat} (ha : a < (x :: L).length) : ∃ Z, 0 < Z ∧ Z ≤ 4320 ^ 10 ∧ NB Z 1 (p a) := by
  obtain ⟨h1, h2⟩ := cg_rows (C := C) hs
  have hl : 0 < (x :: L).length := Nat.zero_lt_succ _
  obtain ⟨m, Z, hm, z0, z1, hn⟩ := mean_exists h G (e := indN ((x :: L).getD a 0)) (M := 1) (B := 1) (by decide) (by decide) (Nat.one_lt_two_pow (by decide)) fun y _ => nb_ind
  have k := cg_key h G hm (p := p) fun j j1 hj => by
    rw [h1 j j1 hj, cg_last, if_pos (by omega)]
  rw [h2 hl, cg_last, if_neg (by omega), Rat.mul_one] at k
  have e : sumR (x :: L).length (fun b => p b * indN ((x :: L).getD a 0) ((x :: L).getD b 0)) = sumR (x :: L).length fun b => if b = a then p a else 0 := sumR_congr fun b hb => by
    unfold indN
    by_cases q : b = a
    · subst q
      rw [if_pos rfl, if_pos rfl, Rat.mul_one]
    · rw [if_neg q, if_neg fun e => q (nodup_getD G.nd hb ha e), Rat.mul_zero]
  rw [e, sumR_one _ ha] at k
  rw [Nat.one_mul] at hn
  refine ⟨Z, z0, Nat.le_trans z1 (Nat.pow_le_pow_right (by decide) ?_), by rw [k]; exact hn⟩
  have : (x :: L).length = L.length + 1 := rfl
  omega
end
end Md
namespace Md
open PySem L2 Evl
def lwC (C : List PlC) (g : Nat → Rat) (l : List Nat) (k t b : Nat) : Rat := if b < l.length then (if l.getD b 0 = k then 1 else 0) - wsum ((plC C k).bs.take t) (indN (l.getD b 0)) else wsum ((plC C k).bs.take t) fun y => if y ∈ l then 0 else g y
noncomputable def foC (C : List PlC) (k : Nat) : PyData := if k ∈ passL C then .none else nQ (longC C k)
section
variable {C : List PlC} {D : Nat} {g : Nat → Rat} {l : List Nat} {k t b : Nat}
theorem lwC_start : lwC C g l k 0 b = if b < l.length then (if l.getD b 0 = k then 1 else 0) else 0 := by
  unfold lwC
  rw [List.take_zero, wsum_nil, wsum_nil]
  split
  · grind
  · rfl
theorem lwC_end {i : Nat} : lwC C g l (l.getD i 0) (plC C (l.getD i 0)).bs.length b = lvF C g l i b := by
  unfold lwC lvF
  rw [List.take_length]
  rfl
theorem lwC_in {q : BrC} (hn : l.Nodup) {j : Nat} (hj : j < l.length) (hq : (plC C k).bs[t]? = some q) (e : l.getD j 0 = q.2) : lwC C g l k (t + 1) b = if b = j then lwC C g l k t j + -qN q.1 else lwC C g l k t b := by
  have hm : q.2 ∈ l := by rw [← e]; exact getD_mem hj
  unfold lwC
  rw [take_wsum hq, take_wsum hq]
  by_cases c : b = j
  · subst c
    rw [if_pos hj, if_pos rfl, if_pos hj]
    unfold indN
    rw [if_pos e.symm]
    grind
  · rw [if_neg c]
    split
    · rename_i hb
      unfold indN
      have hz : ¬ q.2 = l.getD b 0 := fun z => c (nodup_getD hn hb hj (by rw [e, z]))
      rw [if_neg hz]
      grind
    · first | (rw [Rat.mul_zero, Rat.add_zero]; done) | (rw [if_pos hm]; grind)
theorem lwC_out {q : BrC} (hq : (plC C k).bs[t]? = some q) (hm : q.2 ∉ l) (hb : b < l.length + 1) : lwC C g l k (t + 1) b = if b = l.length then lwC C g l k t l.length + qN q.1 * g q.2 else lwC C g l k t b := by
  unfold lwC
  rw [take_wsum hq, take_wsum hq]
  by_cases c : b = l.length
  · subst c
    rw [if_neg (Nat.lt_irrefl _), if_pos rfl, if_neg (Nat.lt_irrefl _), if_neg hm]
  · have hb2 : b < l.length := by omega
    rw [if_neg c, if_pos hb2, if_pos hb2]
    unfold indN
    have hz : ¬ q.2 = l.getD b 0 := fun z => hm (by rw [z]; exact getD_mem hb2)
    rw [if_neg hz]
    grind
theorem LcOk.lsA (x : LcOk C D) (hk : k < C.length) (hb : b < l.length) : NB D 2 (lwC C g l k t b) := by
  unfold lwC
  rw [if_pos hb]
  have a1 := (nb_01 (p := l.getD b 0 = k)).mono (Nat.one_dvd D) (Nat.le_refl 1)
  have a2 := x.part hk (f := indN (l.getD b 0)) (fun y _ => nb_ind) t
  rw [Nat.one_mul] at a2
  exact nb_sub (A := 1) (B := 1) a1 a2
theorem LcOk.lsB (x : LcOk C D) {E : Nat} (hk : k < C.length) (hg : ∀ y, y < C.length → NB E 1000 (g y)) : NB (E * D) 1000 (lwC C g l k t l.length) := by
  unfold lwC
  rw [if_neg (Nat.lt_irrefl _)]
  refine x.part hk (fun y hy => ?_) t
  split
  · exact nb_zero _ _
  · exact hg y hy
theorem pass_filter (C : List PlC) : (List.range C.length).filter (fun k => decide (k ∈ passL C)) = passL C := by
  unfold passL
  refine List.filter_congr fun k hk => ?_
  rw [Bool.eq_iff_iff, decide_eq_true_iff, List.mem_filter]
  exact ⟨fun h => h.2, fun h => ⟨hk, h⟩⟩
theorem foC_no : isNo (foC C k) = decide (k ∈ passL C) := by
  unfold foC
  split
  · rename_i h
    rw [decide_eq_true h]
    rfl
  · rename_i h
    rw [decide_eq_false h]
    rfl
end
end Md
namespace Md
open PySem L2 Evl
theorem onSq_chD {C : List PlC} {k : List PyData → Prop} : onSq (chD C) k = k (C.map PlC.D) := rfl
theorem rngx_at {n k : Nat} {f : Nat → PyData} (h : k < n) : L2.atI ((List.range n).map f) (k : Int) = some (f k) := atI_nat (by rw [List.getElem?_map, List.getElem?_range h]; rfl)
theorem rng_set {n j : Nat} {f : Nat → PyData} {x : PyData} : ((List.range n).map f).set j x = (List.range n).map fun k => if k = j then x else f k := by
  refine List.ext_getElem? fun k => ?_
  rw [List.getElem?_set, List.length_map, List.length_range]
  by_cases c : j = k
  · subst c
    rw [if_pos rfl]
    by_cases q : j < n
    · rw [if_pos q, List.getElem?_map, List.getElem?_range q]
      show _ = some (if j = j then x else f j)
      rw [if_pos rfl]
    · rw [if_neg q]
      exact (List.getElem?_eq_none (by rw [List.length_map, List.length_range]; omega)).symm
  · rw [if_neg c, List.getElem?_map, List.getElem?_map]
    by_cases q : k < n
    · rw [List.getElem?_range q]
      show some (f k) = some (if k = j then x else f k)
      rw [if_neg fun e => c e.symm]
    · rw [List.getElem?_eq_none (by rw [List.length_range]; omega)]
      rfl
theorem rng_congr {n : Nat} {f g : Nat → PyData} (h : ∀ k, k < n → f k = g k) : (List.range n).map f = (List.range n).map g := List.map_congr_left fun k hk => h k (List.mem_range.mp hk)
theorem idx_mem {l : List Nat} (hn : l.Nodup) {x : Nat} (hx : x ∈ l) {Q : Nat → Prop} (q : ∀ a, a < l.length → l.getD a 0 = x → Q a) : ∃ (j : Nat) (z : PyData), (l.map fun x : Nat => PyData.int (x : Int))[j]? = some z ∧ PyData.eqv z (.int (x : Int)) = true ∧ (∀ (m : Nat) (z' : PyData), m < j → (l.map fun x : Nat => PyData.int (x : Int))[m]? = some z' → PyData.eqv z' (.int (x : Int)) = false) ∧ Q j := by
  obtain ⟨a, ha, _, e⟩ := take_getD (L := l) (m := l.length) (by rw [List.take_length]; exact hx)
  have := idx_nats hn ha (q a ha e)
  rwa [e] at this
theorem any_natL {l : List Nat} {k : Nat} : (l.map fun x : Nat => PyData.int (x : Int)).any (fun z => PyData.eqv z (.int (k : Int))) = decide (k ∈ l) := any_nats
end Md
namespace Md
open PySem L2 Evl
noncomputable def fkC (C : List PlC) (k j : Nat) : PyData := if j ∈ (passL C).take k then nQ (longC C j) else foC C j
theorem fkC_start {C : List PlC} {j : Nat} : fkC C 0 j = foC C j := by
  unfold fkC
  rw [List.take_zero, if_neg (by simp)]
theorem fkC_step {C : List PlC} {k j : Nat} (hk : k < (passL C).length) : fkC C (k + 1) j = if j = (passL C).getD k 0 then nQ (longC C ((passL C).getD k 0)) else fkC C k j := by
  have e : (passL C).take (k + 1) = (passL C).take k ++ [(passL C).getD k 0] := by
    rw [List.take_add_one, List.getElem?_eq_getElem hk, List.getD_eq_getElem?_getD, List.getElem?_eq_getElem hk]
    rfl
  unfold fkC
  rw [e]
  by_cases c : j = (passL C).getD k 0
  · rw [if_pos c, if_pos (List.mem_append_right _ (List.mem_singleton.mpr c)), c]
  · rw [if_neg c]
    by_cases d : j ∈ (passL C).take k
    · rw [if_pos d, if_pos (List.mem_append_left _ d)]
    · rw [if_neg d, if_neg fun h => (List.mem_append.mp h).elim d fun h => c (List.mem_singleton.mp h)]
theorem fkC_end {C : List PlC} {j : Nat} : fkC C (passL C).length j = nQ (longC C j) := by
  unfold fkC foC
  rw [List.take_length]
  split <;> rfl
end Md
set_option Elab.async false
set_option linter.all false
set_option maxRecDepth 100000
set_option maxHeartbeats 2000000
namespace Md
open PySem L2 Evl
section
variable {G : List PlV} {c d e : Nat → Nat} {g h : Nat → Rat} {M0 : Nat}
theorem LowC.chain (x : RigOk G M0) (r : LowC G c g h) (he : OkC G e) (hd : ∀ y, y < G.length → (vl G y).k = some true → e y = c y) : ∀ y, y < G.length → g y ≤ longC (chV G e) y := by
  have hl : (chV G e).length = G.length := chV_len
  have ll : ∀ y, y < G.length → 0 ≤ shQ G g (y, e y) ∧ 0 ≤ boQ G g h (y, e y) := fun y hy => by
    cases q : (vl G y).k with
    | none =>
      have := r.s _ (ct_draw hy q)
      unfold shQ boQ at this ⊢
      show 0 ≤ nxQ (vl G y) g (e y) - g y ∧ 0 ≤ gnV G y + nxQ (vl G y) h (e y) - (g y + h y)
      rw [nx_any (f := g) (j := 0) q, nx_any (f := h) (j := 0) q]
      exact this
    | some o =>
      cases o with
      | true =>
        rw [hd y hy q]
        exact r.s _ (ct_own hy q)
      | false => exact r.s _ (ct_all hy q (by decide) (he y hy (by rw [q]; intro z; cases z)))
  have A := sub_long (g := g) (k := h) (x.wfc he) (fun p hp => x.ex he hp) (fun y hy => by
    rw [hl] at hy
    rw [mean_nx hy]
    have := (ll y hy).1
    unfold shQ at this
    grind) (fun y hy => by
    rw [hl] at hy
    rw [mean_nx hy, chV_gain hy]
    have := (ll y hy).2
    unfold boQ gnV at this
    grind)
  exact fun y hy => A y (by rw [hl]; exact hy)
theorem UppC.chain (x : RigOk G M0) (r : UppC G c g h) (he : OkC G e) (hd : ∀ y, y < G.length → (vl G y).k = some false → e y = c y) : ∀ y, y < G.length → longC (chV G e) y ≤ g y := by
  have hl : (chV G e).length = G.length := chV_len
  have uu : ∀ y, y < G.length → shQ G g (y, e y) ≤ 0 ∧ boQ G g h (y, e y) ≤ 0 := fun y hy => by
    cases q : (vl G y).k with
    | none =>
      have := r.s _ (ct_draw hy q)
      unfold shQ boQ at this ⊢
      show nxQ (vl G y) g (e y) - g y ≤ 0 ∧ gnV G y + nxQ (vl G y) h (e y) - (g y + h y) ≤ 0
      rw [nx_any (f := g) (j := 0) q, nx_any (f := h) (j := 0) q]
      exact this
    | some o =>
      cases o with
      | false =>
        rw [hd y hy q]
        exact r.s _ (ct_own hy q)
      | true => exact r.s _ (ct_all hy q (by decide) (he y hy (by rw [q]; intro z; cases z)))
  have B := sup_long (g := g) (k := h) (x.wfc he) (fun p hp => x.ex he hp) (fun y hy => by
    rw [hl] at hy
    rw [mean_nx hy]
    have := (uu y hy).1
    unfold shQ at this
    grind) (fun y hy => by
    rw [hl] at hy
    rw [mean_nx hy, chV_gain hy]
    have := (uu y hy).2
    unfold boQ gnV at this
    grind)
  exact fun y hy => B y (by rw [hl]; exact hy)
end
def cR (row : List PyData) (k : Nat) : Nat := match row.getD k .none with
  | .int z => z.toNat
  | _ => 0
section
variable {G : List PlV} {o : Bool}
theorem al_at : ∀ {i : Nat} {row : List PyData}, row ∈ alF G o i → ∀ k, k < i → if (vl G k).k = some o then row.getD k .none = .int (cR row k : Int) ∧ cR row k < (vl G k).bs.length else row.getD k .none = .none
  | 0, row, h, k, hk => absurd hk (Nat.not_lt_zero _)
  | i + 1, row, h, k, hk => by
    unfold alF at h
    split at h
    · rename_i hi
      obtain ⟨r, hr, h⟩ := List.mem_flatMap.mp h
      obtain ⟨b, hb, rfl⟩ := List.mem_map.mp h
      have hb := List.mem_range.mp hb
      have hl := al_row hr
      rcases Nat.lt_or_ge k i with q | q
      · have ih := al_at hr k q
        have e : (r ++ [PyData.int (b : Int)]).getD k .none = r.getD k .none := by
          rw [List.getD_eq_getElem?_getD, List.getD_eq_getElem?_getD, List.getElem?_append_left (by omega)]
        have e2 : cR (r ++ [PyData.int (b : Int)]) k = cR r k := by unfold cR; rw [e]
        rw [e, e2]
        exact ih
      · have ek : k = i := by omega
        subst ek
        have e : (r ++ [PyData.int (b : Int)]).getD k .none = .int (b : Int) := by
          rw [List.getD_eq_getElem?_getD, List.getElem?_append_right (by omega), hl, Nat.sub_self]
          rfl
        have e2 : cR (r ++ [PyData.int (b : Int)]) k = b := by unfold cR; rw [e]; rfl
        rw [if_pos hi, e, e2]
        exact ⟨rfl, hb⟩
    · rename_i hi
      obtain ⟨r, hr, rfl⟩ := List.mem_map.mp h
      have hl := al_row hr
      rcases Nat.lt_or_ge k i with q | q
      · have ih := al_at hr k q
        have e : (r ++ [PyData.none]).getD k .none = r.getD k .none := by
          rw [List.getD_eq_getElem?_getD, List.getD_eq_getElem?_getD, List.getElem?_append_left (by omega)]
        have e2 : cR (r ++ [PyData.none]) k = cR r k := by unfold cR; rw [e]
        rw [e, e2]
        exact ih
      · have ek : k = i := by omega
        subst ek
        rw [if_neg hi, List.getD_eq_getElem?_getD, List.getElem?_append_right (by omega), hl, Nat.sub_self]
        rfl
theorem al_says {row : List PyData} (h : row ∈ alF G o G.length) : Says G o (cR row) fun k => row.getD k .none := fun k hk e => by
  have := al_at h k hk
  rw [if_pos e] at this
  exact this
theorem al_list {row : List PyData} {i : Nat} (h : row ∈ alF G o i) : row = (List.range i).map fun k => row.getD k .none := by
  have hl := al_row h
  subst hl
  refine List.ext_getElem? fun k => ?_
  rw [List.getElem?_map]
  by_cases q : k < row.length
  · rw [List.getElem?_range q, List.getElem?_eq_getElem q]
    show _ = some (row.getD k .none)
    rw [List.getD_eq_getElem?_getD, List.getElem?_eq_getElem q]
    rfl
  · rw [List.getElem?_eq_none (by omega), List.getElem?_eq_none (by rw [List.length_range]; omega)]
    rfl
theorem al_has {c : Nat → Nat} : ∀ {i : Nat}, (∀ k, k < i → (vl G k).k = some o → c k < (vl G k).bs.length) → ((List.range i).map (stC G o c)) ∈ alF G o i
  | 0, _ => List.mem_singleton.mpr rfl
  | i + 1, h => by
    have ih := al_has (i := i) fun k hk => h k (by omega)
    rw [List.range_succ, List.map_append]
    unfold alF
    split
    · rename_i hi
      refine List.mem_flatMap.mpr ⟨_, ih, List.mem_map.mpr ⟨c i, List.mem_range.mpr (h i (Nat.lt_succ_self i) hi), ?_⟩⟩
      rw [List.map_cons, List.map_nil]
      unfold stC
      rw [if_pos hi]
    · rename_i hi
      refine List.mem_map.mpr ⟨_, ih, ?_⟩
      rw [List.map_cons, List.map_nil]
      unfold stC
      rw [if_neg hi]
theorem cR_st {c : Nat → Nat} {n k : Nat} (hk : k < n) (e : (vl G k).k = some o) : cR ((List.range n).map (stC G o c)) k = c k := by
  unfold cR
  rw [List.getD_eq_getElem?_getD, List.getElem?_map, List.getElem?_range hk]
  show (match stC G o c k with | .int z => z.toNat | _ => 0) = c k
  unfold stC
  rw [if_pos e]
  rfl
theorem put_len {c : Nat → Nat} : (putV G o c).length = G.length := by
  unfold putV
  rw [List.length_map, List.length_range]
theorem put_vl {c : Nat → Nat} {k : Nat} (hk : k < G.length) : vl (putV G o c) k = pcP (vl G k) o (c k) := vl_range hk
theorem al_put {c : Nat → Nat} : ∀ {i : Nat}, i ≤ G.length → alF (putV G true c) false i = alF G false i
  | 0, _ => rfl
  | i + 1, h => by
    have ih := al_put (c := c) (i := i) (by omega)
    unfold alF
    rw [ih, put_vl (by omega)]
    unfold pcP
    by_cases q : (vl G i).k = some true
    · rw [if_pos q]
      show (if (none : Option Bool) = some false then _ else _) = _
      rw [if_neg (by intro z; cases z), if_neg (by rw [q]; intro z; cases z)]
    · rw [if_neg q]
theorem put_congr {c d : Nat → Nat} (h : ∀ k, k < G.length → (vl G k).k = some o → c k = d k) : putV G o c = putV G o d := by
  unfold putV
  refine List.map_congr_left fun k hk => ?_
  unfold pcP
  split
  · rename_i e
    rw [h k (List.mem_range.mp hk) e]
  · rfl
end
def dR (G : List PlV) (r s : List PyData) (k : Nat) : Nat := if (vl G k).k = some true then cR r k else cR s k
section
variable {G : List PlV} {r s : List PyData}
theorem dR_ok (hr : r ∈ alF G true G.length) (hs : s ∈ alF G false G.length) : OkC G (dR G r s) := fun k hk hn => by
  unfold dR
  cases q : (vl G k).k with
  | none => exact absurd q hn
  | some o =>
    cases o with
    | true =>
      rw [if_pos rfl]
      exact (al_says hr k hk q).2
    | false =>
      rw [if_neg (by intro z; cases z)]
      exact (al_says hs k hk q).2
theorem put_two : (putV (putV G true (cR r)) false (cR s)).map PlV.D = (chV G (dR G r s)).map PlC.D := by
  have e1 : putV G true (cR r) = putV G true (dR G r s) := put_congr fun k hk e => by
    unfold dR
    rw [if_pos e]
  rw [e1, ← put_both]
  congr 1
  refine put_congr fun k hk e => ?_
  rw [put_len] at hk
  unfold dR
  rw [if_neg fun z => ?_]
  rw [put_vl hk] at e
  unfold pcP at e
  rw [if_pos z] at e
  cases e
end
noncomputable def mnV (G : List PlV) (r : List PyData) (k : Nat) : Rat := tkQ false ((alF G false G.length).map fun s => longC (chV G (dR G r s)) k)
section
variable {G : List PlV} {c : Nat → Nat} {g h : Nat → Rat} {M0 : Nat}
theorem al_pos {o : Bool} : ∀ {i : Nat}, (∀ k, k < i → 1 ≤ (vl G k).bs.length) → 0 < (alF G o i).length
  | 0, _ => Nat.zero_lt_succ _
  | i + 1, h => by
    have ih := al_pos (o := o) (i := i) fun k hk => h k (by omega)
    obtain ⟨r, hr⟩ := List.exists_mem_of_length_pos ih
    have hb := h i (Nat.lt_succ_self i)
    unfold alF
    split
    · exact List.length_pos_of_mem (List.mem_flatMap.mpr ⟨r, hr, List.mem_map.mpr ⟨0, List.mem_range.mpr hb, rfl⟩⟩)
    · rw [List.length_map]
      exact ih
theorem wf_pos {w : Nat} (hW : WfVG w G) : ∀ k, k < G.length → 1 ≤ (vl G k).bs.length := fun k hk => (vl_wf hW hk).l1
theorem val_pairs (x : RigOk G M0) (r : RightC G c g h) {k : Nat} (hk : k < G.length) : tkQ true ((alF G true G.length).map fun a => mnV G a k) = g k := by
  have so : ((List.range G.length).map (stC G true c)) ∈ alF G true G.length := al_has fun k hk e => r.ok k hk (by rw [e]; intro z; cases z)
  have st : ((List.range G.length).map (stC G false c)) ∈ alF G false G.length := al_has fun k hk e => r.ok k hk (by rw [e]; intro z; cases z)
  have up : ∀ a ∈ alF G true G.length, mnV G a k ≤ g k := fun a ha => by
    unfold mnV
    have h1 := tk_lo (List.mem_map.mpr ⟨_, st, rfl⟩ : longC (chV G (dR G a ((List.range G.length).map (stC G false c)))) k ∈ (alF G false G.length).map fun s => longC (chV G (dR G a s)) k)
    have h2 := r.toUpp.chain x (dR_ok ha st) (fun y hy e => by
      unfold dR
      rw [if_neg (by rw [e]; intro z; cases z), cR_st hy e]) k hk
    exact Rat.le_trans h1 h2
  have lo : g k ≤ mnV G ((List.range G.length).map (stC G true c)) k := by
    unfold mnV
    have hm := tk_mem (o := false) (l := (alF G false G.length).map fun s => longC (chV G (dR G ((List.range G.length).map (stC G true c)) s)) k) (by rw [List.length_map]; exact al_pos (wf_pos x.W))
    obtain ⟨s, hs, e⟩ := List.mem_map.mp hm
    rw [← e]
    exact r.toLow.chain x (dR_ok so hs) (fun y hy e => by
      unfold dR
      rw [if_pos e, cR_st hy e]) k hk
  refine tk_is (List.mem_map.mpr ⟨_, so, Rat.le_antisymm (up _ so) lo⟩) fun y hy => ?_
  rw [if_pos rfl]
  obtain ⟨a, ha, rfl⟩ := List.mem_map.mp hy
  exact up a ha
structure LvOk (G : List PlV) (M0 D : Nat) : Prop where
  R : RigOk G M0
  l5 : G.length ≤ 5
  D0 : 0 < D
  Db : D ≤ 2 ^ 26
  dv : ∀ p ∈ G, p.k = none → ∀ q ∈ p.bs, q.1.2.natAbs ∣ D
  al : ∀ o i, i ≤ G.length → (alF G o i).length ≤ 1000
theorem LvOk.lc {D : Nat} (x : LvOk G M0 D) {d : Nat → Nat} (hd : OkC G d) : LcOk (chV G d) D := by
  refine ⟨x.R.wfc hd, by rw [chV_len]; exact x.l5, x.D0, x.Db, fun p hp q hq => ?_⟩
  unfold chV at hp
  obtain ⟨k, hk, rfl⟩ := List.mem_map.mp hp
  split at hq
  · rename_i hn
    exact x.dv _ (vl_mem (List.mem_range.mp hk)) hn q hq
  · rw [List.mem_singleton.mp hq]
    exact Nat.one_dvd _
theorem LvOk.ok {D : Nat} (x : LvOk G M0 D) {d : Nat → Nat} (hd : OkC G d) {k : Nat} (hk : k < G.length) : Ok (longC (chV G d) k) := by
  obtain ⟨E, E0, E2, hE⟩ := (x.lc hd).long
  exact nb_ok (hE k (by rw [chV_len]; exact hk)) E0 (Nat.lt_of_le_of_lt E2 (Nat.pow_lt_pow_right (by decide) (by decide))) (by decide +kernel)
theorem LvOk.okm {D : Nat} (x : LvOk G M0 D) {a : List PyData} (ha : a ∈ alF G true G.length) {k : Nat} (hk : k < G.length) : Ok (mnV G a k) := by
  unfold mnV
  have hm := tk_mem (o := false) (l := (alF G false G.length).map fun s => longC (chV G (dR G a s)) k) (by rw [List.length_map]; exact al_pos (wf_pos x.R.W))
  obtain ⟨s, hs, e⟩ := List.mem_map.mp hm
  rw [← e]
  exact x.ok (dR_ok ha hs) hk
end
noncomputable def lwV (G : List PlV) (k : Nat) : Rat := tkQ true ((alF G true G.length).map fun a => mnV G a k)
theorem lwV_is {G : List PlV} {M0 : Nat} {c : Nat → Nat} {g h : Nat → Rat} (x : RigOk G M0) (r : RightC G c g h) {k : Nat} (hk : k < G.length) : g k = lwV G k := (val_pairs x r hk).symm
theorem LvOk.okv {G : List PlV} {M0 D : Nat} (x : LvOk G M0 D) {k : Nat} (hk : k < G.length) : Ok (lwV G k) := by
  unfold lwV
  have hm := tk_mem (o := true) (l := (alF G true G.length).map fun a => mnV G a k) (by rw [List.length_map]; exact al_pos (wf_pos x.R.W))
  obtain ⟨s, hs, e⟩ := List.mem_map.mp hm
  rw [← e]
  exact x.okm hs hk
def kLVa : Con := con1 fun u P => ∃ (G : List PlV) (M0 D : Nat), u = gvD G ∧ LvOk G M0 D ∧ P (listQ G.length (lwV G))
theorem kLVa_i {G : List PlV} {M0 D : Nat} {P : PyData → Prop} (x : LvOk G M0 D) (p : P (listQ G.length (lwV G))) : kLVa [gvD G] P := ⟨G, M0, D, rfl, x, p⟩
end Md
namespace Md
open PySem L2 Evl
theorem kLwr_l {n : Nat} {s : Bool} {L : List (Nat → Rat)} {P : PyData → Prop} (h0 : 0 < L.length) (h1 : n ≤ 1000) (h2 : L.length ≤ 1000) (h3 : ∀ e ∈ L, ∀ k, k < n → Ok (e k)) (p : P (listQ n fun k => tkQ (!s) (L.map fun e => e k))) : kLwr [.list (L.map (listQ n)), .bool s] P := by
  cases L with
  | nil => exact absurd h0 (Nat.lt_irrefl _)
  | cons f L => exact kLwr_i h1 (by have : (f :: L).length = L.length + 1 := rfl; omega) h3 p
theorem vl_alF_put {G : List PlV} {c : Nat → Nat} : alF (putV G true c) false (putV G true c).length = alF G false G.length := by
  rw [put_len, al_put (Nat.le_refl _)]
end Md
set_option Elab.async false
set_option linter.all false
set_option maxRecDepth 100000
set_option maxHeartbeats 2000000
namespace Md
open PySem L2 Evl
theorem cutD_last {xs : List PyData} (h : 1 ≤ xs.length) : cutD xs none (some (-1)) = xs.take (xs.length - 1) := by
  unfold cutD
  have e1 : HT.sIx xs.length 0 none = 0 := rfl
  have e2 : HT.sIx xs.length xs.length (some (-1)) = xs.length - 1 := by
    show (if (-1 : Int) < 0 then ((-1 : Int) + (xs.length : Int)).toNat else min (-1 : Int).toNat xs.length) = _
    rw [if_pos (by decide)]
    omega
  rw [e1, e2, List.drop_zero, Nat.sub_zero]
theorem mem_vl {G : List PlV} {p : PlV} (h : p ∈ G) : ∃ x, x < G.length ∧ p = vl G x := by
  obtain ⟨x, hx, e⟩ := List.mem_iff_getElem.mp h
  refine ⟨x, hx, ?_⟩
  have := vl_get hx
  rw [List.getElem?_eq_getElem hx, e] at this
  exact Option.some.inj this
theorem atI_last {α : Type} {l : List α} {a : α} : L2.atI (l ++ [a]) (-1) = some a := by
  have e : L2.ixN (l ++ [a]).length (-1) = some l.length := by
    unfold L2.ixN
    rw [List.length_append]
    simp
    omega
  unfold L2.atI
  rw [e]
  simp
def prL (G : List PlV) : Nat → Nat
  | 0 => 1
  | i + 1 => prL G i * (if (vl G i).k = none then 1 else (vl G i).bs.length)
def szP (p : PlV) : Nat := if p.k = none then 0 else p.bs.length
structure CutG (G H : List PlV) : Prop where
  l : H.length = G.length
  g : ∀ x, x < G.length → (vl H x).g = (vl G x).g
  k : ∀ x, x < G.length → (vl H x).k = (vl G x).k
  d : ∀ x, x < G.length → (vl G x).k = none → (vl H x).bs = (vl G x).bs
  b : ∀ x, x < G.length → (vl H x).bs <+: (vl G x).bs ∧ 1 ≤ (vl H x).bs.length
section
variable {G H : List PlV} {w : Nat}
theorem al_le {o : Bool} : ∀ {i : Nat}, (∀ k, k < i → 1 ≤ (vl G k).bs.length) → (alF G o i).length ≤ prL G i
  | 0, _ => Nat.le_refl _
  | i + 1, h => by
    have ih := al_le (o := o) (i := i) fun k hk => h k (by omega)
    have hb := h i (Nat.lt_succ_self i)
    unfold alF
    split
    · rename_i e
      have lf : ∀ l : List (List PyData), (l.flatMap fun row => (List.range (vl G i).bs.length).map fun b : Nat => row ++ [PyData.int (b : Int)]).length = l.length * (vl G i).bs.length := fun l => by
        induction l with
        | nil => rw [List.flatMap_nil, List.length_nil, Nat.zero_mul]
        | cons r l ih => rw [List.flatMap_cons, List.length_append, List.length_map, List.length_range, ih, List.length_cons, Nat.add_mul, Nat.one_mul, Nat.add_comm]
      rw [lf]
      show _ ≤ prL G i * (if (vl G i).k = none then 1 else _)
      rw [if_neg (by rw [e]; intro z; cases z)]
      exact Nat.mul_le_mul_right _ ih
    · rw [List.length_map]
      refine Nat.le_trans ih (Nat.le_mul_of_pos_right _ ?_)
      split
      · exact Nat.one_pos
      · exact hb
theorem pr_mono (hb : ∀ k, k < n → 1 ≤ (vl G k).bs.length) : ∀ {i j : Nat}, i ≤ j → j ≤ n → prL G i ≤ prL G j := fun {i j} h hj => by
  induction j with
  | zero => rw [Nat.le_zero.mp h]; exact Nat.le_refl _
  | succ j ih =>
    rcases Nat.lt_or_ge j i with q | q
    · rw [show i = j + 1 by omega]; exact Nat.le_refl _
    · refine Nat.le_trans (ih q (by omega)) (Nat.le_mul_of_pos_right _ ?_)
      split
      · exact Nat.one_pos
      · exact hb j (by omega)
theorem CutG.refl (hW : WfVG w G) : CutG G G := ⟨rfl, fun _ _ => rfl, fun _ _ => rfl, fun _ _ _ => rfl, fun x hx => ⟨List.prefix_refl _, (vl_wf hW hx).l1⟩⟩
theorem CutG.wf (c : CutG G H) (hW : WfVG w G) : WfVG w H := by
  refine ⟨by rw [c.l]; exact hW.l1, by rw [c.l]; exact hW.l12, fun p hp => ?_⟩
  obtain ⟨x, hx, rfl⟩ := mem_vl hp
  rw [c.l] at hx ⊢
  have v := vl_wf hW hx
  have hb := c.b x hx
  have hs := hb.1.subset
  refine ⟨by rw [c.g x hx]; exact v.g, hb.2, Nat.le_trans hb.1.length_le v.l6, fun q hq => v.t q (hs hq), fun hk q hq => ?_, fun hk => ?_, fun hk => ?_⟩
  · rw [c.k x hx] at hk
    exact v.c hk q (hs hq)
  · rw [c.k x hx] at hk
    rw [c.d x hx hk]
    exact v.w hk
  · rw [c.k x hx] at hk
    rw [c.d x hx hk]
    exact v.s hk
theorem CutG.sh (c : CutG G H) (h : ShG G) : ShG H := fun p hp => by
  obtain ⟨x, hx, rfl⟩ := mem_vl hp
  rw [c.l] at hx
  rw [c.g x hx]
  exact h _ (vl_mem hx)
theorem CutG.pos (c : CutG G H) (h : PosG G) : PosG H := fun p hp hk q hq => by
  obtain ⟨x, hx, rfl⟩ := mem_vl hp
  rw [c.l] at hx
  rw [c.k x hx] at hk
  exact h _ (vl_mem hx) hk q ((c.b x hx).1.subset hq)
def cutP (p : PlV) : PlV := ⟨p.g, p.k, p.bs.take (p.bs.length - 1)⟩
theorem vl_set {x y : Nat} {p : PlV} (hx : x < H.length) : vl (H.set x p) y = if y = x then p else vl H y := by
  unfold vl
  rw [List.getD_eq_getElem?_getD, List.getElem?_set]
  by_cases c : x = y
  · subst c
    rw [if_pos rfl, if_pos hx, if_pos rfl]
    rfl
  · rw [if_neg c, if_neg fun e => c e.symm, List.getD_eq_getElem?_getD]
theorem CutG.step (c : CutG G H) {x : Nat} (hx : x < G.length) (hk : (vl H x).k ≠ none) (h2 : 2 ≤ (vl H x).bs.length) : CutG G (H.set x (cutP (vl H x))) := by
  have hxl : x < H.length := by rw [c.l]; exact hx
  refine ⟨by rw [List.length_set, c.l], fun y hy => ?_, fun y hy => ?_, fun y hy e => ?_, fun y hy => ?_⟩ <;> rw [vl_set hxl]
  · split
    · rename_i e
      rw [e]
      exact c.g x hx
    · exact c.g y hy
  · split
    · rename_i e
      rw [e]
      exact c.k x hx
    · exact c.k y hy
  · split
    · rename_i e2
      rw [e2] at e
      exact absurd ((c.k x hx).trans e) hk
    · exact c.d y hy e
  · split
    · rename_i e
      rw [e]
      have b := c.b x hx
      refine ⟨(List.take_prefix _ _).trans b.1, ?_⟩
      show 1 ≤ ((vl H x).bs.take _).length
      rw [List.length_take]
      omega
    · exact c.b y hy
def wtL (G : List PlV) : Nat → Nat
  | 0 => 0
  | i + 1 => wtL G i + szP (vl G i)
theorem wt_set {x : Nat} (hx : x < H.length) (hk : (vl H x).k ≠ none) (h2 : 2 ≤ (vl H x).bs.length) : ∀ i, wtL (H.set x (cutP (vl H x))) i + (if x < i then 1 else 0) = wtL H i
  | 0 => by rw [if_neg (Nat.not_lt_zero _)]; rfl
  | i + 1 => by
    have ih := wt_set hx hk h2 i
    show wtL (H.set x (cutP (vl H x))) i + szP (vl (H.set x (cutP (vl H x))) i) + _ = wtL H i + szP (vl H i)
    rw [vl_set hx]
    by_cases c : i = x
    · subst c
      rw [if_neg (Nat.lt_irrefl i)] at ih
      rw [if_pos rfl, if_pos (Nat.lt_succ_self i), ← ih]
      have e1 : szP (cutP (vl H i)) = (vl H i).bs.length - 1 := by
        unfold szP
        rw [if_neg (show (cutP (vl H i)).k ≠ none from hk)]
        show ((vl H i).bs.take _).length = _
        rw [List.length_take]
        omega
      have e2 : szP (vl H i) = (vl H i).bs.length := if_neg hk
      rw [e1, e2]
      omega
    · rw [if_neg c, ← ih]
      by_cases d : x < i
      · rw [if_pos d, if_pos (by omega)]
        omega
      · rw [if_neg d, if_neg (by omega)]
        omega
theorem pr_two : ∀ {i : Nat}, 1 < prL H i → ∃ x, x < i ∧ (vl H x).k ≠ none ∧ 2 ≤ (vl H x).bs.length
  | 0, h => absurd h (Nat.lt_irrefl _)
  | i + 1, h => by
    by_cases c : 1 < prL H i
    · obtain ⟨x, h1, h2⟩ := pr_two c
      exact ⟨x, by omega, h2⟩
    · have h : 1 < prL H i * (if (vl H i).k = none then 1 else (vl H i).bs.length) := h
      refine ⟨i, Nat.lt_succ_self i, ?_⟩
      by_cases d : (vl H i).k = none
      · rw [if_pos d, Nat.mul_one] at h
        exact absurd h c
      · rw [if_neg d] at h
        refine ⟨d, ?_⟩
        rcases Nat.lt_or_ge (vl H i).bs.length 2 with q | q
        · exfalso
          have : prL H i * (vl H i).bs.length ≤ 1 * 1 := Nat.mul_le_mul (by omega) (by omega)
          omega
        · exact q
theorem wt_le : ∀ {i : Nat}, (∀ x, x < i → (vl H x).bs.length ≤ 6) → wtL H i ≤ 6 * i
  | 0, _ => Nat.le_refl _
  | i + 1, h => by
    have ih := wt_le (i := i) fun x hx => h x (by omega)
    have h6 := h i (Nat.lt_succ_self i)
    show wtL H i + szP (vl H i) ≤ _
    have : szP (vl H i) ≤ 6 := by
      unfold szP
      split
      · exact Nat.zero_le _
      · exact h6
    omega
theorem set_D {x : Nat} {p : PlV} (hx : x < H.length) : (H.map PlV.D).take x ++ [p.D] ++ (H.map PlV.D).drop (x + 1) = (H.set x p).map PlV.D := by
  rw [List.map_set, List.set_eq_take_append_cons_drop, if_pos (by rw [List.length_map]; exact hx), List.append_assoc]
  rfl
theorem cut_el {p : PlV} : p.el.take (p.el.length - 1) = (cutP p).el := by
  rw [el_len]
  unfold PlV.el cutP
  cases p.k with
  | none => exact (List.map_take).symm
  | some o => exact (List.map_take).symm
end
def kFew : Con := con2 fun x y P => ∃ (G : List PlV) (w : Nat) (m : Nat), x = gvD G ∧ y = .int (m : Int) ∧ WfVG w G ∧ G.length ≤ 9 ∧ 1 ≤ m ∧ ∀ H, CutG G H → prL H G.length ≤ m → P (gvD H)
theorem kFew_i {G : List PlV} {w m : Nat} {P : PyData → Prop} (h1 : WfVG w G) (h2 : G.length ≤ 9) (h3 : 1 ≤ m) (p : ∀ H, CutG G H → prL H G.length ≤ m → P (gvD H)) : kFew [gvD G, .int (m : Int)] P := ⟨G, w, m, rfl, rfl, h1, h2, h3, p⟩
theorem CutG.lv {G H : List PlV} {m : Nat} (c : CutG G H) (hW : WfVG 30 G) (hS : ShG G) (hp : PosG G) (h5 : G.length ≤ 5) (hm : prL H G.length ≤ m) (h9 : m ≤ 1000) : LvOk H 6 (denL (chancesV H)) := by
  have hH := c.wf hW
  have hl := c.l
  have g := g30_den hH (n := 5) (by omega)
  refine ⟨rig_of hH (by decide) (c.sh hS) (c.pos hp), by omega, g.1, Nat.le_trans g.2 (by decide), fun p hp hk q hq => denL_dvd (chv_mem hp hk hq), fun o i hi => ?_⟩
  have hb := wf_pos hH
  rw [hl] at hi hb
  exact Nat.le_trans (al_le fun k hk => hb k (by omega)) (Nat.le_trans (pr_mono hb hi (Nat.le_refl _)) (Nat.le_trans hm h9))
end Md
namespace Md
open PySem L2 Evl
theorem idx_int {l : List Int} {m : Int} (hm : m ∈ l) {Q : Nat → Prop} (q : ∀ j, l[j]? = some m → Q j) : ∃ (j : Nat) (z : PyData), (l.map PyData.int)[j]? = some z ∧ PyData.eqv z (.int m) = true ∧ (∀ (i : Nat) (z' : PyData), i < j → (l.map PyData.int)[i]? = some z' → PyData.eqv z' (.int m) = false) ∧ Q j := by
  have hi := List.idxOf_lt_length_of_mem hm
  have e : l[l.idxOf m]? = some m := by
    rw [List.getElem?_eq_getElem hi, List.getElem_idxOf hi]
  refine ⟨l.idxOf m, .int m, ?_, ?_, fun i z' hlt hz => ?_, q _ e⟩
  · rw [List.getElem?_map, e]
    rfl
  · show (m == m) = true
    exact beq_self_eq_true _
  · rw [List.getElem?_map, List.getElem?_eq_getElem (by omega)] at hz
    cases hz
    show (l[i] == m) = false
    refine beq_eq_false_iff_ne.mpr fun e => ?_
    have := List.not_of_lt_findIdx (p := (· == m)) (i := i) (xs := l) hlt
    simp [e] at this
section
variable {G H : List PlV} {w : Nat}
theorem pr_le6 : ∀ {i : Nat}, (∀ x, x < i → (vl H x).bs.length ≤ 6) → prL H i ≤ 6 ^ i
  | 0, _ => Nat.le_refl _
  | i + 1, h => by
    have ih := pr_le6 (i := i) fun x hx => h x (by omega)
    have h6 := h i (Nat.lt_succ_self i)
    show prL H i * _ ≤ 6 ^ i * 6
    refine Nat.mul_le_mul ih ?_
    split
    · decide
    · exact h6
def szL (H : List PlV) (n : Nat) : List Int := (List.range n).map fun k => (szP (vl H k) : Int)
theorem szL_D {n : Nat} : (szL H n).map PyData.int = (List.range n).map fun k => PyData.int (szP (vl H k) : Int) := by
  unfold szL
  rw [List.map_map]
  rfl
theorem szL_at {n j : Nat} {m : Int} (h : (szL H n)[j]? = some m) : j < n ∧ m = (szP (vl H j) : Int) := by
  unfold szL at h
  rw [List.getElem?_map] at h
  have hj : j < n := by
    rcases Nat.lt_or_ge j n with q | q
    · exact q
    · rw [List.getElem?_eq_none (by rw [List.length_range]; exact q)] at h
      cases h
  rw [List.getElem?_range hj] at h
  exact ⟨hj, (Option.some.inj h).symm⟩
theorem sz_max {n j : Nat} {m : Int} (hp : 1 < prL H n) (hm : ∀ y ∈ szL H n, y ≤ m) (h : (szL H n)[j]? = some m) : j < n ∧ (vl H j).k ≠ none ∧ 2 ≤ (vl H j).bs.length := by
  obtain ⟨x, hx, hk, h2⟩ := pr_two hp
  obtain ⟨hj, rfl⟩ := szL_at h
  have a := hm (szP (vl H x) : Int) (List.mem_map.mpr ⟨x, List.mem_range.mpr hx, rfl⟩)
  have e : szP (vl H x) = (vl H x).bs.length := if_neg hk
  refine ⟨hj, ?_⟩
  unfold szP at a
  rw [if_neg hk] at a
  split at a
  · omega
  · rename_i q
    exact ⟨q, by omega⟩
theorem pr_step {i : Nat} (hb : 1 ≤ (vl H i).bs.length) : (prL H i : Int) * (if (szP (vl H i) : Int) > 1 then (szP (vl H i) : Int) else 1) = (prL H (i + 1) : Int) := by
  show _ = ((prL H i * (if (vl H i).k = none then 1 else (vl H i).bs.length) : Nat) : Int)
  rw [Int.natCast_mul]
  congr 1
  unfold szP
  by_cases q : (vl H i).k = none
  · rw [if_pos q, if_pos q]
    rfl
  · rw [if_neg q, if_neg q]
    split <;> omega
theorem small_mulW {a b : Int} (ha : a.natAbs < 2 ^ 64) (hb : b.natAbs < 2 ^ 64) : CMulW a b := wide_mul ha hb (by decide) (by decide) (by decide)
end
end Md
namespace Md
open PySem L2 Evl
section
variable {H : List PlV}
theorem onT_V {p : PlV} {k : List PyData → Prop} : onT p.D k = k [nD p.g, .str (kdV p.k), .list p.el] := rfl
theorem vD_at {j : Nat} (h : j < H.length) : L2.atI (H.map PlV.D) (j : Int) = some (vl H j).D := atI_nat (by rw [List.getElem?_map, vl_get h]; rfl)
theorem sh_sz {n : Nat} : SeqAt.shaped (.list ((List.range n).map fun k => PyData.int (szP (vl H k) : Int))) = true := by
  have e : (List.range n).map (fun k => PyData.int (szP (vl H k) : Int)) = ((List.range n).map fun k => szP (vl H k)).map fun x : Nat => PyData.int (x : Int) := by
    rw [List.map_map]
    rfl
  rw [e]
  exact sh_nats _
theorem cut_data {j : Nat} (hj : j < H.length) (h1 : 1 ≤ (vl H j).bs.length) : PyData.list (cutD (H.map PlV.D) none (some (j : Int)) ++ [PyData.tuple [nD (vl H j).g, .str (kdV (vl H j).k), .list (cutD (vl H j).el none (some (-1)))]] ++ cutD (H.map PlV.D) (some ((j : Int) + 1)) none) = gvD (H.set j (cutP (vl H j))) := by
  have e1 : cutD (H.map PlV.D) none (some (j : Int)) = (H.map PlV.D).take j := cutD_take (by rw [List.length_map]; omega)
  have e2 : cutD (H.map PlV.D) (some ((j : Int) + 1)) none = (H.map PlV.D).drop (j + 1) := by
    have : ((j : Int) + 1) = ((j + 1 : Nat) : Int) := by omega
    rw [this]
    exact cutD_drop (by rw [List.length_map]; omega)
  have e3 : cutD (vl H j).el none (some (-1)) = (cutP (vl H j)).el := by
    rw [cutD_last (by rw [el_len]; exact h1), cut_el]
  rw [e1, e2, e3]
  have e4 : PyData.tuple [nD (vl H j).g, .str (kdV (vl H j).k), .list (cutP (vl H j)).el] = (cutP (vl H j)).D := rfl
  rw [e4, set_D hj]
  rfl
theorem cut_lens {j : Nat} {x : PyData} (hj : j < H.length) (h12 : H.length ≤ 100) : (cutD (H.map PlV.D) none (some (j : Int))).length + 1 ≤ 100000 ∧ (cutD (H.map PlV.D) none (some (j : Int)) ++ [x]).length + (cutD (H.map PlV.D) (some ((j : Int) + 1)) none).length ≤ 100000 := by
  have e1 : cutD (H.map PlV.D) none (some (j : Int)) = (H.map PlV.D).take j := cutD_take (by rw [List.length_map]; omega)
  have e2 : cutD (H.map PlV.D) (some ((j : Int) + 1)) none = (H.map PlV.D).drop (j + 1) := by
    have : ((j : Int) + 1) = ((j + 1 : Nat) : Int) := by omega
    rw [this]
    exact cutD_drop (by rw [List.length_map]; omega)
  rw [e1, e2]
  simp only [List.length_append, List.length_take, List.length_drop, List.length_map, List.length_cons, List.length_nil]
  omega
end
end Md
set_option Elab.async false
set_option linter.all false
set_option maxRecDepth 100000
set_option maxHeartbeats 2000000
namespace Md
open PySem L2 Evl
def AnsQ (G : List PlV) (a : Nat) (r : Rat) : Prop := ∃ c g h M, RightC G c g h ∧ RwOk G 360 M (2 ^ 620) g h ∧ M < 2 ^ 1740 ∧ (∀ k, k < G.length → NB M 1000 (g k)) ∧ r = g a
end Md
namespace Md
open PySem L2 Evl
section
variable {G H : List PlV} {w M0 M1 D : Nat} {e : Nat → Rat}
theorem al_like (a : Alike G H) {o : Bool} : ∀ {i : Nat}, i ≤ G.length → alF H o i = alF G o i
  | 0, _ => rfl
  | i + 1, h => by
    have ih := al_like a (o := o) (i := i) (by omega)
    have hk := a.k i (by omega)
    unfold alF
    rw [ih, hk.1, hk.2]
theorem LvOk.gains (x : LvOk G M0 D) (r : RigOk (gG G e) M1) : LvOk (gG G e) M1 D := by
  refine ⟨r, by rw [gG_len]; exact x.l5, x.D0, x.Db, fun p hp hk q hq => ?_, fun o i hi => ?_⟩
  · obtain ⟨k, hk2, rfl⟩ := List.mem_map.mp hp
    exact x.dv _ (vl_mem (List.mem_range.mp hk2)) hk q hq
  · rw [gG_len] at hi
    rw [al_like gG_like hi]
    exact x.al o i hi
end
end Md
namespace Md
open PySem L2 Evl
theorem mod_nat (z : Int) {n : Nat} (hn : 0 < n) : ∃ t : Nat, z % (n : Int) = (t : Int) ∧ t < n := by
  have h1 := Int.emod_nonneg z (show (n : Int) ≠ 0 by omega)
  have h2 := Int.emod_lt_of_pos z (show (0 : Int) < (n : Int) by omega)
  exact ⟨(z % (n : Int)).toNat, by omega, by omega⟩
end Md
namespace Md
open PySem L2 Evl
theorem AnsQ.is {G : List PlV} {M0 a : Nat} {r : Rat} (x : RigOk G M0) (ha : a < G.length) (h : AnsQ G a r) : r = lwV G a := by
  obtain ⟨c, g, h', M, r1, _, _, _, rfl⟩ := h
  exact lwV_is x r1 ha
end Md
set_option Elab.async false
set_option linter.all false
set_option maxRecDepth 100000
set_option maxHeartbeats 2000000
namespace Md
open PySem L2 Evl
section
variable {G : List PlV} {w dn dd M0 : Nat}
theorem imp_all {o : Bool} {f : Nat → Rat} {c : Nat → Nat} (hW : WfVG w G) : Best G o c f ∨ ∃ y, y < G.length ∧ impC G o f c y ≠ c y := by
  rcases Classical.em (∃ y, y < G.length ∧ impC G o f c y ≠ c y) with z | z
  · exact Or.inr z
  · refine Or.inl (imp_fix hW fun x hx _ => ?_)
    rcases Classical.em (impC G o f c x = c x) with q | q
    · exact q
    · exact absurd ⟨x, hx, q⟩ z
theorem imp_othr {o p : Bool} {f : Nat → Rat} {c : Nat → Nat} {x : Nat} (h : (vl G x).k = some p) (hp : p ≠ o) : impC G o f c x = c x := by
  unfold impC
  rw [if_neg fun z => ?_]
  rw [h] at z
  exact hp (Option.some.inj z.1)
theorem reply_ex (x : GamOk G w dn dd M0) (h : 0 < dn) : ∀ (m : Nat) (c : Nat → Nat), OkC G c → msL G (natR dn / natR dd) c ≤ m → ∃ d v, OkC G d ∧ (∀ z, z < G.length → (vl G z).k = some true → d z = c z) ∧ IsWor (chV G d) (natR dn / natR dd) (gnV G) v ∧ Best G false d v
  | 0, c, hc, hm => by
    obtain ⟨v, hv⟩ := x.ex hc
    rcases imp_all (o := false) (f := v) (c := c) x.W with hb | ⟨y, hy, hne⟩
    · exact ⟨c, v, hc, fun _ _ _ => rfl, hv, hb⟩
    · have := imp_less x h hc hv hy hne
      omega
  | m + 1, c, hc, hm => by
    obtain ⟨v, hv⟩ := x.ex hc
    rcases imp_all (o := false) (f := v) (c := c) x.W with hb | ⟨y, hy, hne⟩
    · exact ⟨c, v, hc, fun _ _ _ => rfl, hv, hb⟩
    · have hl := imp_less x h hc hv hy hne
      obtain ⟨d, u, hd, ho, hu, hB⟩ := reply_ex x h m _ (imp_ok (o := false) (f := v) x.W hc) (by omega)
      exact ⟨d, u, hd, fun z hz hk => by rw [ho z hz hk, imp_othr hk (by decide)], hu, hB⟩
theorem both_ex (x : GamOk G w dn dd M0) (h : 0 < dn) : ∀ (m : Nat) (c : Nat → Nat) (v : Nat → Rat), OkC G c → IsWor (chV G c) (natR dn / natR dd) (gnV G) v → Best G false c v → msG G (natR dn / natR dd) (sumW G.length (wch G (natR dn / natR dd) c)) ≤ m → ∃ d u, OkC G d ∧ IsWor (chV G d) (natR dn / natR dd) (gnV G) u ∧ Best G true d u ∧ Best G false d u := by
  intro m
  induction m with
  | zero =>
    intro c v hc hv hB hm
    rcases imp_all (o := true) (f := v) (c := c) x.W with hb | ⟨y, hy, hne⟩
    · exact ⟨c, v, hc, hv, hb, hB⟩
    · obtain ⟨d, u, hd, ho, hu, hB2⟩ := reply_ex x h _ _ (imp_ok (o := true) (f := v) x.W hc) (Nat.le_refl _)
      have hl := imp_more x h hc hv hB hy hne hd ho
      have := msG_lt x.W hd hl
      omega
  | succ m ih =>
    intro c v hc hv hB hm
    rcases imp_all (o := true) (f := v) (c := c) x.W with hb | ⟨y, hy, hne⟩
    · exact ⟨c, v, hc, hv, hb, hB⟩
    · obtain ⟨d, u, hd, ho, hu, hB2⟩ := reply_ex x h _ _ (imp_ok (o := true) (f := v) x.W hc) (Nat.le_refl _)
      have hl := imp_more x h hc hv hB hy hne hd ho
      have := msG_lt x.W hd hl
      exact ih d u hd hu hB2 (by omega)
theorem lift_max {l : List (Rat × Rat)} (hb : ∀ s ∈ l, ¬ BadS s) : ∃ t, ∀ s ∈ l, 0 < s.1 → -s.2 / s.1 ≤ t := by
  induction l with
  | nil => exact ⟨0, fun s hs => by cases hs⟩
  | cons a l ih =>
    obtain ⟨t, ht⟩ := ih fun s hs => hb s (List.mem_cons_of_mem _ hs)
    rcases Rat.le_total (a := t) (b := -a.2 / a.1) with q | q
    · exact ⟨-a.2 / a.1, fun s hs h0 => by
        rcases List.mem_cons.mp hs with rfl | hs
        · exact Rat.le_refl
        · exact Rat.le_trans (ht s hs h0) q⟩
    · exact ⟨t, fun s hs h0 => by
        rcases List.mem_cons.mp hs with rfl | hs
        · exact q
        · exact ht s hs h0⟩
theorem RigOk.right (x : RigOk G M0) : ∃ c g h, RightC G c g h := by
  have y := x.gam (k := 512) (by decide) (by decide)
  have h0 : 0 < 2 ^ 512 - 1 := by decide +kernel
  have hc0 : OkC G fun _ => 0 := fun z hz hk => (vl_wf x.W hz).l1
  obtain ⟨d0, v0, hd0, _, hv0, hB0⟩ := reply_ex y h0 _ _ hc0 (Nat.le_refl _)
  obtain ⟨d, u, hd, hu, h1, h2⟩ := both_ex y h0 _ d0 v0 hd0 hv0 hB0 (Nat.le_refl _)
  have hg := best_good x hd (N := 2 ^ 512) (Nat.le_refl _) hu h1 h2
  obtain ⟨t, ht⟩ := lift_max hg
  exact ⟨d, _, _, right_lift hd hg ht⟩
end
end Md
namespace Md
open PySem L2 Evl
section
variable {G : List PlV} {w : Nat}
theorem ri_lo (hW : WfVG w G) {t : Nat} {m : Rat} (h : ∀ x, x < G.length → m ≤ wG G 1 (t + 1) x - wG G 1 t x) : ∀ x, x < G.length → m ≤ wG G 1 (t + 2) x - wG G 1 (t + 1) x := fun x hx => by
  have a := vW_near (vl_wf hW hx) (f := wG G 1 t) (g := wG G 1 (t + 1)) (c := -m) fun j hj => by
    have := h j hj
    grind
  show m ≤ (qN (vl G x).g + 1 * vW (vl G x) (wG G 1 (t + 1))) - (qN (vl G x).g + 1 * vW (vl G x) (wG G 1 t))
  grind
theorem ri_hi (hW : WfVG w G) {t : Nat} {m : Rat} (h : ∀ x, x < G.length → wG G 1 (t + 1) x - wG G 1 t x ≤ m) : ∀ x, x < G.length → wG G 1 (t + 2) x - wG G 1 (t + 1) x ≤ m := fun x hx => by
  have a := vW_near (vl_wf hW hx) (f := wG G 1 (t + 1)) (g := wG G 1 t) (c := m) fun j hj => by
    have := h j hj
    grind
  show (qN (vl G x).g + 1 * vW (vl G x) (wG G 1 (t + 1))) - (qN (vl G x).g + 1 * vW (vl G x) (wG G 1 t)) ≤ m
  grind
theorem ri_len {t : Nat} : (riL G t).length = G.length := by
  unfold riL
  rw [List.length_map, List.length_range]
theorem ri_mem {t x : Nat} (hx : x < G.length) : wG G 1 (t + 1) x - wG G 1 t x ∈ riL G t := List.mem_map.mpr ⟨x, List.mem_range.mpr hx, rfl⟩
theorem Wor.ri {U T : Nat} (x : Wor G w U T) {t : Nat} (ht : t ≤ T) : ∀ r ∈ riL G t, Ok r := fun r hr => by
  obtain ⟨k, hk, rfl⟩ := List.mem_map.mp hr
  have hk := List.mem_range.mp hk
  have a := x.nb (j := t + 1) (by omega) hk
  have b := (x.nb (j := t) (by omega) hk).mono (M' := U * denL (chancesV G) ^ (t + 1)) (B' := 1000 * t) (Nat.mul_dvd_mul_left _ (Nat.pow_dvd_pow _ (Nat.le_succ t))) (Nat.le_refl _)
  have := x.Tl
  exact nb_ok (nb_sub a b) (Nat.mul_pos x.U0 (Nat.pow_pos x.S0)) (x.le (by omega)) (Nat.le_trans (by omega : 1000 * (t + 1) + 1000 * t ≤ 2 ^ 20) (Nat.pow_le_pow_right (by decide) (by decide)))
end
end Md
namespace Md
open PySem L2 Evl
section
variable {G : List PlV} {M0 : Nat}
end
end Md
set_option Elab.async false
set_option linter.all false
set_option maxRecDepth 100000
set_option maxHeartbeats 2000000
namespace Md
open PySem L2 Evl
local macro_rules | `(tactic| trivial) => `(tactic| try dsimp only [dVar, dC, dTup, dLst, dOfN, dNil, dCons, dII, dAdd, dSub, dMul, dMulW, dLt, dLe, dGt, dGe, dIxL, dIxT, dEqD, dNeD, dEqS, dNeS, dIsN, dNotN, dIf, dTest, dNot, dAnd, dOr, dYes, dAndV, dOrV, dNotV, dPNone, dPart, dSl, dCat, dRep, dLen, dListOf, dInt1, dAbs, dCall, dCallN, dCallK, dCallKN, dSum, dMax, dMin, dAll, dAny, dRepr, dIsi, dTupOf, dMax2, dMin2, dGcd, dLcm, dFdiv, dModI, dNeg, dInD, dNiD, dPow, dIsB, dNotB, dChain, cI, dgN, dgNil, dgCons, dgT, diL, diT, diR1, diR2, diZ, diE, dNext, dBreak, dCont, dSeq, dCut, dAsg, dAsgS, dAsgO, dPar, dAug, dApp, dAppS, dSet, dSetS, dAugL, dIfS, dRet, dRetS, dRetN, dRetO, dRetNone, dTell, tellG, dIndex, dTru, gat, allD, wipeG, List.set_cons_zero, List.set_cons_succ, List.length_cons, List.length_nil, List.map_cons, List.map_nil, onI_i, onB_b, onL_l, onT_t, onSq_l, onSq_t, scD_i, scD_b, scD_s, scD_n, onT_nD, onT_nQ, onL_nums, onL_gv, onL_listQ, onL_nats, onL_rats, onT_D, isNo_n, isNo_i, isNo_l, isNo_t, eqS_i, eqS_s, eqS_n, eqS_in, onSq_nums, onSq_gv, onSq_listQ, onSq_nats, onSq_nD, onSq_nQ, onL_ints, onSq_ints, onT_br, eqS_b, Bool.not_true, Bool.not_false, List.cons_append, List.nil_append, own_cons, own_nil, dKix, onL_tab, onL_row, onL_mat, diZ3, dPar3, dPar3O, dRevL, dRetT2, dAsgT2, dAsgOB, dExt, dForL, dSorted, dAsgX, dAsgXN, dAsgXO, dAppX, dAppXN, dSetX, dSetXN, dAsgIx, dSetIx, dRetX, dRetXN, onL_chD, onT_C, onSq_chD])
local macro_rules | `(tactic| and_intros) => `(tactic| try dsimp only [dVar, dC, dTup, dLst, dOfN, dNil, dCons, dII, dAdd, dSub, dMul, dMulW, dLt, dLe, dGt, dGe, dIxL, dIxT, dEqD, dNeD, dEqS, dNeS, dIsN, dNotN, dIf, dTest, dNot, dAnd, dOr, dYes, dAndV, dOrV, dNotV, dPNone, dPart, dSl, dCat, dRep, dLen, dListOf, dInt1, dAbs, dCall, dCallN, dCallK, dCallKN, dSum, dMax, dMin, dAll, dAny, dRepr, dIsi, dTupOf, dMax2, dMin2, dGcd, dLcm, dFdiv, dModI, dNeg, dInD, dNiD, dPow, dIsB, dNotB, dChain, cI, dgN, dgNil, dgCons, dgT, diL, diT, diR1, diR2, diZ, diE, dNext, dBreak, dCont, dSeq, dCut, dAsg, dAsgS, dAsgO, dPar, dAug, dApp, dAppS, dSet, dSetS, dAugL, dIfS, dRet, dRetS, dRetN, dRetO, dRetNone, dTell, tellG, dIndex, dTru, gat, allD, wipeG, List.set_cons_zero, List.set_cons_succ, List.length_cons, List.length_nil, List.map_cons, List.map_nil, onI_i, onB_b, onL_l, onT_t, onSq_l, onSq_t, scD_i, scD_b, scD_s, scD_n, onT_nD, onT_nQ, onL_nums, onL_gv, onL_listQ, onL_nats, onL_rats, onT_D, isNo_n, isNo_i, isNo_l, isNo_t, eqS_i, eqS_s, eqS_n, eqS_in, onSq_nums, onSq_gv, onSq_listQ, onSq_nats, onSq_nD, onSq_nQ, onL_ints, onSq_ints, onT_br, eqS_b, Bool.not_true, Bool.not_false, List.cons_append, List.nil_append])
local macro_rules | `(tactic| ac_rfl) => `(tactic| try dsimp only [dVar, dC, dTup, dLst, dOfN, dNil, dCons, dII, dAdd, dSub, dMul, dMulW, dLt, dLe, dGt, dGe, dIxL, dIxT, dEqD, dNeD, dEqS, dNeS, dIsN, dNotN, dIf, dTest, dNot, dAnd, dOr, dYes, dAndV, dOrV, dNotV, dPNone, dPart, dSl, dCat, dRep, dLen, dListOf, dInt1, dAbs, dCall, dCallN, dCallK, dCallKN, dSum, dMax, dMin, dAll, dAny, dRepr, dIsi, dTupOf, dMax2, dMin2, dGcd, dLcm, dFdiv, dModI, dNeg, dInD, dNiD, dPow, dIsB, dNotB, dChain, cI, dgN, dgNil, dgCons, dgT, diL, diT, diR1, diR2, diZ, diE, dNext, dBreak, dCont, dSeq, dCut, dAsg, dAsgS, dAsgO, dPar, dAug, dApp, dAppS, dSet, dSetS, dAugL, dIfS, dRet, dRetS, dRetN, dRetO, dRetNone, dTell, tellG, dIndex, dTru, gat, allD, wipeG, List.set_cons_zero, List.set_cons_succ, List.length_cons, List.length_nil, List.map_cons, List.map_nil, onI_i, onB_b, onL_l, onT_t, onSq_l, onSq_t, scD_i, scD_b, scD_s, scD_n, onT_nD, onT_nQ, onL_nums, onL_gv, onL_listQ, onL_nats, onL_rats, onT_D, isNo_n, isNo_i, isNo_l, isNo_t, eqS_i, eqS_s, eqS_n, eqS_in, onSq_nums, onSq_gv, onSq_listQ, onSq_nats, onSq_nD, onSq_nQ, onL_ints, onSq_ints, onT_br, eqS_b, Bool.not_true, Bool.not_false, List.cons_append, List.nil_append, own_cons, own_nil, dKix, onL_tab, onL_row, onL_mat, diZ3, dPar3, dPar3O, dRevL, dRetT2, dAsgT2, dAsgOB, dExt, dForL, dSorted])
local macro_rules | `(tactic| ac_nf) => `(tactic| try dsimp only [dVar, dC, dTup, dLst, dOfN, dNil, dCons, dII, dAdd, dSub, dMul, dMulW, dLt, dLe, dGt, dGe, dIxL, dIxT, dEqD, dNeD, dEqS, dNeS, dIsN, dNotN, dIf, dTest, dNot, dAnd, dOr, dYes, dAndV, dOrV, dNotV, dPNone, dPart, dSl, dCat, dRep, dLen, dListOf, dInt1, dAbs, dCall, dCallN, dCallK, dCallKN, dSum, dMax, dMin, dAll, dAny, dRepr, dIsi, dTupOf, dMax2, dMin2, dGcd, dLcm, dFdiv, dModI, dNeg, dInD, dNiD, dPow, dIsB, dNotB, dChain, cI, dgN, dgNil, dgCons, dgT, diL, diT, diR1, diR2, diZ, diE, dNext, dBreak, dCont, dSeq, dCut, dAsg, dAsgS, dAsgO, dPar, dAug, dApp, dAppS, dSet, dSetS, dAugL, dIfS, dRet, dRetS, dRetN, dRetO, dRetNone, dTell, tellG, dIndex, dTru, gat, allD, wipeG, List.set_cons_zero, List.set_cons_succ, List.length_cons, List.length_nil, List.map_cons, List.map_nil, onI_i, onB_b, onL_l, onT_t, onSq_l, onSq_t, scD_i, scD_b, scD_s, scD_n, onT_nD, onT_nQ, onL_nums, onL_gv, onL_listQ, onL_nats, onL_rats, onT_D, isNo_n, isNo_i, isNo_l, isNo_t, eqS_i, eqS_s, eqS_n, eqS_in, onSq_nums, onSq_gv, onSq_listQ, onSq_nats, onSq_nD, onSq_nQ, onL_ints, onSq_ints, onT_br, eqS_b, Bool.not_true, Bool.not_false, List.cons_append, List.nil_append, own_cons, own_nil, dKix, onL_tab, onL_row, onL_mat])
local macro_rules | `(tactic| subst_eqs) => `(tactic| try dsimp only [dVar, dC, dTup, dLst, dOfN, dNil, dCons, dII, dAdd, dSub, dMul, dMulW, dLt, dLe, dGt, dGe, dIxL, dIxT, dEqD, dNeD, dEqS, dNeS, dIsN, dNotN, dIf, dTest, dNot, dAnd, dOr, dYes, dAndV, dOrV, dNotV, dPNone, dPart, dSl, dCat, dRep, dLen, dListOf, dInt1, dAbs, dCall, dCallN, dCallK, dCallKN, dSum, dMax, dMin, dAll, dAny, dRepr, dIsi, dTupOf, dMax2, dMin2, dGcd, dLcm, dFdiv, dModI, dNeg, dInD, dNiD, dPow, dIsB, dNotB, dChain, cI, dgN, dgNil, dgCons, dgT, diL, diT, diR1, diR2, diZ, diE, dNext, dBreak, dCont, dSeq, dCut, dAsg, dAsgS, dAsgO, dPar, dAug, dApp, dAppS, dSet, dSetS, dAugL, dIfS, dRet, dRetS, dRetN, dRetO, dRetNone, dTell, tellG, dIndex, dTru, gat, allD, wipeG, List.set_cons_zero, List.set_cons_succ, List.length_cons, List.length_nil, List.map_cons, List.map_nil, onI_i, onB_b, onL_l, onT_t, onSq_l, onSq_t, scD_i, scD_b, scD_s, scD_n, onT_nD, onT_nQ, onL_nums, onL_gv, onL_listQ, onL_nats, onL_rats, onT_D, isNo_n, isNo_i, isNo_l, isNo_t, eqS_i, eqS_s, eqS_n, eqS_in, onSq_nums, onSq_gv, onSq_listQ, onSq_nats, onSq_nD, onSq_nQ, onL_ints, onSq_ints, onT_br, eqS_b, Bool.not_true, Bool.not_false, List.cons_append, List.nil_append, own_cons, own_nil, dKix, onL_tab, onL_row, onL_mat, diZ3, dPar3, dPar3O, dRevL, dRetT2, dAsgT2, dAsgOB, dExt])
local macro_rules | `(tactic| infer_instance) => `(tactic| try dsimp only [dVar, dC, dTup, dLst, dOfN, dNil, dCons, dII, dAdd, dSub, dMul, dMulW, dLt, dLe, dGt, dGe, dIxL, dIxT, dEqD, dNeD, dEqS, dNeS, dIsN, dNotN, dIf, dTest, dNot, dAnd, dOr, dYes, dAndV, dOrV, dNotV, dPNone, dPart, dSl, dCat, dRep, dLen, dListOf, dInt1, dAbs, dCall, dCallN, dCallK, dCallKN, dSum, dMax, dMin, dAll, dAny, dRepr, dIsi, dTupOf, dMax2, dMin2, dGcd, dLcm, dFdiv, dModI, dNeg, dInD, dNiD, dPow, dIsB, dNotB, dChain, cI, dgN, dgNil, dgCons, dgT, diL, diT, diR1, diR2, diZ, diE, dNext, dBreak, dCont, dSeq, dCut, dAsg, dAsgS, dAsgO, dPar, dAug, dApp, dAppS, dSet, dSetS, dAugL, dIfS, dRet, dRetS, dRetN, dRetO, dRetNone, dTell, tellG, dIndex, dTru, gat, allD, wipeG, List.set_cons_zero, List.set_cons_succ, List.length_cons, List.length_nil, List.map_cons, List.map_nil, onI_i, onB_b, onL_l, onT_t, onSq_l, onSq_t, scD_i, scD_b, scD_s, scD_n, onT_nD, onT_nQ, onL_nums, onL_gv, onL_listQ, onL_nats, onL_rats, onT_D, isNo_n, isNo_i, isNo_l, isNo_t, eqS_i, eqS_s, eqS_n, eqS_in, onSq_nums, onSq_gv, onSq_listQ, onSq_nats, onSq_nD, onSq_nQ, onL_ints, onSq_ints, onT_br, eqS_b, Bool.not_true, Bool.not_false, List.cons_append, List.nil_append, own_cons, own_nil, dKix, onL_tab, onL_row, onL_mat, diZ3, dPar3, dPar3O, dRevL, dRetT2, dAsgT2, dAsgOB, dExt, dForL, dSorted, dAsgX, dAsgXN, dAsgXO, dAppX, dAppXN, dSetX, dSetXN, dAsgIx, dSetIx, dRetX, dRetXN, onL_chD, onT_C, onSq_chD, onT_V])
def top (i : Nat) : Stmt := PySem.Challenge.pw_meanhold_k51_brackets.main.body.getD i (.Pass ⟨0, 0, 0, 0⟩)
section
variable {P : Program} {w : World} {K : PySem.W.Frag} {mg : Str → Option Value} {base : Heap}
abbrev s_lowest : Stmt := top 4
theorem sc_lowest : FnScope ["n", "d", "common"] ["n", "d"] (defScope s_lowest) := ⟨rfl, rfl, rfl, by decide +kernel, rfl, by decide +kernel, by decide +kernel⟩
theorem has_lowest (m_gcdB : mg "gcd" = some (.builtin "math.gcd")) (D : IsDef K mg "lowest" s_lowest ["n", "d"]) : Has P w K mg base 1 "lowest" ["n", "d"] (spLowest K) := by
  obtain ⟨f, fd, F, hm, hb⟩ := D
  have sc := sc_lowest
  refine ⟨f, fd, F.ok sc (fun vs H Q E x => ?_) (fun cdv A outer s h0 vs Q E hr hs => ?_), hm, F.kp, hb⟩
  · obtain ⟨b, n, d, _, hA, _⟩ := x
    exact hA.length
  obtain ⟨b, n, d, eb, hA, h0', h1', k⟩ := hs
  obtain rfl := hA.i2
  refine ⟨_, (pss_cons (ps_set (i := 2) sc.nd rfl (by first | exact Or.inl rfl | exact Or.inr rfl) (pe_callBfun cr_gcd rfl m_gcdB (pa_cons (pv 0) (pa_cons (pv 1) pa_nil)))) (pss_one (ps_ret (pe_tup (pa_cons (pe_op op_fdivW (pv 0) (pv 2)) (pa_cons (pe_op op_fdivW (pv 1) (pv 2)) pa_nil)))))), ?_⟩
  have hg : 0 < Nat.gcd n.natAbs d.natAbs := Nat.gcd_pos_of_pos_right _ (by omega)
  have hg2 : Nat.gcd n.natAbs d.natAbs < 2 ^ 8000 := Nat.lt_of_le_of_lt (Nat.gcd_le_right _ (by omega)) h1'
  have hw : ∀ z : Int, CDivW z ((Nat.gcd n.natAbs d.natAbs : Nat) : Int) := fun z => wide_div (b := 8000) (by omega) (by simpa using hg2) (by decide) (by decide)
  refine r_sc (rGcd_ev (ev_var rfl) (ev_var rfl)) eb fun h1 g1 => ?_
  refine r_ret (K := K) (d := .tuple [.int (n / ((Nat.gcd n.natAbs d.natAbs : Nat) : Int)), .int (d / ((Nat.gcd n.natAbs d.natAbs : Nat) : Int))]) (ed_tup (eda_cons (ed_int (ev_op (ev_var rfl) (ev_var rfl) (rv_I (hw _)))) (eda_cons (ed_int (ev_op (ev_var rfl) (ev_var rfl) (rv_I (hw _)))) eda_nil)) (by show 2 ≤ 100000; decide)) g1.gi fun v b' h' g hv => ?_
  refine k v b' h' (g1.trans g) ?_
  rw [num_pos h0']
  exact hv

abbrev s_common_denominator : Stmt := top 9
theorem sc_common_denominator : FnScope ["numbers", "found", "_", "d"] ["numbers"] (defScope s_common_denominator) := ⟨rfl, rfl, rfl, by decide +kernel, rfl, by decide +kernel, by decide +kernel⟩
theorem has_common_denominator (m_lcmB : mg "lcm" = some (.builtin "math.lcm")) (D : IsDef K mg "common_denominator" s_common_denominator ["numbers"]) : Has P w K mg base 1 "common_denominator" ["numbers"] (spDen K) := by
  obtain ⟨f, fd, F, hm, hb⟩ := D
  have sc := sc_common_denominator
  refine ⟨f, fd, F.ok sc (fun vs H Q E x => ?_) (fun cdv A outer s h0 vs Q E hr hs => ?_), hm, F.kp, hb⟩
  · obtain ⟨b, p, _, hA, _⟩ := x
    exact hA.length
  obtain ⟨b, l, eb, hA, hl, hbd, kQ⟩ := hs
  refine ⟨_, (pss_cons (ps_set (i := 1) sc.nd rfl (by first | exact Or.inl rfl | exact Or.inr rfl) pe_int) (pss_cons (ps_for PassesOwn.never rfl (pi_listK (K := K) rfl (pv 0)) (pg_tupK (K := K) (n := 2) rfl rfl (pgs_cons (pg_name (i := 2) sc.nd rfl (by first | exact Or.inl rfl | exact Or.inr rfl)) (pgs_cons (pg_name (i := 3) sc.nd rfl (by first | exact Or.inl rfl | exact Or.inr rfl)) pgs_nil))) (pss_one (ps_set (i := 1) sc.nd rfl (by first | exact Or.inl rfl | exact Or.inr rfl) (pe_callBfun cr_lcm rfl m_lcmB (pa_cons (pv 1) (pa_cons (pv 3) pa_nil)))))) (pss_one (ps_ret (pv 1))))), ?_⟩
  obtain ⟨vp, rfl, hv⟩ : ∃ vp, vs = [vp] ∧ Dt K b vp (.list (l.map nD)) := by
    cases hA with
    | cons h1 h2 =>
      cases h2
      exact ⟨_, rfl, h1⟩
  have hpos := denL_pos hl
  refine r_sc (b := b) (v := .int 1) ev_c eb fun h1 g1 => ?_
  refine r_forL (K := K) (ds := l.map nD) (ed_var rfl hv) g1.gi fun a xs b2 h2 g2 _ _ => ⟨fun i σ' h' => (∃ u v, σ' = [some vp, some (.int ((denL (l.take i) : Nat) : Int)), u, v]) ∧ Gr b2 h2 b2 h', ⟨⟨_, _, rfl⟩, Gr.refl g2.gi⟩, fun i σ' h' q => q.2.gi, ?_, ?_⟩
  · rintro i d xv σ' h' hd hx ⟨⟨u, v, rfl⟩, g3⟩
    rw [List.getElem?_map] at hd
    cases hz : l[i]? with
    | none => rw [hz] at hd; cases hd
    | some p =>
      rw [hz] at hd
      cases hd
      refine g_two (i := 2) (j := 3) hx g3.gi fun w1 w2 hw1 hw2 => ?_
      obtain rfl := hw1.intI
      obtain rfl := hw2.intI
      have d1 : denL (l.take i) ∣ denL l := denL_to fun q hq => denL_dvd (List.mem_of_mem_take hq)
      have d2 : p.2.natAbs ∣ denL l := denL_dvd (List.mem_of_getElem? hz)
      have l1 := Nat.lt_of_le_of_lt (Nat.le_of_dvd hpos d1) hbd
      have l2 := Nat.lt_of_le_of_lt (Nat.le_of_dvd hpos d2) hbd
      refine Evl.s_asg (H := h') (rLcm_ev (ev_var rfl) (ev_var rfl) (by rw [Int.natAbs_natCast]; exact l1) l2) fun h5 e5 => ?_
      refine ⟨⟨some (.int p.1), some (.int p.2), ?_⟩, g3.trans (Gr.stay g3.gi e5)⟩
      · rw [take_more1 hz, denL_snoc, Int.natAbs_natCast]
        rfl
  · rintro σ' h' ⟨⟨u, v, rfl⟩, g3⟩
    dsimp only
    rw [List.length_map, List.take_length]
    exact ⟨_, rfl, kQ h' ((g1.trans g2).trans g3).gh⟩
abbrev s_whole_at : Stmt := top 10
theorem sc_whole_at : FnScope ["number", "denominator", "n", "d"] ["number", "denominator"] (defScope s_whole_at) := ⟨rfl, rfl, rfl, by decide +kernel, rfl, by decide +kernel, by decide +kernel⟩
theorem has_whole_at (D : IsDef K mg "whole_at" s_whole_at ["number", "denominator"]) : Has P w K mg base 1 "whole_at" ["number", "denominator"] (spWhA K) := by
  obtain ⟨f, fd, F, hm, hb⟩ := D
  have sc := sc_whole_at
  refine ⟨f, fd, F.ok sc (fun vs H Q E x => ?_) (fun cdv A outer s h0 vs Q E hr hs => ?_), hm, F.kp, hb⟩
  · obtain ⟨b, p, M, _, hA, _⟩ := x
    exact hA.length
  obtain ⟨b, p, M, eb, hA, h1, h2, h3, h4, kQ⟩ := hs
  refine ⟨_, (pss_cons (ps_asg (pv 0) (pg_tupK (K := K) (n := 2) rfl rfl (pgs_cons (pg_name (i := 2) sc.nd rfl (by first | exact Or.inl rfl | exact Or.inr rfl)) (pgs_cons (pg_name (i := 3) sc.nd rfl (by first | exact Or.inl rfl | exact Or.inr rfl)) pgs_nil)))) (pss_one (ps_ret (pe_op op_mulW (pv 2) (pe_op op_fdivW (pv 1) (pv 3)))))), ?_⟩
  obtain ⟨vp, rfl, hv⟩ : ∃ vp, vs = [vp, .int M] ∧ Dt K b vp (nD p) := by
    cases hA with
    | cons h1 h2 => exact ⟨_, by rw [h2.i1], h1⟩
  refine r_asg (K := K) (ed_var rfl hv) eb fun v b1 h5 g1 hv1 => ?_
  refine g_two (i := 2) (j := 3) hv1 g1.gi fun w1 w2 hw1 hw2 => ?_
  obtain rfl := hw1.intI
  obtain rfl := hw2.intI
  have hq : (M / p.2).natAbs < 2 ^ 13000 := Nat.lt_of_le_of_lt (Int.natAbs_ediv_le_natAbs M p.2) h4
  refine Evl.s_ret (H := h5) (ev_op (ev_var rfl) (ev_op (ev_var rfl) (ev_var rfl) (rv_I (wide_div (b := 9000) (by omega) h3 (by decide) (by decide)))) (rv_I (wide_mul (a := 13000) (b := 13000) h2 hq (by decide) (by decide) (by decide)))) fun h6 e6 => ?_
  exact kQ h6 (g1.gh.trans e6)

abbrev s_gains_of : Stmt := top 12
theorem sc_gains_of : FnScope ["game", "gain", "_"] ["game"] (defScope s_gains_of) := ⟨rfl, rfl, rfl, by decide +kernel, rfl, by decide +kernel, by decide +kernel⟩
theorem has_gains_ofV (D : IsDef K mg "gains_of" s_gains_of ["game"]) : Has P w K mg base 1 "gains_of" ["game"] (spGainsV K) := by
  obtain ⟨f, fd, F, hm, hb⟩ := D
  have sc := sc_gains_of
  refine ⟨f, fd, F.ok sc (fun vs H Q E x => ?_) (fun cdv A outer s h0 vs Q E hr hs => ?_), hm, F.kp, hb⟩
  · obtain ⟨b, C, _, hA, _⟩ := x
    exact hA.length
  obtain ⟨b, C, eb, hA, hC, kQ⟩ := hs
  refine ⟨_, (pss_one (ps_ret (pe_lc (own := [("gain", 1), ("_", 2)]) (tt := tYes) rfl sc.nd (pi_listK (K := K) rfl (pv 0)) (blkOk_by (N := ["game", "gain", "_"]) (sc := defScope s_gains_of) (by decide +kernel)) (fun _ _ _ _ _ => (pg_tupK (K := K) (n := 3) rfl rfl (pgs_cons (pg_name (i := 1) sc.nd rfl (by first | exact Or.inl rfl | exact Or.inr rfl)) (pgs_cons (pg_name (i := 2) sc.nd rfl (by first | exact Or.inl rfl | exact Or.inr rfl)) (pgs_cons (pg_name (i := 2) sc.nd rfl (by first | exact Or.inl rfl | exact Or.inr rfl)) pgs_nil))))) (fun _ _ _ _ _ => pts_nil) (fun _ _ _ _ _ => (pv 1))))), ?_⟩
  obtain ⟨vp, rfl, hv⟩ : ∃ vp, vs = [vp] ∧ Dt K b vp (.list (C.map PlV.D)) := by
    cases hA with
    | cons h1 h2 =>
      cases h2
      exact ⟨_, rfl, h1⟩
  have e : numsD (gainsV C) = .list (C.map fun p => nD p.g) := by
    unfold numsD gainsV
    rw [List.map_map]
    rfl
  refine r_ret (K := K) (d := numsD (gainsV C)) ?_ eb fun v b' h' g hv => kQ v b' h' g hv
  rw [e]
  exact EN.ed (en_mapG (ed_var rfl hv) (by omega) fun p hp x b2 h2 e1 e2 hx Q k => g_three (i := 1) (j := 2) (l := 2) hx e2 fun v1 v2 v3 hv1 hv2 hv3 => k _ rfl (ed_var rfl hv1))
abbrev s__chances_of : Stmt := top 16
theorem sc__chances_of : FnScope ["game", "_", "kind", "branches", "chance"] ["game"] (defScope s__chances_of) := ⟨rfl, rfl, rfl, by decide +kernel, rfl, by decide +kernel, by decide +kernel⟩
theorem has_chances_of (D : IsDef K mg "_chances_of" s__chances_of ["game"]) : Has P w K mg base 1 "_chances_of" ["game"] (spChV K) := by
  obtain ⟨f, fd, F, hm, hb⟩ := D
  have sc := sc__chances_of
  refine ⟨f, fd, F.ok sc (fun vs H Q E x => ?_) (fun cdv A outer s h0 vs Q E hr hs => ?_), hm, F.kp, hb⟩
  · obtain ⟨b, C, _, hA, _⟩ := x
    exact hA.length
  obtain ⟨b, C, eb, hA, hC, h6, kQ⟩ := hs
  refine ⟨_, (pss_one (ps_ret (pe_lc2 (own := [("_", 1), ("kind", 2), ("branches", 3), ("chance", 4)]) (vs1 := [4, 1]) (tt := _) (tt1 := tYes) rfl sc.nd (pi_listK (K := K) rfl (pv 0)) (blkOk_by (N := ["game", "_", "kind", "branches", "chance"]) (sc := defScope s__chances_of) (by decide +kernel)) (by decide) (fun _ _ _ _ _ => (pg_tupK (K := K) (n := 3) rfl rfl (pgs_cons (pg_name (i := 1) sc.nd rfl (by first | exact Or.inl rfl | exact Or.inr rfl)) (pgs_cons (pg_name (i := 2) sc.nd rfl (by first | exact Or.inl rfl | exact Or.inr rfl)) (pgs_cons (pg_name (i := 3) sc.nd rfl (by first | exact Or.inl rfl | exact Or.inr rfl)) pgs_nil))))) (fun _ _ _ _ _ => (pts_one (pt_cmpR op_eq (pv 2) pe_str (nomark _)))) (fun _ _ _ _ _ => (pi_listK (K := K) rfl (pv 3))) (fun _ _ _ _ _ => (pg_tupK (K := K) (n := 2) rfl rfl (pgs_cons (pg_name (i := 4) sc.nd rfl (by first | exact Or.inl rfl | exact Or.inr rfl)) (pgs_cons (pg_name (i := 1) sc.nd rfl (by first | exact Or.inl rfl | exact Or.inr rfl)) pgs_nil)))) (fun _ _ _ _ _ => pts_nil) (fun _ _ _ _ _ => (pv 4))))), ?_⟩
  obtain ⟨vp, rfl, hv⟩ : ∃ vp, vs = [vp] ∧ Dt K b vp (.list (C.map PlV.D)) := by
    cases hA with
    | cons h1 h2 =>
      cases h2
      exact ⟨_, rfl, h1⟩
  refine r_ret (K := K) (d := numsD (chancesV C)) ?_ eb fun v b' h' g hv => kQ v b' h' g hv
  exact ed_chancesV (ed_var rfl hv) hC h6 fun p x b2 h2 e1 e2 hp hx Q k => g_three (i := 1) (j := 2) (l := 3) hx e2 fun v1 v2 v3 hv1 hv2 hv3 => k _ rfl (by
    obtain rfl := hv2.strI
    exact et_test (ev_is (ev_op (ev_var rfl) ev_c (rv_eq rfl)) (congrArg V.bl (kd_draw p.k)))) (fun hk => by
    have e : p.el = p.bs.map brC := el_draw hk
    rw [← e]
    exact ed_var rfl hv3) fun q y b3 h3 e3 e4 hq hy Q1 k1 => g_two (i := 4) (j := 1) hy e4 fun w1 w2 hw1 hw2 => k1 _ rfl (ed_var rfl hw1)
abbrev s_targets_of : Stmt := top 13
theorem sc_targets_of : FnScope ["place", "_", "kind", "branches", "target"] ["place"] (defScope s_targets_of) := ⟨rfl, rfl, rfl, by decide +kernel, rfl, by decide +kernel, by decide +kernel⟩
theorem has_targets_ofV (T : Bt mg) (D : IsDef K mg "targets_of" s_targets_of ["place"]) : Has P w K mg base 1 "targets_of" ["place"] (spTgV K) := by
  obtain ⟨f, fd, F, hm, hb⟩ := D
  have sc := sc_targets_of
  refine ⟨f, fd, F.ok sc (fun vs H Q E x => ?_) (fun cdv A outer s h0 vs Q E hr hs => ?_), hm, F.kp, hb⟩
  · obtain ⟨b, p, _, hA, _⟩ := x
    exact hA.length
  obtain ⟨b, p, eb, hA, hl, k⟩ := hs
  refine ⟨_, (pss_cons (ps_asg (pv 0) (pg_tupK (K := K) (n := 3) rfl rfl (pgs_cons (pg_name (i := 1) sc.nd rfl (by first | exact Or.inl rfl | exact Or.inr rfl)) (pgs_cons (pg_name (i := 2) sc.nd rfl (by first | exact Or.inl rfl | exact Or.inr rfl)) (pgs_cons (pg_name (i := 3) sc.nd rfl (by first | exact Or.inl rfl | exact Or.inr rfl)) pgs_nil))))) (pss_cons (ps_if (pt_cmpR op_eq (pv 2) pe_str (nomark _)) (pss_one (ps_ret (pe_lc (own := [("_", 1), ("target", 4)]) (tt := tYes) rfl sc.nd (pi_listK (K := K) rfl (pv 3)) (blkOk_by (N := ["place", "_", "kind", "branches", "target"]) (sc := defScope s_targets_of) (by decide +kernel)) (fun _ _ _ _ _ => (pg_tupK (K := K) (n := 2) rfl rfl (pgs_cons (pg_name (i := 1) sc.nd rfl (by first | exact Or.inl rfl | exact Or.inr rfl)) (pgs_cons (pg_name (i := 4) sc.nd rfl (by first | exact Or.inl rfl | exact Or.inr rfl)) pgs_nil)))) (fun _ _ _ _ _ => pts_nil) (fun _ _ _ _ _ => (pv 4))))) pss_nil) (pss_one (ps_ret (pe_callTy (list_K (K := K) rfl) (by rfl) T.list (by decide +kernel) (pa_cons (pv 3) pa_nil)))))), ?_⟩
  obtain ⟨vP, rfl, hP⟩ : ∃ vP, vs = [vP] ∧ Dt K b vP p.D := by
    cases hA with
    | cons h1 h2 =>
      cases h2
      exact ⟨_, rfl, h1⟩
  refine r_asg (K := K) (d := p.D) (ed_var rfl hP) eb fun vp b3 h3 g3 hvp => ?_
  refine g_three hvp g3.gi fun v1 v2 v3 k1 k2 k3 => ?_
  obtain rfl := k2.strI
  refine r_if (b := b3) (c := decide (p.k = none)) (et_test (ev_is (ev_op (ev_var rfl) ev_c (rv_eq rfl)) (congrArg V.bl (kd_draw p.k)))) g3.gi (fun hc h4 g4 => ?_) (fun hc h4 g4 => ?_)
  · have hk := of_decide_eq_true hc
    rw [el_draw hk] at k3
    have el : natsD (p.bs.map (·.2)) = .list (p.bs.map fun q => PyData.int (q.2 : Int)) := by
      unfold natsD
      rw [List.map_map]
      rfl
    refine r_ret (K := K) (d := natsD (p.bs.map (·.2))) ?_ g4.gi fun v b' h' g5 hv => k v b' h' ((g3.trans g4).trans g5) hv
    rw [el]
    exact EN.ed (en_mapG (D := brC) (ed_var rfl k3) (by omega) fun q hq x b2 h2 e1 e2 hx Q kk => g_two (i := 1) (j := 4) hx e2 fun w1 w2 hw1 hw2 => kk _ rfl (ed_var rfl hw2))
  · have hk := of_decide_eq_false hc
    have e : p.el = (p.bs.map (·.2)).map fun x : Nat => PyData.int (x : Int) := by
      rw [el_side hk, List.map_map]
      rfl
    refine r_ret (K := K) (d := .list p.el) (EN.ed (en_list (ed_var rfl k3))) g4.gi fun v b' h' g5 hv => ?_
    rw [e] at hv
    exact k v b' h' ((g3.trans g4).trans g5) hv
abbrev s__scaled_worth : Stmt := top 17
theorem sc__scaled_worth : FnScope ["place", "worths", "scale", "reached", "_", "kind", "branches", "target", "chance"] ["place", "worths", "scale"] (defScope s__scaled_worth) := ⟨rfl, rfl, rfl, by decide +kernel, rfl, by decide +kernel, by decide +kernel⟩
theorem has_scaled_worth (T : Bt mg) (D : IsDef K mg "_scaled_worth" s__scaled_worth ["place", "worths", "scale"]) (U : Has P w K mg base 1 "whole_at" ["number", "denominator"] (spWhA K)) (U2 : Has P w K mg base 1 "targets_of" ["place"] (spTgV K)) : Has P w K mg base 2 "_scaled_worth" ["place", "worths", "scale"] (spSW K) := by
  obtain ⟨f, fd, F, hm, hb⟩ := D
  obtain ⟨f_whole_at, fd_whole_at, G_whole_at, m_whole_at, k_whole_at, b_whole_at⟩ := U
  obtain ⟨f_targets_of, fd_targets_of, G_targets_of, m_targets_of, k_targets_of, b_targets_of⟩ := U2
  have sc := sc__scaled_worth
  refine ⟨f, fd, F.ok sc (fun vs H Q E x => ?_) (fun cdv A outer s h0 vs Q E hr hs => ?_), hm, F.kp, hb⟩
  · obtain ⟨b, p, ns, S, n, w, _, hA, _⟩ := x
    exact hA.length
  obtain ⟨b, p, ns, S, n, w, eb, hA, hW, hnl, hS, hd, hq, kQ⟩ := hs
  refine ⟨_, (pss_cons (ps_asg (pv 0) (pg_tupK (K := K) (n := 3) rfl rfl (pgs_cons (pg_name (i := 4) sc.nd rfl (by first | exact Or.inl rfl | exact Or.inr rfl)) (pgs_cons (pg_name (i := 5) sc.nd rfl (by first | exact Or.inl rfl | exact Or.inr rfl)) (pgs_cons (pg_name (i := 6) sc.nd rfl (by first | exact Or.inl rfl | exact Or.inr rfl)) pgs_nil))))) (pss_cons (ps_if (pt_cmpR op_eq (pv 5) pe_str (nomark _)) (pss_one (ps_ret (pe_callB (sum_K (K := K) rfl rfl) (by rfl) T.sum (by decide +kernel) (pa_cons (pe_lc (own := [("chance", 8), ("target", 7)]) (tt := tYes) rfl sc.nd (pi_listK (K := K) rfl (pv 6)) (blkOk_by (N := ["place", "worths", "scale", "reached", "_", "kind", "branches", "target", "chance"]) (sc := defScope s__scaled_worth) (by decide +kernel)) (fun _ _ _ _ _ => (pg_tupK (K := K) (n := 2) rfl rfl (pgs_cons (pg_name (i := 8) sc.nd rfl (by first | exact Or.inl rfl | exact Or.inr rfl)) (pgs_cons (pg_name (i := 7) sc.nd rfl (by first | exact Or.inl rfl | exact Or.inr rfl)) pgs_nil)))) (fun _ _ _ _ _ => pts_nil) (fun _ _ _ _ _ => (pe_op op_mulW (pe_call G_whole_at (hr.mono (by decide)) rfl m_whole_at k_whole_at b_whole_at .nil pass0 (pa_cons (pv 8) (pa_cons (pv 2) pa_nil))) (pe_ix (ix_listK (K := K) rfl) (pv 1) (pv 7) (fun _ _ => rfl))))) pa_nil)))) pss_nil) (pss_cons (ps_setLc (i := 3) (own := [("target", 7)]) (tt := tYes) rfl sc.nd rfl rfl (sw_true rfl rfl rfl (by decide +kernel)) (pi_listK (K := K) rfl (pe_call G_targets_of (hr.mono (by decide)) rfl m_targets_of k_targets_of b_targets_of .nil pass0 (pa_cons (pv 0) pa_nil))) (blkOk_by (N := ["place", "worths", "scale", "reached", "_", "kind", "branches", "target", "chance"]) (sc := defScope s__scaled_worth) (by decide +kernel)) (fun _ _ _ _ _ => (pg_name (i := 7) sc.nd rfl (by first | exact Or.inl rfl | exact Or.inr rfl))) (fun _ _ _ _ _ => pts_nil) (fun _ _ _ _ _ => (pe_ix (ix_listK (K := K) rfl) (pv 1) (pv 7) (fun _ _ => rfl)))) (pss_one (ps_ret (pe_op op_mulW (pv 2) (pe_ifExp (pt_cmpR op_eq (pv 5) pe_str (nomark _)) (pe_callB (max_K (K := K) rfl rfl) (by rfl) T.max (by decide +kernel) (pa_cons (pv 3) pa_nil)) (pe_callB (min_K (K := K) rfl rfl) (by rfl) T.min (by decide +kernel) (pa_cons (pv 3) pa_nil))))))))), ?_⟩
  obtain ⟨vp, vn, rfl, hv, hn⟩ : ∃ vp vn, vs = [vp, vn, .int (S : Int)] ∧ Dt K b vp p.D ∧ Dt K b vn (.list (ns.map PyData.int)) := by
    cases hA with
    | cons h1 hA =>
      cases hA with
      | cons h2 hA => exact ⟨_, _, by rw [hA.i1], h1, h2⟩
  have h6 := hW.l6
  refine r_asg (K := K) (d := p.D) (ed_var rfl hv) eb fun vp2 b3 h3 g3 hvp => ?_
  refine g_three hvp g3.gi fun v1 v2 v3 k1 k2 k3 => ?_
  obtain rfl := k2.strI
  have hn3 := hn.up g3.gb
  refine r_if (b := b3) (c := decide (p.k = none)) (et_test (ev_is (ev_op (ev_var rfl) ev_c (rv_eq rfl)) (congrArg V.bl (kd_draw p.k)))) g3.gi (fun hc h4 g4 => ?_) (fun hc h4 g4 => ?_)
  · have hk := of_decide_eq_true hc
    rw [el_draw hk] at k3
    have hc2 := hW.c hk
    refine Evl.s_ret (H := h4) (v := .int (smZ S ns p.bs)) (Ev.mono g4.gi (ev_sum ?_)) fun h5 e5 => kQ _ h5 (((g3.trans g4).gh).trans e5) ?_
    · rw [List.map_map]
      refine EN.ed (en_mapG (D := brC) (ed_var rfl k3) (by omega) fun q hqm x b2 h2 e1 e2 hx Q k => g_two (i := 8) (j := 7) hx e2 fun v1 v2 hv1 hv2 => k _ rfl ?_)
      obtain rfl := hv2.intI
      have q1 := hc2 q hqm
      have q2 : q.1.1.natAbs < 2 ^ 13000 := Nat.lt_of_lt_of_le (Nat.lt_trans q1.1.2.2.1 (by decide : 1000 < 2 ^ 10)) (Nat.pow_le_pow_right (by decide) (by decide))
      have q3 : q.1.2.natAbs < 2 ^ 9000 := Nat.lt_of_lt_of_le (Nat.lt_trans (show q.1.2.natAbs < 1000 by have := q1.1.1; have := q1.1.2.1; omega) (by decide : 1000 < 2 ^ 10)) (Nat.pow_le_pow_right (by decide) (by decide))
      have hw : (q.1.1 * ((S : Int) / q.1.2)).natAbs < 2 ^ 26000 := by
        rw [Int.natAbs_mul]
        exact pow_mul_lt (j := 13000) (k := 13000) q2 (Nat.lt_of_le_of_lt (Int.natAbs_ediv_le_natAbs _ _) (by rw [Int.natAbs_natCast]; exact hS))
      exact ed_int (ev_op (ev_whA (eda_cons (ed_var rfl hv1) (eda_cons (ed_int (ev_var rfl)) eda_nil)) q1.1.1 q2 q3 (by rw [Int.natAbs_natCast]; exact hS)) (ev_ixI q.2 (ed_var rfl (hn3.up e1)) (ev_var rfl) rfl (Nat.lt_of_lt_of_le (hW.t q hqm) hnl)) (rv_I (wide_mul (a := 26000) (b := 26000) hw (hq q hqm) (by decide) (by decide) (by decide))))
    · have e : vW p (fun j => ((ns.getD j 0 : Int) : Rat)) = wsum p.bs fun j => ((ns.getD j 0 : Int) : Rat) := by
        unfold vW
        rw [hk]
      rw [e]
      have := smZ_cast (S := S) (ns := ns) (bs := p.bs) (f := fun j => ((ns.getD j 0 : Int) : Rat)) (c := 1) fun q hqm => ⟨red_small (hc2 q hqm).1, hd hk q hqm, by rw [Rat.mul_one]⟩
      rw [this, Rat.one_mul]
      rfl
  · have hk := of_decide_eq_false hc
    obtain ⟨o, ho⟩ : ∃ o, p.k = some o := by
      cases h : p.k with
      | none => exact absurd h hk
      | some o => exact ⟨o, rfl⟩
    have hle : ((p.bs.map (·.2)).map fun x => PyData.int (ns.getD x 0)) = ((p.bs.map fun q => ns.getD q.2 0).map PyData.int) := by
      rw [List.map_map, List.map_map]
      rfl
    have hv3 := hv.up g3.gb
    refine L2.st_next ?_
    dsimp only
    refine r_set (K := K) (d := .list ((p.bs.map fun q => ns.getD q.2 0).map PyData.int)) (by
      rw [← hle]
      refine EN.ed (en_mapD (D := fun x : Nat => PyData.int (x : Int)) (f := fun x => PyData.int (ns.getD x 0)) (l := p.bs.map (·.2)) ?_ (by rw [List.length_map]; omega) (fun _ => ?_) fun x hx v b4 e4 hv4 => ?_)
      · exact ed_tgV (eda_cons (ed_var rfl hv3) eda_nil) h6
      · rfl
      obtain rfl := hv4.intI
      obtain ⟨q, hqm, rfl⟩ := List.mem_map.mp hx
      exact ed_int (ev_ixI q.2 (ed_var rfl (hn3.up e4)) (ev_var rfl) rfl (Nat.lt_of_lt_of_le (hW.t q hqm) hnl))) g4.gi fun v5 b5 h5 g5 hv5 => ?_
    have G5 := (g3.trans g4).trans g5
    have hne : (p.bs.map fun q => ns.getD q.2 0) ≠ [] := by
      intro z
      have e1 : (p.bs.map fun q => ns.getD q.2 0).length = 0 := by rw [z]; rfl
      rw [List.length_map] at e1
      have := hW.l1
      omega
    have hev : vW p (fun j => ((ns.getD j 0 : Int) : Rat)) = tkQ o ((p.bs.map fun q => ns.getD q.2 0).map fun z : Int => (z : Rat)) := by
      unfold vW
      rw [ho, List.map_map]
      rfl
    have hmb : ∀ m ∈ (p.bs.map fun q => ns.getD q.2 0), m.natAbs < 2 ^ 26000 := fun m hm => by
      obtain ⟨q, hqm, rfl⟩ := List.mem_map.mp hm
      exact hq q hqm
    have hmul : ∀ {m : Int}, m ∈ (p.bs.map fun q => ns.getD q.2 0) → CMulW (S : Int) m := fun {m} hm => wide_mul (a := 13000) (b := 26000) (by rw [Int.natAbs_natCast]; exact hS) (hmb m hm) (by decide) (by decide) (by decide)
    have hfin : ∀ {m : Int} {h' : Hp}, Ex h5 h' → tkQ o ((p.bs.map fun q => ns.getD q.2 0).map fun z : Int => (z : Rat)) = (m : Rat) → Q (.int ((S : Int) * m)) h' := fun {m h'} e hm => kQ _ h' (G5.gh.trans e) (by
      rw [hev, hm, Rat.intCast_mul, Rat.mul_comm]
      rfl)
    generalize (p.bs.map fun q => ns.getD q.2 0) = L at *
    cases o with
    | true =>
      obtain ⟨m, hm, hle⟩ := exists_max hne
      refine Evl.s_ret (H := h5) (v := .int ((S : Int) * m)) (Ev.mono g5.gi (ev_op (ev_var rfl) (ev_int (K := K) (ed_if (K := K) (c := true) (et_test (ev_is (ev_op (ev_var rfl) ev_c (rv_eq rfl)) (by rw [ho]; rfl))) (fun _ => ed_int (K := K) (ev_max (ed_var rfl hv5) hm hle)) (fun z => by cases z))) (rv_I (hmul hm)))) fun h6 e6 => hfin e6 (tk_cast hm fun y hy => by rw [if_pos rfl]; exact hle y hy)
    | false =>
      obtain ⟨m, hm, hle⟩ := exists_min hne
      refine Evl.s_ret (H := h5) (v := .int ((S : Int) * m)) (Ev.mono g5.gi (ev_op (ev_var rfl) (ev_int (K := K) (ed_if (K := K) (c := false) (et_test (ev_is (ev_op (ev_var rfl) ev_c (rv_eq rfl)) (by rw [ho]; rfl))) (fun z => by cases z) (fun _ => ed_int (K := K) (ev_min (ed_var rfl hv5) hm hle)))) (rv_I (hmul hm)))) fun h6 e6 => hfin e6 (tk_cast hm fun y hy => by rw [if_neg (by decide)]; exact hle y hy)

abbrev s_worths_after : Stmt := top 15
theorem sc_worths_after : FnScope ["game", "discount", "start", "steps", "unit", "scale", "gains", "worths", "_", "n", "d", "gain", "worth", "place"] ["game", "discount", "start", "steps"] (defScope s_worths_after) := ⟨rfl, rfl, rfl, by decide +kernel, rfl, by decide +kernel, by decide +kernel⟩
theorem has_worths_after (D : IsDef K mg "worths_after" s_worths_after ["game", "discount", "start", "steps"]) (T : Bt mg) (U_common_denominator : Has P w K mg base (1) "common_denominator" ["numbers"] (spP K (kDen))) (U_gains_of : Has P w K mg base (1) "gains_of" ["game"] (spP K (kGains))) (U__chances_of : Has P w K mg base (1) "_chances_of" ["game"] (spP K (kChs))) (U_whole_at : Has P w K mg base (1) "whole_at" ["number", "denominator"] (spP K (kWhA))) (U__scaled_worth : Has P w K mg base (2) "_scaled_worth" ["place", "worths", "scale"] (spP K (kSW))) (U_lowest : Has P w K mg base (1) "lowest" ["n", "d"] (spP K (kLow))) : Has P w K mg base (3) "worths_after" ["game", "discount", "start", "steps"] (spN K (kWA)) := by
  obtain ⟨f, fd, F, hm, hb⟩ := D
  obtain ⟨f_common_denominator, fd_common_denominator, G_common_denominator, m_common_denominator, k_common_denominator, b_common_denominator⟩ := U_common_denominator
  obtain ⟨f_gains_of, fd_gains_of, G_gains_of, m_gains_of, k_gains_of, b_gains_of⟩ := U_gains_of
  obtain ⟨f__chances_of, fd__chances_of, G__chances_of, m__chances_of, k__chances_of, b__chances_of⟩ := U__chances_of
  obtain ⟨f_whole_at, fd_whole_at, G_whole_at, m_whole_at, k_whole_at, b_whole_at⟩ := U_whole_at
  obtain ⟨f__scaled_worth, fd__scaled_worth, G__scaled_worth, m__scaled_worth, k__scaled_worth, b__scaled_worth⟩ := U__scaled_worth
  obtain ⟨f_lowest, fd_lowest, G_lowest, m_lowest, k_lowest, b_lowest⟩ := U_lowest
  have sc := sc_worths_after
  refine ⟨f, fd, F.ok sc (fun vs H Q E x => ?_) (fun cdv A outer s h0 vs Q E hr hs => ?_), hm, F.kp, hb⟩
  · obtain ⟨b, ds, P, _, hA, hR, _⟩ := x
    obtain ⟨_, _, _, _, rfl, _⟩ := conN4_is hR
    rw [hA.length]
    rfl
  obtain ⟨b, ds, Pq, eb, hA, hR, kQ⟩ := hs
  obtain ⟨x0, x1, x2, x3, rfl, hR⟩ := conN4_is hR
  refine ⟨_, (pss_cons (ps_asg (pv 1) (pg_tupK (K := K) (n := 2) rfl rfl (pgs_cons (pg_name (i := 9) sc.nd rfl (by first | exact Or.inl rfl | exact Or.inr rfl)) (pgs_cons (pg_name (i := 10) sc.nd rfl (by first | exact Or.inl rfl | exact Or.inr rfl)) pgs_nil)))) (pss_cons (ps_set (i := 4) sc.nd rfl (by first | exact Or.inl rfl | exact Or.inr rfl) (pe_call G_common_denominator (hr.mono (by decide)) rfl m_common_denominator k_common_denominator b_common_denominator .nil pass0 (pa_cons (pe_op op_cat (pe_call G_gains_of (hr.mono (by decide)) rfl m_gains_of k_gains_of b_gains_of .nil pass0 (pa_cons (pv 0) pa_nil)) (pv 2)) pa_nil))) (pss_cons (ps_set (i := 5) sc.nd rfl (by first | exact Or.inl rfl | exact Or.inr rfl) (pe_call G_common_denominator (hr.mono (by decide)) rfl m_common_denominator k_common_denominator b_common_denominator .nil pass0 (pa_cons (pe_call G__chances_of (hr.mono (by decide)) rfl m__chances_of k__chances_of b__chances_of .nil pass0 (pa_cons (pv 0) pa_nil)) pa_nil))) (pss_cons (ps_setLc (i := 6) (own := [("gain", 11)]) (tt := tYes) rfl sc.nd rfl rfl (sw_true rfl rfl rfl (by decide +kernel)) (pi_listK (K := K) rfl (pe_call G_gains_of (hr.mono (by decide)) rfl m_gains_of k_gains_of b_gains_of .nil pass0 (pa_cons (pv 0) pa_nil))) (blkOk_by (N := ["game", "discount", "start", "steps", "unit", "scale", "gains", "worths", "_", "n", "d", "gain", "worth", "place"]) (sc := defScope s_worths_after) (by decide +kernel)) (fun _ _ _ _ _ => (pg_name (i := 11) sc.nd rfl (by first | exact Or.inl rfl | exact Or.inr rfl))) (fun _ _ _ _ _ => pts_nil) (fun _ _ _ _ _ => (pe_call G_whole_at (hr.mono (by decide)) rfl m_whole_at k_whole_at b_whole_at .nil pass0 (pa_cons (pv 11) (pa_cons (pv 4) pa_nil))))) (pss_cons (ps_set (i := 7) sc.nd rfl (by first | exact Or.inl rfl | exact Or.inr rfl) (pe_lc (own := [("worth", 12)]) (tt := tYes) rfl sc.nd (pi_listK (K := K) rfl (pv 2)) (blkOk_by (N := ["game", "discount", "start", "steps", "unit", "scale", "gains", "worths", "_", "n", "d", "gain", "worth", "place"]) (sc := defScope s_worths_after) (by decide +kernel)) (fun _ _ _ _ _ => (pg_name (i := 12) sc.nd rfl (by first | exact Or.inl rfl | exact Or.inr rfl))) (fun _ _ _ _ _ => pts_nil) (fun _ _ _ _ _ => (pe_call G_whole_at (hr.mono (by decide)) rfl m_whole_at k_whole_at b_whole_at .nil pass0 (pa_cons (pv 12) (pa_cons (pv 4) pa_nil)))))) (pss_cons (ps_for PassesOwn.never rfl (pi_range1 (by rfl) T.range (pa_cons (pv 3) pa_nil)) (pg_name (i := 8) sc.nd rfl (by first | exact Or.inl rfl | exact Or.inr rfl)) (pss_cons (ps_set (i := 4) sc.nd rfl (by first | exact Or.inl rfl | exact Or.inr rfl) (pe_op op_mulW (pe_op op_mulW (pv 4) (pv 5)) (pv 10))) (pss_cons (ps_setLc (i := 6) (own := [("gain", 11)]) (tt := tYes) rfl sc.nd rfl rfl (sw_true rfl rfl rfl (by decide +kernel)) (pi_listK (K := K) rfl (pv 6)) (blkOk_by (N := ["game", "discount", "start", "steps", "unit", "scale", "gains", "worths", "_", "n", "d", "gain", "worth", "place"]) (sc := defScope s_worths_after) (by decide +kernel)) (fun _ _ _ _ _ => (pg_name (i := 11) sc.nd rfl (by first | exact Or.inl rfl | exact Or.inr rfl))) (fun _ _ _ _ _ => pts_nil) (fun _ _ _ _ _ => (pe_op op_mulW (pe_op op_mulW (pv 11) (pv 5)) (pv 10)))) (pss_one (ps_set (i := 7) sc.nd rfl (by first | exact Or.inl rfl | exact Or.inr rfl) (pe_lc (own := [("gain", 11), ("place", 13)]) (tt := tYes) rfl sc.nd (pi_zipK (K := K) rfl (by rfl) T.zip (pa_cons (pv 6) (pa_cons (pv 0) pa_nil))) (blkOk_by (N := ["game", "discount", "start", "steps", "unit", "scale", "gains", "worths", "_", "n", "d", "gain", "worth", "place"]) (sc := defScope s_worths_after) (by decide +kernel)) (fun _ _ _ _ _ => (pg_tupK (K := K) (n := 2) rfl rfl (pgs_cons (pg_name (i := 11) sc.nd rfl (by first | exact Or.inl rfl | exact Or.inr rfl)) (pgs_cons (pg_name (i := 13) sc.nd rfl (by first | exact Or.inl rfl | exact Or.inr rfl)) pgs_nil)))) (fun _ _ _ _ _ => pts_nil) (fun _ _ _ _ _ => (pe_op op_add (pv 11) (pe_op op_mulW (pv 9) (pe_call G__scaled_worth (hr.mono (by decide)) rfl m__scaled_worth k__scaled_worth b__scaled_worth .nil pass0 (pa_cons (pv 13) (pa_cons (pv 7) (pa_cons (pv 5) pa_nil))))))))))))) (pss_one (ps_ret (pe_lc (own := [("worth", 12)]) (tt := tYes) rfl sc.nd (pi_listK (K := K) rfl (pv 7)) (blkOk_by (N := ["game", "discount", "start", "steps", "unit", "scale", "gains", "worths", "_", "n", "d", "gain", "worth", "place"]) (sc := defScope s_worths_after) (by decide +kernel)) (fun _ _ _ _ _ => (pg_name (i := 12) sc.nd rfl (by first | exact Or.inl rfl | exact Or.inr rfl))) (fun _ _ _ _ _ => pts_nil) (fun _ _ _ _ _ => (pe_call G_lowest (hr.mono (by decide)) rfl m_lowest k_lowest b_lowest .nil pass0 (pa_cons (pv 12) (pa_cons (pv 4) pa_nil))))))))))))), sim_N (Γ := [some (.d x0), some (.d x1), some (.d x2), some (.d x3), none, none, none, none, none, none, none, none, none, none]) (z_seq (z_asg z_var (g_tup (g_cons g_name (g_cons g_name g_nil)))) (z_seq (z_asg (z_call (z_cons (z_ofN (z_cat (z_call (z_cons z_var z_nil)) z_var)) z_nil)) g_name) (z_seq (z_asg (z_call (z_cons (z_call (z_cons z_var z_nil)) z_nil)) g_name) (z_seq (z_asg (z_ofN (z_lc (by decide) (i_list (z_call (z_cons z_var z_nil))) g_name z_yes (z_call (z_cons z_var (z_cons z_var z_nil))))) g_name) (z_seq (z_asg (z_ofN (z_lc (by decide) (i_list z_var) g_name z_yes (z_call (z_cons z_var (z_cons z_var z_nil))))) g_name) (z_seq (z_for (ws := [8, 11, 13]) (i_rng1 (z_cons z_var z_nil)) g_name (z_seq (z_asg (z_mulW (z_mulW z_var z_var) z_var) g_name) (z_seq (z_asg (z_ofN (z_lc (by decide) (i_list z_var) g_name z_yes (z_mulW (z_mulW z_var z_var) z_var))) g_name) (z_asg (z_ofN (z_lc (by decide) (i_zip (z_cons z_var (z_cons z_var z_nil))) (g_tup (g_cons g_name (g_cons g_name g_nil))) z_yes (z_add z_var (z_mulW z_var (z_call (z_cons z_var (z_cons z_var (z_cons z_var z_nil)))))))) g_name)))) (z_retN (z_lc (by decide) (i_list z_var) g_name z_yes (z_call (z_cons z_var (z_cons z_var z_nil))))))))))) eb hA (by show 4 ≤ 14; decide) rfl ?_ kQ⟩
  obtain ⟨G, w, dn, dd, t, B0, s, rfl, rfl, rfl, rfl, hw1, hw9, hW, hdn, hdd, hdb, hT, hM, hB0, hs, hP⟩ := hR
  clear hR
  have x : StepW G w dn dd t B0 s := ⟨hw1, hw9, hW, hdn, hdd, hdb, hT, hM, hB0, hs⟩
  clear hw1 hw9 hdn hdd hdb hT hM hB0 hs
  have hG12 := hW.l12
  have hG1 := hW.l1
  have sm : ∀ {z : Int}, z.natAbs < 1000 → z.natAbs < 2 ^ 9000 := fun h => Nat.lt_of_lt_of_le (Nat.lt_trans h (by decide : 1000 < 2 ^ 10)) (Nat.pow_le_pow_right (by decide) (by decide))
  have up3 : ∀ {z : Nat}, z < 2 ^ 3000 → z < 2 ^ 13000 := fun h => pow13 h (by decide)
  have cast3 : ∀ {z : Nat}, z < 2 ^ 3000 → ((z : Int)).natAbs < 2 ^ 13000 := fun h => by rw [Int.natAbs_natCast]; exact up3 h
  have hg : ∀ c ∈ gainsV G, SmallN c := fun c hc => by
    obtain ⟨p, hp, rfl⟩ := List.mem_map.mp hc
    exact (hW.p p hp).g
  and_intros
  refine ⟨rfl, rfl, kGains_i (by omega) ?_⟩
  and_intros
  have e1 : PyData.list ((gainsV G).map nD ++ (List.range G.length).map fun i => nQ (s i)) = numsD (gainsV G ++ (List.range G.length).map fun k => canon (s k)) := by
    unfold numsD
    rw [List.map_append, List.map_map]
    rfl
  refine ⟨by rw [List.length_map, List.length_map, List.length_range]; unfold gainsV; rw [List.length_map]; omega, ?_⟩
  rw [e1]
  refine kDen_i x.up (up3 x.U.2) ?_
  refine kChs_i (by omega) (fun p hp => (hW.p p hp).l6) (kDen_i ?_ (up3 x.S.2) ?_)
  · intro c hc
    obtain ⟨p, hp, hk, q, hq, rfl⟩ := mem_chv hc
    exact ((hW.p p hp).c hk q hq).1.1
  have eU : denL (gainsV G ++ (List.range G.length).map fun k => canon (s k)) = unitS G s := rfl
  rw [eU]
  have gz := fun k hk => x.gz (k := k) hk
  have gzb := fun k hk => x.gzb (k := k) hk
  have sz := fun i k hk => x.sz i (k := k) hk
  have szb := fun i hi k hk => x.szb (i := i) hi (k := k) hk
  have mono := fun i hi => x.mono (i := i) hi
  have hU := x.U
  have hS := x.S
  have sU := fun k hk => x.sU (k := k) hk
  generalize hgz : (fun k => (vl G k).g.1 * ((unitS G s : Int) / (vl G k).g.2)) = gf at *
  have gz' : ∀ k, k < G.length → ((gf k : Int) : Rat) = qN (vl G k).g * natR (unitS G s) := fun k hk => by rw [← hgz]; exact gz k hk
  have gzb' : ∀ k, k < G.length → (gf k).natAbs ≤ 1000 * unitS G s := fun k hk => by rw [← hgz]; exact gzb k hk
  generalize hsz : szS G (natR dn / natR dd) s (fun i => unitS G s * (denL (chancesV G) * dd) ^ i) = zf at *
  refine dlc_map (gainsV G) nD (fun q => .int (q.1 * ((unitS G s : Int) / q.2))) (fun k hk => ?_) (by unfold gainsV; rw [List.length_map]; omega) (fun q hq k hk => ?_) ?_
  · and_intros
    exact kGains_i (by omega) hk
  · and_intros
    exact kWhA_i (hg q hq).1 (Nat.lt_of_lt_of_le (sm (hg q hq).2.2.1) (Nat.pow_le_pow_right (by decide) (by decide))) (sm (by have := (hg q hq).1; have := (hg q hq).2.1; omega)) (cast3 hU.2) hk
  have eg : (gainsV G).map (fun q => PyData.int (q.1 * ((unitS G s : Int) / q.2))) = (List.range G.length).map fun k => PyData.int (gf k * ((denL (chancesV G) * dd : Nat) : Int) ^ 0) := by
    unfold gainsV
    rw [List.map_map, ← map_vl G]
    refine List.map_congr_left fun k _ => ?_
    rw [← hgz, Int.pow_zero, Int.mul_one]
    rfl
  rw [eg]
  refine dlc_map (List.range G.length) (fun k => nQ (s k)) (fun k => .int ((canon (s k)).1 * ((unitS G s : Int) / (canon (s k)).2))) (fun k hk => ?_) (by rw [List.length_range]; omega) (fun j hj k hk => ?_) ?_
  · and_intros
    exact hk
  · and_intros
    have hj := List.mem_range.mp hj
    have dv := Nat.le_of_dvd hU.1 (sU j hj)
    have nb := x.nb0 hj
    have e2 : (((canon (s j)).1 * ((unitS G s : Int) / (canon (s j)).2) : Int) : Rat) = s j * natR (unitS G s) := by rw [whole_q (canon_red _) (sU j hj), q_canon]; rfl
    have ab := nb_abs nb e2
    refine kWhA_i (canon_red (s j)).1 ?_ ?_ (cast3 hU.2) hk
    · refine Nat.lt_of_le_of_lt ?_ (Nat.lt_of_lt_of_le (lt_pow_mul (i := 900) ab x.B hU.2) (Nat.pow_le_pow_right (by decide) (by decide)))
      rw [Int.natAbs_mul]
      refine Nat.le_mul_of_pos_right _ ?_
      have c1 := (canon_red (s j)).1
      have d2 : (canon (s j)).2 ∣ (unitS G s : Int) := Int.natAbs_dvd_natAbs.mp (by rw [Int.natAbs_natCast]; exact sU j hj)
      obtain ⟨c, hc⟩ := d2
      rw [hc, Int.mul_ediv_cancel_left _ (by omega)]
      have : c ≠ 0 := fun z => by rw [z, Int.mul_zero] at hc; omega
      omega
    · have : (canon (s j)).2.natAbs ≤ unitS G s := dv
      exact Nat.lt_of_le_of_lt this (Nat.lt_of_lt_of_le hU.2 (Nat.pow_le_pow_right (by decide) (by decide)))
  have ez : (List.range G.length).map (fun k => PyData.int ((canon (s k)).1 * ((unitS G s : Int) / (canon (s k)).2))) = (List.range G.length).map fun k => PyData.int (zf 0 k) := by
    refine List.map_congr_left fun k hk => ?_
    have hk := List.mem_range.mp hk
    congr 1
    refine Rat.intCast_inj.mp ?_
    rw [sz 0 k hk, whole_q (canon_red _) (sU k hk), q_canon, Nat.pow_zero, Nat.mul_one]
    rfl
  rw [ez]
  refine dfor_inv (List.range t) (fun i => .int (i : Int)) (fun k hk => ?_) (fun i Γ' => Γ' = [some (.d (gvD G)), some (.d (nD ((dn : Int), (dd : Int)))), some (.d (listQ G.length s)), some (.d (.int (t : Int))), some (.d (.int ((unitS G s * (denL (chancesV G) * dd) ^ i : Nat) : Int))), some (.d (.int (denL (chancesV G) : Int))),
    some (.d (.list ((List.range G.length).map fun k => PyData.int (gf k * ((denL (chancesV G) * dd : Nat) : Int) ^ i)))), some (.d (.list ((List.range G.length).map fun k => PyData.int (zf i k)))), none, some (.d (.int (dn : Int))), some (.d (.int (dd : Int))), none, none, none]) ?_ ?_ ?_
  · and_intros
    refine ⟨by have := x.T; omega, by have := x.T; omega, ?_⟩
    rw [Int.toNat_natCast, rangeD0]
    exact hk
  · rw [Nat.pow_zero, Nat.mul_one]
    rfl
  · rintro i a Γ' ha rfl
    have hit : i < t := by
      have := (List.getElem?_eq_some_iff.mp ha).1
      rwa [List.length_range] at this
    have m1 := mono i (Nat.le_of_lt hit)
    have m2 := mono (i + 1) hit
    have eM : ((unitS G s * (denL (chancesV G) * dd) ^ i : Nat) : Int) * (denL (chancesV G) : Int) * (dd : Int) = ((unitS G s * (denL (chancesV G) * dd) ^ (i + 1) : Nat) : Int) := by
      rw [Nat.pow_succ, ← Nat.mul_assoc, ← Nat.mul_assoc]
      simp only [Int.natCast_mul]
    have hMS : unitS G s * (denL (chancesV G) * dd) ^ i * denL (chancesV G) < 2 ^ 3000 := by
      refine Nat.lt_of_le_of_lt ?_ m2
      rw [Nat.pow_succ, ← Nat.mul_assoc, ← Nat.mul_assoc]
      exact Nat.le_mul_of_pos_right _ x.d1
    and_intros
    refine ⟨cmw (cast3 m1) (cast3 hS.2), cmw (by rw [← Int.natCast_mul]; exact cast3 hMS) (cast3 x.db), ?_⟩
    rw [eM]
    refine dlc_map (List.range G.length) (fun k => .int (gf k * ((denL (chancesV G) * dd : Nat) : Int) ^ i)) (fun k => .int (gf k * ((denL (chancesV G) * dd : Nat) : Int) ^ (i + 1))) (fun k hk => ?_) (by rw [List.length_range]; omega) (fun j hj k hk => ?_) ?_
    · and_intros
      exact hk
    · have hj := List.mem_range.mp hj
      have hz : (gf j * ((denL (chancesV G) * dd : Nat) : Int) ^ i).natAbs < 2 ^ (10 + 3000) := by
        refine lt_pow_mul (b := 1000) (c := unitS G s * (denL (chancesV G) * dd) ^ i) ?_ (by decide) m1
        rw [Int.natAbs_mul, ← Nat.mul_assoc, ← Int.natCast_pow, Int.natAbs_natCast]
        exact Nat.mul_le_mul_right _ (gzb' j hj)
      and_intros
      refine ⟨cmw (pow13 hz (by decide)) (cast3 hS.2), cmw (by rw [Int.natAbs_mul, Int.natAbs_natCast]; exact pow13 (pow_mul_lt hz hS.2) (by decide)) (cast3 x.db), ?_⟩
      have e3 : gf j * ((denL (chancesV G) * dd : Nat) : Int) ^ i * (denL (chancesV G) : Int) * (dd : Int) = gf j * ((denL (chancesV G) * dd : Nat) : Int) ^ (i + 1) := by
        rw [Int.pow_succ, Int.natCast_mul, Int.mul_assoc, Int.mul_assoc]
      rw [e3]
      exact hk
    and_intros
    refine dlc_map (List.range G.length) (fun k => .tuple [.int (gf k * ((denL (chancesV G) * dd : Nat) : Int) ^ (i + 1)), (vl G k).D]) (fun k => .int (zf (i + 1) k)) (fun k hk => ?_) (by rw [List.length_range]; omega) (fun j hj k hk => ?_) ?_
    · and_intros
      have e4 : zipD ((List.range G.length).map fun k => PyData.int (gf k * ((denL (chancesV G) * dd : Nat) : Int) ^ (i + 1))) (G.map PlV.D) = (List.range G.length).map fun k => PyData.tuple [.int (gf k * ((denL (chancesV G) * dd : Nat) : Int) ^ (i + 1)), (vl G k).D] := by
        rw [← map_vl G PlV.D]
        unfold zipD
        rw [List.zipWith_map, List.zipWith_self]
      rw [e4]
      exact hk
    · have hj := List.mem_range.mp hj
      have hp := vl_wf hW hj
      have z1 := szb i (Nat.le_of_lt hit)
      have fc : vW (vl G j) (fun m => ((((List.range G.length).map (zf i)).getD m 0 : Int) : Rat)) = vW (vl G j) (wS G (natR dn / natR dd) s i) * natR (unitS G s * (denL (chancesV G) * dd) ^ i) := by
        rw [← vW_mul hp (natR_nonneg _)]
        refine vW_congr fun q hq => ?_
        have hq2 := hp.t q hq
        rw [getD_range _ hq2, sz i q.2 hq2]
      have nbv := nb_vW (f := wS G (natR dn / natR dd) s i) (S := denL (chancesV G)) hp (x.cS _ (vl_mem hj)) fun q hq => x.nb i (hp.t q hq)
      obtain ⟨zz, hzz⟩ := nbv.zt
      have hzz' : (zz : Rat) = vW (vl G j) (wS G (natR dn / natR dd) s i) * natR (unitS G s * (denL (chancesV G) * dd) ^ i * denL (chancesV G)) := hzz.symm
      have hzb := nb_abs nbv hzz'
      have hB1 : B0 + 1000 * i ≤ 2 ^ 901 := by
        have h2 := x.B
        have h3 := x.T
        have h4 : 1000 * i ≤ 1000 * 1000 := by omega
        have h5 : 1000 * 1000 ≤ 2 ^ 900 := Nat.le_trans (by decide : 1000 * 1000 ≤ 2 ^ 20) (Nat.pow_le_pow_right (by decide) (by decide))
        have h6 : (2 : Nat) ^ 901 = 2 ^ 900 + 2 ^ 900 := by rw [Nat.pow_succ]; omega
        omega
      have hz4 : zz.natAbs < 2 ^ 13000 := pow13 (lt_pow_mul hzb hB1 hMS) (by decide)
      have hd9 : dn < 2 ^ 3000 := Nat.lt_of_le_of_lt x.dl x.db
      and_intros
      have e5 : PyData.list ((List.range G.length).map fun k => PyData.int (zf i k)) = .list (((List.range G.length).map (zf i)).map PyData.int) := by
        rw [List.map_map]
        rfl
      refine ⟨rfl, rfl, ?_⟩
      rw [e5]
      refine kSW_i hp (by rw [List.length_map, List.length_range]; exact Nat.le_refl _) (up3 hS.2) (x.cS _ (vl_mem hj)) (fun q hq => ?_) fun z hz => ?_
      · rw [getD_range _ (hp.t q hq)]
        exact Nat.lt_of_lt_of_le (z1 q.2 (hp.t q hq)) (Nat.pow_le_pow_right (by decide) (by decide))
      · have ez2 : z = zz := Rat.intCast_inj.mp (by rw [hz, fc, hzz', natR_mul _ (denL (chancesV G))]; grind)
        subst ez2
        and_intros
        refine ⟨cmw (cast3 hd9) hz4, ?_⟩
        have e6 : gf j * ((denL (chancesV G) * dd : Nat) : Int) ^ (i + 1) + (dn : Int) * z = zf (i + 1) j := Rat.intCast_inj.mp (by
          rw [sz (i + 1) j hj, Rat.intCast_add, Rat.intCast_mul, Rat.intCast_mul, pow_cast, gz' j hj, hzz']
          show _ = (qN (vl G j).g + natR dn / natR dd * vW (vl G j) (wS G (natR dn / natR dd) s i)) * _
          have h1 : natR (unitS G s * (denL (chancesV G) * dd) ^ (i + 1)) = natR (unitS G s) * (((denL (chancesV G) * dd : Nat) : Int) : Rat) ^ (i + 1) := by
            rw [natR_mul]
            congr 1
            show ((((denL (chancesV G) * dd) ^ (i + 1) : Nat) : Int) : Rat) = _
            rw [Int.natCast_pow, pow_cast]
          have h2 : natR (unitS G s * (denL (chancesV G) * dd) ^ (i + 1)) = natR (unitS G s * (denL (chancesV G) * dd) ^ i * denL (chancesV G)) * natR dd := by
            rw [← natR_mul, Nat.pow_succ]
            congr 1
            simp [Nat.mul_comm, Nat.mul_left_comm, Nat.mul_assoc]
          have h3 : natR dn / natR dd * natR dd = natR dn := by
            have := natR_pos (a := dd) x.d1
            exact Rat.div_mul_cancel (by grind)
          have h4 : ((dn : Int) : Rat) = natR dn := rfl
          rw [h4, ← h3, Rat.add_mul, h1]
          rw [h1] at h2
          rw [h2]
          grind)
        rw [e6]
        exact hk
    and_intros
  · rintro Γ' rfl
    rw [List.length_range]
    and_intros
    refine dlc_map (List.range G.length) (fun k => .int (zf t k)) (fun k => nQ (wS G (natR dn / natR dd) s t k)) (fun k hk => ?_) (by rw [List.length_range]; omega) (fun j hj k hk => ?_) hP
    · and_intros
      exact hk
    · have hj := List.mem_range.mp hj
      have hM0 : 0 < ((unitS G s * (denL (chancesV G) * dd) ^ t : Nat) : Int) := by
        have := Nat.mul_pos hU.1 (Nat.pow_pos (n := t) (Nat.mul_pos hS.1 x.d1))
        omega
      and_intros
      refine kLow_i hM0 (by rw [Int.natAbs_natCast]; exact Nat.lt_of_lt_of_le x.M (Nat.pow_le_pow_right (by decide) (by decide))) ?_
      have e7 : num (zf t j) ((unitS G s * (denL (chancesV G) * dd) ^ t : Nat) : Int) = canon (wS G (natR dn / natR dd) s t j) := by
        rw [num_canon hM0, sz t j hj]
        congr 1
        exact Rat.mul_div_cancel (cast_ne (by omega))
      rw [e7]
      exact hk

abbrev s_worths_from : Stmt := top 20
theorem sc_worths_from : FnScope ["game", "start", "steps"] ["game", "start", "steps"] (defScope s_worths_from) := ⟨rfl, rfl, rfl, by decide +kernel, rfl, by decide +kernel, by decide +kernel⟩
theorem has_worths_from (D : IsDef K mg "worths_from" s_worths_from ["game", "start", "steps"]) (T : Bt mg) (C_ONE : ConstT K mg "ONE" (nD (1, 1))) (U_worths_after : Has P w K mg base (3) "worths_after" ["game", "discount", "start", "steps"] (spN K (kWA))) : Has P w K mg base (4) "worths_from" ["game", "start", "steps"] (spN K (kWF)) := by
  obtain ⟨f, fd, F, hm, hb⟩ := D
  obtain ⟨a_ONE, m_ONE, u_ONE⟩ := C_ONE
  obtain ⟨f_worths_after, fd_worths_after, G_worths_after, m_worths_after, k_worths_after, b_worths_after⟩ := U_worths_after
  have sc := sc_worths_from
  refine ⟨f, fd, F.ok sc (fun vs H Q E x => ?_) (fun cdv A outer s h0 vs Q E hr hs => ?_), hm, F.kp, hb⟩
  · obtain ⟨b, ds, P, _, hA, hR, _⟩ := x
    obtain ⟨_, _, _, rfl, _⟩ := conN3_is hR
    rw [hA.length]
    rfl
  obtain ⟨b, ds, Pq, eb, hA, hR, kQ⟩ := hs
  obtain ⟨x0, x1, x2, rfl, hR⟩ := conN3_is hR
  refine ⟨_, (pss_one (ps_ret (pe_call G_worths_after (hr.mono (by decide)) rfl m_worths_after k_worths_after b_worths_after .nil pass0 (pa_cons (pv 0) (pa_cons (pe_glob (v := .ref a_ONE) rfl m_ONE rfl) (pa_cons (pv 1) (pa_cons (pv 2) pa_nil))))))), sim_N (Γ := [some (.d x0), some (.d x1), some (.d x2)]) (z_retN (z_callN (z_cons z_var (z_cons (z_c u_ONE) (z_cons z_var (z_cons z_var z_nil)))))) eb hA (by show 3 ≤ 3; decide) rfl ?_ kQ⟩
  obtain ⟨G, w, t, B0, s, rfl, rfl, rfl, h1, h2, h3, h4, h5, h6, h7, hP⟩ := hR
  and_intros
  refine kWA_i (dn := 1) (dd := 1) h1 h2 h3 (Nat.le_refl 1) (Nat.le_refl 1) (Nat.one_lt_two_pow (by decide)) h4 (by rw [Nat.mul_one]; exact h5) h6 h7 ?_
  rw [natR_11]
  exact hP
abbrev s_worths : Stmt := top 19
theorem sc_worths : FnScope ["game", "steps"] ["game", "steps"] (defScope s_worths) := ⟨rfl, rfl, rfl, by decide +kernel, rfl, by decide +kernel, by decide +kernel⟩
theorem has_worths (D : IsDef K mg "worths" s_worths ["game", "steps"]) (T : Bt mg) (C_ZERO : ConstT K mg "ZERO" (nD (0, 1))) (U_worths_from : Has P w K mg base (4) "worths_from" ["game", "start", "steps"] (spN K (kWF))) : Has P w K mg base (5) "worths" ["game", "steps"] (spN K (kWo)) := by
  obtain ⟨f, fd, F, hm, hb⟩ := D
  obtain ⟨a_ZERO, m_ZERO, u_ZERO⟩ := C_ZERO
  obtain ⟨f_worths_from, fd_worths_from, G_worths_from, m_worths_from, k_worths_from, b_worths_from⟩ := U_worths_from
  have sc := sc_worths
  refine ⟨f, fd, F.ok sc (fun vs H Q E x => ?_) (fun cdv A outer s h0 vs Q E hr hs => ?_), hm, F.kp, hb⟩
  · obtain ⟨b, ds, P, _, hA, hR, _⟩ := x
    obtain ⟨_, _, rfl, _⟩ := conN2_is hR
    rw [hA.length]
    rfl
  obtain ⟨b, ds, Pq, eb, hA, hR, kQ⟩ := hs
  obtain ⟨x0, x1, rfl, hR⟩ := conN2_is hR
  refine ⟨_, (pss_one (ps_ret (pe_call G_worths_from (hr.mono (by decide)) rfl m_worths_from k_worths_from b_worths_from .nil pass0 (pa_cons (pv 0) (pa_cons (pe_op op_rep (pe_lst (pa_cons (pe_glob (v := .ref a_ZERO) rfl m_ZERO rfl) pa_nil)) (pe_callB (len_K (K := K) rfl) (by rfl) T.len PySem.boot_len (pa_cons (pv 0) pa_nil))) (pa_cons (pv 1) pa_nil)))))), sim_N (Γ := [some (.d x0), some (.d x1)]) (z_retN (z_callN (z_cons z_var (z_cons (z_ofN (z_rep (z_ofN (z_lst (z_cons (z_c u_ZERO) z_nil))) (z_len z_var))) (z_cons z_var z_nil))))) eb hA (by show 2 ≤ 2; decide) rfl ?_ kQ⟩
  obtain ⟨G, w, t, rfl, rfl, h1, h2, h3, h4, h5, hP⟩ := hR
  have hG12 := h3.l12
  clear hR
  and_intros
  refine ⟨by decide, ⟨by omega, by rw [List.length_map, Int.toNat_natCast]; omega, by rw [List.length_map]; omega⟩, ?_⟩
  rw [List.length_map, Int.toNat_natCast, rep_listQ]
  refine kWF_i (B0 := 0) h1 h2 h3 h4 (by rw [unitS_zero]; exact h5) (Nat.zero_le _) (fun _ _ => ⟨by rw [natR_zero]; decide +kernel, by rw [natR_zero]; decide +kernel⟩) ?_
  have : wS G 1 (fun _ => 0) t = wG G 1 t := funext (wS_zero G 1 t)
  rw [this]
  exact hP

abbrev s_is_less : Stmt := top 6
theorem sc_is_less : FnScope ["a", "b"] ["a", "b"] (defScope s_is_less) := ⟨rfl, rfl, rfl, by decide +kernel, rfl, by decide +kernel, by decide +kernel⟩
theorem has_is_less (D : IsDef K mg "is_less" s_is_less ["a", "b"]) (T : Bt mg) : Has P w K mg base (1) "is_less" ["a", "b"] (spP K (kLs)) := by
  obtain ⟨f, fd, F, hm, hb⟩ := D

  have sc := sc_is_less
  refine ⟨f, fd, F.ok sc (fun vs H Q E x => ?_) (fun cdv A outer s h0 vs Q E hr hs => ?_), hm, F.kp, hb⟩
  · obtain ⟨b, ds, P, _, hA, hR, _⟩ := x
    obtain ⟨_, _, rfl, _⟩ := con2_is hR
    rw [hA.length]
    rfl
  obtain ⟨b, ds, Pq, eb, hA, hR, kQ⟩ := hs
  obtain ⟨x0, x1, rfl, hR⟩ := con2_is hR
  refine ⟨_, (pss_one (ps_ret (pe_cmpR op_lt (pe_op op_mulW (pe_ix (ix_tupK (K := K) rfl) (pv 0) pe_int (fun _ _ => rfl)) (pe_ix (ix_tupK (K := K) rfl) (pv 1) pe_int (fun _ _ => rfl))) (pe_op op_mulW (pe_ix (ix_tupK (K := K) rfl) (pv 1) pe_int (fun _ _ => rfl)) (pe_ix (ix_tupK (K := K) rfl) (pv 0) pe_int (fun _ _ => rfl))) (nomark _)))), sim_P (Γ := [some (.d x0), some (.d x1)]) (z_ret (z_lt (z_mulW (z_ixT z_var z_i) (z_ixT z_var z_i)) (z_mulW (z_ixT z_var z_i) (z_ixT z_var z_i)))) eb hA (by show 2 ≤ 2; decide) rfl ?_ kQ⟩
  obtain ⟨r, s, rfl, rfl, h1, h2, hP⟩ := hR
  clear hR
  ac_nf
  rw [← less_canon] at hP
  exact ⟨_, atI_zero, _, atI_one, wide_mul (a := 8000) (b := 8000) h1.1 h2.2 (by decide) (by decide) (by decide), _, atI_zero, _, atI_one, wide_mul (a := 8000) (b := 8000) h2.1 h1.2 (by decide) (by decide) (by decide), hP⟩

abbrev s_greatest : Stmt := top 7
theorem sc_greatest : FnScope ["numbers", "found", "number"] ["numbers"] (defScope s_greatest) := ⟨rfl, rfl, rfl, by decide +kernel, rfl, by decide +kernel, by decide +kernel⟩
theorem has_greatest (D : IsDef K mg "greatest" s_greatest ["numbers"]) (T : Bt mg) (U_is_less : Has P w K mg base (1) "is_less" ["a", "b"] (spP K (kLs))) : Has P w K mg base (2) "greatest" ["numbers"] (spP K (kTkB true)) := by
  obtain ⟨f, fd, F, hm, hb⟩ := D
  obtain ⟨f_is_less, fd_is_less, G_is_less, m_is_less, k_is_less, b_is_less⟩ := U_is_less
  have sc := sc_greatest
  refine ⟨f, fd, F.ok sc (fun vs H Q E x => ?_) (fun cdv A outer s h0 vs Q E hr hs => ?_), hm, F.kp, hb⟩
  · obtain ⟨b, ds, P, _, hA, hR, _⟩ := x
    obtain ⟨_, rfl, _⟩ := con1_is hR
    rw [hA.length]
    rfl
  obtain ⟨b, ds, Pq, eb, hA, hR, kQ⟩ := hs
  obtain ⟨x0, rfl, hR⟩ := con1_is hR
  refine ⟨_, (pss_cons (ps_set (i := 1) sc.nd rfl (by first | exact Or.inl rfl | exact Or.inr rfl) (pe_ix (ix_listK (K := K) rfl) (pv 0) pe_int (fun _ _ => rfl))) (pss_cons (ps_for PassesOwn.never rfl (pi_listK (K := K) rfl (pv 0)) (pg_name (i := 2) sc.nd rfl (by first | exact Or.inl rfl | exact Or.inr rfl)) (pss_one (ps_if (pt_val (pe_call G_is_less (hr.mono (by decide)) rfl m_is_less k_is_less b_is_less .nil pass0 (pa_cons (pv 1) (pa_cons (pv 2) pa_nil)))) (pss_one (ps_set (i := 1) sc.nd rfl (by first | exact Or.inl rfl | exact Or.inr rfl) (pv 2))) pss_nil))) (pss_one (ps_ret (pv 1))))), sim_P (Γ := [some (.d x0), none, none]) (z_seq (z_asg (z_ixL z_var z_i) g_name) (z_seq (z_for (ws := [2]) (i_list z_var) g_name (z_ifS (z_tB (z_call (z_cons z_var (z_cons z_var z_nil)))) (z_asg z_var g_name) z_next)) (z_ret z_var))) eb hA (by show 1 ≤ 3; decide) rfl ?_ kQ⟩
  obtain ⟨l, rfl, h0, h1, hb, hP⟩ := hR
  clear hR
  obtain ⟨g, hg⟩ : ∃ g : Nat → Rat, g = fun j => l.getD j 0 := ⟨_, rfl⟩
  have hb2 : ∀ j, j < l.length → Big 8000 (canon (g j)) := fun j hj => by rw [hg]; exact hb _ (getDq_mem hj)
  have e0 : ratsD l = listQ l.length g := by rw [hg]; exact ratsD_listQ l
  have eP : tkQ true l = hiQ g l.length := by rw [hg]; rfl
  rw [eP] at hP
  rw [e0]
  clear hg hb eP e0
  ac_nf
  refine ⟨_, listQ_at h0, ?_⟩
  refine dfor_det (List.range l.length) (fun k => nQ (g k)) (fun P hP => ?_) (fun i => [some (.d (listQ l.length g)), some (.d (nQ (hiQ g i))), none]) rfl (fun i a ha k hk => ?_) ?_
  · ac_nf
    exact hP
  · have hi := (List.getElem?_eq_some_iff.mp ha).1
    rw [List.length_range] at hi
    rw [List.getElem?_range hi] at ha
    cases ha
    obtain ⟨j, hj, ej⟩ := hi_mem (f := g) h0 i (Nat.le_of_lt hi)
    have bg : Big 8000 (canon (hiQ g i)) := by
      rw [ej]
      exact hb2 j hj
    ac_nf
    refine kLs_i bg (hb2 i hi) ?_
    ac_nf
    have e : hiQ g (i + 1) = if decide (hiQ g i < g i) = true then g i else hiQ g i := rfl
    rw [e] at hk
    split
    · rename_i c
      rw [if_pos c] at hk
      ac_nf
      exact hk
    · rename_i c
      rw [if_neg c] at hk
      ac_nf
      exact hk
  · rw [List.length_range]
    ac_nf
    exact hP
abbrev s_least : Stmt := top 8
theorem sc_least : FnScope ["numbers", "found", "number"] ["numbers"] (defScope s_least) := ⟨rfl, rfl, rfl, by decide +kernel, rfl, by decide +kernel, by decide +kernel⟩
theorem has_least (D : IsDef K mg "least" s_least ["numbers"]) (T : Bt mg) (U_is_less : Has P w K mg base (1) "is_less" ["a", "b"] (spP K (kLs))) : Has P w K mg base (2) "least" ["numbers"] (spP K (kTkB false)) := by
  obtain ⟨f, fd, F, hm, hb⟩ := D
  obtain ⟨f_is_less, fd_is_less, G_is_less, m_is_less, k_is_less, b_is_less⟩ := U_is_less
  have sc := sc_least
  refine ⟨f, fd, F.ok sc (fun vs H Q E x => ?_) (fun cdv A outer s h0 vs Q E hr hs => ?_), hm, F.kp, hb⟩
  · obtain ⟨b, ds, P, _, hA, hR, _⟩ := x
    obtain ⟨_, rfl, _⟩ := con1_is hR
    rw [hA.length]
    rfl
  obtain ⟨b, ds, Pq, eb, hA, hR, kQ⟩ := hs
  obtain ⟨x0, rfl, hR⟩ := con1_is hR
  refine ⟨_, (pss_cons (ps_set (i := 1) sc.nd rfl (by first | exact Or.inl rfl | exact Or.inr rfl) (pe_ix (ix_listK (K := K) rfl) (pv 0) pe_int (fun _ _ => rfl))) (pss_cons (ps_for PassesOwn.never rfl (pi_listK (K := K) rfl (pv 0)) (pg_name (i := 2) sc.nd rfl (by first | exact Or.inl rfl | exact Or.inr rfl)) (pss_one (ps_if (pt_val (pe_call G_is_less (hr.mono (by decide)) rfl m_is_less k_is_less b_is_less .nil pass0 (pa_cons (pv 2) (pa_cons (pv 1) pa_nil)))) (pss_one (ps_set (i := 1) sc.nd rfl (by first | exact Or.inl rfl | exact Or.inr rfl) (pv 2))) pss_nil))) (pss_one (ps_ret (pv 1))))), sim_P (Γ := [some (.d x0), none, none]) (z_seq (z_asg (z_ixL z_var z_i) g_name) (z_seq (z_for (ws := [2]) (i_list z_var) g_name (z_ifS (z_tB (z_call (z_cons z_var (z_cons z_var z_nil)))) (z_asg z_var g_name) z_next)) (z_ret z_var))) eb hA (by show 1 ≤ 3; decide) rfl ?_ kQ⟩
  obtain ⟨l, rfl, h0, h1, hb, hP⟩ := hR
  clear hR
  obtain ⟨g, hg⟩ : ∃ g : Nat → Rat, g = fun j => l.getD j 0 := ⟨_, rfl⟩
  have hb2 : ∀ j, j < l.length → Big 8000 (canon (g j)) := fun j hj => by rw [hg]; exact hb _ (getDq_mem hj)
  have e0 : ratsD l = listQ l.length g := by rw [hg]; exact ratsD_listQ l
  have eP : tkQ false l = loQ g l.length := by rw [hg]; rfl
  rw [eP] at hP
  rw [e0]
  clear hg hb eP e0
  ac_nf
  refine ⟨_, listQ_at h0, ?_⟩
  refine dfor_det (List.range l.length) (fun k => nQ (g k)) (fun P hP => ?_) (fun i => [some (.d (listQ l.length g)), some (.d (nQ (loQ g i))), none]) rfl (fun i a ha k hk => ?_) ?_
  · ac_nf
    exact hP
  · have hi := (List.getElem?_eq_some_iff.mp ha).1
    rw [List.length_range] at hi
    rw [List.getElem?_range hi] at ha
    cases ha
    obtain ⟨j, hj, ej⟩ := lo_mem (f := g) h0 i (Nat.le_of_lt hi)
    have bg : Big 8000 (canon (loQ g i)) := by
      rw [ej]
      exact hb2 j hj
    ac_nf
    refine kLs_i (hb2 i hi) bg ?_
    ac_nf
    have e : loQ g (i + 1) = if decide (g i < loQ g i) = true then g i else loQ g i := rfl
    rw [e] at hk
    split
    · rename_i c
      rw [if_pos c] at hk
      ac_nf
      exact hk
    · rename_i c
      rw [if_neg c] at hk
      ac_nf
      exact hk
  · rw [List.length_range]
    ac_nf
    exact hP

abbrev s_minus : Stmt := top 5
theorem sc_minus : FnScope ["a", "b"] ["a", "b"] (defScope s_minus) := ⟨rfl, rfl, rfl, by decide +kernel, rfl, by decide +kernel, by decide +kernel⟩
theorem has_minusR (D : IsDef K mg "minus" s_minus ["a", "b"]) (U : Has P w K mg base 1 "lowest" ["n", "d"] (spLowest K)) : Has P w K mg base 2 "minus" ["a", "b"] (spMinusR K) := by
  obtain ⟨f, fd, F, hm, hb⟩ := D
  obtain ⟨f_lowest, fd_lowest, G_lowest, m_lowest, k_lowest, b_lowest⟩ := U
  have sc := sc_minus
  refine ⟨f, fd, F.ok sc (fun vs H Q E x => ?_) (fun cdv A outer s h0 vs Q E hr hs => ?_), hm, F.kp, hb⟩
  · obtain ⟨b, r, s, _, hA, _⟩ := x
    exact hA.length
  obtain ⟨b, r, s, eb, hA, h1, h2, kQ⟩ := hs
  refine ⟨_, (pss_one (ps_ret (pe_call G_lowest (hr.mono (by decide)) rfl m_lowest k_lowest b_lowest .nil pass0 (pa_cons (pe_op op_sub (pe_op op_mulW (pe_ix (ix_tupK (K := K) rfl) (pv 0) pe_int (fun _ _ => rfl)) (pe_ix (ix_tupK (K := K) rfl) (pv 1) pe_int (fun _ _ => rfl))) (pe_op op_mulW (pe_ix (ix_tupK (K := K) rfl) (pv 1) pe_int (fun _ _ => rfl)) (pe_ix (ix_tupK (K := K) rfl) (pv 0) pe_int (fun _ _ => rfl)))) (pa_cons (pe_op op_mulW (pe_ix (ix_tupK (K := K) rfl) (pv 0) pe_int (fun _ _ => rfl)) (pe_ix (ix_tupK (K := K) rfl) (pv 1) pe_int (fun _ _ => rfl))) pa_nil))))), ?_⟩
  obtain ⟨va, vb, rfl, ha, hb2⟩ : ∃ va vb, vs = [va, vb] ∧ Dt K b va (nD (canon r)) ∧ Dt K b vb (nD (canon s)) := by
    cases hA with
    | cons h1 h2 =>
      cases h2 with
      | cons h3 h4 =>
        cases h4
        exact ⟨_, _, rfl, h1, h3⟩
  have A0 : ∀ {σ : L2.St}, σ[0]? = some (some va) → Ev (tOp (rIxT K) (tVar 0) (tC (V.int 0))) σ b (.int (canon r).1) := fun s => ev_num0 (ed_var s ha)
  have A1 : ∀ {σ : L2.St}, σ[0]? = some (some va) → Ev (tOp (rIxT K) (tVar 0) (tC (V.int 1))) σ b (.int (canon r).2) := fun s => ev_num1 (ed_var s ha)
  have B0 : ∀ {σ : L2.St}, σ[1]? = some (some vb) → Ev (tOp (rIxT K) (tVar 1) (tC (V.int 0))) σ b (.int (canon s).1) := fun s => ev_num0 (ed_var s hb2)
  have B1 : ∀ {σ : L2.St}, σ[1]? = some (some vb) → Ev (tOp (rIxT K) (tVar 1) (tC (V.int 1))) σ b (.int (canon s).2) := fun s => ev_num1 (ed_var s hb2)
  have w4 : ∀ {z : Int}, z.natAbs < 2 ^ 3000 → z.natAbs < 2 ^ 4000 := fun h => Nat.lt_of_lt_of_le h (Nat.pow_le_pow_right (by decide) (by decide))
  have p1 := (canon_red r).1
  have p2 := (canon_red s).1
  have hpos : 0 < (canon r).2 * (canon s).2 := Int.mul_pos (by omega) (by omega)
  have hlt : ((canon r).2 * (canon s).2).natAbs < 2 ^ (3000 + 3000) := by rw [Int.natAbs_mul]; exact pow_mul_lt h1.2 h2.2
  have e : nD (num ((canon r).1 * (canon s).2 - (canon s).1 * (canon r).2) ((canon r).2 * (canon s).2)) = nQ (r - s) := by
    show nD (num _ _) = nD (canon _)
    rw [num_canon hpos, Rat.intCast_sub, Rat.intCast_mul, Rat.intCast_mul, Rat.intCast_mul]
    congr 2
    have a := q_canon r
    have c := q_canon s
    unfold qN at a c
    have n1 : (((canon r).2 : Int) : Rat) ≠ 0 := cast_ne (by omega)
    have n2 : (((canon s).2 : Int) : Rat) ≠ 0 := cast_ne (by omega)
    generalize (((canon r).1 : Int) : Rat) = A at *
    generalize (((canon r).2 : Int) : Rat) = A2 at *
    generalize (((canon s).1 : Int) : Rat) = S at *
    generalize (((canon s).2 : Int) : Rat) = S2 at *
    rw [← a, ← c]
    grind
  refine r_ret (K := K) (d := nQ (r - s)) (by
    rw [← e]
    exact ed_lowest (ev_op (ev_op (A0 rfl) (B1 rfl) (rv_I (cmulL (w4 h1.1) (w4 h2.2)))) (ev_op (B0 rfl) (A1 rfl) (rv_I (cmulL (w4 h2.1) (w4 h1.2)))) rv_I0) (ev_op (A1 rfl) (B1 rfl) (rv_I (cmulL (w4 h1.2) (w4 h2.2)))) hpos (Nat.lt_of_lt_of_le hlt (Nat.pow_le_pow_right (by decide) (by decide)))) eb fun v b' h' g hv => kQ v b' h' g hv

abbrev s_bracket : Stmt := top 21
theorem sc_bracket : FnScope ["game", "steps", "before", "rises", "worth", "other"] ["game", "steps"] (defScope s_bracket) := ⟨rfl, rfl, rfl, by decide +kernel, rfl, by decide +kernel, by decide +kernel⟩
theorem has_bracket (D : IsDef K mg "bracket" s_bracket ["game", "steps"]) (T : Bt mg) (U_worths : Has P w K mg base (5) "worths" ["game", "steps"] (spN K (kWo))) (U_worths_from : Has P w K mg base (4) "worths_from" ["game", "start", "steps"] (spN K (kWF))) (U_minus : Has P w K mg base (2) "minus" ["a", "b"] (spP K (kMin))) (U_greatest : Has P w K mg base (2) "greatest" ["numbers"] (spP K (kTkB true))) (U_least : Has P w K mg base (2) "least" ["numbers"] (spP K (kTkB false))) : Has P w K mg base (6) "bracket" ["game", "steps"] (spP K (kBrk)) := by
  obtain ⟨f, fd, F, hm, hb⟩ := D
  obtain ⟨f_worths, fd_worths, G_worths, m_worths, k_worths, b_worths⟩ := U_worths
  obtain ⟨f_worths_from, fd_worths_from, G_worths_from, m_worths_from, k_worths_from, b_worths_from⟩ := U_worths_from
  obtain ⟨f_minus, fd_minus, G_minus, m_minus, k_minus, b_minus⟩ := U_minus
  obtain ⟨f_greatest, fd_greatest, G_greatest, m_greatest, k_greatest, b_greatest⟩ := U_greatest
  obtain ⟨f_least, fd_least, G_least, m_least, k_least, b_least⟩ := U_least
  have sc := sc_bracket
  refine ⟨f, fd, F.ok sc (fun vs H Q E x => ?_) (fun cdv A outer s h0 vs Q E hr hs => ?_), hm, F.kp, hb⟩
  · obtain ⟨b, ds, P, _, hA, hR, _⟩ := x
    obtain ⟨_, _, rfl, _⟩ := con2_is hR
    rw [hA.length]
    rfl
  obtain ⟨b, ds, Pq, eb, hA, hR, kQ⟩ := hs
  obtain ⟨x0, x1, rfl, hR⟩ := con2_is hR
  refine ⟨_, (pss_cons (ps_set (i := 2) sc.nd rfl (by first | exact Or.inl rfl | exact Or.inr rfl) (pe_call G_worths (hr.mono (by decide)) rfl m_worths k_worths b_worths .nil pass0 (pa_cons (pv 0) (pa_cons (pv 1) pa_nil)))) (pss_cons (ps_setLc (i := 3) (own := [("worth", 4), ("other", 5)]) (tt := tYes) rfl sc.nd rfl rfl (sw_true rfl rfl rfl (by decide +kernel)) (pi_zipK (K := K) rfl (by rfl) T.zip (pa_cons (pe_call G_worths_from (hr.mono (by decide)) rfl m_worths_from k_worths_from b_worths_from .nil pass0 (pa_cons (pv 0) (pa_cons (pv 2) (pa_cons pe_int pa_nil)))) (pa_cons (pv 2) pa_nil))) (blkOk_by (N := ["game", "steps", "before", "rises", "worth", "other"]) (sc := defScope s_bracket) (by decide +kernel)) (fun _ _ _ _ _ => (pg_tupK (K := K) (n := 2) rfl rfl (pgs_cons (pg_name (i := 4) sc.nd rfl (by first | exact Or.inl rfl | exact Or.inr rfl)) (pgs_cons (pg_name (i := 5) sc.nd rfl (by first | exact Or.inl rfl | exact Or.inr rfl)) pgs_nil)))) (fun _ _ _ _ _ => pts_nil) (fun _ _ _ _ _ => (pe_call G_minus (hr.mono (by decide)) rfl m_minus k_minus b_minus .nil pass0 (pa_cons (pv 4) (pa_cons (pv 5) pa_nil))))) (pss_one (ps_ret (pe_tup (pa_cons (pe_call G_least (hr.mono (by decide)) rfl m_least k_least b_least .nil pass0 (pa_cons (pv 3) pa_nil)) (pa_cons (pe_call G_greatest (hr.mono (by decide)) rfl m_greatest k_greatest b_greatest .nil pass0 (pa_cons (pv 3) pa_nil)) pa_nil))))))), sim_P (Γ := [some (.d x0), some (.d x1), none, none, none, none]) (z_seq (z_asg (z_ofN (z_callN (z_cons z_var (z_cons z_var z_nil)))) g_name) (z_seq (z_asg (z_ofN (z_lc (by decide) (i_zip (z_cons (z_ofN (z_callN (z_cons z_var (z_cons z_var (z_cons z_i z_nil))))) (z_cons z_var z_nil))) (g_tup (g_cons g_name (g_cons g_name g_nil))) z_yes (z_call (z_cons z_var (z_cons z_var z_nil))))) g_name) (z_ret (z_tup (z_cons (z_call (z_cons z_var z_nil)) (z_cons (z_call (z_cons z_var z_nil)) z_nil)))))) eb hA (by show 2 ≤ 6; decide) rfl ?_ kQ⟩
  obtain ⟨G, w, U, t, T, rfl, rfl, x, ht, hP⟩ := hR
  clear hR
  have h1 := x.W.l1
  have h12 := x.W.l12
  have bd : ∀ k, k < G.length → Big 8000 (canon (wG G 1 (t + 1) k - wG G 1 t k)) := fun k hk => by
    have a := x.nb (j := t + 1) (by omega) hk
    have b := (x.nb (j := t) (by omega) hk).mono (M' := U * denL (chancesV G) ^ (t + 1)) (B' := 1000 * t) (Nat.mul_dvd_mul_left _ (Nat.pow_dvd_pow _ (Nat.le_succ t))) (Nat.le_refl _)
    have hT := x.Tl
    exact (nb_big3 (nb_sub a b) (Nat.mul_pos x.U0 (Nat.pow_pos x.S0)) (x.le (by omega)) (Nat.le_trans (by omega : 1000 * (t + 1) + 1000 * t ≤ 2 ^ 20) (Nat.pow_le_pow_right (by decide) (by decide)))).mono (by decide)
  subst_eqs
  refine x.wo (by omega) ?_
  refine dlc_map (List.range G.length) (fun k => .tuple [nQ (wG G 1 (t + 1) k), nQ (wG G 1 t k)]) (fun k => nQ (wG G 1 (t + 1) k - wG G 1 t k)) (fun P hP => ?_) (by rw [List.length_range]; omega) (fun k hk P hP => ?_) ?_
  · subst_eqs
    refine x.wf ht ?_
    rw [zipD_map, zip_rr, List.map_map]
    exact hP
  · have hk := List.mem_range.mp hk
    subst_eqs
    exact ⟨rfl, rfl, kMin_i (x.big (by omega) hk) (x.big (by omega) hk) hP⟩
  have el : PyData.list ((List.range G.length).map fun k => nQ (wG G 1 (t + 1) k - wG G 1 t k)) = ratsD (riL G t) := by
    unfold ratsD riL
    rw [List.map_map]
    rfl
  have bl : ∀ r ∈ riL G t, Big 8000 (canon r) := fun r hr => by
    obtain ⟨k, hk, rfl⟩ := List.mem_map.mp hr
    exact bd k (List.mem_range.mp hk)
  have hl : (riL G t).length = G.length := by
    unfold riL
    rw [List.length_map, List.length_range]
  rw [el]
  exact kTkB_i (by omega) (by omega) bl (kTkB_i (by omega) (by omega) bl ⟨by decide, hP⟩)

abbrev s_draws : Stmt := top 23
theorem sc_draws : FnScope ["script", "count", "rests", "draws", "k", "value", "cell", "at", "mixed"] ["script", "count"] (defScope s_draws) := ⟨rfl, rfl, rfl, by decide +kernel, rfl, by decide +kernel, by decide +kernel⟩
theorem has_draws (T : Bt mg) (D : IsDef K mg "_law_draws" s_draws ["script", "count"]) : Has P w K mg base 1 "_law_draws" ["script", "count"] (spDraws K) := by
  obtain ⟨f, fd, F, hm, hb⟩ := D
  have sc := sc_draws
  refine ⟨f, fd, F.ok sc (fun vs H Q E x => ?_) (fun cdv A outer s h0 vs Q E hr hs => ?_), hm, F.kp, hb⟩
  · obtain ⟨_, _, _, _, rfl, _⟩ := x
    rfl
  obtain ⟨b, a, ns, n, rfl, eb, hS, hl, hn, k⟩ := hs
  refine ⟨_, (pss_cons (ps_setLc (i := 2) (own := [("cell", 6)]) (tt := tYes) rfl sc.nd rfl rfl (sw_true rfl rfl rfl (by decide +kernel)) (pi_listK (K := K) rfl (pv 0)) (blkOk_by (N := ["script", "count", "rests", "draws", "k", "value", "cell", "at", "mixed"]) (sc := defScope s_draws) (by decide +kernel)) (fun _ _ _ _ _ => (pg_name (i := 6) sc.nd rfl (by first | exact Or.inl rfl | exact Or.inr rfl))) (fun _ _ _ _ _ => pts_nil) (fun _ _ _ _ _ => (pv 6))) (pss_cons (ps_set (i := 3) sc.nd rfl (by first | exact Or.inl rfl | exact Or.inr rfl) (pe_lst pa_nil)) (pss_cons (ps_for PassesOwn.never rfl (pi_range1 (by rfl) T.range (pa_cons (pv 1) pa_nil)) (pg_name (i := 4) sc.nd rfl (by first | exact Or.inl rfl | exact Or.inr rfl)) (pss_cons (ps_set (i := 5) sc.nd rfl (by first | exact Or.inl rfl | exact Or.inr rfl) pe_int) (Evl.pss_cut (ps_if (pt_cmpR op_gt (pe_callB (len_K (K := K) rfl) (by rfl) T.len PySem.boot_len (pa_cons (pv 2) pa_nil)) pe_int (nomark _)) (pss_cons (ps_set (i := 7) sc.nd rfl (by first | exact Or.inl rfl | exact Or.inr rfl) (pe_op op_mod (pe_callTy cr_int1 (by rfl) T.int (by decide +kernel) (pa_cons (pv 4) pa_nil)) (pe_callB (len_K (K := K) rfl) (by rfl) T.len PySem.boot_len (pa_cons (pv 2) pa_nil)))) (pss_one (ps_if (pt_cmpR op_ge (pe_ix (ix_listK (K := K) rfl) (pv 2) (pv 7) (fun _ _ => rfl)) (pe_op op_pow pe_int pe_int) (nomark _)) (pss_cons (ps_set (i := 5) sc.nd rfl (by first | exact Or.inl rfl | exact Or.inr rfl) (pe_op op_mod (pe_callTy cr_int1 (by rfl) T.int (by decide +kernel) (pa_cons (pe_ix (ix_listK (K := K) rfl) (pv 2) (pv 7) (fun _ _ => rfl)) pa_nil)) pe_int)) (pss_one (ps_asg (pe_op op_fdivW (pe_ix (ix_listK (K := K) rfl) (pv 2) (pv 7) (fun _ _ => rfl)) pe_int) (pg_sub (pv 2) (pv 7) set_list)))) (pss_cons (ps_set (i := 8) sc.nd rfl (by first | exact Or.inl rfl | exact Or.inr rfl) (pe_op op_mod (pe_callTy cr_int1 (by rfl) T.int (by decide +kernel) (pa_cons (pe_op op_add (pe_op op_add (pe_op op_mul (pe_ix (ix_listK (K := K) rfl) (pv 2) (pv 7) (fun _ _ => rfl)) pe_int) (pe_op op_mul (pv 4) pe_int)) pe_int) pa_nil)) pe_int)) (pss_cons (ps_set (i := 8) sc.nd rfl (by first | exact Or.inl rfl | exact Or.inr rfl) (pe_op op_mod (pe_callTy cr_int1 (by rfl) T.int (by decide +kernel) (pa_cons (pe_op op_add (pe_op op_mul (pv 8) pe_int) (pv 7)) pa_nil)) pe_int)) (pss_one (ps_set (i := 5) sc.nd rfl (by first | exact Or.inl rfl | exact Or.inr rfl) (pe_op op_mod (pe_callTy cr_int1 (by rfl) T.int (by decide +kernel) (pa_cons (pe_op op_fdivW (pv 8) pe_int) pa_nil)) pe_int)))))))) pss_nil) (pss_one (ps_expr (pe_appK (K := K) rfl (pv 3) (pa_cons (pv 5) pa_nil))))))) (pss_one (ps_ret (pv 3)))))), ?_⟩
  have hlc : EvL (tLc (iList K (tVar 0)) (gName 6) tYes (tVar 6) [6]) (start ["script", "count", "rests", "draws", "k", "value", "cell", "at", "mixed"] [V.ref a, V.int (n : Int)]) b (given (ns.map V.int).length (fun _ => true) (fun i => V.int (ns.getD i 0))) := by
    refine el_lcL (fun _ => true) (fun i => V.int (ns.getD i 0)) (ev_var rfl) hS (by rw [List.length_map]; omega) (fun x => rfl) (fun i x H1 e hx => et_yes) (fun i x H1 e hx _ => ?_)
    refine ev_is (ev_var rfl) ?_
    rw [List.getElem?_map] at hx
    cases z : ns[i]? with
    | none =>
      rw [z] at hx
      cases hx
    | some y =>
      rw [z] at hx
      cases hx
      rw [List.getD_eq_getElem?_getD, z]
      rfl
  refine q_asgL (hlc.mono eb) fun p h1 hp e1 h1p => ?_
  obtain ⟨rs, hrl, hrs⟩ : ∃ rs : List Int, rs.length = ns.length ∧ given (ns.map V.int).length (fun _ => true) (fun i => V.int (ns.getD i 0)) = rs.map V.int := by
    refine ⟨(List.range ns.length).map fun i => ns.getD i 0, by simp, ?_⟩
    unfold given
    rw [List.filter_eq_self.mpr fun _ _ => rfl, List.length_map, List.map_map]
    rfl
  rw [hrs] at h1p
  have bp : b p = none := none_of eb hp
  have g1 : Gr b h0 b h1 := Gr.stay eb e1
  refine q_asgL (el_lst ea_nil (by decide)) fun q h2 hq e2 h2q => ?_
  have npq : p ≠ q := ne_of_none h1p hq
  have hq0 : h0 q = none := fresh_back e1 hq
  have bq : b q = none := none_of eb hq0
  refine s_forR1 (n := (n : Int)) (ea_cons (ev_var rfl) ea_nil) (by omega) (fun i σ' h' => ∃ (rs ds : List Int) (u v x y z : Option V), σ' = [some (.ref a), some (.int (n : Int)), some (.ref p), some (.ref q), u, v, x, y, z] ∧
      rs.length = ns.length ∧ ds.length = i ∧ (∀ d ∈ ds, 0 ≤ d ∧ d < 1000) ∧ Gr b h0 b h' ∧ h' p = some (.lst (rs.map V.int)) ∧ h' q = some (.lst (ds.map V.int))) ?_ ?_ ?_
  · intro H1 e
    refine ⟨rs, [], none, none, none, none, none, rfl, hrl, rfl, (fun d hd => by cases hd), g1.trans (Gr.stay g1.gi (e2.trans e)), e _ _ (e2 _ _ h1p), e _ _ h2q⟩
  · rintro i σ' h' hi ⟨rs, ds, u, v, x, y, z, rfl, hrl, hdl, hds, G, hp', hq'⟩
    refine q_asg ev_c fun h2 e2 => ?_
    have hp2 := e2 _ _ hp'
    have hq2 := e2 _ _ hq'
    have G2 := G.trans (Gr.stay G.gi e2)
    refine ⟨fun σ' h' => ∃ (rs : List Int) (d : Int) (x y z : Option V), σ' = [some (.ref a), some (.int (n : Int)), some (.ref p), some (.ref q), some (.int (i : Int)), some (.int d), x, y, z] ∧
      rs.length = ns.length ∧ (0 ≤ d ∧ d < 1000) ∧ Gr b h0 b h' ∧ h' p = some (.lst (rs.map V.int)) ∧ h' q = some (.lst (ds.map V.int)), ?_, ?_⟩
    · refine s_if (b := decide (((0 : Nat) : Int) < ((rs.map V.int).length : Int))) (et_test (ev_op (ev_len (ev_var rfl) (sq_of hp2)) ev_c rv_I0)) (fun hc h3 e3 => ?_) (fun hc h3 e3 => ?_)
      · have hpos : 0 < rs.length := by
          have := of_decide_eq_true hc
          rw [List.length_map] at this
          omega
        have hp3 := e3 _ _ hp2
        have hq3 := e3 _ _ hq2
        have G3 := G2.trans (Gr.stay G2.gi e3)
        have hj : i % rs.length < rs.length := Nat.mod_lt _ hpos
        refine q_asg (v := .int ((i % rs.length : Nat) : Int)) (ev_op (ev_int1 (ev_var rfl)) (ev_len (ev_var rfl) (sq_of hp3)) ?_) fun h4 e4 => ?_
        · have e1 : V.int ((i % rs.length : Nat) : Int) = V.int ((i : Int) % ((rs.map V.int).length : Int)) := by rw [List.length_map, Int.natCast_emod]
          rw [e1]
          exact rv_I (by rw [List.length_map]; omega)
        have hp4 := e4 _ _ hp3
        have hq4 := e4 _ _ hq3
        have G4 := G3.trans (Gr.stay G3.gi e4)
        obtain ⟨r, hr0⟩ : ∃ r, rs[i % rs.length]? = some r := ⟨_, List.getElem?_eq_getElem hj⟩
        have hr1 : (rs.map V.int)[i % rs.length]? = some (V.int r) := by rw [List.getElem?_map, hr0] <;> rfl
        have hix : ∀ {σ : L2.St} {h : Hp}, Ex h4 h → σ[2]? = some (some (.ref p)) → σ[7]? = some (some (.int ((i % rs.length : Nat) : Int))) → Ev (tOp (rIxL K) (tVar 2) (tVar 7)) σ h (.int r) := fun {σ h} e s1 s2 =>
          ev_op (ev_var s1) (ev_var s2) (rv_ixL (sq_of (e _ _ hp4)) (at_of rfl hr1))
        refine s_if (b := decide ((10 : Int) ^ (18 : Int).toNat ≤ r)) (et_test (ev_op (hix (Ex.refl _) rfl rfl) (ev_op ev_c ev_c (rv_I ⟨by decide, by decide, by decide⟩)) rv_I0)) (fun hc2 h5 e5 => ?_) (fun hc2 h5 e5 => ?_)
        · refine q_asg (ev_op (ev_int1 (hix e5 rfl rfl)) ev_c (rv_I (by decide))) fun h6 e6 => ?_
          have e46 := e5.trans e6
          refine s_setL (e46 _ _ hp4) (ev_op (hix e46 rfl rfl) ev_c (rv_I ⟨by decide, by decide⟩)) (ev_var rfl) (ev_var rfl) (by rw [List.length_map]; exact hj) fun h7 e7 => ?_
          refine ⟨rs.set (i % rs.length) (r / 1000), r % 1000, _, _, _, rfl, by rw [List.length_set, hrl], ⟨Int.emod_nonneg _ (by decide), Int.emod_lt_of_pos _ (by decide)⟩, (G4.trans (Gr.stay G4.gi (e46.trans e7))).mut hp bp, ?_, ?_⟩
          · rw [upd_same, ← List.map_set]
          · rw [upd_ne npq.symm]
            exact e7 _ _ (e46 _ _ hq4)
        · refine q_asg (ev_op (ev_int1 (ev_op (ev_op (ev_op (hix e5 rfl rfl) ev_c (rv_I (.inr ⟨by decide, by decide⟩))) (ev_op (ev_var rfl) ev_c (rv_I (.inr ⟨by decide, by decide⟩))) rv_I0) ev_c rv_I0)) ev_c (rv_I (by decide))) fun h6 e6 => ?_
          refine q_asg (ev_op (ev_int1 (ev_op (ev_op (ev_var rfl) ev_c (rv_I (.inr ⟨by decide, by decide⟩))) (ev_var rfl) rv_I0)) ev_c (rv_I (by decide))) fun h7 e7 => ?_
          refine s_asg (ev_op (ev_int1 (ev_op (ev_var rfl) ev_c (rv_I ⟨by decide, by decide⟩))) ev_c (rv_I (by decide))) fun h8 e8 => ?_
          have e48 := ((e5.trans e6).trans e7).trans e8
          exact ⟨rs, _, _, _, _, rfl, hrl, ⟨Int.emod_nonneg _ (by decide), Int.emod_lt_of_pos _ (by decide)⟩, G4.trans (Gr.stay G4.gi e48), e48 _ _ hp4, e48 _ _ hq4⟩
      · exact ⟨rs, 0, _, _, _, rfl, hrl, by decide, G2.trans (Gr.stay G2.gi e3), e3 _ _ hp2, e3 _ _ hq2⟩
    · rintro σ' h3 ⟨rs, d, x, y, z, rfl, hrl, hd, G3, hp3, hq3⟩
      refine s_app hq3 (ev_var rfl) (ev_var rfl) (by rw [List.length_map]; omega) fun h4 e4 => ?_
      refine ⟨rs, ds ++ [d], _, _, _, _, _, rfl, hrl, by rw [List.length_append, hdl]; rfl, fun t ht => ?_, (G3.trans (Gr.stay G3.gi e4)).mut hq0 bq, ?_, ?_⟩
      · rcases List.mem_append.mp ht with ht | ht
        · exact hds t ht
        · rw [List.mem_singleton.mp ht]
          exact hd
      · rw [upd_ne npq]
        exact e4 _ _ hp3
      · rw [upd_same, List.map_append]
        rfl
  · rintro σ' h' ⟨rs, ds, u, v, x, y, z, rfl, hrl, hdl, hds, G, hp', hq'⟩
    refine ⟨_, rfl, k _ (upd b q (.lst (ds.map V.int))) h' ds (G.tell hq0 bq hq') (by rw [hdl]; omega) hds (Dt.list upd_same (DtA.ints ds))⟩

abbrev s_gcd : Stmt := top 24
theorem sc_gcd : FnScope ["a", "b", "step", "rest"] ["a", "b"] (defScope s_gcd) := ⟨rfl, rfl, rfl, by decide +kernel, rfl, by decide +kernel, by decide +kernel⟩
theorem has_gcdW (T : Bt mg) (D : IsDef K mg "_law_gcd" s_gcd ["a", "b"]) : Has P w K mg base 1 "_law_gcd" ["a", "b"] (spGcdW K) := by
  obtain ⟨f, fd, F, hm, hb⟩ := D
  have sc := sc_gcd
  refine ⟨f, fd, F.ok sc SpF.len (fun cdv A outer s h0 vs Q E hr hs => ?_), hm, F.kp, hb⟩
  obtain ⟨b, ds, eb, hA, hn, ⟨x, y, rfl, hy⟩, k⟩ := hs
  obtain rfl := hA.i2
  refine ⟨_, (pss_cons (ps_set (i := 0) sc.nd rfl (by first | exact Or.inl rfl | exact Or.inr rfl) (pe_callB cr_abs (by rfl) T.abs (by decide +kernel) (pa_cons (pv 0) pa_nil))) (pss_cons (ps_set (i := 1) sc.nd rfl (by first | exact Or.inl rfl | exact Or.inr rfl) (pe_callB cr_abs (by rfl) T.abs (by decide +kernel) (pa_cons (pv 1) pa_nil))) (pss_cons (ps_for PassesOwn.never rfl (pi_range1 (by rfl) T.range (pa_cons pe_int pa_nil)) (pg_name (i := 2) sc.nd rfl (by first | exact Or.inl rfl | exact Or.inr rfl)) (pss_cons (ps_if (pt_cmpR op_eq (pv 1) pe_int (nomark _)) (pss_one ps_break) pss_nil) (pss_cons (ps_set (i := 3) sc.nd rfl (by first | exact Or.inl rfl | exact Or.inr rfl) (pe_op op_mod (pe_callTy cr_int1 (by rfl) T.int (by decide +kernel) (pa_cons (pv 0) pa_nil)) (pv 1))) (pss_cons (ps_set (i := 0) sc.nd rfl (by first | exact Or.inl rfl | exact Or.inr rfl) (pv 1)) (pss_one (ps_set (i := 1) sc.nd rfl (by first | exact Or.inl rfl | exact Or.inr rfl) (pv 3))))))) (pss_one (ps_ret (pv 0)))))), ?_⟩
  refine r_sc (ev_abs (ev_var rfl)) eb fun h1 g1 => ?_
  refine r_sc (ev_abs (ev_var rfl)) g1.gi fun h2 g2 => ?_
  have G2 := g1.trans g2
  have fin : ∀ (σ' : L2.St) (h' : Hp) (z : Nat), σ'[0]? = some (some (.int (z : Int))) → z = Nat.gcd x.natAbs y.natAbs → Gr b h0 b h' → tRet (tVar 0) { nx := fun _ H' => Q .non H', rt := Q, bk := fun _ _ => False, ct := fun _ _ => False } σ' h' := fun σ' h' z e1 e2 G => by
    subst e2
    exact ⟨_, e1, k _ b h' _ G (fun a c e => by cases e; rfl) (Dt.int _)⟩
  refine s_forR1 (n := 4000) ((ea_cons ev_c ea_nil)) (by omega) (fun i σ' h' => ∃ (p q : Nat) (u v : Option V), σ' = [some (.int (p : Int)), some (.int (q : Int)), u, v] ∧ EucW (Nat.gcd x.natAbs y.natAbs) i p q ∧ Gr b h0 b h')
    (fun h3 e3 => ⟨x.natAbs, y.natAbs, none, none, rfl, ⟨rfl, by rw [if_pos rfl]; exact hy⟩, G2.trans (Gr.stay G2.gi e3)⟩) ?_ ?_
  · rintro i σ' h' hi ⟨p, q, u, v, rfl, hE, G⟩
    refine r_if (b := b) (c := decide (V.int (q : Int) = V.int 0)) (et_test (ev_op (ev_var rfl) ev_c (rv_eq rfl))) G.gi (fun hc h3 g3 => ?_) (fun hc h3 g3 => ?_)
    · have e0 : (q : Int) = 0 := by
        have := of_decide_eq_true hc
        injection this
      obtain rfl : q = 0 := by omega
      exact fin _ _ p rfl (eucW_zero hE) (G.trans g3)
    · have e0 : ¬ (q : Int) = 0 := fun z => by
        have := of_decide_eq_false hc
        exact this (by rw [z])
      refine r_sc (v := .int ((p % q : Nat) : Int)) (ev_op (ev_int1 (ev_var rfl)) (ev_var rfl) ?_) (G.trans g3).gi fun h4 g4 => ?_
      · have e1 : V.int ((p % q : Nat) : Int) = V.int ((p : Int) % (q : Int)) := by rw [Int.natCast_emod]
        rw [e1]
        exact rv_I (by omega)
      refine r_sc (ev_var rfl) g4.gi fun h5 g5 => ?_
      exact ⟨_, rfl, q, p % q, _, _, rfl, eucW_turn hE (by omega), ((G.trans g3).trans g4).trans g5⟩
  · rintro σ' h' ⟨p, q, u, v, rfl, hE, G⟩
    have e0 := eucW_end hE
    subst e0
    exact fin _ _ p rfl (eucW_zero hE) G

abbrev s_number : Stmt := top 25
theorem sc_number : FnScope ["n", "d", "common"] ["n", "d"] (defScope s_number) := ⟨rfl, rfl, rfl, by decide +kernel, rfl, by decide +kernel, by decide +kernel⟩
theorem has_numberW (D : IsDef K mg "_law_number" s_number ["n", "d"]) (U : Has P w K mg base 1 "_law_gcd" ["a", "b"] (spGcdW K)) : Has P w K mg base 2 "_law_number" ["n", "d"] (spNumberW K) := by
  obtain ⟨f, fd, F, hm, hb⟩ := D
  obtain ⟨f_gcd, fd_gcd, G_gcd, m_gcd, k_gcd, b_gcd⟩ := U
  have sc := sc_number
  refine ⟨f, fd, F.ok sc SpF.len (fun cdv A outer s h0 vs Q E hr hs => ?_), hm, F.kp, hb⟩
  obtain ⟨b, ds, eb, hA, hn, ⟨x, y, rfl, hy, hx1, hy1, hgd⟩, k⟩ := hs
  obtain rfl := hA.i2
  refine ⟨_, (Evl.pss_cut (ps_if (pt_cmpR op_lt (pv 1) pe_int (nomark _)) (pss_cons (ps_set (i := 0) sc.nd rfl (by first | exact Or.inl rfl | exact Or.inr rfl) (pe_un un_neg (pv 0))) (pss_one (ps_set (i := 1) sc.nd rfl (by first | exact Or.inl rfl | exact Or.inr rfl) (pe_un un_neg (pv 1))))) pss_nil) (pss_cons (ps_set (i := 2) sc.nd rfl (by first | exact Or.inl rfl | exact Or.inr rfl) (pe_call G_gcd (hr.mono (by decide)) rfl m_gcd k_gcd b_gcd .nil pass0 (pa_cons (pv 0) (pa_cons (pv 1) pa_nil)))) (pss_one (ps_ret (pe_tup (pa_cons (pe_op op_fdivW (pv 0) (pv 2)) (pa_cons (pe_op op_fdivW (pv 1) (pv 2)) pa_nil))))))), ?_⟩
  refine ⟨fun σ' h' => σ' = [some (.int (if y < 0 then -x else x)), some (.int (if y < 0 then -y else y)), none] ∧ Gr b h0 b h', ?_, ?_⟩
  · refine r_if1 (b := b) (c := decide (y < 0)) (et_test (ev_op (ev_var rfl) ev_c rv_I0)) eb (fun hc h3 g3 => ?_) (fun hc h3 g3 => ?_)
    · have e0 : y < 0 := of_decide_eq_true hc
      refine r_sc (ev_un (ev_var rfl) ru_neg) g3.gi fun h4 g4 => ?_
      refine ⟨_, rfl, _, rfl, ?_, g3.trans g4⟩
      rw [if_pos e0, if_pos e0]
      rfl
    · have e0 : ¬ y < 0 := of_decide_eq_false hc
      refine ⟨?_, g3⟩
      rw [if_neg e0, if_neg e0]
      rfl
  · rintro σ' h' ⟨rfl, G⟩
    have hyy : (if y < 0 then -y else y).natAbs = y.natAbs := by split <;> omega
    have hxx : (if y < 0 then -x else x).natAbs = x.natAbs := by split <;> omega
    refine r_sc (b := b) (v := .int ((Nat.gcd x.natAbs y.natAbs : Nat) : Int)) (ev_int (ed_call (eda_cons (ed_int (ev_var rfl)) (eda_cons (ed_int (ev_var rfl)) eda_nil)) rfl ⟨_, _, rfl, by rw [hyy, hxx]; exact .inr hgd⟩ fun e he => ?_)) G.gi fun h4 g4 => ?_
    · rw [he _ _ rfl, hxx, hyy]
    have hg : 0 < Nat.gcd x.natAbs y.natAbs := Nat.gcd_pos_of_pos_right _ (by omega)
    have hg2 : Nat.gcd x.natAbs y.natAbs < 2 ^ 8100 := Nat.lt_of_le_of_lt (Nat.gcd_le_right _ (by omega)) hy1
    have hw : CDivW 0 ((Nat.gcd x.natAbs y.natAbs : Nat) : Int) := wide_div (b := 8100) (by omega) (by simpa using hg2) (by decide) (by decide)
    refine r_ret (K := K) (d := nD (num x y)) (ed_tup (eda_cons (ed_int (ev_op (ev_var rfl) (ev_var rfl) (rv_I hw))) (eda_cons (ed_int (ev_op (ev_var rfl) (ev_var rfl) (rv_I hw))) eda_nil)) (by show 2 ≤ 100000; decide)) g4.gi fun v b' h5 g5 hv => ?_
    exact k v b' h5 _ ((G.trans g4).trans g5) (fun n d e => by cases e; rfl) hv

abbrev s_plus_ : Stmt := top 26
theorem sc_plus_ : FnScope ["a", "b"] ["a", "b"] (defScope s_plus_) := ⟨rfl, rfl, rfl, by decide +kernel, rfl, by decide +kernel, by decide +kernel⟩
theorem has_plusW (D : IsDef K mg "_law_plus" s_plus_ ["a", "b"]) (U : Has P w K mg base 2 "_law_number" ["n", "d"] (spNumberW K)) : Has P w K mg base 3 "_law_plus" ["a", "b"] (spPlusW K) := by
  obtain ⟨f, fd, F, hm, hb⟩ := D
  obtain ⟨f_number, fd_number, G_number, m_number, k_number, b_number⟩ := U
  have sc := sc_plus_
  refine ⟨f, fd, F.ok sc (fun vs H Q E x => ?_) (fun cdv A outer s h0 vs Q E hr hs => ?_), hm, F.kp, hb⟩
  · obtain ⟨b, p, q, _, hA, _⟩ := x
    exact hA.length
  obtain ⟨b, r, s, eb, hA, bp, bq, hden, k⟩ := hs
  refine ⟨_, (pss_one (ps_ret (pe_call G_number (hr.mono (by decide)) rfl m_number k_number b_number .nil pass0 (pa_cons (pe_op op_add (pe_op op_mulW (pe_ix (ix_tupK (K := K) rfl) (pv 0) pe_int (fun _ _ => rfl)) (pe_ix (ix_tupK (K := K) rfl) (pv 1) pe_int (fun _ _ => rfl))) (pe_op op_mulW (pe_ix (ix_tupK (K := K) rfl) (pv 1) pe_int (fun _ _ => rfl)) (pe_ix (ix_tupK (K := K) rfl) (pv 0) pe_int (fun _ _ => rfl)))) (pa_cons (pe_op op_mulW (pe_ix (ix_tupK (K := K) rfl) (pv 0) pe_int (fun _ _ => rfl)) (pe_ix (ix_tupK (K := K) rfl) (pv 1) pe_int (fun _ _ => rfl))) pa_nil))))), ?_⟩
  generalize hpe : canon r = p at *
  generalize hqe : canon s = q at *
  obtain ⟨va, vb, rfl, ha, hb2⟩ : ∃ va vb, vs = [va, vb] ∧ Dt K b va (nD p) ∧ Dt K b vb (nD q) := by
    rw [← hpe, ← hqe]
    cases hA with
    | cons h1 h2 =>
      cases h2 with
      | cons h3 h4 =>
        cases h4
        exact ⟨_, _, rfl, h1, h3⟩
  have rp : Red p := by rw [← hpe]; exact canon_red r
  have rq : Red q := by rw [← hqe]; exact canon_red s
  have A0 : ∀ {σ : L2.St}, σ[0]? = some (some va) → Ev (tOp (rIxT K) (tVar 0) (tC (V.int 0))) σ b (.int p.1) := fun s => ev_num0 (ed_var s ha)
  have A1 : ∀ {σ : L2.St}, σ[0]? = some (some va) → Ev (tOp (rIxT K) (tVar 0) (tC (V.int 1))) σ b (.int p.2) := fun s => ev_num1 (ed_var s ha)
  have B0 : ∀ {σ : L2.St}, σ[1]? = some (some vb) → Ev (tOp (rIxT K) (tVar 1) (tC (V.int 0))) σ b (.int q.1) := fun s => ev_num0 (ed_var s hb2)
  have B1 : ∀ {σ : L2.St}, σ[1]? = some (some vb) → Ev (tOp (rIxT K) (tVar 1) (tC (V.int 1))) σ b (.int q.2) := fun s => ev_num1 (ed_var s hb2)
  have p1 := bp.1
  have p2 := bp.2
  have q1 := bq.1
  have q2 := bq.2
  have hpos := mul_pos' rp.1 rq.1
  have hr2 := big_plus_raw bp bq
  have hcn : num (p.1 * q.2 + q.1 * p.2) (p.2 * q.2) = canon (r + s) := by
    rw [← plus_canon, hpe, hqe]
    rfl
  have hdd : nQ (r + s) = nD (num (p.1 * q.2 + q.1 * p.2) (p.2 * q.2)) := by rw [hcn]; rfl
  refine r_ret (K := K) (d := nQ (r + s)) (by
    rw [hdd]
    exact ed_call (eda_cons (ed_int (ev_op (ev_op (A0 rfl) (B1 rfl) (rv_I (cmulL p1 q2))) (ev_op (B0 rfl) (A1 rfl) (rv_I (cmulL q1 p2))) rv_I0)) (eda_cons (ed_int (ev_op (A1 rfl) (B1 rfl) (rv_I (cmulL p2 q2)))) eda_nil)) rfl ⟨_, _, rfl, by omega, Nat.lt_of_lt_of_le hr2.1 (Nat.pow_le_pow_right (by decide) (by decide)), Nat.lt_of_lt_of_le hr2.2 (Nat.pow_le_pow_right (by decide) (by decide)), den_gcd hpos hcn hden⟩ fun e he => he _ _ rfl) eb fun v b' h' g hv => k v b' h' g hv

abbrev s_times_ : Stmt := top 27
theorem sc_times_ : FnScope ["a", "b"] ["a", "b"] (defScope s_times_) := ⟨rfl, rfl, rfl, by decide +kernel, rfl, by decide +kernel, by decide +kernel⟩
theorem has_timesW (D : IsDef K mg "_law_times" s_times_ ["a", "b"]) (U : Has P w K mg base 2 "_law_number" ["n", "d"] (spNumberW K)) : Has P w K mg base 3 "_law_times" ["a", "b"] (spTimesW K) := by
  obtain ⟨f, fd, F, hm, hb⟩ := D
  obtain ⟨f_number, fd_number, G_number, m_number, k_number, b_number⟩ := U
  have sc := sc_times_
  refine ⟨f, fd, F.ok sc (fun vs H Q E x => ?_) (fun cdv A outer s h0 vs Q E hr hs => ?_), hm, F.kp, hb⟩
  · obtain ⟨b, p, q, _, hA, _⟩ := x
    exact hA.length
  obtain ⟨b, r, s, eb, hA, bp, bq, hden, k⟩ := hs
  refine ⟨_, (pss_one (ps_ret (pe_call G_number (hr.mono (by decide)) rfl m_number k_number b_number .nil pass0 (pa_cons (pe_op op_mulW (pe_ix (ix_tupK (K := K) rfl) (pv 0) pe_int (fun _ _ => rfl)) (pe_ix (ix_tupK (K := K) rfl) (pv 1) pe_int (fun _ _ => rfl))) (pa_cons (pe_op op_mulW (pe_ix (ix_tupK (K := K) rfl) (pv 0) pe_int (fun _ _ => rfl)) (pe_ix (ix_tupK (K := K) rfl) (pv 1) pe_int (fun _ _ => rfl))) pa_nil))))), ?_⟩
  generalize hpe : canon r = p at *
  generalize hqe : canon s = q at *
  obtain ⟨va, vb, rfl, ha, hb2⟩ : ∃ va vb, vs = [va, vb] ∧ Dt K b va (nD p) ∧ Dt K b vb (nD q) := by
    rw [← hpe, ← hqe]
    cases hA with
    | cons h1 h2 =>
      cases h2 with
      | cons h3 h4 =>
        cases h4
        exact ⟨_, _, rfl, h1, h3⟩
  have rp : Red p := by rw [← hpe]; exact canon_red r
  have rq : Red q := by rw [← hqe]; exact canon_red s
  have A0 : ∀ {σ : L2.St}, σ[0]? = some (some va) → Ev (tOp (rIxT K) (tVar 0) (tC (V.int 0))) σ b (.int p.1) := fun s => ev_num0 (ed_var s ha)
  have A1 : ∀ {σ : L2.St}, σ[0]? = some (some va) → Ev (tOp (rIxT K) (tVar 0) (tC (V.int 1))) σ b (.int p.2) := fun s => ev_num1 (ed_var s ha)
  have B0 : ∀ {σ : L2.St}, σ[1]? = some (some vb) → Ev (tOp (rIxT K) (tVar 1) (tC (V.int 0))) σ b (.int q.1) := fun s => ev_num0 (ed_var s hb2)
  have B1 : ∀ {σ : L2.St}, σ[1]? = some (some vb) → Ev (tOp (rIxT K) (tVar 1) (tC (V.int 1))) σ b (.int q.2) := fun s => ev_num1 (ed_var s hb2)
  have p1 := bp.1
  have p2 := bp.2
  have q1 := bq.1
  have q2 := bq.2
  have hpos := mul_pos' rp.1 rq.1
  have t1 : (p.1 * q.1).natAbs < 2 ^ (4000 + 4000) := by rw [Int.natAbs_mul]; exact pow_mul_lt bp.1 bq.1
  have t2 : (p.2 * q.2).natAbs < 2 ^ (4000 + 4000) := by rw [Int.natAbs_mul]; exact pow_mul_lt bp.2 bq.2
  have hcn : num (p.1 * q.1) (p.2 * q.2) = canon (r * s) := by
    rw [← times_canon, hpe, hqe]
    rfl
  have hdd : nQ (r * s) = nD (num (p.1 * q.1) (p.2 * q.2)) := by rw [hcn]; rfl
  refine r_ret (K := K) (d := nQ (r * s)) (by
    rw [hdd]
    exact ed_call (eda_cons (ed_int (ev_op (A0 rfl) (B0 rfl) (rv_I (cmulL p1 q1)))) (eda_cons (ed_int (ev_op (A1 rfl) (B1 rfl) (rv_I (cmulL p2 q2)))) eda_nil)) rfl ⟨_, _, rfl, by omega, Nat.lt_of_lt_of_le t1 (Nat.pow_le_pow_right (by decide) (by decide)), Nat.lt_of_lt_of_le t2 (Nat.pow_le_pow_right (by decide) (by decide)), den_gcd hpos hcn hden⟩ fun e he => he _ _ rfl) eb fun v b' h' g hv => k v b' h' g hv

abbrev s_total_ : Stmt := top 29
theorem sc_total_ : FnScope ["numbers", "found", "one"] ["numbers"] (defScope s_total_) := ⟨rfl, rfl, rfl, by decide +kernel, rfl, by decide +kernel, by decide +kernel⟩
theorem has_totW (D : IsDef K mg "_law_total" s_total_ ["numbers"]) (U : Has P w K mg base 3 "_law_plus" ["a", "b"] (spPlusW K)) : Has P w K mg base 4 "_law_total" ["numbers"] (spTotW K) := by
  obtain ⟨f, fd, F, hm, hb⟩ := D
  obtain ⟨f_plus, fd_plus, G_plus, m_plus, k_plus, b_plus⟩ := U
  have sc := sc_total_
  refine ⟨f, fd, F.ok sc (fun vs H Q E x => ?_) (fun cdv A outer s h0 vs Q E hr hs => ?_), hm, F.kp, hb⟩
  · obtain ⟨b, l, _, hA, _⟩ := x
    exact hA.length
  obtain ⟨b, l, eb, hA, hl, hp, hq, k⟩ := hs
  refine ⟨_, (pss_cons (ps_set (i := 1) sc.nd rfl (by first | exact Or.inl rfl | exact Or.inr rfl) (pe_tup (pa_cons pe_int (pa_cons pe_int pa_nil)))) (pss_cons (ps_for PassesOwn.never rfl (pi_listK (K := K) rfl (pv 0)) (pg_name (i := 2) sc.nd rfl (by first | exact Or.inl rfl | exact Or.inr rfl)) (pss_one (ps_set (i := 1) sc.nd rfl (by first | exact Or.inl rfl | exact Or.inr rfl) (pe_call G_plus (hr.mono (by decide)) rfl m_plus k_plus b_plus .nil pass0 (pa_cons (pv 1) (pa_cons (pv 2) pa_nil)))))) (pss_one (ps_ret (pv 1))))), ?_⟩
  obtain ⟨vL, rfl, hL⟩ : ∃ vL, vs = [vL] ∧ Dt K b vL (.list (l.map nQ)) := by
    cases hA with
    | cons h1 h2 =>
      cases h2
      exact ⟨_, rfl, h1⟩
  refine r_set (K := K) (d := nD (0, 1)) (ed_tup (eda_cons (ed_int ev_c) (eda_cons (ed_int ev_c) eda_nil)) (by show 2 ≤ 100000; decide)) eb fun v1 b1 h1 g1 hv1 => ?_
  refine r_forL (K := K) (ds := l.map nQ) (ed_var rfl (hL.up g1.gb)) g1.gi fun a xs b2 h2 g2 _ _ => ⟨fun i σ' h' => ∃ (v : V) (u : Option V) (b' : Hp), σ' = [some vL, some v, u] ∧ Gr b2 h2 b' h' ∧ Dt K b' v (nQ (l.take i).sum), ⟨v1, none, b2, rfl, Gr.refl g2.gi, by
    rw [List.take_zero, List.sum_nil]
    unfold nQ
    rw [canon_zero]
    exact hv1.up g2.gb⟩, fun i σ' h' p => ?_, ?_, ?_⟩
  · obtain ⟨_, _, b', _, g, _⟩ := p
    exact g.gb.trans g.gi
  · rintro i d xv σ' h' hd hx ⟨v, u, b', rfl, g, hv⟩
    rw [List.getElem?_map] at hd
    cases hz : l[i]? with
    | none => rw [hz] at hd; cases hd
    | some r =>
      rw [hz] at hd
      cases hd
      have hil : i < l.length := (List.getElem?_eq_some_iff.mp hz).1
      refine r_set1 (K := K) (d := nQ ((l.take i).sum + r)) (ed_plusW (eda_cons (ed_var rfl hv) (eda_cons (ed_var rfl (hx.up g.gb)) eda_nil)) (hp i (Nat.le_of_lt hil)).1 (hq r (List.mem_of_getElem? hz)) (by rw [← sum_snoc, ← take_more1 hz]; exact (hp (i + 1) hil).2)) g.gi fun v3 b3 h3 g3 hv3 => ?_
      refine ⟨v3, _, b3, rfl, g.trans g3, ?_⟩
      rw [take_more1 hz, sum_snoc]
      exact hv3
  · rintro σ' h' ⟨v, u, b', rfl, g, hv⟩
    rw [List.length_map, List.take_length] at hv
    exact ⟨_, rfl, k v b' h' ((g1.trans g2).trans g) hv⟩

abbrev s_is_number : Stmt := top 30
theorem sc_is_number : FnScope ["actual", "one"] ["actual"] (defScope s_is_number) := ⟨rfl, rfl, rfl, by decide +kernel, rfl, by decide +kernel, by decide +kernel⟩
theorem has_is_numberW (T : Bt mg) (D : IsDef K mg "_law_is_number" s_is_number ["actual"]) (U : Has P w K mg base 1 "_law_gcd" ["a", "b"] (spGcdW K)) : Has P w K mg base 2 "_law_is_number" ["actual"] (spIsNW K) := by
  obtain ⟨f, fd, F, hm, hb⟩ := D
  obtain ⟨f_gcd, fd_gcd, G_gcd, m_gcd, k_gcd, b_gcd⟩ := U
  have sc := sc_is_number
  refine ⟨f, fd, F.ok sc (fun vs H Q E x => ?_) (fun cdv A outer s h0 vs Q E hr hs => ?_), hm, F.kp, hb⟩
  · obtain ⟨b, p, _, hA, _⟩ := x
    exact hA.length
  obtain ⟨b, p, eb, hA, hred, hbig, kQ⟩ := hs
  refine ⟨_, (pss_cons (ps_if (PW.pt (pw_or (pt_not (pt_val (pe_callB (isi_K (K := K) rfl) (by rfl) T.isinstance (by decide +kernel) (pa_cons (pv 0) (pa_cons (pe_bltn (v := .ty "tuple") (by rfl) T.tuple (by decide +kernel) rfl) pa_nil))))) (pw_or1 (pt_cmpR op_ne (pe_callB (len_K (K := K) rfl) (by rfl) T.len PySem.boot_len (pa_cons (pv 0) pa_nil)) pe_int (nomark _))))) (pss_one (ps_ret pe_bl)) pss_nil) (pss_cons (ps_for PassesOwn.never rfl (pi_tupK (K := K) rfl (pv 0)) (pg_name (i := 1) sc.nd rfl (by first | exact Or.inl rfl | exact Or.inr rfl)) (pss_one (ps_if (PW.pt (pw_or (pt_not (pt_val (pe_callB (isi_K (K := K) rfl) (by rfl) T.isinstance (by decide +kernel) (pa_cons (pv 1) (pa_cons (pe_bltn (v := .ty "int") (by rfl) T.int (by decide +kernel) rfl) pa_nil))))) (pw_or1 (pt_val (pe_callB (isi_K (K := K) rfl) (by rfl) T.isinstance (by decide +kernel) (pa_cons (pv 1) (pa_cons (pe_bltn (v := .ty "bool") (by rfl) T.bool (by decide +kernel) rfl) pa_nil))))))) (pss_one (ps_ret pe_bl)) pss_nil))) (pss_one (ps_ret (pe_and (pe_cmpR op_ge (pe_ix (ix_tupK (K := K) rfl) (pv 0) pe_int (fun _ _ => rfl)) pe_int (nomark _)) (pe_one (pe_cmpR op_eq (pe_call G_gcd (hr.mono (by decide)) rfl m_gcd k_gcd b_gcd .nil pass0 (pa_cons (pe_ix (ix_tupK (K := K) rfl) (pv 0) pe_int (fun _ _ => rfl)) (pa_cons (pe_ix (ix_tupK (K := K) rfl) (pv 0) pe_int (fun _ _ => rfl)) pa_nil))) pe_int (nomark _)))))))), ?_⟩
  obtain ⟨vp, rfl, hv⟩ : ∃ vp, vs = [vp] ∧ Dt K b vp (nD p) := by
    cases hA with
    | cons h1 h2 =>
      cases h2
      exact ⟨_, rfl, h1⟩
  refine r_if (b := b) (c := false) (et_is (et_or (a := false) (b := false) (et_is (et_not (et_B (ev_isiD (r := true) (ed_var rfl hv) (show kitB "tuple" "tuple" = some true by decide +kernel)))) rfl) fun _ => et_test (ev_neS (v := .int 2) (ev_lenT (ed_var rfl hv)) ev_c rfl)) rfl) eb (fun z => by cases z) fun _ h1 g1 => ?_
  refine r_forT (K := K) (ds := [.int p.1, .int p.2]) (ed_var rfl hv) g1.gi fun a xs b2 h2 g2 _ _ => ⟨fun i σ' h' => (∃ u, σ' = [some vp, u]) ∧ Gr b2 h2 b2 h', ⟨⟨_, rfl⟩, Gr.refl g2.gi⟩, fun i σ' h' q => q.2.gi, ?_, ?_⟩
  · rintro i d xv σ' h' hd hx ⟨⟨u, rfl⟩, g3⟩
    obtain ⟨z, rfl⟩ : ∃ z, d = .int z := by
      match i, hd with
      | 0, hd => exact ⟨_, (Option.some.inj hd).symm⟩
      | 1, hd => exact ⟨_, (Option.some.inj hd).symm⟩
      | k + 2, hd => simp at hd
    obtain rfl := hx.intI
    refine r_if1 (b := b2) (c := false) (et_is (et_or (a := false) (b := false) (et_is (et_not (et_B (ev_isiI (r := true) (ev_var rfl) (by decide +kernel)))) rfl) fun _ => et_B (ev_isiI (r := false) (ev_var rfl) (by decide +kernel))) rfl) g3.gi (fun z => by cases z) fun _ h4 g4 => ?_
    exact ⟨⟨_, rfl⟩, g3.trans g4⟩
  · rintro σ' h' ⟨⟨u, rfl⟩, g3⟩
    have hv2 := hv.up g2.gb
    refine L2.st_next ?_
    dsimp only
    refine Evl.s_ret (H := h') (v := .bl (true && true)) (Ev.mono g3.gi (ev_andV (ev_is (ev_op (ev_num1 (ed_var rfl hv2)) ev_c rv_I0) (congrArg V.bl (decide_eq_true hred.1))) fun _ => ev_eqS (v := .int 1) (ev_is (ev_int (ed_call (eda_cons (ed_int (ev_num0 (ed_var rfl hv2))) (eda_cons (ed_int (ev_num1 (ed_var rfl hv2))) eda_nil)) rfl ⟨_, _, rfl, .inr (by rw [hred.2, Nat.mul_one]; exact hbig)⟩ fun e he => he _ _ rfl)) (by rw [hred.2] <;> rfl)) ev_c rfl)) fun h5 e5 => ?_
    exact kQ h5 (((g1.trans g2).trans g3).gh.trans e5)
abbrev s_is_numbers : Stmt := top 31
theorem sc_is_numbers : FnScope ["actual", "one"] ["actual"] (defScope s_is_numbers) := ⟨rfl, rfl, rfl, by decide +kernel, rfl, by decide +kernel, by decide +kernel⟩
theorem has_is_numbersW (T : Bt mg) (D : IsDef K mg "_law_is_numbers" s_is_numbers ["actual"]) (U : Has P w K mg base 2 "_law_is_number" ["actual"] (spIsNW K)) : Has P w K mg base 3 "_law_is_numbers" ["actual"] (spIsLW K) := by
  obtain ⟨f, fd, F, hm, hb⟩ := D
  obtain ⟨f_is_number, fd_is_number, G_is_number, m_is_number, k_is_number, b_is_number⟩ := U
  have sc := sc_is_numbers
  refine ⟨f, fd, F.ok sc (fun vs H Q E x => ?_) (fun cdv A outer s h0 vs Q E hr hs => ?_), hm, F.kp, hb⟩
  · obtain ⟨b, p, _, hA, _⟩ := x
    exact hA.length
  obtain ⟨b, l, eb, hA, hll, hl, kQ⟩ := hs
  refine ⟨_, (pss_one (ps_ret (pe_and (pe_callB (isi_K (K := K) rfl) (by rfl) T.isinstance (by decide +kernel) (pa_cons (pv 0) (pa_cons (pe_bltn (v := .ty "list") (by rfl) T.list (by decide +kernel) rfl) pa_nil))) (pe_one (pe_callB (all_K (K := K) rfl rfl) (by rfl) T.all (by decide +kernel) (pa_cons (pe_lc (own := [("one", 1)]) (tt := tYes) rfl sc.nd (pi_listK (K := K) rfl (pv 0)) (blkOk_by (N := ["actual", "one"]) (sc := defScope s_is_numbers) (by decide +kernel)) (fun _ _ _ _ _ => (pg_name (i := 1) sc.nd rfl (by first | exact Or.inl rfl | exact Or.inr rfl))) (fun _ _ _ _ _ => pts_nil) (fun _ _ _ _ _ => (pe_call G_is_number (hr.mono (by decide)) rfl m_is_number k_is_number b_is_number .nil pass0 (pa_cons (pv 1) pa_nil)))) pa_nil)))))), ?_⟩
  obtain ⟨vp, rfl, hv⟩ : ∃ vp, vs = [vp] ∧ Dt K b vp (.list (l.map nD)) := by
    cases hA with
    | cons h1 h2 =>
      cases h2
      exact ⟨_, rfl, h1⟩
  refine Evl.s_ret (H := h0) (v := .bl (true && true)) (Ev.mono eb (ev_andV (ev_isiL (ed_var rfl hv)) fun _ => ev_is (ev_all (bs := (List.range (l.map nD).length).map fun _ => true) ?_) (by rw [all_true]))) fun h5 e5 => kQ h5 e5
  rw [← givenD_true]
  refine EN.ed (en_lcL (ed_var rfl hv) (by rw [List.length_map]; omega) _ _ (fun _ => rfl) fun i d v b2 e2 hd hx => ⟨et_yes, fun _ => ?_⟩)
  rw [List.getElem?_map] at hd
  cases hz : l[i]? with
  | none => rw [hz] at hd; cases hd
  | some p =>
    rw [hz] at hd
    cases hd
    have := hl p (List.mem_of_getElem? hz)
    exact ed_bool (ev_isNW (eda_cons (ed_var rfl hx) eda_nil) this.1 this.2)

abbrev s_less : Stmt := top 28
theorem sc_less : FnScope ["a", "b"] ["a", "b"] (defScope s_less) := ⟨rfl, rfl, rfl, by decide +kernel, rfl, by decide +kernel, by decide +kernel⟩
theorem has_lessW (D : IsDef K mg "_law_less" s_less ["a", "b"]) : Has P w K mg base 1 "_law_less" ["a", "b"] (spLess K 4000) := by
  obtain ⟨f, fd, F, hm, hb⟩ := D
  have sc := sc_less
  refine ⟨f, fd, F.ok sc (fun vs H Q E x => ?_) (fun cdv A outer s h0 vs Q E hr hs => ?_), hm, F.kp, hb⟩
  · obtain ⟨b, r, s, _, hA, _⟩ := x
    exact hA.length
  obtain ⟨b, r, s, eb, hA, h1, h2, kQ⟩ := hs
  refine ⟨_, (pss_one (ps_ret (pe_cmpR op_lt (pe_op op_mulW (pe_ix (ix_tupK (K := K) rfl) (pv 0) pe_int (fun _ _ => rfl)) (pe_ix (ix_tupK (K := K) rfl) (pv 1) pe_int (fun _ _ => rfl))) (pe_op op_mulW (pe_ix (ix_tupK (K := K) rfl) (pv 1) pe_int (fun _ _ => rfl)) (pe_ix (ix_tupK (K := K) rfl) (pv 0) pe_int (fun _ _ => rfl))) (nomark _)))), ?_⟩
  obtain ⟨va, vb, rfl, ha, hb2⟩ : ∃ va vb, vs = [va, vb] ∧ Dt K b va (nD (canon r)) ∧ Dt K b vb (nD (canon s)) := by
    cases hA with
    | cons h1 h2 =>
      cases h2 with
      | cons h3 h4 =>
        cases h4
        exact ⟨_, _, rfl, h1, h3⟩
  have A0 : ∀ {σ : L2.St}, σ[0]? = some (some va) → Ev (tOp (rIxT K) (tVar 0) (tC (V.int 0))) σ b (.int (canon r).1) := fun s => ev_num0 (ed_var s ha)
  have A1 : ∀ {σ : L2.St}, σ[0]? = some (some va) → Ev (tOp (rIxT K) (tVar 0) (tC (V.int 1))) σ b (.int (canon r).2) := fun s => ev_num1 (ed_var s ha)
  have B0 : ∀ {σ : L2.St}, σ[1]? = some (some vb) → Ev (tOp (rIxT K) (tVar 1) (tC (V.int 0))) σ b (.int (canon s).1) := fun s => ev_num0 (ed_var s hb2)
  have B1 : ∀ {σ : L2.St}, σ[1]? = some (some vb) → Ev (tOp (rIxT K) (tVar 1) (tC (V.int 1))) σ b (.int (canon s).2) := fun s => ev_num1 (ed_var s hb2)
  have w4 : ∀ {z : Int}, z.natAbs < 2 ^ 4000 → z.natAbs < 2 ^ 4000 := fun h => h
  have key : Ev (tOp (rI0 fun i j => .bl (decide (i < j))) (tOp (rI CMulW fun i j => .int (i * j)) (tOp (rIxT K) (tVar 0) (tC (V.int 0))) (tOp (rIxT K) (tVar 1) (tC (V.int 1)))) (tOp (rI CMulW fun i j => .int (i * j)) (tOp (rIxT K) (tVar 1) (tC (V.int 0))) (tOp (rIxT K) (tVar 0) (tC (V.int 1))))) [some va, some vb] b (.bl (decide (r < s))) := by
    rw [← less_canon]
    exact ev_op (ev_op (A0 rfl) (B1 rfl) (rv_I (cmulL (w4 h1.1) (w4 h2.2)))) (ev_op (B0 rfl) (A1 rfl) (rv_I (cmulL (w4 h2.1) (w4 h1.2)))) rv_I0
  exact Evl.s_ret (H := h0) (Ev.mono eb key) fun h' e' => kQ h' e'

abbrev s_place : Stmt := top 32
theorem sc_place : FnScope ["draws", "many", "kind", "gain", "size", "places", "weights", "k"] ["draws", "many"] (defScope s_place) := ⟨rfl, rfl, rfl, by decide +kernel, rfl, by decide +kernel, by decide +kernel⟩
theorem has_place6 (T : Bt mg) (D : IsDef K mg "_law_place" s_place ["draws", "many"]) (U : Has P w K mg base 2 "_law_number" ["n", "d"] (spNumber K)) : Has P w K mg base 3 "_law_place" ["draws", "many"] (spPlace6S K) := by
  obtain ⟨f, fd, F, hm, hb⟩ := D
  obtain ⟨f_number, fd_number, G_number, m_number, k_number, b_number⟩ := U
  have sc := sc_place
  refine ⟨f, fd, F.ok sc (fun vs H Q E x => ?_) (fun cdv A outer s h0 vs Q E hr hs => ?_), hm, F.kp, hb⟩
  · obtain ⟨b, ds, most, _, hA, _⟩ := x
    exact hA.length
  obtain ⟨b, ds, many, eb, hA, hl, hd, hmany, k⟩ := hs
  refine ⟨_, (pss_cons (ps_set (i := 2) sc.nd rfl (by first | exact Or.inl rfl | exact Or.inr rfl) (pe_op op_mod (pe_callTy cr_int1 (by rfl) T.int (by decide +kernel) (pa_cons (pe_ix (ix_listK (K := K) rfl) (pv 0) pe_int (fun _ _ => rfl)) pa_nil)) pe_int)) (pss_cons (ps_set (i := 3) sc.nd rfl (by first | exact Or.inl rfl | exact Or.inr rfl) (pe_call G_number (hr.mono (by decide)) rfl m_number k_number b_number .nil pass0 (pa_cons (pe_op op_sub (pe_op op_mod (pe_callTy cr_int1 (by rfl) T.int (by decide +kernel) (pa_cons (pe_ix (ix_listK (K := K) rfl) (pv 0) pe_int (fun _ _ => rfl)) pa_nil)) pe_int) pe_int) (pa_cons (pe_ix (ix_listK (K := K) rfl) (pe_lst (pa_cons pe_int (pa_cons pe_int (pa_cons pe_int (pa_cons pe_int pa_nil))))) (pe_op op_mod (pe_callTy cr_int1 (by rfl) T.int (by decide +kernel) (pa_cons (pe_ix (ix_listK (K := K) rfl) (pv 0) pe_int (fun _ _ => rfl)) pa_nil)) pe_int) (fun _ _ => rfl)) pa_nil)))) (pss_cons (ps_set (i := 4) sc.nd rfl (by first | exact Or.inl rfl | exact Or.inr rfl) (pe_ix (ix_listK (K := K) rfl) (pe_lst (pa_cons pe_int (pa_cons pe_int (pa_cons pe_int (pa_cons pe_int (pa_cons pe_int (pa_cons pe_int (pa_cons pe_int (pa_cons pe_int (pa_cons pe_int pa_nil)))))))))) (pe_op op_mod (pe_callTy cr_int1 (by rfl) T.int (by decide +kernel) (pa_cons (pe_ix (ix_listK (K := K) rfl) (pv 0) pe_int (fun _ _ => rfl)) pa_nil)) pe_int) (fun _ _ => rfl))) (pss_cons (ps_set (i := 5) sc.nd rfl (by first | exact Or.inl rfl | exact Or.inr rfl) (pe_lc (own := [("k", 7)]) (tt := tYes) rfl sc.nd (pi_range1 (by rfl) T.range (pa_cons (pv 4) pa_nil)) (blkOk_by (N := ["draws", "many", "kind", "gain", "size", "places", "weights", "k"]) (sc := defScope s_place) (by decide +kernel)) (fun _ _ _ _ _ => (pg_name (i := 7) sc.nd rfl (by first | exact Or.inl rfl | exact Or.inr rfl))) (fun _ _ _ _ _ => pts_nil) (fun _ _ _ _ _ => (pe_op op_mod (pe_callTy cr_int1 (by rfl) T.int (by decide +kernel) (pa_cons (pe_ix (ix_listK (K := K) rfl) (pv 0) (pe_op op_add pe_int (pv 7)) (fun _ _ => rfl)) pa_nil)) (pv 1))))) (pss_cons (ps_if (pt_cmpR op_lt (pv 2) pe_int (nomark _)) (pss_cons (ps_set (i := 6) sc.nd rfl (by first | exact Or.inl rfl | exact Or.inr rfl) (pe_lc (own := [("k", 7)]) (tt := tYes) rfl sc.nd (pi_range1 (by rfl) T.range (pa_cons (pv 4) pa_nil)) (blkOk_by (N := ["draws", "many", "kind", "gain", "size", "places", "weights", "k"]) (sc := defScope s_place) (by decide +kernel)) (fun _ _ _ _ _ => (pg_name (i := 7) sc.nd rfl (by first | exact Or.inl rfl | exact Or.inr rfl))) (fun _ _ _ _ _ => pts_nil) (fun _ _ _ _ _ => (pe_op op_add pe_int (pe_op op_mod (pe_callTy cr_int1 (by rfl) T.int (by decide +kernel) (pa_cons (pe_ix (ix_listK (K := K) rfl) (pv 0) (pe_op op_add pe_int (pe_op op_mod (pv 7) pe_int)) (fun _ _ => rfl)) pa_nil)) pe_int))))) (pss_one (ps_ret (pe_tup (pa_cons (pv 3) (pa_cons pe_str (pa_cons (pe_lc (own := [("k", 7)]) (tt := tYes) rfl sc.nd (pi_range1 (by rfl) T.range (pa_cons (pv 4) pa_nil)) (blkOk_by (N := ["draws", "many", "kind", "gain", "size", "places", "weights", "k"]) (sc := defScope s_place) (by decide +kernel)) (fun _ _ _ _ _ => (pg_name (i := 7) sc.nd rfl (by first | exact Or.inl rfl | exact Or.inr rfl))) (fun _ _ _ _ _ => pts_nil) (fun _ _ _ _ _ => (pe_tup (pa_cons (pe_call G_number (hr.mono (by decide)) rfl m_number k_number b_number .nil pass0 (pa_cons (pe_ix (ix_listK (K := K) rfl) (pv 6) (pv 7) (fun _ _ => rfl)) (pa_cons (pe_callB (sum_K (K := K) rfl rfl) (by rfl) T.sum (by decide +kernel) (pa_cons (pv 6) pa_nil)) pa_nil))) (pa_cons (pe_ix (ix_listK (K := K) rfl) (pv 5) (pv 7) (fun _ _ => rfl)) pa_nil))))) pa_nil))))))) pss_nil) (pss_one (ps_ret (pe_tup (pa_cons (pv 3) (pa_cons (pe_ix (ix_listK (K := K) rfl) (pe_lst (pa_cons pe_str (pa_cons pe_str pa_nil))) (pe_op op_mod (pv 2) pe_int) (fun _ _ => rfl)) (pa_cons (pv 5) pa_nil))))))))))), ?_⟩
  obtain ⟨vD, rfl, hD⟩ : ∃ vD, vs = [vD, .int many] ∧ Dt K b vD (.list (ds.map PyData.int)) := by
    cases hA with
    | cons h1 h2 => exact ⟨_, by rw [h2.i1], h1⟩
  have hix : ∀ {σ : L2.St} {b' : Hp} {tb : TE} {z : Int} (j : Nat), Ex b b' → σ[0]? = some (some vD) → Ev tb σ b' (.int z) → z = (j : Int) → j < 15 → Ev (tCB rInt1 (tCons (tOp (rIxL K) (tVar 0) tb) tNil)) σ b' (.int (ds.getD j 0)) := fun {σ b' tb z} j e s1 y e2 hj =>
    ev_int1 (ev_ixI j (ed_var s1 (hD.up e)) y e2 (by omega))
  have hnum : ∀ {σ : L2.St} {b' : Hp} {ta tb : TE} {n d : Int}, Ev ta σ b' (.int n) → Ev tb σ b' (.int d) → n.natAbs < 1000 → d ≠ 0 → d.natAbs < 1000 → ED K (tCall (spNumber K) [] E0 (tCons ta (tCons tb tNil))) σ b' (nD (num n d)) := fun {σ b' ta tb n d} x y h1 h2 h3 =>
    ed_call (eda_cons (ed_int x) (eda_cons (ed_int y) eda_nil)) rfl ⟨n, d, rfl, h2, Nat.lt_trans h1 (by decide +kernel), Nat.lt_trans h3 (by decide +kernel)⟩ fun e he => he n d rfl
  have d0 := ds_get (j := 0) hd
  have d1 := ds_get (j := 1) hd
  have d2 := ds_get (j := 2) hd
  have d14 := ds_get (j := 14) hd
  refine r_sc (ev_op (hix 0 (Ex.refl _) rfl ev_c rfl (by decide)) ev_c (rv_I (by decide))) eb fun h1 g1 => ?_
  obtain ⟨x1, hx1, hat1⟩ := at_pick [1, 1, 2, 3] (z := ds.getD 14 0 % 4) (by omega) (by show _ < (4 : Int); omega)
  have hx1' : 1 ≤ x1 ∧ x1 ≤ 3 := by
    simp only [List.mem_cons, List.not_mem_nil, or_false] at hx1
    omega
  refine r_set (K := K) (hnum (ev_op (ev_op (hix 1 (Ex.refl _) rfl ev_c rfl (by decide)) ev_c (rv_I (by decide))) ev_c rv_I0) (ev_int (ed_ixL (K := K) (ds := [1, 1, 2, 3].map PyData.int) (en_lst (eda_cons (ed_int ev_c) (eda_cons (ed_int ev_c) (eda_cons (ed_int ev_c) (eda_cons (ed_int ev_c) eda_nil)))) (by decide)).ed (ev_op (hix 14 (Ex.refl _) rfl ev_c rfl (by decide)) ev_c (rv_I (by decide))) hat1)) (by omega) (by omega) (by omega)) g1.gi fun vg b2 h2 g2 hg => ?_
  have hS : SmallN (num (ds.getD 1 0 % 15 - 5) x1) := num_small (by omega) (by omega) (by omega)
  have hsx : (num (ds.getD 1 0 % 15 - 5) x1).2.natAbs ∣ 6 := by
    have h7 : (num (ds.getD 1 0 % 15 - 5) x1).2.natAbs ∣ x1.natAbs := num_dvd (by omega)
    have h8 : x1.natAbs ∣ 6 := by
      have : x1 = 1 ∨ x1 = 2 ∨ x1 = 3 := by omega
      rcases this with z | z | z <;> rw [z] <;> decide
    exact Nat.dvd_trans h7 h8
  have hsx : (num (ds.getD 1 0 % 15 - 5) x1).2.natAbs ∣ 6 ∧ (num (ds.getD 1 0 % 15 - 5) x1).1.natAbs ≤ 9 := ⟨hsx, Nat.le_trans (num_le (n := ds.getD 1 0 % 15 - 5) (d := x1) (by omega)).1 (by omega)⟩
  generalize num (ds.getD 1 0 % 15 - 5) x1 = gn at hg hS hsx
  have G2 := g1.trans g2
  obtain ⟨x2, hx2, hat2⟩ := at_pick [1, 2, 3, 1, 2, 3, 4, 5, 6] (z := ds.getD 2 0 % 9) (by omega) (by show _ < (9 : Int); omega)
  have hx2' : 1 ≤ x2 ∧ x2 ≤ 6 := by
    simp only [List.mem_cons, List.not_mem_nil, or_false] at hx2
    omega
  refine r_sc (ev_int (ed_ixL (K := K) (ds := [1, 2, 3, 1, 2, 3, 4, 5, 6].map PyData.int) (en_lst (eda_cons (ed_int ev_c) (eda_cons (ed_int ev_c) (eda_cons (ed_int ev_c) (eda_cons (ed_int ev_c) (eda_cons (ed_int ev_c) (eda_cons (ed_int ev_c) (eda_cons (ed_int ev_c) (eda_cons (ed_int ev_c) (eda_cons (ed_int ev_c) eda_nil))))))))) (by decide)).ed (ev_op (hix 2 G2.gb rfl ev_c rfl (by decide)) ev_c (rv_I (by decide))) hat2)) G2.gi fun h3 g3 => ?_
  have G3 := G2.trans g3
  refine r_set (K := K) (EN.ed (en_lcR (ea_cons (ev_var rfl) ea_nil) (by omega) (fun _ => true) (fun i => .int (ds.getD (3 + i) 0 % many)) (fun x => rfl) fun i b4 e4 hi => ⟨et_yes, fun _ => ed_int (ev_op (hix (3 + i) (G3.gb.trans e4) rfl (ev_op ev_c (ev_var rfl) rv_I0) (by omega) (by omega)) (ev_var rfl) (rv_I (by omega)))⟩)) G3.gi fun vp b4 h4 g4 hp => ?_
  have G4 := G3.trans g4
  rw [givenD_all, map_range_ints] at hp
  generalize hps : (List.range x2.toNat).map (fun i => ds.getD (3 + i) 0 % many) = ps at hp
  have hpl : ps.length = x2.toNat := by rw [← hps]; simp
  have hpm : ∀ t ∈ ps, 0 ≤ t ∧ t < many := fun t ht => by
    rw [← hps] at ht
    obtain ⟨i, _, rfl⟩ := List.mem_map.mp ht
    exact ⟨Int.emod_nonneg _ (by omega), Int.emod_lt_of_pos _ (by omega)⟩
  refine r_if (b := b4) (c := decide (ds.getD 0 0 % 7 < 3)) (et_test (ev_op (ev_var rfl) ev_c rv_I0)) G4.gi (fun hc h5 g5 => ?_) (fun hc h5 g5 => ?_)
  · have G5 := G4.trans g5
    refine r_set (K := K) (EN.ed (en_lcR (ea_cons (ev_var rfl) ea_nil) (by omega) (fun _ => true) (fun i => .int (1 + ds.getD (9 + i % 5) 0 % 5)) (fun x => rfl) fun i b6 e6 hi => ⟨et_yes, fun _ => ed_int (ev_op ev_c (ev_op (hix (9 + i % 5) (G5.gb.trans e6) rfl (ev_op ev_c (ev_op (ev_var rfl) ev_c (rv_I (by decide))) rv_I0) (by omega) (by omega)) ev_c (rv_I (by decide))) rv_I0)⟩)) G5.gi fun vw b6 h6 g6 hw => ?_
    have G6 := G5.trans g6
    rw [givenD_all, map_range_ints] at hw
    generalize hws : (List.range x2.toNat).map (fun i => 1 + ds.getD (9 + i % 5) 0 % 5) = ws at hw
    have hwl : ws.length = x2.toNat := by rw [← hws]; simp
    have hwm : ∀ t ∈ ws, 1 ≤ t ∧ t ≤ 5 := fun t ht => by
      rw [← hws] at ht
      obtain ⟨i, _, rfl⟩ := List.mem_map.mp ht
      omega
    have hsum := sum_small hwm
    have hsum1 : 1 ≤ ws.sum := by
      have := sum_pos hwm
      omega
    have hgw : ∀ i, i < ws.length → 1 ≤ ws.getD i 0 ∧ ws.getD i 0 ≤ 5 := fun i hi => by
      rw [List.getD_eq_getElem?_getD, List.getElem?_eq_getElem hi]
      exact hwm _ (List.getElem_mem hi)
    let bs : List ((Int × Int) × Int) := (List.range x2.toNat).map fun i => (num (ws.getD i 0) ws.sum, ps.getD i 0)
    have hp6 := hp.up g6.gb
    have hbs : givenD x2.toNat (fun _ => true) (fun i => brD (num (ws.getD i 0) ws.sum, ps.getD i 0)) = bs.map brD := by
      rw [givenD_all, List.map_map]
      rfl
    refine r_ret (K := K) (d := (Pl.draw gn bs).D) (ed_tup (eda_cons (ed_var rfl ((hg.up g4.gb).up g6.gb)) (eda_cons (ed_str ev_c) (eda_cons (d := .list (bs.map brD)) (hbs ▸ EN.ed (en_lcR (n := x2) (ea_cons (ev_var rfl) ea_nil) (by omega) (fun _ => true) (fun i => brD (num (ws.getD i 0) ws.sum, ps.getD i 0)) (fun x => rfl) fun i b7 e7 hi => ⟨et_yes, fun _ => ?_⟩)) eda_nil))) (by show 3 ≤ 100000; decide)) G6.gi fun v b' h7 g7 hv => ?_
    · have hw1 := hgw i (by omega)
      refine ed_tup (eda_cons (hnum (ev_ixI i (ed_var rfl (hw.up e7)) (ev_var rfl) rfl (by omega)) (ev_sum (ed_var rfl (hw.up e7))) (by omega) (by omega) (by omega)) (eda_cons (ed_int (ev_ixI i (ed_var rfl (hp6.up e7)) (ev_var rfl) rfl (by omega))) eda_nil)) (by show 2 ≤ 100000; decide)
    · refine k v b' h7 (Pl.draw gn bs) (G6.trans g7) ⟨⟨hS, ?_, ?_, ?_, ws, ?_, hwm, ?_⟩, hsx⟩ hv
      · show 1 ≤ bs.length
        simp only [bs, List.length_map, List.length_range]
        omega
      · show bs.length ≤ 6
        simp only [bs, List.length_map, List.length_range]
        omega
      · intro p hpb
        obtain ⟨i, hi, rfl⟩ := List.mem_map.mp hpb
        have hi' := List.mem_range.mp hi
        show 0 ≤ ps.getD i 0 ∧ ps.getD i 0 < many
        rw [List.getD_eq_getElem?_getD, List.getElem?_eq_getElem (by omega)]
        exact hpm _ (List.getElem_mem _)
      · simp only [bs, List.length_map, List.length_range]
        exact hwl
      · show bs.map (·.1) = _
        simp only [bs, List.map_map]
        rw [← hwl]
        exact map_getD ws (fun w => num w ws.sum)
  · have G5 := G4.trans g5
    have hk : ∃ o : Bool, L2.atI [PyData.str "ours", PyData.str "theirs"] (ds.getD 0 0 % 7 % 2) = some (.str (if o then "ours" else "theirs")) := by
      have h01 : ds.getD 0 0 % 7 % 2 = 0 ∨ ds.getD 0 0 % 7 % 2 = 1 := by omega
      rcases h01 with z | z
      · exact ⟨true, by rw [z]; rfl⟩
      · exact ⟨false, by rw [z]; rfl⟩
    obtain ⟨o, ho⟩ := hk
    refine r_ret (K := K) (d := (Pl.side gn o ps).D) (ed_tup (eda_cons (ed_var rfl (hg.up g4.gb)) (eda_cons (ed_ixL (ds := [PyData.str "ours", PyData.str "theirs"]) (en_lst (eda_cons (ed_str ev_c) (eda_cons (ed_str ev_c) eda_nil)) (by decide)).ed (ev_op (ev_var rfl) ev_c (rv_I (by decide))) ho) (eda_cons (ed_var rfl hp) eda_nil))) (by show 3 ≤ 100000; decide)) G5.gi fun v b' h7 g7 hv => ?_
    exact k v b' h7 (Pl.side gn o ps) (G5.trans g7) ⟨⟨hS, by omega, by omega, hpm⟩, hsx⟩ hv

abbrev s_game : Stmt := top 33
theorem sc_game : FnScope ["draws", "most", "many", "k"] ["draws", "most"] (defScope s_game) := ⟨rfl, rfl, rfl, by decide +kernel, rfl, by decide +kernel, by decide +kernel⟩
theorem has_game6 (T : Bt mg) (D : IsDef K mg "_law_game" s_game ["draws", "most"]) (U : Has P w K mg base 3 "_law_place" ["draws", "many"] (spPlace6S K)) : Has P w K mg base 4 "_law_game" ["draws", "most"] (spGame6S K) := by
  obtain ⟨f, fd, F, hm, hb⟩ := D
  obtain ⟨f_place, fd_place, G_place, m_place, k_place, b_place⟩ := U
  have sc := sc_game
  refine ⟨f, fd, F.ok sc (fun vs H Q E x => ?_) (fun cdv A outer s h0 vs Q E hr hs => ?_), hm, F.kp, hb⟩
  · obtain ⟨b, ds, most, _, hA, _⟩ := x
    exact hA.length
  obtain ⟨b, ds, most, eb, hA, hm1, hm12, hl, hd, k⟩ := hs
  refine ⟨_, (pss_cons (ps_set (i := 2) sc.nd rfl (by first | exact Or.inl rfl | exact Or.inr rfl) (pe_op op_add pe_int (pe_op op_mod (pe_callTy cr_int1 (by rfl) T.int (by decide +kernel) (pa_cons (pe_ix (ix_listK (K := K) rfl) (pv 0) pe_int (fun _ _ => rfl)) pa_nil)) (pv 1)))) (pss_one (ps_ret (pe_lc (own := [("k", 3)]) (tt := tYes) rfl sc.nd (pi_range1 (by rfl) T.range (pa_cons (pv 2) pa_nil)) (blkOk_by (N := ["draws", "most", "many", "k"]) (sc := defScope s_game) (by decide +kernel)) (fun _ _ _ _ _ => (pg_name (i := 3) sc.nd rfl (by first | exact Or.inl rfl | exact Or.inr rfl))) (fun _ _ _ _ _ => pts_nil) (fun _ _ _ _ _ => (pe_call G_place (hr.mono (by decide)) rfl m_place k_place b_place .nil pass0 (pa_cons (pe_slice (sl_listK (K := K) rfl) (pv 0) (po_some (pe_op op_add pe_int (pe_op op_mul pe_int (pv 3)))) (po_some (pe_op op_add pe_int (pe_op op_mul pe_int (pv 3))))) (pa_cons (pv 2) pa_nil)))))))), ?_⟩
  obtain ⟨vD, rfl, hD⟩ : ∃ vD, vs = [vD, .int most] ∧ Dt K b vD (.list (ds.map PyData.int)) := by
    cases hA with
    | cons h1 h2 => exact ⟨_, by rw [h2.i1], h1⟩
  have hmany := Int.emod_nonneg (ds.getD 0 0) (b := most) (by omega)
  have hmany2 := Int.emod_lt_of_pos (ds.getD 0 0) (b := most) (by omega)
  refine r_sc (ev_op ev_c (ev_op (ev_int1 (ev_ixI 0 (ed_var rfl hD) ev_c rfl (by omega))) (ev_var rfl) (rv_I (by omega))) rv_I0) eb fun h1 g1 => ?_
  generalize hM : 1 + ds.getD 0 0 % most = many
  refine r_retX (K := K) (en_lcRX (n := many) (ea_cons (ev_var rfl) ea_nil) (by omega) (fun i e => ∃ p, (WfP many p ∧ SixS p) ∧ e = p.D) (fun x => rfl) fun i b2 e2 hi => ?_) g1.gi fun v b' h2 d g2 hP hv => ?_
  · intro h e Q q
    refine eda_cons (EN.ed (en_sl (K := K) (ed_var rfl (hD.up e2)) (eo_some (i := 1 + 15 * (i : Int)) (ev_op ev_c (ev_op ev_c (ev_var rfl) (rv_I (.inl ⟨by decide, by decide⟩))) rv_I0)) (eo_some (i := 16 + 15 * (i : Int)) (ev_op ev_c (ev_op ev_c (ev_var rfl) (rv_I (.inl ⟨by decide, by decide⟩))) rv_I0)))) (eda_cons (ed_int (ev_var rfl)) eda_nil) h e _ fun vs b3 h3 g3 hvs => ?_
    obtain ⟨es, hes, hel, hed⟩ := cut_ints (ds := ds) (lo := 1 + 15 * i) (n := 15) (by omega) hd
    refine ⟨b3, es, many, g3.gi, ?_, hel, hed, by omega, fun v b4 h4 p g4 hp hv => q v b4 h4 p.D (g3.trans g4) ⟨p, hp, rfl⟩ hv⟩
    rw [List.append_nil]
    have e1 : (1 + 15 * (i : Int)) = ((1 + 15 * i : Nat) : Int) := by omega
    have e2 : (16 + 15 * (i : Int)) = ((1 + 15 * i + 15 : Nat) : Int) := by omega
    rw [e1, e2, hes] at hvs
    exact hvs
  · obtain ⟨acc, rfl, hal, hR⟩ := hP
    obtain ⟨G, rfl, hG⟩ := all_some (acc := acc) (W := fun p => WfP many p ∧ SixS p) (D := Pl.D) fun e he => by
      obtain ⟨j, hj, rfl⟩ := List.mem_iff_getElem.mp he
      exact hR j _ (List.getElem?_eq_getElem hj)
    rw [List.length_map] at hal
    exact k v b' h2 G (g1.trans g2) ⟨⟨by omega, by omega, fun p hp => by rw [show ((G.length : Nat) : Int) = many by omega]; exact (hG p hp).1⟩, fun p hp => (hG p hp).2⟩ (by omega) hv

abbrev s_onward : Stmt := top 44
theorem sc_onward : FnScope ["place", "row", "found", "target", "gain", "kind", "branches", "one", "chance"] ["place", "row"] (defScope s_onward) := ⟨rfl, rfl, rfl, by decide +kernel, rfl, by decide +kernel, by decide +kernel⟩
theorem has_onward (D : IsDef K mg "_law_onward" s_onward ["place", "row"]) (T : Bt mg) (U_total_ : Has P w K mg base (4) "_law_total" ["numbers"] (spP K (kTotW))) (U_times_ : Has P w K mg base (3) "_law_times" ["a", "b"] (spP K (kTimesW))) (U_less : Has P w K mg base (1) "_law_less" ["a", "b"] (spP K (kLessW))) : Has P w K mg base (5) "_law_onward" ["place", "row"] (spP K (kOnw)) := by
  obtain ⟨f, fd, F, hm, hb⟩ := D
  obtain ⟨f_total_, fd_total_, G_total_, m_total_, k_total_, b_total_⟩ := U_total_
  obtain ⟨f_times_, fd_times_, G_times_, m_times_, k_times_, b_times_⟩ := U_times_
  obtain ⟨f_less, fd_less, G_less, m_less, k_less, b_less⟩ := U_less
  have sc := sc_onward
  refine ⟨f, fd, F.ok sc (fun vs H Q E x => ?_) (fun cdv A outer s h0 vs Q E hr hs => ?_), hm, F.kp, hb⟩
  · obtain ⟨b, ds, P, _, hA, hR, _⟩ := x
    obtain ⟨_, _, rfl, _⟩ := con2_is hR
    rw [hA.length]
    rfl
  obtain ⟨b, ds, Pq, eb, hA, hR, kQ⟩ := hs
  obtain ⟨x0, x1, rfl, hR⟩ := con2_is hR
  refine ⟨_, (pss_cons (ps_asg (pv 0) (pg_tupK (K := K) (n := 3) rfl rfl (pgs_cons (pg_name (i := 4) sc.nd rfl (by first | exact Or.inl rfl | exact Or.inr rfl)) (pgs_cons (pg_name (i := 5) sc.nd rfl (by first | exact Or.inl rfl | exact Or.inr rfl)) (pgs_cons (pg_name (i := 6) sc.nd rfl (by first | exact Or.inl rfl | exact Or.inr rfl)) pgs_nil))))) (pss_cons (ps_if (pt_cmpR op_eq (pv 5) pe_str (nomark _)) (pss_one (ps_ret (pe_call G_total_ (hr.mono (by decide)) rfl m_total_ k_total_ b_total_ .nil pass0 (pa_cons (pe_lc (own := [("chance", 8), ("target", 3)]) (tt := tYes) rfl sc.nd (pi_listK (K := K) rfl (pv 6)) (blkOk_by (N := ["place", "row", "found", "target", "gain", "kind", "branches", "one", "chance"]) (sc := defScope s_onward) (by decide +kernel)) (fun _ _ _ _ _ => (pg_tupK (K := K) (n := 2) rfl rfl (pgs_cons (pg_name (i := 8) sc.nd rfl (by first | exact Or.inl rfl | exact Or.inr rfl)) (pgs_cons (pg_name (i := 3) sc.nd rfl (by first | exact Or.inl rfl | exact Or.inr rfl)) pgs_nil)))) (fun _ _ _ _ _ => pts_nil) (fun _ _ _ _ _ => (pe_call G_times_ (hr.mono (by decide)) rfl m_times_ k_times_ b_times_ .nil pass0 (pa_cons (pv 8) (pa_cons (pe_ix (ix_listK (K := K) rfl) (pv 1) (pv 3) (fun _ _ => rfl)) pa_nil))))) pa_nil)))) pss_nil) (pss_cons (ps_set (i := 2) sc.nd rfl (by first | exact Or.inl rfl | exact Or.inr rfl) (pe_ix (ix_listK (K := K) rfl) (pv 1) (pe_ix (ix_listK (K := K) rfl) (pv 6) pe_int (fun _ _ => rfl)) (fun _ _ => rfl))) (pss_cons (ps_for PassesOwn.never rfl (pi_listK (K := K) rfl (pe_slice (sl_listK (K := K) rfl) (pv 6) (po_some pe_int) po_none)) (pg_name (i := 3) sc.nd rfl (by first | exact Or.inl rfl | exact Or.inr rfl)) (pss_cons (ps_set (i := 7) sc.nd rfl (by first | exact Or.inl rfl | exact Or.inr rfl) (pe_ix (ix_listK (K := K) rfl) (pv 1) (pv 3) (fun _ _ => rfl))) (pss_one (ps_if (PW.pt (pw_and (pt_cmpR (neD_K (K := K) hr.units rfl) (pv 7) (pv 2) (nomark _)) (pw_and1 (pt_cmpR op_eq (pe_call G_less (hr.mono (by decide)) rfl m_less k_less b_less .nil pass0 (pa_cons (pv 2) (pa_cons (pv 7) pa_nil))) (pe_cmpR op_eq (pv 5) pe_str (nomark _)) (nomark _))))) (pss_one (ps_set (i := 2) sc.nd rfl (by first | exact Or.inl rfl | exact Or.inr rfl) (pv 7))) pss_nil)))) (pss_one (ps_ret (pv 2))))))), sim_P (Γ := [some (.d x0), some (.d x1), none, none, none, none, none, none, none]) (z_seq (z_asg z_var (g_tup (g_cons g_name (g_cons g_name (g_cons g_name g_nil))))) (z_seq (z_ifS (z_test (z_eqS z_var z_s)) (z_ret (z_call (z_cons (z_ofN (z_lc (by decide) (i_list z_var) (g_tup (g_cons g_name (g_cons g_name g_nil))) z_yes (z_call (z_cons z_var (z_cons (z_ixL z_var z_var) z_nil))))) z_nil))) z_next) (z_seq (z_asg (z_ixL z_var (z_ixL z_var z_i)) g_name) (z_seq (z_for (ws := [3, 7]) (i_list (z_ofN (z_sl z_var (z_part z_i) z_pnone))) g_name (z_seq (z_asg (z_ixL z_var z_var) g_name) (z_ifS (z_and (z_test (z_neD z_var z_var)) (z_test (z_eqS (z_call (z_cons z_var (z_cons z_var z_nil))) (z_eqS z_var z_s)))) (z_asg z_var g_name) z_next))) (z_ret z_var))))) eb hA (by show 2 ≤ 9; decide) rfl ?_ kQ⟩
  obtain ⟨p, w, n, M, B, S, f, rfl, rfl, x, hP⟩ := hR
  clear hR
  have h6 := x.W.l6
  have h1 := x.W.l1
  and_intros
  refine ⟨rfl, rfl, _, rfl, ?_⟩
  and_intros
  rw [kd_eq]
  cases hk : p.k with
  | none =>
    rw [if_pos (decide_eq_true rfl)]
    have hcc := x.W.c hk
    have hv : vW p f = (p.bs.map fun q => qN q.1 * f q.2).sum := by
      unfold vW
      rw [hk]
      rfl
    refine dlc_map p.bs brC (fun q => nQ (qN q.1 * f q.2)) (fun k hk2 => ?_) (by omega) (fun q hq k hk2 => ?_) ?_
    · and_intros
      rw [el_draw hk]
      exact hk2
    · and_intros
      refine ⟨rfl, rfl, nQ (f q.2), listQ_at (x.W.t q hq), ?_⟩
      rw [nD_nQ (red_small (hcc q hq).1)]
      exact kTimesW_i (small_ok (hcc q hq).1) (x.okf hq) (x.okt hk hq) hk2
    · and_intros
      have e : PyData.list (p.bs.map fun q => nQ (qN q.1 * f q.2)) = ratsD (p.bs.map fun q => qN q.1 * f q.2) := by
        unfold ratsD
        rw [List.map_map]
        rfl
      rw [e]
      refine kTotW_i (by rw [List.length_map]; omega) (fun i _ => x.okp hk i) (fun r hr => ?_) (by rw [← hv]; exact hP)
      obtain ⟨q, hq, rfl⟩ := List.mem_map.mp hr
      exact x.okt hk hq
  | some o =>
    rw [if_neg (by rw [decide_eq_true_iff]; intro z; cases z)]
    have hel : p.el = p.bs.map fun q => PyData.int (q.2 : Int) := el_side (by rw [hk]; intro z; cases z)
    have hv : vW p f = tkQ o (p.bs.map fun q => f q.2) := by
      unfold vW
      rw [hk]
    cases hb : p.bs with
    | nil =>
      rw [hb] at h1
      exact absurd h1 (by decide)
    | cons q0 bs =>
      have hq0 : q0 ∈ p.bs := by rw [hb]; exact List.mem_cons_self ..
      rw [hel, hb]
      refine ⟨.int (q0.2 : Int), atI_zero, ?_⟩
      and_intros
      refine ⟨nQ (f q0.2), listQ_at (x.W.t q0 hq0), ?_⟩
      refine dfor_inv bs (fun q : BrC => .int (q.2 : Int)) (fun k hk2 => ?_) (fun i Γ' => Γ' = [some (.d p.D), some (.d (listQ n f)), some (.d (nQ (tkQ o (((q0 :: bs).take (i + 1)).map fun q => f q.2)))), none, some (.d (nD p.g)), some (.d (.str (kdV (some o)))), some (.d (.list ((q0 :: bs).map fun q : BrC => PyData.int (q.2 : Int)))), none, none]) ?_ ?_ ?_
      · and_intros
        have e : cutD ((q0 :: bs).map fun q : BrC => PyData.int (q.2 : Int)) (some 1) none = bs.map fun q : BrC => PyData.int (q.2 : Int) := by
          show cutD _ (some ((1 : Nat) : Int)) none = _
          rw [cutD_drop (by rw [List.length_map, List.length_cons]; omega), List.map_cons]
          rfl
        rw [e]
        exact hk2
      · show _ = [_, _, some (Sl.d (nQ (tkQ o [f q0.2]))), _, _, _, _, _, _]
        rw [tk_one]
        rfl
      · rintro i q Γ' hq rfl
        have hqm : q ∈ p.bs := by rw [hb]; exact List.mem_cons_of_mem _ (List.mem_of_getElem? hq)
        have e1 : (q0 :: bs).take (i + 1 + 1) = (q0 :: bs).take (i + 1) ++ [q] := by
          rw [List.take_succ (i := i + 1), List.getElem?_cons_succ, hq]
          rfl
        have hl : 0 < (((q0 :: bs).take (i + 1)).map fun q => f q.2).length := by
          rw [List.take_succ_cons, List.map_cons, List.length_cons]
          omega
        have ht := tk_step (o := o) (a := f q.2) hl
        have hok : Ok (tkQ o (((q0 :: bs).take (i + 1)).map fun q => f q.2)) := by
          obtain ⟨q', hq', e⟩ := List.mem_map.mp (tk_mem (o := o) hl)
          rw [← e]
          exact x.okf (by rw [hb]; exact List.mem_of_mem_take hq')
        and_intros
        refine ⟨nQ (f q.2), listQ_at (x.W.t q hqm), rfl, rfl, ?_⟩
        rw [eqv_nQ]
        and_intros
        have e2 : (((q0 :: bs).take (i + 1 + 1)).map fun q => f q.2) = (((q0 :: bs).take (i + 1)).map fun q => f q.2) ++ [f q.2] := by rw [e1, List.map_append]; rfl
        rw [e2, ht]
        generalize tkQ o (((q0 :: bs).take (i + 1)).map fun q => f q.2) = t at *
        by_cases c1 : f q.2 = t
        · have g1 : (!decide (f q.2 = t)) = false := by simp [c1]
          simp only [g1, Bool.false_and, Bool.false_eq_true, if_false]
        · rw [if_pos (by simp [c1])]
          refine kLessW_i hok (x.okf hqm) ⟨_, rfl, _, rfl, ?_⟩
          rw [kd_ours]
          by_cases c2 : decide (t < f q.2) = o
          · rw [if_pos (by simp [c2]), if_pos (by simp [c1, c2])]
          · rw [if_neg (by simp [c2]), if_neg (by simp [c1, c2])]
      · rintro Γ' rfl
        and_intros
        rw [show (q0 :: bs).take (bs.length + 1) = q0 :: bs from List.take_of_length_le (by rw [List.length_cons]; exact Nat.le_refl _), ← hb, ← hv]
        exact hP

abbrev s_stepped : Stmt := top 45
theorem sc_stepped : FnScope ["game", "row", "place"] ["game", "row"] (defScope s_stepped) := ⟨rfl, rfl, rfl, by decide +kernel, rfl, by decide +kernel, by decide +kernel⟩
theorem has_stepped (D : IsDef K mg "_law_stepped" s_stepped ["game", "row"]) (T : Bt mg) (U_plus_ : Has P w K mg base (3) "_law_plus" ["a", "b"] (spP K (kPlusW))) (U_onward : Has P w K mg base (5) "_law_onward" ["place", "row"] (spP K (kOnw))) : Has P w K mg base (6) "_law_stepped" ["game", "row"] (spN K (kStp)) := by
  obtain ⟨f, fd, F, hm, hb⟩ := D
  obtain ⟨f_plus_, fd_plus_, G_plus_, m_plus_, k_plus_, b_plus_⟩ := U_plus_
  obtain ⟨f_onward, fd_onward, G_onward, m_onward, k_onward, b_onward⟩ := U_onward
  have sc := sc_stepped
  refine ⟨f, fd, F.ok sc (fun vs H Q E x => ?_) (fun cdv A outer s h0 vs Q E hr hs => ?_), hm, F.kp, hb⟩
  · obtain ⟨b, ds, P, _, hA, hR, _⟩ := x
    obtain ⟨_, _, rfl, _⟩ := conN2_is hR
    rw [hA.length]
    rfl
  obtain ⟨b, ds, Pq, eb, hA, hR, kQ⟩ := hs
  obtain ⟨x0, x1, rfl, hR⟩ := conN2_is hR
  refine ⟨_, (pss_one (ps_ret (pe_lc (own := [("place", 2)]) (tt := tYes) rfl sc.nd (pi_listK (K := K) rfl (pv 0)) (blkOk_by (N := ["game", "row", "place"]) (sc := defScope s_stepped) (by decide +kernel)) (fun _ _ _ _ _ => (pg_name (i := 2) sc.nd rfl (by first | exact Or.inl rfl | exact Or.inr rfl))) (fun _ _ _ _ _ => pts_nil) (fun _ _ _ _ _ => (pe_call G_plus_ (hr.mono (by decide)) rfl m_plus_ k_plus_ b_plus_ .nil pass0 (pa_cons (pe_ix (ix_tupK (K := K) rfl) (pv 2) pe_int (fun _ _ => rfl)) (pa_cons (pe_call G_onward (hr.mono (by decide)) rfl m_onward k_onward b_onward .nil pass0 (pa_cons (pv 2) (pa_cons (pv 1) pa_nil))) pa_nil))))))), sim_N (Γ := [some (.d x0), some (.d x1), none]) (z_retN (z_lc (by decide) (i_list z_var) g_name z_yes (z_call (z_cons (z_ixT z_var z_i) (z_cons (z_call (z_cons z_var (z_cons z_var z_nil))) z_nil))))) eb hA (by show 2 ≤ 3; decide) rfl ?_ kQ⟩
  obtain ⟨G, w, M, B, S, f, rfl, rfl, x, hP⟩ := hR
  clear hR
  have h12 := x.W.l12
  and_intros
  refine dlc_map (List.range G.length) (fun k => (vl G k).D) (fun k => nQ (st1 G f k)) (fun k hk => ?_) (by rw [List.length_range]; omega) (fun j hj k hk => ?_) hP
  · and_intros
    rw [map_vl G PlV.D] at hk
    exact hk
  · have hj := List.mem_range.mp hj
    have hw := vl_wf x.W hj
    and_intros
    refine ⟨_, rfl, kOnw_i (x.beh hj) ?_⟩
    rw [nD_nQ (red_small hw.g)]
    exact kPlusW_i (small_ok hw.g) (x.beh hj).ok (x.ok hj) hk

abbrev s_targets : Stmt := top 34
theorem sc_targets : FnScope ["place", "chance", "target"] ["place"] (defScope s_targets) := ⟨rfl, rfl, rfl, by decide +kernel, rfl, by decide +kernel, by decide +kernel⟩
theorem has_targets (D : IsDef K mg "_law_targets" s_targets ["place"]) (T : Bt mg) : Has P w K mg base (1) "_law_targets" ["place"] (spP K (kTg)) := by
  obtain ⟨f, fd, F, hm, hb⟩ := D

  have sc := sc_targets
  refine ⟨f, fd, F.ok sc (fun vs H Q E x => ?_) (fun cdv A outer s h0 vs Q E hr hs => ?_), hm, F.kp, hb⟩
  · obtain ⟨b, ds, P, _, hA, hR, _⟩ := x
    obtain ⟨_, rfl, _⟩ := con1_is hR
    rw [hA.length]
    rfl
  obtain ⟨b, ds, Pq, eb, hA, hR, kQ⟩ := hs
  obtain ⟨x0, rfl, hR⟩ := con1_is hR
  refine ⟨_, (pss_cons (ps_if (pt_cmpR op_eq (pe_ix (ix_tupK (K := K) rfl) (pv 0) pe_int (fun _ _ => rfl)) pe_str (nomark _)) (pss_one (ps_ret (pe_lc (own := [("chance", 1), ("target", 2)]) (tt := tYes) rfl sc.nd (pi_listK (K := K) rfl (pe_ix (ix_tupK (K := K) rfl) (pv 0) pe_int (fun _ _ => rfl))) (blkOk_by (N := ["place", "chance", "target"]) (sc := defScope s_targets) (by decide +kernel)) (fun _ _ _ _ _ => (pg_tupK (K := K) (n := 2) rfl rfl (pgs_cons (pg_name (i := 1) sc.nd rfl (by first | exact Or.inl rfl | exact Or.inr rfl)) (pgs_cons (pg_name (i := 2) sc.nd rfl (by first | exact Or.inl rfl | exact Or.inr rfl)) pgs_nil)))) (fun _ _ _ _ _ => pts_nil) (fun _ _ _ _ _ => (pv 2))))) pss_nil) (pss_one (ps_ret (pe_callTy (list_K (K := K) rfl) (by rfl) T.list (by decide +kernel) (pa_cons (pe_ix (ix_tupK (K := K) rfl) (pv 0) pe_int (fun _ _ => rfl)) pa_nil))))), sim_P (Γ := [some (.d x0), none, none]) (z_seq (z_ifS (z_test (z_eqS (z_ixT z_var z_i) z_s)) (z_retN (z_lc (by decide) (i_list (z_ixT z_var z_i)) (g_tup (g_cons g_name (g_cons g_name g_nil))) z_yes z_var)) z_next) (z_retN (z_list (z_ixT z_var z_i)))) eb hA (by show 1 ≤ 3; decide) rfl ?_ kQ⟩
  obtain ⟨p, rfl, h6, hP⟩ := hR
  clear hR
  subst_eqs
  refine ⟨_, rfl, _, rfl, ?_⟩
  rw [kd_eq]
  by_cases q : p.k = none
  · rw [if_pos (decide_eq_true q)]
    refine dlc_map p.bs brC (fun q => .int (q.2 : Int)) (fun P hP => ?_) (by omega) (fun q hq P hP => ?_) ?_
    · unfold PlV.D
      subst_eqs
      refine ⟨_, rfl, ?_⟩
      rw [el_draw q]
      subst_eqs
      exact hP
    · subst_eqs
      exact ⟨rfl, rfl, hP⟩
    unfold natsD at hP
    rw [List.map_map] at hP
    exact hP
  · rw [if_neg (by rw [decide_eq_true_iff]; exact q)]
    refine ⟨_, rfl, ?_⟩
    subst_eqs
    rw [el_side q]
    unfold natsD at hP
    rw [List.map_map] at hP
    exact hP
abbrev s_reached : Stmt := top 36
theorem sc_reached : FnScope ["game", "place", "found", "turn", "other", "target"] ["game", "place"] (defScope s_reached) := ⟨rfl, rfl, rfl, by decide +kernel, rfl, by decide +kernel, by decide +kernel⟩
theorem has_reached (D : IsDef K mg "_law_reached" s_reached ["game", "place"]) (m_sorted : mg "sorted" = none) (T : Bt mg) (U_targets : Has P w K mg base (1) "_law_targets" ["place"] (spP K (kTg))) : Has P w K mg base (2) "_law_reached" ["game", "place"] (spN K (kLRe)) := by
  obtain ⟨f, fd, F, hm, hb⟩ := D
  obtain ⟨f_targets, fd_targets, G_targets, m_targets, k_targets, b_targets⟩ := U_targets
  have sc := sc_reached
  refine ⟨f, fd, F.ok sc (fun vs H Q E x => ?_) (fun cdv A outer s h0 vs Q E hr hs => ?_), hm, F.kp, hb⟩
  · obtain ⟨b, ds, P, _, hA, hR, _⟩ := x
    obtain ⟨_, _, rfl, _⟩ := conN2_is hR
    rw [hA.length]
    rfl
  obtain ⟨b, ds, Pq, eb, hA, hR, kQ⟩ := hs
  obtain ⟨x0, x1, rfl, hR⟩ := conN2_is hR
  refine ⟨_, (pss_cons (ps_set (i := 2) sc.nd rfl (by first | exact Or.inl rfl | exact Or.inr rfl) (pe_lst (pa_cons (pv 1) pa_nil))) (pss_cons (ps_for PassesOwn.never rfl (pi_range1 (by rfl) T.range (pa_cons (pe_callB (len_K (K := K) rfl) (by rfl) T.len PySem.boot_len (pa_cons (pv 0) pa_nil)) pa_nil)) (pg_name (i := 3) sc.nd rfl (by first | exact Or.inl rfl | exact Or.inr rfl)) (pss_one (ps_for PassesOwn.never rfl (pi_listK (K := K) rfl (pe_callTy (list_K (K := K) rfl) (by rfl) T.list (by decide +kernel) (pa_cons (pv 2) pa_nil))) (pg_name (i := 4) sc.nd rfl (by first | exact Or.inl rfl | exact Or.inr rfl)) (pss_one (ps_for PassesOwn.never rfl (pi_listK (K := K) rfl (pe_call G_targets (hr.mono (by decide)) rfl m_targets k_targets b_targets .nil pass0 (pa_cons (pe_ix (ix_listK (K := K) rfl) (pv 0) (pv 4) (fun _ _ => rfl)) pa_nil))) (pg_name (i := 5) sc.nd rfl (by first | exact Or.inl rfl | exact Or.inr rfl)) (pss_one (ps_if (pt_cmpR (niDK (K := K) (room65 hr) rfl) (pv 5) (pv 2) (by rfl)) (pss_one (ps_expr (pe_appK (K := K) rfl (pv 2) (pa_cons (pv 5) pa_nil)))) pss_nil))))))) (pss_one (ps_ret (pe_callB (sortedI_K (K := K) rfl) (by rfl) m_sorted (by decide +kernel) (pa_cons (pv 2) pa_nil)))))), sim_N (Γ := [some (.d x0), some (.d x1), none, none, none, none]) (z_seq (z_asgO (z_lst (z_cons z_var z_nil))) (z_seq (z_for (ws := [3, 4]) (i_rng1 (z_cons (z_len z_var) z_nil)) g_name (z_forL (ws := []) g_name (z_for (ws := []) (i_list (z_call (z_cons (z_ixL z_var z_var) z_nil))) g_name (z_ifS (z_test (z_niD z_var z_var)) (z_app z_var) z_next)))) (z_tell (i := 2) (z_retN (z_sorted z_var))))) eb hA (by show 2 ≤ 6; decide) rfl ?_ kQ⟩
  obtain ⟨G, w, x, rfl, rfl, hW, hx, hP⟩ := hR
  clear hR
  have h12 := hW.l12
  obtain ⟨GA, hGA⟩ : ∃ GA : List Nat → Option Sl → Option Sl → Option Sl → Gam, ∀ l a b c, GA l a b c = [some (.d (gvD G)), some (.d (.int (x : Int))), some (.o (l.map fun y : Nat => PyData.int (y : Int))), a, b, c] := ⟨_, fun _ _ _ _ => rfl⟩
  ac_rfl
  refine ⟨by decide, by decide, ?_⟩
  refine dfor_inv (List.range G.length) (fun k => PyData.int (k : Int)) (fun P hP => ?_) (fun t Γ' => ∃ l s5, FndG G x l ∧ (ClsG G l ∨ t + 1 ≤ l.length) ∧ Γ' = GA l none none s5) ⟨[x], none, ⟨List.nodup_cons.mpr ⟨by simp, List.nodup_nil⟩, fun y hy => by rw [List.mem_singleton.mp hy]; exact .refl, List.mem_cons_self⟩, Or.inr (Nat.le_refl _), by rw [hGA] <;> rfl⟩ ?_ ?_
  · ac_rfl
    rw [List.length_map, Int.toNat_natCast, rangeD0]
    exact ⟨by omega, by omega, hP⟩
  · rintro t a Γ' _ ⟨l, s5, hf, hc, rfl⟩
    rw [hGA]
    ac_rfl
    refine ⟨fun k Γ' => ∃ l' s4 s5, FndG G x l' ∧ l <+: l' ∧ (∀ j y, j < k → l[j]? = some y → ∀ q ∈ (vl G y).bs, q.2 ∈ l') ∧ Γ' = GA l' (some (.d (.int (a : Int)))) s4 s5, ⟨l, none, s5, hf, List.prefix_refl _, fun j y hj => absurd hj (Nat.not_lt_zero _), by rw [hGA] <;> rfl⟩, ?_, ?_⟩
    · rintro k d Γ' hd ⟨l', s4, s5, hf', hpre, hin, rfl⟩
      rw [hGA]
      rw [List.getElem?_map] at hd
      cases hy : l[k]? with
      | none =>
        rw [hy] at hd
        cases hd
      | some y =>
        rw [hy] at hd
        cases hd
        have hyl : y ∈ l' := hpre.subset (List.mem_of_getElem? hy)
        have hyn := rchG_lt hW hx (hf'.r y hyl)
        have h6 := (vl_wf hW hyn).l6
        ac_rfl
        refine dfor_inv (vl G y).bs (fun q => PyData.int (q.2 : Int)) (fun P hP => ?_) (fun k2 Γ' => ∃ l2 s5, FndG G x l2 ∧ l' <+: l2 ∧ (∀ q ∈ (vl G y).bs.take k2, q.2 ∈ l2) ∧ Γ' = GA l2 (some (.d (.int (a : Int)))) (some (.d (.int (y : Int)))) s5) ⟨l', s5, hf', List.prefix_refl _, by simp, by rw [hGA] <;> rfl⟩ ?_ ?_
        · ac_rfl
          refine ⟨_, atI_nat (by rw [List.getElem?_map, vl_get hyn]; rfl), vl G y, rfl, h6, ?_⟩
          ac_rfl
          rw [List.map_map]
          exact hP
        · rintro k2 q Γ' hq ⟨l2, s5, hf2, hpre2, hin2, rfl⟩
          have hqm := List.mem_of_getElem? hq
          have hl2 := fnd_len hW hx hf2
          have ha := hf2.add (hpre2.subset hyl) hqm
          have et : (vl G y).bs.take (k2 + 1) = (vl G y).bs.take k2 ++ [q] := by
            rw [List.take_add_one, hq]
            rfl
          rw [hGA]
          ac_rfl
          refine ⟨rfl, sh_nats _, ?_⟩
          rw [any_nats]
          by_cases c : q.2 ∈ l2
          · rw [if_neg (by rw [decide_eq_true c]; decide)]
            refine ⟨l2, _, hf2, hpre2, fun z hz => ?_, by rw [hGA] <;> rfl⟩
            rw [et] at hz
            rcases List.mem_append.mp hz with hz | hz
            · exact hin2 z hz
            · rw [List.mem_singleton.mp hz]
              exact c
          · rw [if_pos (by rw [decide_eq_false c]; rfl)]
            rw [if_neg c] at ha
            refine ⟨by rw [List.length_map]; omega, l2 ++ [q.2], _, ha, hpre2.trans (List.prefix_append _ _), fun z hz => ?_, by rw [hGA, List.map_append] <;> rfl⟩
            rw [et] at hz
            rcases List.mem_append.mp hz with hz | hz
            · exact List.mem_append_left _ (hin2 z hz)
            · rw [List.mem_singleton.mp hz]
              exact List.mem_append_right _ (List.mem_singleton.mpr rfl)
        · rintro Γ' ⟨l2, s5, hf2, hpre2, hin2, rfl⟩
          rw [List.take_length] at hin2
          rw [hGA]
          ac_rfl
          refine ⟨l2, _, s5, hf2, hpre.trans hpre2, fun j z hj hz q hq => ?_, by rw [hGA] <;> rfl⟩
          rcases Nat.lt_or_ge j k with c | c
          · exact hpre2.subset (hin j z c hz q hq)
          · have ej : j = k := by omega
            subst ej
            rw [hy] at hz
            cases hz
            exact hin2 q hq
    · rintro Γ' ⟨l', s4, s5, hf', hpre, hin, rfl⟩
      rw [List.length_map] at hin
      rw [hGA]
      ac_rfl
      refine ⟨l', s5, hf', ?_, by rw [hGA] <;> rfl⟩
      rcases Nat.lt_or_ge l.length l'.length with z | z
      · rcases hc with hc | hc
        · exact Or.inl fun y hy q hq => hpre.subset (hc y (cls_all hc hf.m (hf'.r y hy)) q hq)
        · exact Or.inr (by omega)
      · have e : l = l' := hpre.eq_of_length_le z
        subst e
        refine Or.inl fun y hy q hq => ?_
        obtain ⟨j, hj, e⟩ := List.mem_iff_getElem.mp hy
        exact hin j y hj (by rw [List.getElem?_eq_getElem hj, e]) q hq
  · rintro Γ' ⟨l, s5, hf, hc, rfl⟩
    rw [List.length_range] at hc
    rw [hGA]
    ac_rfl
    have hcl : ClsG G l := by
      rcases hc with hc | hc
      · exact hc
      · have := fnd_len hW hx hf
        omega
    refine ⟨l.map fun y : Nat => (y : Int), by rw [List.map_map]; rfl, fun ns' hp hs => ?_⟩
    rw [fnd_sorted hW hx hf hcl hp hs, List.map_map]
    exact hP

abbrev s_put : Stmt := top 39
theorem sc_put : FnScope ["game", "side", "strategy", "found", "k", "gain", "kind", "branches"] ["game", "side", "strategy"] (defScope s_put) := ⟨rfl, rfl, rfl, by decide +kernel, rfl, by decide +kernel, by decide +kernel⟩
theorem has_put (D : IsDef K mg "_law_put" s_put ["game", "side", "strategy"]) (T : Bt mg) : Has P w K mg base (1) "_law_put" ["game", "side", "strategy"] (spN K (kWst)) := by
  obtain ⟨f, fd, F, hm, hb⟩ := D

  have sc := sc_put
  refine ⟨f, fd, F.ok sc (fun vs H Q E x => ?_) (fun cdv A outer s h0 vs Q E hr hs => ?_), hm, F.kp, hb⟩
  · obtain ⟨b, ds, P, _, hA, hR, _⟩ := x
    obtain ⟨_, _, _, rfl, _⟩ := conN3_is hR
    rw [hA.length]
    rfl
  obtain ⟨b, ds, Pq, eb, hA, hR, kQ⟩ := hs
  obtain ⟨x0, x1, x2, rfl, hR⟩ := conN3_is hR
  refine ⟨_, (pss_cons (ps_set (i := 3) sc.nd rfl (by first | exact Or.inl rfl | exact Or.inr rfl) (pe_lst pa_nil)) (pss_cons (ps_for PassesOwn.never rfl (pi_range1 (by rfl) T.range (pa_cons (pe_callB (len_K (K := K) rfl) (by rfl) T.len PySem.boot_len (pa_cons (pv 0) pa_nil)) pa_nil)) (pg_name (i := 4) sc.nd rfl (by first | exact Or.inl rfl | exact Or.inr rfl)) (pss_cons (ps_asg (pe_ix (ix_listK (K := K) rfl) (pv 0) (pv 4) (fun _ _ => rfl)) (pg_tupK (K := K) (n := 3) rfl rfl (pgs_cons (pg_name (i := 5) sc.nd rfl (by first | exact Or.inl rfl | exact Or.inr rfl)) (pgs_cons (pg_name (i := 6) sc.nd rfl (by first | exact Or.inl rfl | exact Or.inr rfl)) (pgs_cons (pg_name (i := 7) sc.nd rfl (by first | exact Or.inl rfl | exact Or.inr rfl)) pgs_nil))))) (pss_one (ps_if (pt_cmpR op_eq (pv 6) (pv 1) (nomark _)) (pss_one (ps_expr (pe_appK (K := K) rfl (pv 3) (pa_cons (pe_tup (pa_cons (pv 5) (pa_cons pe_str (pa_cons (pe_lst (pa_cons (pe_tup (pa_cons (pe_tup (pa_cons pe_int (pa_cons pe_int pa_nil))) (pa_cons (pe_ix (ix_listK (K := K) rfl) (pv 7) (pe_ix (ix_listK (K := K) rfl) (pv 2) (pv 4) (fun _ _ => rfl)) (fun _ _ => rfl)) pa_nil))) pa_nil)) pa_nil)))) pa_nil)))) (pss_one (ps_expr (pe_appK (K := K) rfl (pv 3) (pa_cons (pe_ix (ix_listK (K := K) rfl) (pv 0) (pv 4) (fun _ _ => rfl)) pa_nil)))))))) (pss_one (ps_ret (pv 3))))), sim_N (Γ := [some (.d x0), some (.d x1), some (.d x2), none, none, none, none, none]) (z_seq (z_asgO (z_lst z_nil)) (z_seq (z_for (ws := [4, 5, 6, 7]) (i_rng1 (z_cons (z_len z_var) z_nil)) g_name (z_seq (z_asg (z_ixL z_var z_var) (g_tup (g_cons g_name (g_cons g_name (g_cons g_name g_nil))))) (z_ifS (z_test (z_eqS z_var z_var)) (z_app (z_tup (z_cons z_var (z_cons z_s (z_cons (z_ofN (z_lst (z_cons (z_tup (z_cons (z_tup (z_cons z_i (z_cons z_i z_nil))) (z_cons (z_ixL z_var (z_ixL z_var z_var)) z_nil))) z_nil))) z_nil))))) (z_app (z_ixL z_var z_var))))) z_retO)) eb hA (by show 3 ≤ 8; decide) rfl ?_ kQ⟩
  obtain ⟨G, o, c, ch, rfl, rfl, rfl, h12, h6, hs, hP⟩ := hR
  clear hR
  ac_rfl
  refine ⟨by decide, by decide, ?_⟩
  refine dfor_det (List.range G.length) (fun k => PyData.int (k : Int)) (fun P hP => ?_) (fun i => [some (.d (gvD G)), some (.d (.str (kdV (some o)))), some (.d (.list ((List.range G.length).map ch))), some (.o (((List.range i).map fun k => (pcP (vl G k) o (c k)).D))), none, none, none, none]) rfl (fun i a ha P hP => ?_) ?_
  · ac_rfl
    rw [List.length_map, Int.toNat_natCast, rangeD0]
    exact ⟨by omega, by omega, hP⟩
  · have hi : i < G.length := by
      have := (List.getElem?_eq_some_iff.mp ha).1
      rwa [List.length_range] at this
    have ea : a = i := by
      rw [List.getElem?_range hi] at ha
      exact (Option.some.inj ha).symm
    subst ea
    rw [List.range_succ, List.map_append] at hP
    have hw := h6 _ (vl_mem hi)
    have l1 : (List.map (fun k => (pcP (vl G k) o (c k)).D) (List.range a)).length < 100 := by
      rw [List.length_map, List.length_range]
      omega
    ac_rfl
    refine ⟨_, atI_nat (by rw [List.getElem?_map, vl_get hi]; rfl), ?_⟩
    ac_rfl
    refine ⟨rfl, rfl, _, rfl, ?_⟩
    rw [kdV_inj]
    unfold pcP at hP
    by_cases z : (vl G a).k = some o
    · obtain ⟨e1, e2⟩ := hs a hi z
      have zn : (vl G a).k ≠ none := by rw [z]; intro y; cases y
      rw [if_pos (decide_eq_true z)]
      refine ⟨by decide, _, atI_nat (by rw [List.getElem?_map, List.getElem?_range hi]; rfl), ?_⟩
      rw [e1, el_range zn]
      refine ⟨_, atI_nat (by rw [List.getElem?_map, List.getElem?_range e2]; rfl), by decide, by decide, by decide, by omega, ?_⟩
      have ep : (if (vl G a).k = some o then (⟨(vl G a).g, none, [((1, 1), ((vl G a).bs.getD (c a) ((1, 1), 0)).2)]⟩ : PlV) else vl G a) = ⟨(vl G a).g, none, [((1, 1), ((vl G a).bs.getD (c a) ((1, 1), 0)).2)]⟩ := if_pos z
      have eL : List.map (fun k => (if (vl G k).k = some o then (⟨(vl G k).g, none, [((1, 1), ((vl G k).bs.getD (c k) ((1, 1), 0)).2)]⟩ : PlV) else vl G k).D) [a] = [(⟨(vl G a).g, none, [((1, 1), ((vl G a).bs.getD (c a) ((1, 1), 0)).2)]⟩ : PlV).D] := by
        rw [List.map_cons, List.map_nil, ep]
      rw [eL] at hP
      exact hP
    · rw [if_neg (by rw [decide_eq_true_iff]; exact z)]
      refine ⟨_, atI_nat (by rw [List.getElem?_map, vl_get hi]; rfl), by omega, ?_⟩
      have ep : (if (vl G a).k = some o then (⟨(vl G a).g, none, [((1, 1), ((vl G a).bs.getD (c a) ((1, 1), 0)).2)]⟩ : PlV) else vl G a) = vl G a := if_neg z
      have eL : List.map (fun k => (if (vl G k).k = some o then (⟨(vl G k).g, none, [((1, 1), ((vl G k).bs.getD (c k) ((1, 1), 0)).2)]⟩ : PlV) else vl G k).D) [a] = [(vl G a).D] := by
        rw [List.map_cons, List.map_nil, ep]
      rw [eL] at hP
      exact hP
  · ac_rfl
    rw [List.length_range]
    unfold putV at hP
    rw [List.map_map] at hP
    exact hP

abbrev s_all : Stmt := top 40
theorem sc_all : FnScope ["game", "side", "found", "place", "longer", "row", "branch"] ["game", "side"] (defScope s_all) := ⟨rfl, rfl, rfl, by decide +kernel, rfl, by decide +kernel, by decide +kernel⟩
theorem has_all (D : IsDef K mg "_law_all" s_all ["game", "side"]) (T : Bt mg) : Has P w K mg base (1) "_law_all" ["game", "side"] (spP K (kAll)) := by
  obtain ⟨f, fd, F, hm, hb⟩ := D

  have sc := sc_all
  refine ⟨f, fd, F.ok sc (fun vs H Q E x => ?_) (fun cdv A outer s h0 vs Q E hr hs => ?_), hm, F.kp, hb⟩
  · obtain ⟨b, ds, P, _, hA, hR, _⟩ := x
    obtain ⟨_, _, rfl, _⟩ := con2_is hR
    rw [hA.length]
    rfl
  obtain ⟨b, ds, Pq, eb, hA, hR, kQ⟩ := hs
  obtain ⟨x0, x1, rfl, hR⟩ := con2_is hR
  refine ⟨_, (pss_cons (ps_set (i := 2) sc.nd rfl (by first | exact Or.inl rfl | exact Or.inr rfl) (pe_lst (pa_cons (pe_lst pa_nil) pa_nil))) (pss_cons (ps_for PassesOwn.never rfl (pi_listK (K := K) rfl (pv 0)) (pg_name (i := 3) sc.nd rfl (by first | exact Or.inl rfl | exact Or.inr rfl)) (pss_one (ps_if (pt_cmpR op_eq (pe_ix (ix_tupK (K := K) rfl) (pv 3) pe_int (fun _ _ => rfl)) (pv 1) (nomark _)) (pss_cons (ps_set (i := 4) sc.nd rfl (by first | exact Or.inl rfl | exact Or.inr rfl) (pe_lst pa_nil)) (pss_cons (ps_for PassesOwn.never rfl (pi_listK (K := K) rfl (pv 2)) (pg_name (i := 5) sc.nd rfl (by first | exact Or.inl rfl | exact Or.inr rfl)) (pss_one (ps_set (i := 4) sc.nd rfl (by first | exact Or.inl rfl | exact Or.inr rfl) (pe_op op_cat (pv 4) (pe_lc (own := [("branch", 6)]) (tt := tYes) rfl sc.nd (pi_range1 (by rfl) T.range (pa_cons (pe_callB (len_K (K := K) rfl) (by rfl) T.len PySem.boot_len (pa_cons (pe_ix (ix_tupK (K := K) rfl) (pv 3) pe_int (fun _ _ => rfl)) pa_nil)) pa_nil)) (blkOk_by (N := ["game", "side", "found", "place", "longer", "row", "branch"]) (sc := defScope s_all) (by decide +kernel)) (fun _ _ _ _ _ => (pg_name (i := 6) sc.nd rfl (by first | exact Or.inl rfl | exact Or.inr rfl))) (fun _ _ _ _ _ => pts_nil) (fun _ _ _ _ _ => (pe_op op_cat (pv 5) (pe_lst (pa_cons (pv 6) pa_nil))))))))) (pss_one (ps_set (i := 2) sc.nd rfl (by first | exact Or.inl rfl | exact Or.inr rfl) (pv 4))))) (pss_one (ps_setLc (i := 2) (own := [("row", 5)]) (tt := tYes) rfl sc.nd rfl rfl (sw_true rfl rfl rfl (by decide +kernel)) (pi_listK (K := K) rfl (pv 2)) (blkOk_by (N := ["game", "side", "found", "place", "longer", "row", "branch"]) (sc := defScope s_all) (by decide +kernel)) (fun _ _ _ _ _ => (pg_name (i := 5) sc.nd rfl (by first | exact Or.inl rfl | exact Or.inr rfl))) (fun _ _ _ _ _ => pts_nil) (fun _ _ _ _ _ => (pe_op op_cat (pv 5) (pe_lst (pa_cons pe_non pa_nil))))))))) (pss_one (ps_ret (pv 2))))), sim_P (Γ := [some (.d x0), some (.d x1), none, none, none, none, none]) (z_seq (z_asg (z_ofN (z_lst (z_cons (z_ofN (z_lst z_nil)) z_nil))) g_name) (z_seq (z_for (ws := [3, 6]) (i_list z_var) g_name (z_ifS (z_test (z_eqS (z_ixT z_var z_i) z_var)) (z_seq (z_asg (z_ofN (z_lst z_nil)) g_name) (z_seq (z_for (ws := [6]) (i_list z_var) g_name (z_asg (z_ofN (z_cat z_var (z_ofN (z_lc (by decide) (i_rng1 (z_cons (z_len (z_ixT z_var z_i)) z_nil)) g_name z_yes (z_ofN (z_cat z_var (z_ofN (z_lst (z_cons z_var z_nil))))))))) g_name)) (z_asg z_var g_name))) (z_asg (z_ofN (z_lc (by decide) (i_list z_var) g_name z_yes (z_ofN (z_cat z_var (z_ofN (z_lst (z_cons z_n z_nil))))))) g_name))) (z_ret z_var))) eb hA (by show 2 ≤ 7; decide) rfl ?_ kQ⟩
  obtain ⟨G, o, rfl, rfl, h12, h6, hl, hP⟩ := hR
  clear hR
  ac_rfl
  refine ⟨by decide, by decide, ?_⟩
  obtain ⟨GA, hGA⟩ : ∃ GA : List (List PyData) → Option Sl → Option Sl → Option Sl → Gam, ∀ l a b c, GA l a b c = [some (.d (gvD G)), some (.d (.str (kdV (some o)))), some (.d (.list (l.map PyData.list))), a, b, c, none] := ⟨_, fun _ _ _ _ => rfl⟩
  refine dfor_inv (List.range G.length) (fun k => (vl G k).D) (fun P hP => ?_) (fun i Γ' => ∃ s4 s5, Γ' = GA (alF G o i) none s4 s5) ⟨none, none, by rw [hGA] <;> rfl⟩ ?_ ?_
  · ac_rfl
    rw [map_vl G PlV.D] at hP
    exact hP
  · rintro i a Γ' ha ⟨s4, s5, rfl⟩
    have hi : i < G.length := by
      have := (List.getElem?_eq_some_iff.mp ha).1
      rwa [List.length_range] at this
    have ea : a = i := by
      rw [List.getElem?_range hi] at ha
      exact (Option.some.inj ha).symm
    subst ea
    have hw := h6 _ (vl_mem hi)
    have hl1 := hl a (by omega)
    have hl2 := hl (a + 1) (by omega)
    rw [hGA]
    ac_rfl
    refine ⟨_, rfl, _, rfl, ?_⟩
    rw [kdV_inj]
    by_cases z : (vl G a).k = some o
    · rw [if_pos (decide_eq_true z)]
      have e1 : alF G o (a + 1) = (alF G o a).flatMap fun row => (List.range (vl G a).bs.length).map fun b : Nat => row ++ [.int (b : Int)] := if_pos z
      have lf : ∀ l : List (List PyData), (l.flatMap fun row => (List.range (vl G a).bs.length).map fun b : Nat => row ++ [PyData.int (b : Int)]).length ≤ 6 * l.length := fun l => by
        induction l with
        | nil => exact Nat.le_refl _
        | cons r l ih =>
          rw [List.flatMap_cons, List.length_append, List.length_map, List.length_range, List.length_cons]
          omega
      refine ⟨by decide, ?_⟩
      refine dfor_inv (alF G o a) PyData.list (fun P hP => ?_) (fun j Γ' => ∃ s5, Γ' = GA (alF G o a) (some (.d (vl G a).D)) (some (.d (.list ((((alF G o a).take j).flatMap fun row => (List.range (vl G a).bs.length).map fun b : Nat => row ++ [PyData.int (b : Int)]).map PyData.list)))) s5) ⟨s5, by rw [hGA] <;> rfl⟩ ?_ ?_
      · ac_rfl
        exact hP
      · rintro j row Γ' hr ⟨s5, rfl⟩
        have hrm := List.mem_of_getElem? hr
        have hrl := al_row hrm
        have hj := (List.getElem?_eq_some_iff.mp hr).1
        have et : (alF G o a).take (j + 1) = (alF G o a).take j ++ [row] := by
          rw [List.take_add_one, hr]
          rfl
        have lt := lf ((alF G o a).take j)
        rw [List.length_take] at lt
        rw [hGA]
        ac_rfl
        refine dlc_map (List.range (vl G a).bs.length) (fun b : Nat => PyData.int (b : Int)) (fun b : Nat => .list (row ++ [.int (b : Int)])) (fun P hP => ?_) (by rw [List.length_range]; omega) (fun b hb P hP => ?_) ?_
        · unfold PlV.D
          ac_rfl
          refine ⟨_, rfl, ?_⟩
          ac_rfl
          rw [el_len, Int.toNat_natCast, rangeD0]
          exact ⟨by omega, by omega, hP⟩
        · ac_rfl
          exact ⟨by decide, by show row.length + 1 ≤ _; omega, hP⟩
        refine ⟨by simp only [List.length_map, List.length_range]; omega, some (.d (.list row)), ?_⟩
        rw [hGA, et, List.flatMap_append, List.flatMap_cons, List.flatMap_nil, List.append_nil, List.map_append, List.map_map]
        rfl
      · rintro Γ' ⟨s5, rfl⟩
        rw [List.take_length, ← e1, hGA]
        ac_rfl
        exact ⟨_, _, (hGA _ _ _ _).symm⟩
    · rw [if_neg (by rw [decide_eq_true_iff]; exact z)]
      have e1 : alF G o (a + 1) = (alF G o a).map fun row => row ++ [.none] := if_neg z
      refine dlc_map (alF G o a) PyData.list (fun row => .list (row ++ [.none])) (fun P hP => ?_) (by omega) (fun row hr P hP => ?_) ?_
      · ac_rfl
        exact hP
      · have hrl := al_row hr
        ac_rfl
        exact ⟨by decide, by show row.length + 1 ≤ _; omega, hP⟩
      · refine ⟨s4, s5, ?_⟩
        rw [hGA, e1, List.map_map]
        rfl
  · rintro Γ' ⟨s4, s5, rfl⟩
    rw [List.length_range, hGA]
    ac_rfl
    exact hP

abbrev s_solved_ : Stmt := top 35
theorem sc_solved_ : FnScope ["rows", "many", "column", "pivot", "k", "swap", "factor", "row", "one", "j"] ["rows", "many"] (defScope s_solved_) := ⟨rfl, rfl, rfl, by decide +kernel, rfl, by decide +kernel, by decide +kernel⟩
theorem has_solved_ (D : IsDef K mg "_law_solved" s_solved_ ["rows", "many"]) (T : Bt mg) (U_number : Has P w K mg base (2) "_law_number" ["n", "d"] (spP K (kNumI))) (U_plus_ : Has P w K mg base (3) "_law_plus" ["a", "b"] (spP K (kPlusW))) (U_times_ : Has P w K mg base (3) "_law_times" ["a", "b"] (spP K (kTimesW))) : Has P w K mg base (4) "_law_solved" ["rows", "many"] (spN K (kLSol)) := by
  obtain ⟨f, fd, F, hm, hb⟩ := D
  obtain ⟨f_number, fd_number, G_number, m_number, k_number, b_number⟩ := U_number
  obtain ⟨f_plus_, fd_plus_, G_plus_, m_plus_, k_plus_, b_plus_⟩ := U_plus_
  obtain ⟨f_times_, fd_times_, G_times_, m_times_, k_times_, b_times_⟩ := U_times_
  have sc := sc_solved_
  refine ⟨f, fd, F.ok sc (fun vs H Q E x => ?_) (fun cdv A outer s h0 vs Q E hr hs => ?_), hm, F.kp, hb⟩
  · obtain ⟨b, ds, P, _, hA, hR, _⟩ := x
    obtain ⟨_, _, rfl, _⟩ := conN2_is hR
    rw [hA.length]
    rfl
  obtain ⟨b, ds, Pq, eb, hA, hR, kQ⟩ := hs
  obtain ⟨x0, x1, rfl, hR⟩ := conN2_is hR
  refine ⟨_, (pss_cons (ps_set (i := 0) sc.nd rfl (by first | exact Or.inl rfl | exact Or.inr rfl) (pe_lc (own := [("row", 7)]) (tt := tYes) rfl sc.nd (pi_listK (K := K) rfl (pv 0)) (blkOk_by (N := ["rows", "many", "column", "pivot", "k", "swap", "factor", "row", "one", "j"]) (sc := defScope s_solved_) (by decide +kernel)) (fun _ _ _ _ _ => (pg_name (i := 7) sc.nd rfl (by first | exact Or.inl rfl | exact Or.inr rfl))) (fun _ _ _ _ _ => pts_nil) (fun _ _ _ _ _ => (pe_callTy (list_K (K := K) rfl) (by rfl) T.list (by decide +kernel) (pa_cons (pv 7) pa_nil))))) (pss_cons (ps_for PassesOwn.never rfl (pi_range1 (by rfl) T.range (pa_cons (pv 1) pa_nil)) (pg_name (i := 2) sc.nd rfl (by first | exact Or.inl rfl | exact Or.inr rfl)) (pss_cons (ps_set (i := 3) sc.nd rfl (by first | exact Or.inl rfl | exact Or.inr rfl) pe_non) (pss_cons (ps_for PassesOwn.never rfl (pi_range2 (by rfl) T.range (pa_cons (pv 2) (pa_cons (pv 1) pa_nil))) (pg_name (i := 4) sc.nd rfl (by first | exact Or.inl rfl | exact Or.inr rfl)) (pss_one (ps_if (PW.pt (pw_and (pt_cmpR op_ne (pe_ix (ix_tupK (K := K) rfl) (pe_ix (ix_listK (K := K) rfl) (pe_ix (ix_listK (K := K) rfl) (pv 0) (pv 4) (fun _ _ => rfl)) (pv 2) (fun _ _ => rfl)) pe_int (fun _ _ => rfl)) pe_int (nomark _)) (pw_and1 (pt_cmpR op_isN1 (pv 3) pe_non (nomark _))))) (pss_one (ps_set (i := 3) sc.nd rfl (by first | exact Or.inl rfl | exact Or.inr rfl) (pv 4))) pss_nil))) (pss_cons (ps_if (pt_cmpR op_isN1 (pv 3) pe_non (nomark _)) (pss_one (ps_ret pe_non)) pss_nil) (pss_cons (ps_set (i := 5) sc.nd rfl (by first | exact Or.inl rfl | exact Or.inr rfl) (pe_ix (ix_listK (K := K) rfl) (pv 0) (pv 3) (fun _ _ => rfl))) (pss_cons (ps_asg (pe_ix (ix_listK (K := K) rfl) (pv 0) (pv 2) (fun _ _ => rfl)) (pg_sub (pv 0) (pv 3) set_list)) (pss_cons (ps_set (i := 6) sc.nd rfl (by first | exact Or.inl rfl | exact Or.inr rfl) (pe_tup (pa_cons (pe_ix (ix_tupK (K := K) rfl) (pe_ix (ix_listK (K := K) rfl) (pv 5) (pv 2) (fun _ _ => rfl)) pe_int (fun _ _ => rfl)) (pa_cons (pe_ix (ix_tupK (K := K) rfl) (pe_ix (ix_listK (K := K) rfl) (pv 5) (pv 2) (fun _ _ => rfl)) pe_int (fun _ _ => rfl)) pa_nil)))) (pss_cons (ps_asg (pe_lc (own := [("one", 8)]) (tt := tYes) rfl sc.nd (pi_listK (K := K) rfl (pv 5)) (blkOk_by (N := ["rows", "many", "column", "pivot", "k", "swap", "factor", "row", "one", "j"]) (sc := defScope s_solved_) (by decide +kernel)) (fun _ _ _ _ _ => (pg_name (i := 8) sc.nd rfl (by first | exact Or.inl rfl | exact Or.inr rfl))) (fun _ _ _ _ _ => pts_nil) (fun _ _ _ _ _ => (pe_call G_times_ (hr.mono (by decide)) rfl m_times_ k_times_ b_times_ .nil pass0 (pa_cons (pe_call G_number (hr.mono (by decide)) rfl m_number k_number b_number .nil pass0 (pa_cons (pe_ix (ix_tupK (K := K) rfl) (pv 6) pe_int (fun _ _ => rfl)) (pa_cons (pe_ix (ix_tupK (K := K) rfl) (pv 6) pe_int (fun _ _ => rfl)) pa_nil))) (pa_cons (pv 8) pa_nil))))) (pg_sub (pv 0) (pv 2) set_list)) (pss_one (ps_for PassesOwn.never rfl (pi_range1 (by rfl) T.range (pa_cons (pv 1) pa_nil)) (pg_name (i := 4) sc.nd rfl (by first | exact Or.inl rfl | exact Or.inr rfl)) (pss_one (ps_if (PW.pt (pw_and (pt_cmpR op_ne (pv 4) (pv 2) (nomark _)) (pw_and1 (pt_cmpR op_ne (pe_ix (ix_tupK (K := K) rfl) (pe_ix (ix_listK (K := K) rfl) (pe_ix (ix_listK (K := K) rfl) (pv 0) (pv 4) (fun _ _ => rfl)) (pv 2) (fun _ _ => rfl)) pe_int (fun _ _ => rfl)) pe_int (nomark _))))) (pss_cons (ps_set (i := 6) sc.nd rfl (by first | exact Or.inl rfl | exact Or.inr rfl) (pe_ix (ix_listK (K := K) rfl) (pe_ix (ix_listK (K := K) rfl) (pv 0) (pv 4) (fun _ _ => rfl)) (pv 2) (fun _ _ => rfl))) (pss_cons (ps_set (i := 6) sc.nd rfl (by first | exact Or.inl rfl | exact Or.inr rfl) (pe_tup (pa_cons (pe_un un_neg (pe_ix (ix_tupK (K := K) rfl) (pv 6) pe_int (fun _ _ => rfl))) (pa_cons (pe_ix (ix_tupK (K := K) rfl) (pv 6) pe_int (fun _ _ => rfl)) pa_nil)))) (pss_one (ps_asg (pe_lc (own := [("j", 9)]) (tt := tYes) rfl sc.nd (pi_range1 (by rfl) T.range (pa_cons (pe_op op_add (pv 1) pe_int) pa_nil)) (blkOk_by (N := ["rows", "many", "column", "pivot", "k", "swap", "factor", "row", "one", "j"]) (sc := defScope s_solved_) (by decide +kernel)) (fun _ _ _ _ _ => (pg_name (i := 9) sc.nd rfl (by first | exact Or.inl rfl | exact Or.inr rfl))) (fun _ _ _ _ _ => pts_nil) (fun _ _ _ _ _ => (pe_call G_plus_ (hr.mono (by decide)) rfl m_plus_ k_plus_ b_plus_ .nil pass0 (pa_cons (pe_ix (ix_listK (K := K) rfl) (pe_ix (ix_listK (K := K) rfl) (pv 0) (pv 4) (fun _ _ => rfl)) (pv 9) (fun _ _ => rfl)) (pa_cons (pe_call G_times_ (hr.mono (by decide)) rfl m_times_ k_times_ b_times_ .nil pass0 (pa_cons (pv 6) (pa_cons (pe_ix (ix_listK (K := K) rfl) (pe_ix (ix_listK (K := K) rfl) (pv 0) (pv 2) (fun _ _ => rfl)) (pv 9) (fun _ _ => rfl)) pa_nil))) pa_nil))))) (pg_sub (pv 0) (pv 4) set_list))))) pss_nil)))))))))))) (pss_one (ps_ret (pe_lc (own := [("k", 4)]) (tt := tYes) rfl sc.nd (pi_range1 (by rfl) T.range (pa_cons (pv 1) pa_nil)) (blkOk_by (N := ["rows", "many", "column", "pivot", "k", "swap", "factor", "row", "one", "j"]) (sc := defScope s_solved_) (by decide +kernel)) (fun _ _ _ _ _ => (pg_name (i := 4) sc.nd rfl (by first | exact Or.inl rfl | exact Or.inr rfl))) (fun _ _ _ _ _ => pts_nil) (fun _ _ _ _ _ => (pe_ix (ix_listK (K := K) rfl) (pe_ix (ix_listK (K := K) rfl) (pv 0) (pv 4) (fun _ _ => rfl)) (pv 1) (fun _ _ => rfl)))))))), sim_N (Γ := [some (.d x0), some (.d x1), none, none, none, none, none, none, none, none]) (z_seq (z_tell (i := 0) (z_asgO (z_lc (by decide) (i_list z_var) g_name z_yes (z_ofN (z_list z_var))))) (z_seq (z_for (ws := [2, 3, 4, 5, 6, 8, 9]) (i_rng1 (z_cons z_var z_nil)) g_name (z_seq (z_asg z_n g_name) (z_seq (z_for (ws := [4]) (i_rng2 (z_cons z_var (z_cons z_var z_nil))) g_name (z_ifS (z_and (z_test (z_neS (z_ixT (z_ixL (z_ixL z_var z_var) z_var) z_i) z_i)) (z_test (z_isN z_var))) (z_asg z_var g_name) z_next)) (z_seq (z_ifS (z_test (z_isN z_var)) (z_ret z_n) z_next) (z_seq (z_asgIx z_var) (z_seq (z_setIx z_var z_var) (z_seq (z_asg (z_tup (z_cons (z_ixT (z_ixL z_var z_var) z_i) (z_cons (z_ixT (z_ixL z_var z_var) z_i) z_nil))) g_name) (z_seq (z_set (z_ofN (z_lc (by decide) (i_list z_var) g_name z_yes (z_call (z_cons (z_call (z_cons (z_ixT z_var z_i) (z_cons (z_ixT z_var z_i) z_nil))) (z_cons z_var z_nil))))) z_var) (z_for (ws := [4, 6, 9]) (i_rng1 (z_cons z_var z_nil)) g_name (z_ifS (z_and (z_test (z_neS z_var z_var)) (z_test (z_neS (z_ixT (z_ixL (z_ixL z_var z_var) z_var) z_i) z_i))) (z_seq (z_asgX (z_ixL (z_ixL z_var z_var) z_var) g_name) (z_seq (z_asg (z_tup (z_cons (z_neg (z_ixT z_var z_i)) (z_cons (z_ixT z_var z_i) z_nil))) g_name) (z_setXN (z_lc (by decide) (i_rng1 (z_cons (z_add z_var z_i) z_nil)) g_name z_yes (z_call (z_cons (z_ixL (z_ixL z_var z_var) z_var) (z_cons (z_call (z_cons z_var (z_cons (z_ixL (z_ixL z_var z_var) z_var) z_nil))) z_nil)))) z_var))) z_next)))))))))) (z_retXN (z_lc (by decide) (i_rng1 (z_cons z_var z_nil)) g_name z_yes (z_ixL (z_ixL z_var z_var) z_var))))) eb hA (by show 2 ≤ 10; decide) rfl ?_ kQ⟩
  obtain ⟨n, B, E0, V, f, rfl, rfl, hS, hr, ht, hP⟩ := hR
  clear hR
  have n12 := hS.n12
  trivial
  refine dlc_rng n (fun i => listQ (n + 1) (f i)) (fun i => listQ (n + 1) (f i)) (fun P hP => ?_) (by omega) (fun i hi P hP => ?_) ?_
  · trivial
    exact hP
  · trivial
    exact hP
  trivial
  refine ⟨by decide, ?_⟩
  obtain ⟨GA, hGA⟩ : ∃ GA : (Nat → Nat → Rat) → Option Sl → Option Sl → Option Sl → Option Sl → Option Sl → Gam, ∀ g s2 s3 s4 s5 s6, GA g s2 s3 s4 s5 s6 = [some (.o (rowsL n (n + 1) g)), some (.d (.int (n : Int))), s2, s3, s4, s5, s6, none, none, none] := ⟨_, fun _ _ _ _ _ _ => rfl⟩
  refine dfor_rng n (fun k => PyData.int (k : Int)) (fun P hP => ?_) (fun c Γ' => ∃ g, GjI n B E0 V f g c ∧ Γ' = GA g none none none none none) ⟨f, gj_start hr, by rw [hGA] <;> rfl⟩ ?_ ?_
  · trivial
    rw [Int.toNat_natCast, rangeD0]
    exact ⟨by omega, by omega, hP⟩
  · rintro c Γ' hc ⟨g, I, rfl⟩
    rw [hGA]
    trivial
    refine dfor_rng (n - c) (fun k => PyData.int (((c + k : Nat) : Int))) (fun P hP => ?_) (fun k Γ' => ∃ (p : PyData) (s4 : Option Sl), (p = .none ∧ (∀ j, c ≤ j → j < c + k → g j c = 0) ∨ ∃ m : Nat, p = .int (m : Int) ∧ c ≤ m ∧ m < n ∧ g m c ≠ 0) ∧ Γ' = GA g (some (.d (.int (c : Int)))) (some (.d p)) s4 none none) ⟨.none, none, Or.inl ⟨rfl, fun j h1 h2 => by omega⟩, by rw [hGA] <;> rfl⟩ ?_ ?_
    · trivial
      refine ⟨⟨by omega, by omega, by omega, by omega⟩, ?_⟩
      have e1 : ((n : Int) - (c : Int)).toNat = n - c := by omega
      rw [e1]
      have e2 : rangeD (c : Int) (n - c) = (List.range (n - c)).map fun k => PyData.int (((c + k : Nat) : Int)) := by
        unfold rangeD
        exact List.map_congr_left fun k _ => by rw [Int.natCast_add]
      rw [e2]
      exact hP
    · rintro k Γ' hk ⟨p, s4, hp, rfl⟩
      have hck : c + k < n := by omega
      rw [hGA]
      trivial
      refine ⟨_, rowsL_at hck, ?_⟩
      trivial
      refine ⟨_, listQ_at (show c < n + 1 by omega), ?_⟩
      trivial
      refine ⟨_, atI_zero, _, rfl, ?_⟩
      rw [numz_dec]
      by_cases q : g (c + k) c = 0
      · rw [if_neg (by rw [decide_eq_true q]; decide), if_neg (by decide)]
        refine ⟨p, _, ?_, by rw [hGA] <;> rfl⟩
        rcases hp with ⟨rfl, h0⟩ | h
        · refine Or.inl ⟨rfl, fun j h1 h2 => ?_⟩
          rcases Nat.lt_or_ge j (c + k) with z | z
          · exact h0 j h1 z
          · rw [show j = c + k by omega]
            exact q
        · exact Or.inr h
      · rw [if_pos (by rw [decide_eq_false q]; rfl)]
        rcases hp with ⟨rfl, h0⟩ | ⟨m, rfl, h⟩
        · rw [isNo_n, if_pos rfl]
          exact ⟨_, _, Or.inr ⟨c + k, rfl, by omega, hck, q⟩, by rw [hGA] <;> rfl⟩
        · rw [if_neg (by rw [isNo_i]; decide)]
          exact ⟨_, _, Or.inr ⟨m, rfl, h⟩, by rw [hGA] <;> rfl⟩
    · rintro Γ' ⟨p, s4, hp, rfl⟩
      obtain ⟨m, rfl, h1, h2, h3⟩ : ∃ m : Nat, p = .int (m : Int) ∧ c ≤ m ∧ m < n ∧ g m c ≠ 0 := by
        rcases hp with ⟨_, h0⟩ | h
        · obtain ⟨k, k1, k2, k3⟩ := I.pivot ht hc
          exact absurd (h0 k k1 (by omega)) k3
        · exact h
      have szm := I.sz m h2
      have okm : ∀ j, j < n + 1 → Ok (g m j) := fun j hj => hS.ok (Nat.le_of_lt hc) szm hj
      have szs := szm.scale hc h3
      have oks : ∀ j, j < n + 1 → Ok (1 / g m c * g m j) := fun j hj => hS.ok (Nat.le_of_lt hc) szs hj
      obtain ⟨oki, nmi⟩ := inv_ok hS (Nat.le_of_lt hc) szm hc h3
      rw [hGA]
      trivial
      show (if isNo (PyData.int (m : Int)) = true then False else _)
      rw [if_neg (by rw [isNo_i]; decide)]
      refine ⟨_, rowsL_at h2, by decide, _, rowsL_at hc, m, ixN_nat (by rw [rowsL_len]; exact h2), ?_⟩
      rw [rowsL_set]
      trivial
      refine ⟨_, listQ_at (show c < n + 1 by omega), ?_⟩
      trivial
      refine ⟨_, atI_one, _, listQ_at (show c < n + 1 by omega), ?_⟩
      trivial
      refine ⟨_, atI_zero, by decide, ?_⟩
      refine dlc_rng (n + 1) (fun j => nQ (g m j)) (fun j => nQ (1 / g m c * g m j)) (fun P hP => ?_) (by omega) (fun j hj P hP => ?_) ?_
      · trivial
        exact hP
      · trivial
        refine ⟨_, atI_zero, _, atI_one, ?_⟩
        refine kNumI_i h3 (okm c (by omega)) ?_ ?_
        · exact nmi
        exact kTimesW_i oki (okm j hj) (oks j hj) hP
      · refine ⟨c, ixN_nat (by rw [rowsL_len]; exact hc), ?_⟩
        rw [gj_swap]
        have szA := I.stepA hc h2 h3
        generalize hfA : gjA g c m = fA at szA ⊢
        have I2 := I.step hc h1 h2 h3
        rw [hfA] at I2
        obtain ⟨x5, hs5⟩ : ∃ x5, x5 = listQ (n + 1) (g m) := ⟨_, rfl⟩
        rw [← hs5]
        refine dfor_rng n (fun k => PyData.int (k : Int)) (fun P hP => ?_) (fun k Γ' => Γ' = [some (.o (rowsL n (n + 1) (gjE fA c k))), some (.d (.int (n : Int))), some (.d (.int (c : Int))), some (.d (.int (m : Int))), none, some (.d x5), none, none, none, none]) rfl ?_ ?_
        · trivial
          rw [Int.toNat_natCast, rangeD0]
          exact ⟨by omega, by omega, hP⟩
        · rintro k Γ' hk rfl
          have okA : ∀ {i j : Nat}, i < n → j < n + 1 → Ok (fA i j) := fun hi hj => hS.ok (Nat.le_of_lt hc) (szA _ hi) hj
          have cn : decide (((k : Nat) : Int) = ((c : Nat) : Int)) = decide (k = c) := decide_eq_decide.mpr (by omega)
          trivial
          refine ⟨_, rfl, ?_⟩
          rw [cn]
          by_cases q : k = c
          · rw [if_neg (by rw [decide_eq_true q]; decide), if_neg (by decide), gj_stay (Or.inl q)]
          · rw [if_pos (by rw [decide_eq_false q]; rfl)]
            refine ⟨_, rowsL_at hk, ?_⟩
            rw [gjE_own]
            trivial
            refine ⟨_, listQ_at (show c < n + 1 by omega), ?_⟩
            trivial
            refine ⟨_, atI_zero, _, rfl, ?_⟩
            rw [numz_dec]
            by_cases q2 : fA k c = 0
            · rw [if_neg (by rw [decide_eq_true q2]; decide), gj_stay (Or.inr q2)]
            · rw [if_pos (by rw [decide_eq_false q2]; rfl)]
              refine ⟨_, rowsL_at hk, ?_⟩
              rw [gjE_own]
              trivial
              refine ⟨_, listQ_at (show c < n + 1 by omega), rfl, ?_⟩
              trivial
              refine ⟨_, atI_zero, _, atI_one, by decide, ?_⟩
              have en : PyData.tuple [.int (-(fA k c).num), .int ((fA k c).den : Int)] = nQ (-fA k c) := rfl
              have ko : ∀ j, j < n + 1 → Ok (fA k j) := fun j hj => okA hk hj
              have kf : Ok (-fA k c) := ok_neg (ko c (by omega))
              have kp : ∀ j, j < n + 1 → Ok (-fA k c * fA c j) := fun j hj => by
                rw [Rat.neg_mul]
                exact ok_neg (hS.oke hc (szA k hk) (szA c hc) hc hj)
              have ks : ∀ j, j < n + 1 → Ok (fA k j + -fA k c * fA c j) := fun j hj => by
                have e : fA k j + -fA k c * fA c j = fA k j - fA k c * fA c j := by grind
                rw [e]
                have I2s := I2.sz k hk
                have eE : gjE fA c n k = fun j => fA k j - fA k c * fA c j := if_pos ⟨hk, q⟩
                rw [eE] at I2s
                exact hS.ok hc I2s hj
              refine dlc_rng (n + 1) (fun j => PyData.int (j : Int)) (fun j => nQ (fA k j + -fA k c * fA c j)) (fun P hP => ?_) (by omega) (fun j hj P hP => ?_) ?_
              · trivial
                have e1 : (((n : Int)) + 1).toNat = n + 1 := by omega
                have e2 : ((n : Int)) + 1 = ((n + 1 : Nat) : Int) := by omega
                rw [e2, Int.toNat_natCast, rangeD0]
                exact ⟨by omega, by omega, hP⟩
              · trivial
                refine ⟨_, rowsL_at hk, ?_⟩
                rw [gjE_own]
                trivial
                refine ⟨_, listQ_at hj, _, rowsL_at hc, ?_⟩
                rw [gjE_c]
                trivial
                refine ⟨_, listQ_at hj, ?_⟩
                rw [en]
                exact kTimesW_i kf (okA hc hj) (kp j hj) (kPlusW_i (ko j hj) (kp j hj) (ks j hj) hP)
              · refine ⟨nolA_all fun d hd => ?_, k, ixN_nat (by rw [rowsL_len]; exact hk), ?_⟩
                · obtain ⟨j, _, rfl⟩ := List.mem_map.mp hd
                  exact nol_nQ _
                rw [gj_next q]
        · rintro Γ' rfl
          exact ⟨_, I2, by rw [hGA] <;> rfl⟩
  · rintro Γ' ⟨g, I, rfl⟩
    rw [hGA]
    trivial
    refine dlc_rng n (fun k => PyData.int (k : Int)) (fun k => nQ (g k n)) (fun P hP => ?_) (by omega) (fun k hk P hP => ?_) ?_
    · trivial
      rw [Int.toNat_natCast, rangeD0]
      exact ⟨by omega, by omega, hP⟩
    · trivial
      refine ⟨_, rowsL_at hk, ?_⟩
      trivial
      exact ⟨_, listQ_at (Nat.lt_succ_self n), hP⟩
    · exact ⟨nolA_all fun d hd => by
        obtain ⟨k, _, rfl⟩ := List.mem_map.mp hd
        exact nol_nQ _, hP _ I.fin⟩

abbrev s_class_gain : Stmt := top 37
theorem sc_class_gain : FnScope ["chain", "places", "rows", "k", "shares", "row", "other", "chance", "target", "at"] ["chain", "places"] (defScope s_class_gain) := ⟨rfl, rfl, rfl, by decide +kernel, rfl, by decide +kernel, by decide +kernel⟩
theorem has_class_gain (D : IsDef K mg "_law_class_gain" s_class_gain ["chain", "places"]) (T : Bt mg) (U_plus_ : Has P w K mg base (3) "_law_plus" ["a", "b"] (spP K (kPlusW))) (U_times_ : Has P w K mg base (3) "_law_times" ["a", "b"] (spP K (kTimesW))) (U_total_ : Has P w K mg base (4) "_law_total" ["numbers"] (spP K (kTotW))) (U_solved_ : Has P w K mg base (4) "_law_solved" ["rows", "many"] (spN K (kLSol))) : Has P w K mg base (5) "_law_class_gain" ["chain", "places"] (spP K (kLCg)) := by
  obtain ⟨f, fd, F, hm, hb⟩ := D
  obtain ⟨f_plus_, fd_plus_, G_plus_, m_plus_, k_plus_, b_plus_⟩ := U_plus_
  obtain ⟨f_times_, fd_times_, G_times_, m_times_, k_times_, b_times_⟩ := U_times_
  obtain ⟨f_total_, fd_total_, G_total_, m_total_, k_total_, b_total_⟩ := U_total_
  obtain ⟨f_solved_, fd_solved_, G_solved_, m_solved_, k_solved_, b_solved_⟩ := U_solved_
  have sc := sc_class_gain
  refine ⟨f, fd, F.ok sc (fun vs H Q E x => ?_) (fun cdv A outer s h0 vs Q E hr hs => ?_), hm, F.kp, hb⟩
  · obtain ⟨b, ds, P, _, hA, hR, _⟩ := x
    obtain ⟨_, _, rfl, _⟩ := con2_is hR
    rw [hA.length]
    rfl
  obtain ⟨b, ds, Pq, eb, hA, hR, kQ⟩ := hs
  obtain ⟨x0, x1, rfl, hR⟩ := con2_is hR
  refine ⟨_, (pss_cons (ps_set (i := 2) sc.nd rfl (by first | exact Or.inl rfl | exact Or.inr rfl) (pe_lst pa_nil)) (pss_cons (ps_for PassesOwn.never rfl (pi_listK (K := K) rfl (pe_slice (sl_listK (K := K) rfl) (pv 1) (po_some pe_int) po_none)) (pg_name (i := 3) sc.nd rfl (by first | exact Or.inl rfl | exact Or.inr rfl)) (pss_cons (ps_set (i := 5) sc.nd rfl (by first | exact Or.inl rfl | exact Or.inr rfl) (pe_op op_cat (pe_lc (own := [("other", 6)]) (tt := tYes) rfl sc.nd (pi_listK (K := K) rfl (pv 1)) (blkOk_by (N := ["chain", "places", "rows", "k", "shares", "row", "other", "chance", "target", "at"]) (sc := defScope s_class_gain) (by decide +kernel)) (fun _ _ _ _ _ => (pg_name (i := 6) sc.nd rfl (by first | exact Or.inl rfl | exact Or.inr rfl))) (fun _ _ _ _ _ => pts_nil) (fun _ _ _ _ _ => (pe_tup (pa_cons (pe_callTy cr_int1 (by rfl) T.int (by decide +kernel) (pa_cons (pe_cmpR op_eq (pv 6) (pv 3) (nomark _)) pa_nil)) (pa_cons pe_int pa_nil))))) (pe_lst (pa_cons (pe_tup (pa_cons pe_int (pa_cons pe_int pa_nil))) pa_nil)))) (pss_cons (ps_for PassesOwn.never rfl (pi_listK (K := K) rfl (pv 1)) (pg_name (i := 6) sc.nd rfl (by first | exact Or.inl rfl | exact Or.inr rfl)) (pss_one (ps_for PassesOwn.never rfl (pi_listK (K := K) rfl (pe_ix (ix_tupK (K := K) rfl) (pe_ix (ix_listK (K := K) rfl) (pv 0) (pv 6) (fun _ _ => rfl)) pe_int (fun _ _ => rfl))) (pg_tupK (K := K) (n := 2) rfl rfl (pgs_cons (pg_name (i := 7) sc.nd rfl (by first | exact Or.inl rfl | exact Or.inr rfl)) (pgs_cons (pg_name (i := 8) sc.nd rfl (by first | exact Or.inl rfl | exact Or.inr rfl)) pgs_nil))) (pss_one (ps_if (pt_cmpR op_eq (pv 8) (pv 3) (nomark _)) (pss_cons (ps_set (i := 9) sc.nd rfl (by first | exact Or.inl rfl | exact Or.inr rfl) (pe_indexDK (K := K) (room65 hr) rfl (pv 1) (pa_cons (pv 6) pa_nil))) (pss_one (ps_asg (pe_call G_plus_ (hr.mono (by decide)) rfl m_plus_ k_plus_ b_plus_ .nil pass0 (pa_cons (pe_ix (ix_listK (K := K) rfl) (pv 5) (pv 9) (fun _ _ => rfl)) (pa_cons (pe_tup (pa_cons (pe_un un_neg (pe_ix (ix_tupK (K := K) rfl) (pv 7) pe_int (fun _ _ => rfl))) (pa_cons (pe_ix (ix_tupK (K := K) rfl) (pv 7) pe_int (fun _ _ => rfl)) pa_nil))) pa_nil))) (pg_sub (pv 5) (pv 9) set_list)))) pss_nil))))) (pss_one (ps_expr (pe_appK (K := K) rfl (pv 2) (pa_cons (pv 5) pa_nil))))))) (pss_cons (ps_expr (pe_appK (K := K) rfl (pv 2) (pa_cons (pe_op op_cat (pe_lc (own := [("other", 6)]) (tt := tYes) rfl sc.nd (pi_listK (K := K) rfl (pv 1)) (blkOk_by (N := ["chain", "places", "rows", "k", "shares", "row", "other", "chance", "target", "at"]) (sc := defScope s_class_gain) (by decide +kernel)) (fun _ _ _ _ _ => (pg_name (i := 6) sc.nd rfl (by first | exact Or.inl rfl | exact Or.inr rfl))) (fun _ _ _ _ _ => pts_nil) (fun _ _ _ _ _ => (pe_tup (pa_cons pe_int (pa_cons pe_int pa_nil))))) (pe_lst (pa_cons (pe_tup (pa_cons pe_int (pa_cons pe_int pa_nil))) pa_nil))) pa_nil))) (pss_cons (ps_set (i := 4) sc.nd rfl (by first | exact Or.inl rfl | exact Or.inr rfl) (pe_call G_solved_ (hr.mono (by decide)) rfl m_solved_ k_solved_ b_solved_ .nil pass0 (pa_cons (pv 2) (pa_cons (pe_callB (len_K (K := K) rfl) (by rfl) T.len PySem.boot_len (pa_cons (pv 1) pa_nil)) pa_nil)))) (pss_one (ps_ret (pe_call G_total_ (hr.mono (by decide)) rfl m_total_ k_total_ b_total_ .nil pass0 (pa_cons (pe_lc (own := [("k", 3)]) (tt := tYes) rfl sc.nd (pi_range1 (by rfl) T.range (pa_cons (pe_callB (len_K (K := K) rfl) (by rfl) T.len PySem.boot_len (pa_cons (pv 1) pa_nil)) pa_nil)) (blkOk_by (N := ["chain", "places", "rows", "k", "shares", "row", "other", "chance", "target", "at"]) (sc := defScope s_class_gain) (by decide +kernel)) (fun _ _ _ _ _ => (pg_name (i := 3) sc.nd rfl (by first | exact Or.inl rfl | exact Or.inr rfl))) (fun _ _ _ _ _ => pts_nil) (fun _ _ _ _ _ => (pe_call G_times_ (hr.mono (by decide)) rfl m_times_ k_times_ b_times_ .nil pass0 (pa_cons (pe_ix (ix_listK (K := K) rfl) (pv 4) (pv 3) (fun _ _ => rfl)) (pa_cons (pe_ix (ix_tupK (K := K) rfl) (pe_ix (ix_listK (K := K) rfl) (pv 0) (pe_ix (ix_listK (K := K) rfl) (pv 1) (pv 3) (fun _ _ => rfl)) (fun _ _ => rfl)) pe_int (fun _ _ => rfl)) pa_nil))))) pa_nil)))))))), sim_P (Γ := [some (.d x0), some (.d x1), none, none, none, none, none, none, none, none]) (z_seq (z_asgO (z_lst z_nil)) (z_seq (z_for (ws := [3, 5, 6, 7, 8, 9]) (i_list (z_ofN (z_sl z_var (z_part z_i) z_pnone))) g_name (z_seq (z_asgO (z_cat (z_ofN (z_lc (by decide) (i_list z_var) g_name z_yes (z_tup (z_cons (z_int1 (z_eqS z_var z_var)) (z_cons z_i z_nil))))) (z_ofN (z_lst (z_cons (z_tup (z_cons z_i (z_cons z_i z_nil))) z_nil))))) (z_seq (z_for (ws := [6, 7, 8, 9]) (i_list z_var) g_name (z_for (ws := [7, 8, 9]) (i_list (z_ixT (z_ixL z_var z_var) z_i)) (g_tup (g_cons g_name (g_cons g_name g_nil))) (z_ifS (z_test (z_eqS z_var z_var)) (z_seq (z_asg (z_index z_var z_var) g_name) (z_setX (z_call (z_cons (z_ixL z_var z_var) (z_cons (z_tup (z_cons (z_neg (z_ixT z_var z_i)) (z_cons (z_ixT z_var z_i) z_nil))) z_nil))) z_var)) z_next))) (z_tell (i := 5) (z_app z_var))))) (z_seq (z_app (z_ofN (z_cat (z_ofN (z_lc (by decide) (i_list z_var) g_name z_yes (z_tup (z_cons z_i (z_cons z_i z_nil))))) (z_ofN (z_lst (z_cons (z_tup (z_cons z_i (z_cons z_i z_nil))) z_nil)))))) (z_seq (z_asgXN (z_callN (z_cons z_var (z_cons (z_len z_var) z_nil)))) (z_ret (z_call (z_cons (z_ofN (z_lc (by decide) (i_rng1 (z_cons (z_len z_var) z_nil)) g_name z_yes (z_call (z_cons (z_ixL z_var z_var) (z_cons (z_ixT (z_ixL z_var (z_ixL z_var z_var)) z_i) z_nil))))) z_nil))))))) eb hA (by show 2 ≤ 10; decide) rfl ?_ kQ⟩
  obtain ⟨C, D, x, L, rfl, rfl, hS, hx, hr, hG, hP⟩ := hR
  clear hR
  have hW := hS.W
  have l5 := hS.l5
  have D0 := hS.D0
  have hlt := hG.lt
  have hnd := hG.nd
  obtain ⟨l, hl⟩ : ∃ l, l = x :: L := ⟨_, rfl⟩
  rw [← hl] at hlt hnd hr
  have hll : l.length ≤ C.length := nodup_len hnd hlt
  have l1 : 1 ≤ l.length := by rw [hl]; exact Nat.succ_le_succ (Nat.zero_le _)
  rw [← hl]
  have okD : ∀ {r : Rat} {B : Nat}, NB D B r → B ≤ 2 ^ 40 → Ok r := fun h hB => nb_ok h D0 (Nat.lt_of_le_of_lt hS.Db (Nat.pow_lt_pow_right (by decide) (by decide))) (Nat.le_trans hB (Nat.pow_le_pow_right (by decide) (by decide)))
  obtain ⟨GA, hGA⟩ : ∃ GA : List PyData → Option Sl → Option Sl → Option Sl → Gam, ∀ r s3 s5 s6, GA r s3 s5 s6 = [some (.d (chD C)), some (.d (natsD l)), some (.o r), s3, none, s5, s6, none, none, none] := ⟨_, fun _ _ _ _ => rfl⟩
  trivial
  refine ⟨by decide, by decide, ?_⟩
  refine dfor_rng (l.length - 1) (fun i => PyData.int ((l.getD (i + 1) 0 : Nat) : Int)) (fun P hP => ?_) (fun i Γ' => Γ' = GA (rowsL i (l.length + 1) (cgF C l)) none none none) (by rw [hGA] <;> rfl) ?_ ?_
  · trivial
    have e : cutD (l.map fun x : Nat => PyData.int (x : Int)) (some 1) none = (l.map fun x : Nat => PyData.int (x : Int)).drop 1 := cutD_drop (a := 1) (by rw [List.length_map]; exact l1)
    rw [e, nats_drop]
    exact hP
  · rintro i Γ' hi rfl
    have hi1 : i + 1 < l.length := by omega
    rw [hGA]
    trivial
    refine dlc_rng l.length (fun a => PyData.int ((l.getD a 0 : Nat) : Int)) (fun a => nQ (if l.getD a 0 = l.getD (i + 1) 0 then 1 else 0)) (fun P hP => ?_) (by omega) (fun a ha P hP => ?_) ?_
    · trivial
      rw [nats_rng]
      exact hP
    · trivial
      refine ⟨_, rfl, by decide, ?_⟩
      have e1 : decide (((l.getD a 0 : Nat) : Int) = ((l.getD (i + 1) 0 : Nat) : Int)) = decide (l.getD a 0 = l.getD (i + 1) 0) := decide_eq_decide.mpr (by omega)
      rw [e1]
      by_cases q : l.getD a 0 = l.getD (i + 1) 0
      · rw [if_pos (decide_eq_true q)]
        rw [if_pos q] at hP
        exact hP
      · rw [if_neg (by rw [decide_eq_true_iff]; exact q)]
        rw [if_neg q] at hP
        exact hP
    refine ⟨by decide, by decide, by rw [List.length_map, List.length_range]; omega, by decide, ?_⟩
    generalize hk : l.getD (i + 1) 0 = k
    have e0 : ((List.range l.length).map fun a => nQ (if l.getD a 0 = k then 1 else 0)) ++ [PyData.tuple [.int 0, .int 1]] = (List.range (l.length + 1)).map fun b => nQ (rsC C l k 0 0 b) := by
      rw [← nQ_zero, nums_snoc]
      refine nums_congr fun b _ => ?_
      rw [rsC_start]
    rw [e0]
    refine dfor_rng l.length (fun a => PyData.int ((l.getD a 0 : Nat) : Int)) (fun P hP => ?_) (fun a Γ' => Γ' = GA (rowsL i (l.length + 1) (cgF C l)) (some (.d (.int (k : Int)))) (some (.o ((List.range (l.length + 1)).map fun b => nQ (rsC C l k a 0 b)))) none) (by rw [hGA] <;> rfl) ?_ ?_
    · trivial
      rw [nats_rng]
      exact hP
    · rintro a Γ' ha rfl
      have hya := hlt _ (getD_mem ha)
      have hm := List.mem_of_getElem? (plC_get hya)
      rw [hGA]
      trivial
      refine dfor_inv (plC C (l.getD a 0)).bs brC (fun P hP => ?_) (fun t Γ' => Γ' = GA (rowsL i (l.length + 1) (cgF C l)) (some (.d (.int (k : Int)))) (some (.o ((List.range (l.length + 1)).map fun b => nQ (rsC C l k a t b)))) (some (.d (.int ((l.getD a 0 : Nat) : Int))))) (by rw [hGA] <;> rfl) ?_ ?_
      · trivial
        refine ⟨_, chD_at hya, ?_⟩
        trivial
        refine ⟨_, atI_two, ?_⟩
        trivial
        exact hP
      · rintro t q Γ' hq rfl
        have hqw := (hW.p _ hm).q q (List.mem_of_getElem? hq)
        rw [hGA]
        trivial
        refine ⟨rfl, rfl, _, rfl, ?_⟩
        have ec : decide (((q.2 : Nat) : Int) = ((k : Nat) : Int)) = decide (q.2 = k) := decide_eq_decide.mpr (by omega)
        rw [ec, hGA]
        have nx := fun b => rsC_step (k := k) (b := b) ha hq
        by_cases c : q.2 = k
        · rw [if_pos (decide_eq_true c)]
          refine ⟨sh_natL _, rfl, idx_nats hnd ha ?_⟩
          have en : PyData.tuple [.int (-q.1.1), .int q.1.2] = nQ (-qN q.1) := by
            have e := canon_red_self (red_small hqw.1)
            show nD (-q.1.1, q.1.2) = nD (-(qN q.1).num, ((qN q.1).den : Int))
            have e1 : q.1.1 = (qN q.1).num := congrArg (·.1) e
            have e2 : q.1.2 = ((qN q.1).den : Int) := congrArg (·.2) e
            rw [← e1, ← e2]
          refine ⟨_, listQ_at (show a < l.length + 1 by omega), _, atI_zero, ?_⟩
          trivial
          refine ⟨_, atI_one, by decide, ?_⟩
          rw [en]
          have r1 := hS.rs (k := k) (a := a) (t := t) (b := a) hlt
          have r2 := hS.rs (k := k) (a := a) (t := t + 1) (b := a) hlt
          rw [nx, if_pos c, if_pos rfl] at r2
          refine kPlusW_i (okD r1 (by decide)) (ok_neg (small_ok hqw.1)) (okD r2 (by decide)) ⟨nol_nQ _, a, ixN_nat (by rw [List.length_map, List.length_range]; omega), ?_⟩
          rw [nums_set, nums_congr (n := l.length + 1) (f := fun b => rsC C l k a (t + 1) b) fun b _ => by rw [nx, if_pos c]]
        · rw [if_neg (by rw [decide_eq_true_iff]; exact c)]
          rw [nums_congr (n := l.length + 1) (f := fun b => rsC C l k a (t + 1) b) fun b _ => by rw [nx, if_neg c]]
      · rintro Γ' rfl
        simp only [hGA]
        rw [nums_congr fun b _ => rsC_turn ha]
        rfl
    · rintro Γ' rfl
      simp only [hGA]
      trivial
      refine ⟨by rw [rowsL_len]; omega, ?_⟩
      rw [rowsL_snoc fun j _ => by rw [← hk, rsC_end hi1]]
  · rintro Γ' rfl
    rw [hGA]
    trivial
    refine dlc_rng l.length (fun a => PyData.int ((l.getD a 0 : Nat) : Int)) (fun a => nQ 1) (fun P hP => ?_) (by omega) (fun a ha P hP => ?_) ?_
    · trivial
      rw [nats_rng]
      exact hP
    · trivial
      exact ⟨by decide, hP⟩
    refine ⟨by decide, by decide, by rw [List.length_map, List.length_range]; omega, by rw [rowsL_len]; omega, ?_⟩
    have e1 : PyData.tuple [.int 1, .int 1] = nQ 1 := rfl
    have e2 : rowsL (l.length - 1) (l.length + 1) (cgF C l) ++ [.list ((List.range (l.length + 1)).map fun k => nQ (if k < l.length then 1 else 1))] = rowsL l.length (l.length + 1) (cgF C l) := by
      have := rowsL_snoc (n := l.length - 1) (m := l.length + 1) (f := cgF C l) (g := fun k => if k < l.length then 1 else 1) fun j _ => by
        unfold cgF
        rw [if_neg (by omega)]
        split <;> rfl
      rw [this, show l.length - 1 + 1 = l.length by omega]
    rw [e1, nums_snoc, e2, List.length_map]
    refine kLSol_i (gj_ok (by omega) (by omega) (by have := hS.Db; omega) (Nat.le_refl _) (by have := hS.Db; omega) (by decide) (by decide)) (fun i hi => hS.cgR hlt) (by rw [hl]; exact cg_triv hW hG) fun p hp => ?_
    refine ⟨nums_nol, ?_⟩
    have psol := cg_sol hW hx (by rw [← hl]; exact hr) hG (p := p) (by rw [← hl]; exact hp)
    rw [← hl] at psol
    have psz : ∀ a, a < l.length → ∃ Z, 0 < Z ∧ Z ≤ 4320 ^ 10 ∧ NB Z 1 (p a) := fun a ha => cg_size hW hx (by rw [← hl]; exact hr) hG (by rw [← hl]; omega) (p := p) (by rw [← hl]; exact hp) (a := a) (by rw [← hl]; exact ha)
    have hgn : ∀ a, a < l.length → ∃ M, 0 < M ∧ M ≤ 999 ∧ NB M 1000 (gainC C (l.getD a 0)) := fun a ha => by
      have hg := (hW.p _ (List.mem_of_getElem? (plC_get (hlt _ (getD_mem ha))))).g
      have hq := q_small hg
      exact ⟨(plC C (l.getD a 0)).g.2.natAbs, by have := hg.1; omega, by have := hg.2.1; have := hg.1; omega, zt_den (red_small hg) (Nat.dvd_refl _), hq.1, hq.2⟩
    refine dlc_rng l.length (fun a => PyData.int (a : Int)) (fun a => nQ (p a * gainC C (l.getD a 0))) (fun P hP => ?_) (by omega) (fun a ha P hP => ?_) ?_
    · trivial
      rw [List.length_map, Int.toNat_natCast, rangeD0]
      exact ⟨by omega, by omega, hP⟩
    · have hya := hlt _ (getD_mem ha)
      have hm := List.mem_of_getElem? (plC_get hya)
      trivial
      refine ⟨_, listQ_at ha, _, nats_at2 ha, ?_⟩
      trivial
      refine ⟨_, chD_at hya, ?_⟩
      trivial
      refine ⟨_, atI_zero, ?_⟩
      rw [nD_nQ (red_small (hW.p _ hm).g)]
      obtain ⟨Z, z0, z1, hz⟩ := psz a ha
      have hg := hgn a ha
      obtain ⟨Mg, g0, g1, hg⟩ := hg
      have hm9 := nb_mul hz hg
      exact kTimesW_i (nb_ok hz z0 (Nat.lt_of_le_of_lt z1 (by decide +kernel)) (Nat.one_le_two_pow)) (small_ok (hW.p _ hm).g) (nb_ok hm9 (Nat.mul_pos z0 g0) (Nat.lt_of_le_of_lt (Nat.mul_le_mul z1 g1) (by decide +kernel)) (by decide +kernel)) hP
    · have key : ∀ r ∈ (List.range l.length).map (fun a => p a * gainC C (l.getD a 0)), ∃ M, 0 < M ∧ M ≤ 4320 ^ 10 * 999 ∧ NB M 1000 r := fun r hr => by
        obtain ⟨a, ha, rfl⟩ := List.mem_map.mp hr
        have ha := List.mem_range.mp ha
        obtain ⟨Z, z0, z1, hz⟩ := psz a ha
        obtain ⟨Mg, g0, g1, hg⟩ := hgn a ha
        exact ⟨Z * Mg, Nat.mul_pos z0 g0, Nat.mul_le_mul z1 g1, by have := nb_mul hz hg; rwa [Nat.one_mul] at this⟩
      have ok := sums_ok key (n := 5) (by rw [List.length_map, List.length_range]; omega) (by decide) (by decide +kernel) (by decide +kernel) (by decide +kernel)
      have e : PyData.list ((List.range l.length).map fun a => nQ (p a * gainC C (l.getD a 0))) = ratsD ((List.range l.length).map fun a => p a * gainC C (l.getD a 0)) := by
        unfold ratsD
        rw [List.map_map]
        rfl
      rw [e]
      refine kTotW_i (by rw [List.length_map, List.length_range]; omega) ok (fun r hr => ?_) ?_
      · obtain ⟨M, m0, m1, hm⟩ := key r hr
        exact nb_ok hm m0 (Nat.lt_of_le_of_lt m1 (by decide +kernel)) (by decide +kernel)
      · rw [sum_rng, psol]
        exact hP
abbrev s_gains : Stmt := top 38
theorem sc_gains : FnScope ["chain", "reach", "found", "k", "live", "rows", "solved", "row", "chance", "target", "at", "other"] ["chain"] (defScope s_gains) := ⟨rfl, rfl, rfl, by decide +kernel, rfl, by decide +kernel, by decide +kernel⟩
theorem has_gains (D : IsDef K mg "_law_gains" s_gains ["chain"]) (T : Bt mg) (U_plus_ : Has P w K mg base (3) "_law_plus" ["a", "b"] (spP K (kPlusW))) (U_times_ : Has P w K mg base (3) "_law_times" ["a", "b"] (spP K (kTimesW))) (U_reached : Has P w K mg base (2) "_law_reached" ["game", "place"] (spN K (kLRe))) (U_class_gain : Has P w K mg base (5) "_law_class_gain" ["chain", "places"] (spP K (kLCg))) (U_solved_ : Has P w K mg base (4) "_law_solved" ["rows", "many"] (spN K (kLSol))) : Has P w K mg base (6) "_law_gains" ["chain"] (spN K (kLGn)) := by
  obtain ⟨f, fd, F, hm, hb⟩ := D
  obtain ⟨f_plus_, fd_plus_, G_plus_, m_plus_, k_plus_, b_plus_⟩ := U_plus_
  obtain ⟨f_times_, fd_times_, G_times_, m_times_, k_times_, b_times_⟩ := U_times_
  obtain ⟨f_reached, fd_reached, G_reached, m_reached, k_reached, b_reached⟩ := U_reached
  obtain ⟨f_class_gain, fd_class_gain, G_class_gain, m_class_gain, k_class_gain, b_class_gain⟩ := U_class_gain
  obtain ⟨f_solved_, fd_solved_, G_solved_, m_solved_, k_solved_, b_solved_⟩ := U_solved_
  have sc := sc_gains
  refine ⟨f, fd, F.ok sc (fun vs H Q E x => ?_) (fun cdv A outer s h0 vs Q E hr hs => ?_), hm, F.kp, hb⟩
  · obtain ⟨b, ds, P, _, hA, hR, _⟩ := x
    obtain ⟨_, rfl, _⟩ := conN1_is hR
    rw [hA.length]
    rfl
  obtain ⟨b, ds, Pq, eb, hA, hR, kQ⟩ := hs
  obtain ⟨x0, rfl, hR⟩ := conN1_is hR
  refine ⟨_, (pss_cons (ps_set (i := 1) sc.nd rfl (by first | exact Or.inl rfl | exact Or.inr rfl) (pe_lc (own := [("k", 3)]) (tt := tYes) rfl sc.nd (pi_range1 (by rfl) T.range (pa_cons (pe_callB (len_K (K := K) rfl) (by rfl) T.len PySem.boot_len (pa_cons (pv 0) pa_nil)) pa_nil)) (blkOk_by (N := ["chain", "reach", "found", "k", "live", "rows", "solved", "row", "chance", "target", "at", "other"]) (sc := defScope s_gains) (by decide +kernel)) (fun _ _ _ _ _ => (pg_name (i := 3) sc.nd rfl (by first | exact Or.inl rfl | exact Or.inr rfl))) (fun _ _ _ _ _ => pts_nil) (fun _ _ _ _ _ => (pe_call G_reached (hr.mono (by decide)) rfl m_reached k_reached b_reached .nil pass0 (pa_cons (pv 0) (pa_cons (pv 3) pa_nil)))))) (pss_cons (ps_set (i := 2) sc.nd rfl (by first | exact Or.inl rfl | exact Or.inr rfl) (pe_lst pa_nil)) (pss_cons (ps_for PassesOwn.never rfl (pi_range1 (by rfl) T.range (pa_cons (pe_callB (len_K (K := K) rfl) (by rfl) T.len PySem.boot_len (pa_cons (pv 0) pa_nil)) pa_nil)) (pg_name (i := 3) sc.nd rfl (by first | exact Or.inl rfl | exact Or.inr rfl)) (pss_one (ps_if (pt_val (pe_callB (all_K (K := K) rfl rfl) (by rfl) T.all (by decide +kernel) (pa_cons (pe_lc (own := [("other", 11)]) (tt := tYes) rfl sc.nd (pi_listK (K := K) rfl (pe_ix (ix_listK (K := K) rfl) (pv 1) (pv 3) (fun _ _ => rfl))) (blkOk_by (N := ["chain", "reach", "found", "k", "live", "rows", "solved", "row", "chance", "target", "at", "other"]) (sc := defScope s_gains) (by decide +kernel)) (fun _ _ _ _ _ => (pg_name (i := 11) sc.nd rfl (by first | exact Or.inl rfl | exact Or.inr rfl))) (fun _ _ _ _ _ => pts_nil) (fun _ _ _ _ _ => (pe_cmpR (inDK (K := K) (room65 hr) rfl) (pv 3) (pe_ix (ix_listK (K := K) rfl) (pv 1) (pv 11) (fun _ _ => rfl)) (by rfl)))) pa_nil))) (pss_one (ps_expr (pe_appK (K := K) rfl (pv 2) (pa_cons (pe_call G_class_gain (hr.mono (by decide)) rfl m_class_gain k_class_gain b_class_gain .nil pass0 (pa_cons (pv 0) (pa_cons (pe_ix (ix_listK (K := K) rfl) (pv 1) (pv 3) (fun _ _ => rfl)) pa_nil))) pa_nil)))) (pss_one (ps_expr (pe_appK (K := K) rfl (pv 2) (pa_cons pe_non pa_nil))))))) (pss_cons (ps_setLc (i := 4) (own := [("k", 3)]) (tt := _) rfl sc.nd rfl rfl (sw_true rfl rfl rfl (by decide +kernel)) (pi_range1 (by rfl) T.range (pa_cons (pe_callB (len_K (K := K) rfl) (by rfl) T.len PySem.boot_len (pa_cons (pv 0) pa_nil)) pa_nil)) (blkOk_by (N := ["chain", "reach", "found", "k", "live", "rows", "solved", "row", "chance", "target", "at", "other"]) (sc := defScope s_gains) (by decide +kernel)) (fun _ _ _ _ _ => (pg_name (i := 3) sc.nd rfl (by first | exact Or.inl rfl | exact Or.inr rfl))) (fun _ _ _ _ _ => (pts_one (pt_cmpR op_isN1 (pe_ix (ix_listK (K := K) rfl) (pv 2) (pv 3) (fun _ _ => rfl)) pe_non (nomark _)))) (fun _ _ _ _ _ => (pv 3))) (pss_cons (ps_set (i := 5) sc.nd rfl (by first | exact Or.inl rfl | exact Or.inr rfl) (pe_lst pa_nil)) (pss_cons (ps_for PassesOwn.never rfl (pi_listK (K := K) rfl (pv 4)) (pg_name (i := 3) sc.nd rfl (by first | exact Or.inl rfl | exact Or.inr rfl)) (pss_cons (ps_set (i := 7) sc.nd rfl (by first | exact Or.inl rfl | exact Or.inr rfl) (pe_op op_cat (pe_lc (own := [("other", 11)]) (tt := tYes) rfl sc.nd (pi_listK (K := K) rfl (pv 4)) (blkOk_by (N := ["chain", "reach", "found", "k", "live", "rows", "solved", "row", "chance", "target", "at", "other"]) (sc := defScope s_gains) (by decide +kernel)) (fun _ _ _ _ _ => (pg_name (i := 11) sc.nd rfl (by first | exact Or.inl rfl | exact Or.inr rfl))) (fun _ _ _ _ _ => pts_nil) (fun _ _ _ _ _ => (pe_tup (pa_cons (pe_callTy cr_int1 (by rfl) T.int (by decide +kernel) (pa_cons (pe_cmpR op_eq (pv 11) (pv 3) (nomark _)) pa_nil)) (pa_cons pe_int pa_nil))))) (pe_lst (pa_cons (pe_tup (pa_cons pe_int (pa_cons pe_int pa_nil))) pa_nil)))) (pss_cons (ps_for PassesOwn.never rfl (pi_listK (K := K) rfl (pe_ix (ix_tupK (K := K) rfl) (pe_ix (ix_listK (K := K) rfl) (pv 0) (pv 3) (fun _ _ => rfl)) pe_int (fun _ _ => rfl))) (pg_tupK (K := K) (n := 2) rfl rfl (pgs_cons (pg_name (i := 8) sc.nd rfl (by first | exact Or.inl rfl | exact Or.inr rfl)) (pgs_cons (pg_name (i := 9) sc.nd rfl (by first | exact Or.inl rfl | exact Or.inr rfl)) pgs_nil))) (pss_one (ps_if (pt_cmpR op_notN1 (pe_ix (ix_listK (K := K) rfl) (pv 2) (pv 9) (fun _ _ => rfl)) pe_non (nomark _)) (pss_one (ps_asg (pe_call G_plus_ (hr.mono (by decide)) rfl m_plus_ k_plus_ b_plus_ .nil pass0 (pa_cons (pe_ix (ix_listK (K := K) rfl) (pv 7) (pe_callB (len_K (K := K) rfl) (by rfl) T.len PySem.boot_len (pa_cons (pv 4) pa_nil)) (fun _ _ => rfl)) (pa_cons (pe_call G_times_ (hr.mono (by decide)) rfl m_times_ k_times_ b_times_ .nil pass0 (pa_cons (pv 8) (pa_cons (pe_ix (ix_listK (K := K) rfl) (pv 2) (pv 9) (fun _ _ => rfl)) pa_nil))) pa_nil))) (pg_sub (pv 7) (pe_callB (len_K (K := K) rfl) (by rfl) T.len PySem.boot_len (pa_cons (pv 4) pa_nil)) set_list))) (pss_cons (ps_set (i := 10) sc.nd rfl (by first | exact Or.inl rfl | exact Or.inr rfl) (pe_indexDK (K := K) (room65 hr) rfl (pv 4) (pa_cons (pv 9) pa_nil))) (pss_one (ps_asg (pe_call G_plus_ (hr.mono (by decide)) rfl m_plus_ k_plus_ b_plus_ .nil pass0 (pa_cons (pe_ix (ix_listK (K := K) rfl) (pv 7) (pv 10) (fun _ _ => rfl)) (pa_cons (pe_tup (pa_cons (pe_un un_neg (pe_ix (ix_tupK (K := K) rfl) (pv 8) pe_int (fun _ _ => rfl))) (pa_cons (pe_ix (ix_tupK (K := K) rfl) (pv 8) pe_int (fun _ _ => rfl)) pa_nil))) pa_nil))) (pg_sub (pv 7) (pv 10) set_list))))))) (pss_one (ps_expr (pe_appK (K := K) rfl (pv 5) (pa_cons (pv 7) pa_nil))))))) (pss_cons (ps_set (i := 6) sc.nd rfl (by first | exact Or.inl rfl | exact Or.inr rfl) (pe_call G_solved_ (hr.mono (by decide)) rfl m_solved_ k_solved_ b_solved_ .nil pass0 (pa_cons (pv 5) (pa_cons (pe_callB (len_K (K := K) rfl) (by rfl) T.len PySem.boot_len (pa_cons (pv 4) pa_nil)) pa_nil)))) (pss_cons (ps_for PassesOwn.never rfl (pi_range1 (by rfl) T.range (pa_cons (pe_callB (len_K (K := K) rfl) (by rfl) T.len PySem.boot_len (pa_cons (pv 4) pa_nil)) pa_nil)) (pg_name (i := 3) sc.nd rfl (by first | exact Or.inl rfl | exact Or.inr rfl)) (pss_one (ps_asg (pe_ix (ix_listK (K := K) rfl) (pv 6) (pv 3) (fun _ _ => rfl)) (pg_sub (pv 2) (pe_ix (ix_listK (K := K) rfl) (pv 4) (pv 3) (fun _ _ => rfl)) set_list)))) (pss_one (ps_ret (pv 2))))))))))), sim_N (Γ := [some (.d x0), none, none, none, none, none, none, none, none, none, none, none]) (z_seq (z_asg (z_ofN (z_lc (by decide) (i_rng1 (z_cons (z_len z_var) z_nil)) g_name z_yes (z_ofN (z_callN (z_cons z_var (z_cons z_var z_nil)))))) g_name) (z_seq (z_asgO (z_lst z_nil)) (z_seq (z_for (ws := [3, 11]) (i_rng1 (z_cons (z_len z_var) z_nil)) g_name (z_ifS (z_tB (z_all (z_ofN (z_lc (by decide) (i_list (z_ixL z_var z_var)) g_name z_yes (z_inD z_var (z_ixL z_var z_var)))))) (z_app (z_call (z_cons z_var (z_cons (z_ixL z_var z_var) z_nil)))) (z_app z_n))) (z_seq (z_asgXN (z_lc (by decide) (i_rng1 (z_cons (z_len z_var) z_nil)) g_name (z_test (z_isN (z_ixL z_var z_var))) z_var)) (z_seq (z_asgO (z_lst z_nil)) (z_seq (z_for (ws := [3, 7, 8, 9, 10, 11]) (i_list z_var) g_name (z_seq (z_asgO (z_cat (z_ofN (z_lc (by decide) (i_list z_var) g_name z_yes (z_tup (z_cons (z_int1 (z_eqS z_var z_var)) (z_cons z_i z_nil))))) (z_ofN (z_lst (z_cons (z_tup (z_cons z_i (z_cons z_i z_nil))) z_nil))))) (z_seq (z_for (ws := [8, 9, 10]) (i_list (z_ixT (z_ixL z_var z_var) z_i)) (g_tup (g_cons g_name (g_cons g_name g_nil))) (z_ifS (z_test (z_notN (z_ixL z_var z_var))) (z_setX (z_call (z_cons (z_ixL z_var (z_len z_var)) (z_cons (z_call (z_cons z_var (z_cons (z_ixL z_var z_var) z_nil))) z_nil))) (z_len z_var)) (z_seq (z_asg (z_index z_var z_var) g_name) (z_setX (z_call (z_cons (z_ixL z_var z_var) (z_cons (z_tup (z_cons (z_neg (z_ixT z_var z_i)) (z_cons (z_ixT z_var z_i) z_nil))) z_nil))) z_var)))) (z_tell (i := 7) (z_app z_var))))) (z_seq (z_asgXN (z_callN (z_cons z_var (z_cons (z_len z_var) z_nil)))) (z_seq (z_for (ws := [3]) (i_rng1 (z_cons (z_len z_var) z_nil)) g_name (z_set (z_ixL z_var z_var) (z_ixL z_var z_var))) z_retO)))))))) eb hA (by show 1 ≤ 12; decide) rfl ?_ kQ⟩
  obtain ⟨C, D, rfl, hS, hP⟩ := hR
  clear hR
  have hW := hS.W
  have l5 := hS.l5
  have D0 := hS.D0
  have h12 := hW.l12
  obtain ⟨E1, E0, E2, hE⟩ := hS.long
  have okD : ∀ {r : Rat} {B : Nat}, NB D B r → B ≤ 2 ^ 40 → Ok r := fun h hB => nb_ok h D0 (Nat.lt_of_le_of_lt hS.Db (Nat.pow_lt_pow_right (by decide) (by decide))) (Nat.le_trans hB (Nat.pow_le_pow_right (by decide) (by decide)))
  have okE : ∀ {r : Rat} {B : Nat}, NB (E1 * D) B r → B ≤ 2 ^ 40 → Ok r := fun h hB => nb_ok h (Nat.mul_pos E0 D0) (Nat.lt_of_le_of_lt (Nat.mul_le_mul E2 hS.Db) (by rw [← Nat.pow_add]; exact Nat.pow_lt_pow_right (by decide) (by decide))) (Nat.le_trans hB (Nat.pow_le_pow_right (by decide) (by decide)))
  obtain ⟨RD, hRD⟩ : ∃ RD, RD = PyData.list ((List.range C.length).map fun k => natsD (reachL C k)) := ⟨_, rfl⟩
  obtain ⟨GA, hGA⟩ : ∃ GA : List PyData → Gam, ∀ f, GA f = [some (.d (chD C)), some (.d RD), some (.o f), none, none, none, none, none, none, none, none, none] := ⟨_, fun _ => rfl⟩
  obtain ⟨GB, hGB⟩ : ∃ GB : List PyData → Option Sl → Option Sl → Gam, ∀ r s3 s7, GB r s3 s7 = [some (.d (chD C)), some (.d RD), some (.o ((List.range C.length).map (foC C))), s3, some (.d (natsD (passL C))), some (.o r), none, s7, none, none, none, none] := ⟨_, fun _ _ _ => rfl⟩
  have hpl := pass_lt (C := C)
  have hpn := pass_nodup (C := C)
  have hps : (passL C).length ≤ C.length := nodup_len hpn hpl
  trivial
  refine dlc_rng C.length (fun k => PyData.int (k : Int)) (fun k => natsD (reachL C k)) (fun P hP => ?_) (by omega) (fun k hk P hP => ?_) ?_
  · trivial
    rw [List.length_map, Int.toNat_natCast, rangeD0]
    exact ⟨by omega, by omega, hP⟩
  · trivial
    rw [← ofC_D]
    refine kLRe_i (ofC_wf hW) (by rw [List.length_map]; exact hk) ?_
    rw [rcL_toV hW hk]
    exact hP
  rw [← hRD]
  refine ⟨by decide, by decide, ?_⟩
  refine dfor_rng C.length (fun k => PyData.int (k : Int)) (fun P hP => ?_) (fun k Γ' => Γ' = GA ((List.range k).map (foC C))) (by rw [hGA] <;> rfl) ?_ ?_
  · trivial
    rw [List.length_map, Int.toNat_natCast, rangeD0]
    exact ⟨by omega, by omega, hP⟩
  · rintro k Γ' hk rfl
    simp only [hGA]
    trivial
    have lk : ((List.range k).map (foC C)).length < 100000 := by rw [List.length_map, List.length_range]; omega
    refine dlc_map (reachL C k) (fun y : Nat => PyData.int (y : Int)) (fun y => .bool (decide (k ∈ reachL C y))) (fun P hP => ?_) (by have := nodup_len (reach_nodup C k) (fun y hy => reach_lt hy); omega) (fun y hy P hP => ?_) ?_
    · simp only [hRD]
      trivial
      refine ⟨_, rngx_at hk, ?_⟩
      trivial
      exact hP
    · have hy9 := reach_lt hy
      simp only [hRD]
      trivial
      refine ⟨_, rngx_at hy9, ?_⟩
      trivial
      refine ⟨rfl, sh_natL _, ?_⟩
      rw [any_natL]
      exact hP
    refine ⟨(reachL C k).map fun y => decide (k ∈ reachL C y), by rw [List.map_map]; rfl, ?_⟩
    have ea : ((reachL C k).map fun y => decide (k ∈ reachL C y)).all id = decide (k ∉ passL C) := by
      rw [Bool.eq_iff_iff, decide_eq_true_iff, List.all_map, List.all_eq_true, not_group hW hk, Classical.not_not]
      exact forall_congr' fun y => forall_congr' fun _ => decide_eq_true_iff
    rw [ea]
    have es : ∀ x, foC C k = x → (List.range k).map (foC C) ++ [x] = (List.range (k + 1)).map (foC C) := fun x e => by
      rw [List.range_succ, List.map_append, ← e]
      rfl
    by_cases c : k ∈ passL C
    · rw [if_neg (by rw [decide_eq_true_iff]; exact fun h => h c), es _ (if_pos c)]
      exact ⟨lk, rfl⟩
    · rw [if_pos (decide_eq_true c)]
      simp only [hRD]
      refine ⟨_, rngx_at hk, ?_⟩
      obtain ⟨x, L, hx, hr, hG, hrk, hkm⟩ := in_group hW hk (Classical.byContradiction fun h => c ((not_group hW hk).mpr h))
      rw [hrk]
      refine kLCg_i hS hx hr hG ⟨lk, ?_⟩
      rw [es _ (by unfold foC; rw [if_neg c, (long_head hW hx hr).2 k hkm])]
  · rintro Γ' rfl
    simp only [hGA]
    trivial
    refine dlc_fil (List.range C.length) (fun k : Nat => PyData.int (k : Int)) (fun k => decide (k ∈ passL C)) (fun k : Nat => PyData.int (k : Int)) (fun P hP => ?_) (by rw [List.length_range]; omega) (fun k hk P hP => ?_) ?_
    · trivial
      rw [List.length_map, Int.toNat_natCast, rangeD0]
      exact ⟨by omega, by omega, hP⟩
    · trivial
      refine ⟨_, rngx_at (List.mem_range.mp hk), ?_⟩
      rw [foC_no]
      by_cases c : k ∈ passL C
      · rw [if_pos (decide_eq_true c)]
        rw [if_pos (decide_eq_true c)] at hP
        exact hP
      · rw [if_neg (by rw [decide_eq_true_iff]; exact c)]
        rw [if_neg (by rw [decide_eq_true_iff]; exact c)] at hP
        exact hP
    rw [pass_filter]
    refine ⟨nolA_all fun d hd => ?_, by decide, by decide, ?_⟩
    · obtain ⟨k, _, rfl⟩ := List.mem_map.mp hd
      rfl
    refine dfor_rng (passL C).length (fun i => PyData.int (((passL C).getD i 0 : Nat) : Int)) (fun P hP => ?_) (fun i Γ' => Γ' = GB (rowsL i ((passL C).length + 1) (lvF C (longC C) (passL C))) none none) (by rw [hGB] <;> rfl) ?_ ?_
    · trivial
      rw [nats_rng]
      exact hP
    · rintro i Γ' hi rfl
      simp only [hGB]
      trivial
      have hki := hpl _ (getD_mem hi)
      have hm := List.mem_of_getElem? (plC_get hki)
      refine dlc_rng (passL C).length (fun a => PyData.int (((passL C).getD a 0 : Nat) : Int)) (fun a => nQ (if (passL C).getD a 0 = (passL C).getD i 0 then 1 else 0)) (fun P hP => ?_) (by omega) (fun a ha P hP => ?_) ?_
      · trivial
        rw [nats_rng]
        exact hP
      · trivial
        refine ⟨_, rfl, by decide, ?_⟩
        have e1 : decide ((((passL C).getD a 0 : Nat) : Int) = (((passL C).getD i 0 : Nat) : Int)) = decide ((passL C).getD a 0 = (passL C).getD i 0) := decide_eq_decide.mpr (by omega)
        rw [e1]
        by_cases q : (passL C).getD a 0 = (passL C).getD i 0
        · rw [if_pos (decide_eq_true q)]
          rw [if_pos q] at hP
          exact hP
        · rw [if_neg (by rw [decide_eq_true_iff]; exact q)]
          rw [if_neg q] at hP
          exact hP
      refine ⟨by decide, by decide, by rw [List.length_map, List.length_range]; omega, by decide, ?_⟩
      generalize hk : (passL C).getD i 0 = k at hki hm ⊢
      have e0 : ((List.range (passL C).length).map fun a => nQ (if (passL C).getD a 0 = k then 1 else 0)) ++ [PyData.tuple [.int 0, .int 1]] = (List.range ((passL C).length + 1)).map fun b => nQ (lwC C (longC C) (passL C) k 0 b) := by
        rw [← nQ_zero, nums_snoc]
        refine nums_congr fun b _ => ?_
        rw [lwC_start]
      rw [e0]
      refine dfor_inv (plC C k).bs brC (fun P hP => ?_) (fun t Γ' => Γ' = GB (rowsL i ((passL C).length + 1) (lvF C (longC C) (passL C))) (some (.d (.int (k : Int)))) (some (.o ((List.range ((passL C).length + 1)).map fun b => nQ (lwC C (longC C) (passL C) k t b))))) (by rw [hGB] <;> rfl) ?_ ?_
      · trivial
        refine ⟨_, chD_at hki, ?_⟩
        trivial
        refine ⟨_, atI_two, ?_⟩
        trivial
        exact hP
      · rintro t q Γ' hq rfl
        have hqw := (hW.p _ hm).q q (List.mem_of_getElem? hq)
        have hqt := hqw.2.2
        have okc := small_ok hqw.1
        simp only [hGB]
        trivial
        refine ⟨rfl, rfl, _, rngx_at hqt, ?_⟩
        rw [foC_no]
        by_cases c : q.2 ∈ passL C
        · rw [if_neg (by rw [decide_eq_true c]; decide)]
          refine ⟨sh_natL _, rfl, idx_mem hpn c fun a ha e => ?_⟩
          have nx := fun b => lwC_in (C := C) (g := longC C) (b := b) (k := k) hpn ha hq e
          have en : PyData.tuple [.int (-q.1.1), .int q.1.2] = nQ (-qN q.1) := by
            have e := canon_red_self (red_small hqw.1)
            show nD (-q.1.1, q.1.2) = nD (-(qN q.1).num, ((qN q.1).den : Int))
            have e1 : q.1.1 = (qN q.1).num := congrArg (·.1) e
            have e2 : q.1.2 = ((qN q.1).den : Int) := congrArg (·.2) e
            rw [← e1, ← e2]
          refine ⟨_, listQ_at (show a < (passL C).length + 1 by omega), _, atI_zero, ?_⟩
          trivial
          refine ⟨_, atI_one, by decide, ?_⟩
          rw [en]
          have r1 := hS.lsA (g := longC C) (t := t) (l := passL C) hki ha
          have r2 := hS.lsA (g := longC C) (t := t + 1) (l := passL C) hki ha
          rw [nx, if_pos rfl] at r2
          refine kPlusW_i (okD r1 (by decide)) (ok_neg okc) (okD r2 (by decide)) ⟨nol_nQ _, a, ixN_nat (by rw [List.length_map, List.length_range]; omega), ?_⟩
          rw [nums_set, nums_congr (n := (passL C).length + 1) (f := fun b => lwC C (longC C) (passL C) k (t + 1) b) fun b _ => nx b]
        · rw [if_pos (by rw [decide_eq_false c]; rfl)]
          have ef : foC C q.2 = nQ (longC C q.2) := if_neg c
          have nx := fun b hb => lwC_out (C := C) (g := longC C) (b := b) (k := k) hq c hb
          rw [List.length_map]
          refine ⟨_, listQ_at (Nat.lt_succ_self _), _, rngx_at hqt, ?_⟩
          rw [ef, nD_nQ (red_small hqw.1)]
          have g1 := q_small hqw.1
          have g2 : NB D 1000 (qN q.1) := ⟨zt_den (red_small hqw.1) (hS.dv _ hm q (List.mem_of_getElem? hq)), g1.1, g1.2⟩
          have g3 := nb_mul (hE _ hqt) g2
          have r1 := hS.lsB (g := longC C) (t := t) (l := passL C) hki hE
          have r2 := hS.lsB (g := longC C) (t := t + 1) (l := passL C) hki hE
          rw [nx _ (Nat.lt_succ_self _), if_pos rfl] at r2
          have okl : Ok (longC C q.2) := nb_ok (hE _ hqt) E0 (Nat.lt_of_le_of_lt E2 (Nat.pow_lt_pow_right (by decide) (by decide))) (by decide +kernel)
          have g4 : Ok (qN q.1 * longC C q.2) := by
            rw [Rat.mul_comm]
            exact okE g3 (by decide)
          refine kTimesW_i okc okl g4 ?_
          refine kPlusW_i (okE r1 (by decide)) g4 (okE r2 (by decide)) ⟨nol_nQ _, (passL C).length, ixN_nat (by rw [List.length_map, List.length_range]; omega), ?_⟩
          rw [nums_set, nums_congr (n := (passL C).length + 1) (f := fun b => lwC C (longC C) (passL C) k (t + 1) b) fun b hb => nx b hb]
      · rintro Γ' rfl
        simp only [hGB]
        trivial
        refine ⟨by rw [rowsL_len]; omega, ?_⟩
        rw [rowsL_snoc fun j _ => by rw [← hk, lwC_end]]
    · rintro Γ' rfl
      simp only [hGB]
      trivial
      rw [List.length_map]
      have Db := hS.Db
      refine kLSol_i (gj_ok (by omega) (by omega) (by omega) (by omega) (by omega) E0 E2) (fun i hi => (hS.lvR hpl hE hi).up (Nat.le_refl _) (Nat.le_refl _)) (lv_triv hW) fun p hp => ?_
      have ps := lv_sol hW hp
      rw [nums_congr ps]
      refine ⟨nums_nol, ?_⟩
      obtain ⟨GC, hGC⟩ : ∃ GC : List PyData → Gam, ∀ f, GC f = [some (.d (chD C)), some (.d RD), some (.o f), none, some (.d (natsD (passL C))), some (.o (rowsL (passL C).length ((passL C).length + 1) (lvF C (longC C) (passL C)))), some (.d (.list ((List.range (passL C).length).map fun k => nQ (longC C ((passL C).getD k 0))))), none, none, none, none, none] := ⟨_, fun _ => rfl⟩
      refine dfor_rng (passL C).length (fun k => PyData.int (k : Int)) (fun P hP => ?_) (fun k Γ' => Γ' = GC ((List.range C.length).map (fkC C k))) (by rw [hGC, rng_congr fun j _ => fkC_start] <;> rfl) ?_ ?_
      · trivial
        rw [List.length_map, Int.toNat_natCast, rangeD0]
        exact ⟨by omega, by omega, hP⟩
      · rintro k Γ' hk rfl
        simp only [hGC]
        trivial
        refine ⟨_, listQ_at hk, _, nats_at2 hk, ?_⟩
        refine ⟨(passL C).getD k 0, ixN_nat (by rw [List.length_map, List.length_range]; exact hpl _ (getD_mem hk)), ?_⟩
        rw [rng_set, rng_congr (f := fkC C (k + 1)) fun j _ => fkC_step hk]
      · rintro Γ' rfl
        simp only [hGC]
        trivial
        rw [rng_congr fun j _ => fkC_end]
        exact hP

abbrev s_worse : Stmt := top 41
theorem sc_worse : FnScope ["rows", "smaller", "best", "row", "a", "b"] ["rows", "smaller"] (defScope s_worse) := ⟨rfl, rfl, rfl, by decide +kernel, rfl, by decide +kernel, by decide +kernel⟩
theorem has_worse (D : IsDef K mg "_law_worse" s_worse ["rows", "smaller"]) (T : Bt mg) (U_less : Has P w K mg base (1) "_law_less" ["a", "b"] (spP K (kLessW))) : Has P w K mg base (2) "_law_worse" ["rows", "smaller"] (spP K (kLwr)) := by
  obtain ⟨f, fd, F, hm, hb⟩ := D
  obtain ⟨f_less, fd_less, G_less, m_less, k_less, b_less⟩ := U_less
  have sc := sc_worse
  refine ⟨f, fd, F.ok sc (fun vs H Q E x => ?_) (fun cdv A outer s h0 vs Q E hr hs => ?_), hm, F.kp, hb⟩
  · obtain ⟨b, ds, P, _, hA, hR, _⟩ := x
    obtain ⟨_, _, rfl, _⟩ := con2_is hR
    rw [hA.length]
    rfl
  obtain ⟨b, ds, Pq, eb, hA, hR, kQ⟩ := hs
  obtain ⟨x0, x1, rfl, hR⟩ := con2_is hR
  refine ⟨_, (pss_cons (ps_set (i := 2) sc.nd rfl (by first | exact Or.inl rfl | exact Or.inr rfl) (pe_ix (ix_listK (K := K) rfl) (pv 0) pe_int (fun _ _ => rfl))) (pss_cons (ps_for PassesOwn.never rfl (pi_listK (K := K) rfl (pe_slice (sl_listK (K := K) rfl) (pv 0) (po_some pe_int) po_none)) (pg_name (i := 3) sc.nd rfl (by first | exact Or.inl rfl | exact Or.inr rfl)) (pss_one (ps_setLc (i := 2) (own := [("a", 4), ("b", 5)]) (tt := tYes) rfl sc.nd rfl rfl (sw_true rfl rfl rfl (by decide +kernel)) (pi_zipK (K := K) rfl (by rfl) T.zip (pa_cons (pv 2) (pa_cons (pv 3) pa_nil))) (blkOk_by (N := ["rows", "smaller", "best", "row", "a", "b"]) (sc := defScope s_worse) (by decide +kernel)) (fun _ _ _ _ _ => (pg_tupK (K := K) (n := 2) rfl rfl (pgs_cons (pg_name (i := 4) sc.nd rfl (by first | exact Or.inl rfl | exact Or.inr rfl)) (pgs_cons (pg_name (i := 5) sc.nd rfl (by first | exact Or.inl rfl | exact Or.inr rfl)) pgs_nil)))) (fun _ _ _ _ _ => pts_nil) (fun _ _ _ _ _ => (pe_ix (ix_listK (K := K) rfl) (pe_lst (pa_cons (pv 4) (pa_cons (pv 5) pa_nil))) (pe_callTy cr_int1 (by rfl) T.int (by decide +kernel) (pa_cons (pe_and (pe_cmpR op_eq (pe_call G_less (hr.mono (by decide)) rfl m_less k_less b_less .nil pass0 (pa_cons (pv 5) (pa_cons (pv 4) pa_nil))) (pv 1) (nomark _)) (pe_one (pe_cmpR (neD_K (K := K) hr.units rfl) (pv 4) (pv 5) (nomark _)))) pa_nil)) (fun _ _ => rfl)))))) (pss_one (ps_ret (pv 2))))), sim_P (Γ := [some (.d x0), some (.d x1), none, none, none, none]) (z_seq (z_asg (z_ixL z_var z_i) g_name) (z_seq (z_for (ws := [3, 4, 5]) (i_list (z_ofN (z_sl z_var (z_part z_i) z_pnone))) g_name (z_asg (z_ofN (z_lc (by decide) (i_zip (z_cons z_var (z_cons z_var z_nil))) (g_tup (g_cons g_name (g_cons g_name g_nil))) z_yes (z_ixL (z_ofN (z_lst (z_cons z_var (z_cons z_var z_nil)))) (z_int1 (z_andV (z_eqS (z_call (z_cons z_var (z_cons z_var z_nil))) z_var) (z_neD z_var z_var)))))) g_name)) (z_ret z_var))) eb hA (by show 2 ≤ 6; decide) rfl ?_ kQ⟩
  obtain ⟨n, s, f, L, rfl, rfl, hn, hL, hok, hP⟩ := hR
  clear hR
  obtain ⟨GA, hGA⟩ : ∃ GA : (Nat → Rat) → Gam, ∀ e, GA e = [some (.d (.list ((f :: L).map (listQ n)))), some (.d (.bool s)), some (.d (listQ n e)), none, none, none] := ⟨_, fun _ => rfl⟩
  trivial
  refine ⟨_, atI_zero, ?_⟩
  refine dfor_inv L (listQ n) (fun P hP => ?_) (fun i Γ' => Γ' = GA fun k => tkQ (!s) (((f :: L).take (i + 1)).map fun e => e k)) (by rw [hGA, listQ_congr (f := fun k => tkQ (!s) (((f :: L).take (0 + 1)).map fun e => e k)) (g := f) fun k _ => tk_one] <;> rfl) ?_ ?_
  · trivial
    have e : cutD (List.map (listQ n) (f :: L)) (some 1) none = (List.map (listQ n) (f :: L)).drop 1 := cutD_drop (a := 1) (by rw [List.length_map, List.length_cons]; omega)
    rw [e]
    exact hP
  · rintro i e Γ' he rfl
    have hi := (List.getElem?_eq_some_iff.mp he).1
    have hem := List.mem_of_getElem? he
    have et : (f :: L).take (i + 1 + 1) = (f :: L).take (i + 1) ++ [e] := by
      rw [List.take_add_one (i := i + 1), List.getElem?_cons_succ, he]
      rfl
    simp only [hGA]
    trivial
    refine dlc_rng n (fun k => .tuple [nQ (tkQ (!s) (((f :: L).take (i + 1)).map fun e => e k)), nQ (e k)]) (fun k => nQ (tkQ (!s) (((f :: L).take (i + 1 + 1)).map fun e => e k))) (fun P hP => ?_) (by omega) (fun k hk P hP => ?_) ?_
    · trivial
      rw [zipD_map, zip_rr, List.map_map]
      exact hP
    · obtain ⟨l, hl⟩ : ∃ l : List Rat, l = ((f :: L).take (i + 1)).map fun e => e k := ⟨_, rfl⟩
      have hl0 : 0 < l.length := by
        rw [hl, List.length_map, List.length_take, List.length_cons]
        omega
      have hmm := tk_mem (o := !s) hl0
      have okm : Ok (tkQ (!s) l) := by
        have hm2 := hmm
        rw [hl] at hm2
        obtain ⟨e', he', e2⟩ := List.mem_map.mp hm2
        rw [hl, ← e2]
        exact hok e' (List.mem_of_mem_take he') k hk
      have oke := hok e (List.mem_cons_of_mem _ hem) k hk
      rw [et, List.map_append] at hP
      rw [← hl] at hP ⊢
      have hP : P (nQ (tkQ (!s) (l ++ [e k]))) := hP
      trivial
      refine ⟨rfl, rfl, by decide, kLessW_i oke okm ⟨_, rfl, ?_⟩⟩
      rw [eqv_nQ]
      have key : tkQ (!s) (l ++ [e k]) = if decide (decide (e k < tkQ (!s) l) = s) = true ∧ tkQ (!s) l ≠ e k then e k else tkQ (!s) l := by
        cases s with
        | true =>
          show tkQ false _ = _
          rw [tk_snocF hl0]
          show _ = if decide (decide (e k < tkQ false l) = true) = true ∧ tkQ false l ≠ e k then e k else tkQ false l
          generalize tkQ false l = m
          by_cases q : e k < m
          · rw [if_pos q, if_pos ⟨decide_eq_true (decide_eq_true q), by grind⟩]
          · rw [if_neg q, if_neg fun h => q (of_decide_eq_true (of_decide_eq_true h.1))]
        | false =>
          show tkQ true _ = _
          rw [tk_snocT hl0]
          show _ = if decide (decide (e k < tkQ true l) = false) = true ∧ tkQ true l ≠ e k then e k else tkQ true l
          generalize tkQ true l = m
          by_cases q : m < e k
          · rw [if_pos q, if_pos ⟨decide_eq_true (decide_eq_false (by grind)), by grind⟩]
          · rw [if_neg q]
            by_cases z : m = e k
            · rw [if_neg fun h => h.2 z]
            · rw [if_neg fun h => of_decide_eq_false (of_decide_eq_true h.1) (by grind)]
      rw [key] at hP
      generalize tkQ (!s) l = m at hP okm hmm ⊢
      have p0 : L2.atI [nQ m, nQ (e k)] 0 = some (nQ m) := atI_zero
      have p1 : L2.atI [nQ m, nQ (e k)] 1 = some (nQ (e k)) := atI_one
      by_cases q : decide (decide (e k < m) = s) = true
      · rw [if_pos q]
        refine ⟨rfl, rfl, ?_⟩
        by_cases z : m = e k
        · rw [if_neg (fun h => h.2 z)] at hP
          rw [if_neg (by rw [decide_eq_true z]; decide)]
          exact ⟨_, p0, hP⟩
        · rw [if_pos ⟨q, z⟩] at hP
          rw [if_pos (by rw [decide_eq_false z]; rfl)]
          exact ⟨_, p1, hP⟩
      · rw [if_neg (fun h => q h.1)] at hP
        rw [if_neg q, if_neg (by decide)]
        exact ⟨_, p0, hP⟩
    · rfl
  · rintro Γ' rfl
    simp only [hGA]
    trivial
    rw [List.take_of_length_le (by rw [List.length_cons]; omega)]
    exact hP
abbrev s_values_ : Stmt := top 42
theorem sc_values_ : FnScope ["game", "secured", "ours", "put", "rows", "theirs"] ["game"] (defScope s_values_) := ⟨rfl, rfl, rfl, by decide +kernel, rfl, by decide +kernel, by decide +kernel⟩
theorem has_values_ (D : IsDef K mg "_law_values" s_values_ ["game"]) (T : Bt mg) (U_all : Has P w K mg base (1) "_law_all" ["game", "side"] (spP K (kAll))) (U_put : Has P w K mg base (1) "_law_put" ["game", "side", "strategy"] (spN K (kWst))) (U_gains : Has P w K mg base (6) "_law_gains" ["chain"] (spN K (kLGn))) (U_worse : Has P w K mg base (2) "_law_worse" ["rows", "smaller"] (spP K (kLwr))) : Has P w K mg base (7) "_law_values" ["game"] (spP K (kLVa)) := by
  obtain ⟨f, fd, F, hm, hb⟩ := D
  obtain ⟨f_all, fd_all, G_all, m_all, k_all, b_all⟩ := U_all
  obtain ⟨f_put, fd_put, G_put, m_put, k_put, b_put⟩ := U_put
  obtain ⟨f_gains, fd_gains, G_gains, m_gains, k_gains, b_gains⟩ := U_gains
  obtain ⟨f_worse, fd_worse, G_worse, m_worse, k_worse, b_worse⟩ := U_worse
  have sc := sc_values_
  refine ⟨f, fd, F.ok sc (fun vs H Q E x => ?_) (fun cdv A outer s h0 vs Q E hr hs => ?_), hm, F.kp, hb⟩
  · obtain ⟨b, ds, P, _, hA, hR, _⟩ := x
    obtain ⟨_, rfl, _⟩ := con1_is hR
    rw [hA.length]
    rfl
  obtain ⟨b, ds, Pq, eb, hA, hR, kQ⟩ := hs
  obtain ⟨x0, rfl, hR⟩ := con1_is hR
  refine ⟨_, (pss_cons (ps_set (i := 1) sc.nd rfl (by first | exact Or.inl rfl | exact Or.inr rfl) (pe_lst pa_nil)) (pss_cons (ps_for PassesOwn.never rfl (pi_listK (K := K) rfl (pe_call G_all (hr.mono (by decide)) rfl m_all k_all b_all .nil pass0 (pa_cons (pv 0) (pa_cons pe_str pa_nil)))) (pg_name (i := 2) sc.nd rfl (by first | exact Or.inl rfl | exact Or.inr rfl)) (pss_cons (ps_set (i := 3) sc.nd rfl (by first | exact Or.inl rfl | exact Or.inr rfl) (pe_call G_put (hr.mono (by decide)) rfl m_put k_put b_put .nil pass0 (pa_cons (pv 0) (pa_cons pe_str (pa_cons (pv 2) pa_nil))))) (pss_cons (ps_setLc (i := 4) (own := [("theirs", 5)]) (tt := tYes) rfl sc.nd rfl rfl (sw_true rfl rfl rfl (by decide +kernel)) (pi_listK (K := K) rfl (pe_call G_all (hr.mono (by decide)) rfl m_all k_all b_all .nil pass0 (pa_cons (pv 3) (pa_cons pe_str pa_nil)))) (blkOk_by (N := ["game", "secured", "ours", "put", "rows", "theirs"]) (sc := defScope s_values_) (by decide +kernel)) (fun _ _ _ _ _ => (pg_name (i := 5) sc.nd rfl (by first | exact Or.inl rfl | exact Or.inr rfl))) (fun _ _ _ _ _ => pts_nil) (fun _ _ _ _ _ => (pe_call G_gains (hr.mono (by decide)) rfl m_gains k_gains b_gains .nil pass0 (pa_cons (pe_call G_put (hr.mono (by decide)) rfl m_put k_put b_put .nil pass0 (pa_cons (pv 3) (pa_cons pe_str (pa_cons (pv 5) pa_nil)))) pa_nil)))) (pss_one (ps_expr (pe_appK (K := K) rfl (pv 1) (pa_cons (pe_call G_worse (hr.mono (by decide)) rfl m_worse k_worse b_worse .nil pass0 (pa_cons (pv 4) (pa_cons pe_bl pa_nil))) pa_nil))))))) (pss_one (ps_ret (pe_call G_worse (hr.mono (by decide)) rfl m_worse k_worse b_worse .nil pass0 (pa_cons (pv 1) (pa_cons pe_bl pa_nil))))))), sim_P (Γ := [some (.d x0), none, none, none, none, none]) (z_seq (z_asgO (z_lst z_nil)) (z_seq (z_for (ws := [2, 3, 4, 5]) (i_list (z_call (z_cons z_var (z_cons z_s z_nil)))) g_name (z_seq (z_asg (z_ofN (z_callN (z_cons z_var (z_cons z_s (z_cons z_var z_nil))))) g_name) (z_seq (z_asg (z_ofN (z_lc (by decide) (i_list (z_call (z_cons z_var (z_cons z_s z_nil)))) g_name z_yes (z_ofN (z_callN (z_cons (z_ofN (z_callN (z_cons z_var (z_cons z_s (z_cons z_var z_nil))))) z_nil))))) g_name) (z_app (z_call (z_cons z_var (z_cons z_b z_nil))))))) (z_tell (i := 1) (z_ret (z_call (z_cons z_var (z_cons z_b z_nil))))))) eb hA (by show 1 ≤ 6; decide) rfl ?_ kQ⟩
  obtain ⟨G, M0, D, rfl, hS, hP⟩ := hR
  clear hR
  have hW := hS.R.W
  have l5 := hS.l5
  have l6 : ∀ p ∈ G, p.bs.length ≤ 6 := fun p hp => (hW.p p hp).l6
  have a1 : ∀ o, 0 < (alF G o G.length).length := fun o => al_pos (wf_pos hW)
  have a2 : ∀ o, (alF G o G.length).length ≤ 1000 := fun o => hS.al o _ (Nat.le_refl _)
  obtain ⟨GA, hGA⟩ : ∃ GA : List PyData → Gam, ∀ r, GA r = [some (.d (gvD G)), some (.o r), none, none, none, none] := ⟨_, fun _ => rfl⟩
  trivial
  refine ⟨by decide, by decide, ?_⟩
  refine dfor_inv (alF G true G.length) PyData.list (fun P hP => ?_) (fun i Γ' => Γ' = GA (((alF G true G.length).take i).map fun r => listQ G.length (mnV G r))) (by rw [hGA] <;> rfl) ?_ ?_
  · trivial
    exact kAll_i (o := true) (by omega) l6 (hS.al true) hP
  · rintro i r Γ' hr rfl
    have hrm := List.mem_of_getElem? hr
    have hil := (List.getElem?_eq_some_iff.mp hr).1
    have a3 := a2 true
    have et : (alF G true G.length).take (i + 1) = (alF G true G.length).take i ++ [r] := by
      rw [List.take_add_one, hr]
      rfl
    have e1 := al_list hrm
    have hsr := al_says hrm
    simp only [hGA]
    trivial
    have e2 : PyData.list r = .list ((List.range G.length).map fun k => r.getD k .none) := congrArg _ e1
    rw [e2]
    refine ⟨G, true, cR r, _, rfl, rfl, rfl, by omega, l6, hsr, ?_⟩
    trivial
    have pl : (putV G true (cR r)).length = G.length := put_len
    have p6 : ∀ p ∈ putV G true (cR r), p.bs.length ≤ 6 := fun p hp => by
      unfold putV at hp
      obtain ⟨k, hk, rfl⟩ := List.mem_map.mp hp
      have h6k := l6 _ (vl_mem (List.mem_range.mp hk))
      unfold pcP
      split
      · exact (by decide : 1 ≤ 6)
      · exact h6k
    refine dlc_map (alF G false G.length) PyData.list (fun s => listQ G.length fun k => longC (chV G (dR G r s)) k) (fun P hP => ?_) (by have := a2 false; omega) (fun s hs P hP => ?_) ?_
    · trivial
      have hP : P ((alF (putV G true (cR r)) false (putV G true (cR r)).length).map PyData.list) := by
        rw [vl_alF_put]
        exact hP
      exact kAll_i (G := putV G true (cR r)) (o := false) (by omega) p6 (fun i hi => by rw [al_put (by omega)]; exact hS.al false i (by omega)) hP
    · have hss := al_says hs
      have e3 : PyData.list s = .list ((List.range (putV G true (cR r)).length).map fun k => s.getD k .none) := by
        rw [pl]
        exact congrArg _ (al_list hs)
      trivial
      rw [e3]
      refine ⟨putV G true (cR r), false, cR s, _, rfl, rfl, rfl, by omega, p6, ?_, ?_⟩
      · exact al_says (G := putV G true (cR r)) (by rw [vl_alF_put]; exact hs)
      rw [put_two]
      refine kLGn_i (hS.lc (dR_ok hrm hs)) ?_
      rw [chV_len]
      exact hP
    have e4 : (alF G false G.length).map (fun s => listQ G.length fun k => longC (chV G (dR G r s)) k) = ((alF G false G.length).map fun s k => longC (chV G (dR G r s)) k).map (listQ G.length) := by
      rw [List.map_map]
      rfl
    rw [e4]
    refine kLwr_l (by rw [List.length_map]; exact a1 false) (by omega) (by rw [List.length_map]; exact a2 false) (fun e he k hk => ?_) ?_
    · obtain ⟨s, hs, rfl⟩ := List.mem_map.mp he
      exact hS.ok (dR_ok hrm hs) hk
    refine ⟨by rw [List.length_map, List.length_take]; omega, ?_⟩
    have e6 : (listQ G.length fun k => tkQ (!true) (((alF G false G.length).map fun s k => longC (chV G (dR G r s)) k).map fun e => e k)) = listQ G.length (mnV G r) := listQ_congr fun k hk => by
      rw [List.map_map]
      rfl
    rw [et, List.map_append, e6]
    rfl
  · rintro Γ' rfl
    simp only [hGA]
    trivial
    rw [List.take_length]
    have e4 : (alF G true G.length).map (fun r => listQ G.length (mnV G r)) = ((alF G true G.length).map fun r => mnV G r).map (listQ G.length) := by
      rw [List.map_map]
      rfl
    rw [e4]
    refine kLwr_l (by rw [List.length_map]; exact a1 true) (by omega) (by rw [List.length_map]; exact a2 true) (fun e he k hk => ?_) ?_
    · obtain ⟨s, hs, rfl⟩ := List.mem_map.mp he
      exact hS.okm hs hk
    have e5 : (listQ G.length fun k => tkQ (!false) (((alF G true G.length).map fun r => mnV G r).map fun e => e k)) = listQ G.length (lwV G) := listQ_congr fun k hk => by
      rw [List.map_map]
      rfl
    rw [e5]
    exact hP

abbrev s_few : Stmt := top 43
theorem sc_few : FnScope ["game", "most", "turn", "pairs", "sizes", "at", "gain", "kind", "branches"] ["game", "most"] (defScope s_few) := ⟨rfl, rfl, rfl, by decide +kernel, rfl, by decide +kernel, by decide +kernel⟩
theorem has_few (D : IsDef K mg "_law_few" s_few ["game", "most"]) (T : Bt mg) : Has P w K mg base (1) "_law_few" ["game", "most"] (spP K (kFew)) := by
  obtain ⟨f, fd, F, hm, hb⟩ := D

  have sc := sc_few
  refine ⟨f, fd, F.ok sc (fun vs H Q E x => ?_) (fun cdv A outer s h0 vs Q E hr hs => ?_), hm, F.kp, hb⟩
  · obtain ⟨b, ds, P, _, hA, hR, _⟩ := x
    obtain ⟨_, _, rfl, _⟩ := con2_is hR
    rw [hA.length]
    rfl
  obtain ⟨b, ds, Pq, eb, hA, hR, kQ⟩ := hs
  obtain ⟨x0, x1, rfl, hR⟩ := con2_is hR
  refine ⟨_, (pss_cons (ps_for PassesOwn.never rfl (pi_range1 (by rfl) T.range (pa_cons pe_int pa_nil)) (pg_name (i := 2) sc.nd rfl (by first | exact Or.inl rfl | exact Or.inr rfl)) (pss_cons (ps_set (i := 3) sc.nd rfl (by first | exact Or.inl rfl | exact Or.inr rfl) pe_int) (pss_cons (ps_set (i := 4) sc.nd rfl (by first | exact Or.inl rfl | exact Or.inr rfl) (pe_lst pa_nil)) (pss_cons (ps_for PassesOwn.never rfl (pi_listK (K := K) rfl (pv 0)) (pg_tupK (K := K) (n := 3) rfl rfl (pgs_cons (pg_name (i := 6) sc.nd rfl (by first | exact Or.inl rfl | exact Or.inr rfl)) (pgs_cons (pg_name (i := 7) sc.nd rfl (by first | exact Or.inl rfl | exact Or.inr rfl)) (pgs_cons (pg_name (i := 8) sc.nd rfl (by first | exact Or.inl rfl | exact Or.inr rfl)) pgs_nil)))) (pss_cons (ps_expr (pe_appK (K := K) rfl (pv 4) (pa_cons (pe_op op_mulW (pe_callB (len_K (K := K) rfl) (by rfl) T.len PySem.boot_len (pa_cons (pv 8) pa_nil)) (pe_callTy cr_int1 (by rfl) T.int (by decide +kernel) (pa_cons (pe_cmpR op_ne (pv 7) pe_str (nomark _)) pa_nil))) pa_nil))) (pss_one (ps_set (i := 3) sc.nd rfl (by first | exact Or.inl rfl | exact Or.inr rfl) (pe_op op_mulW (pv 3) (pe_callB (call_max2 rfl) (by rfl) T.max (by decide +kernel) (pa_cons pe_int (pa_cons (pe_ix (ix_listK (K := K) rfl) (pv 4) (pe_un un_neg pe_int) (fun _ _ => rfl)) pa_nil)))))))) (pss_cons (ps_if (pt_cmpR op_le (pv 3) (pv 1) (nomark _)) (pss_one ps_break) pss_nil) (pss_cons (ps_set (i := 5) sc.nd rfl (by first | exact Or.inl rfl | exact Or.inr rfl) (pe_indexDK (K := K) (room65 hr) rfl (pv 4) (pa_cons (pe_callB (max_K (K := K) rfl rfl) (by rfl) T.max (by decide +kernel) (pa_cons (pv 4) pa_nil)) pa_nil))) (pss_one (ps_set (i := 0) sc.nd rfl (by first | exact Or.inl rfl | exact Or.inr rfl) (pe_op op_cat (pe_op op_cat (pe_slice (sl_listK (K := K) rfl) (pv 0) po_none (po_some (pv 5))) (pe_lst (pa_cons (pe_tup (pa_cons (pe_ix (ix_tupK (K := K) rfl) (pe_ix (ix_listK (K := K) rfl) (pv 0) (pv 5) (fun _ _ => rfl)) pe_int (fun _ _ => rfl)) (pa_cons (pe_ix (ix_tupK (K := K) rfl) (pe_ix (ix_listK (K := K) rfl) (pv 0) (pv 5) (fun _ _ => rfl)) pe_int (fun _ _ => rfl)) (pa_cons (pe_slice (sl_listK (K := K) rfl) (pe_ix (ix_tupK (K := K) rfl) (pe_ix (ix_listK (K := K) rfl) (pv 0) (pv 5) (fun _ _ => rfl)) pe_int (fun _ _ => rfl)) po_none (po_some (pe_un un_neg pe_int))) pa_nil)))) pa_nil))) (pe_slice (sl_listK (K := K) rfl) (pv 0) (po_some (pe_op op_add (pv 5) pe_int)) po_none)))))))))) (pss_one (ps_ret (pv 0)))), sim_P (Γ := [some (.d x0), some (.d x1), none, none, none, none, none, none, none]) (z_seq (z_for (ws := [2, 3, 4, 5, 6, 7, 8]) (i_rng1 (z_cons z_i z_nil)) g_name (z_seq (z_asg z_i g_name) (z_seq (z_asgO (z_lst z_nil)) (z_seq (z_for (ws := [6, 7, 8]) (i_list z_var) (g_tup (g_cons g_name (g_cons g_name (g_cons g_name g_nil)))) (z_seq (z_app (z_mulW (z_len z_var) (z_int1 (z_neS z_var z_s)))) (z_asgS (z_mulW z_var (z_max2 z_i (z_ixL z_var (z_neg z_i)))) g_name))) (z_seq (z_ifS (z_test (z_le z_var z_var)) z_break z_next) (z_seq (z_asgS (z_index z_var (z_max z_var)) g_name) (z_asg (z_ofN (z_cat (z_ofN (z_cat (z_ofN (z_sl z_var z_pnone (z_part z_var))) (z_ofN (z_lst (z_cons (z_tup (z_cons (z_ixT (z_ixL z_var z_var) z_i) (z_cons (z_ixT (z_ixL z_var z_var) z_i) (z_cons (z_ofN (z_sl (z_ixT (z_ixL z_var z_var) z_i) z_pnone (z_part (z_neg z_i)))) z_nil)))) z_nil))))) (z_ofN (z_sl z_var (z_part (z_add z_var z_i)) z_pnone)))) g_name))))))) (z_ret z_var)) eb hA (by show 2 ≤ 9; decide) rfl ?_ kQ⟩
  obtain ⟨G, w, m, rfl, rfl, hW, h9, m1, hP⟩ := hR
  clear hR
  have w0 : wtL G G.length ≤ 6 * G.length := wt_le fun x hx => (vl_wf hW hx).l6
  obtain ⟨GA, hGA⟩ : ∃ GA : List PlV → Option Sl → Option Sl → Option Sl → Gam, ∀ H s2 s3 s4, GA H s2 s3 s4 = [some (.d (gvD H)), some (.d (.int (m : Int))), s2, s3, s4, none, none, none, none] := ⟨_, fun _ _ _ _ => rfl⟩
  trivial
  refine dfor_rng 60 (fun k => PyData.int (k : Int)) (fun P hP => ?_) (fun t Γ' => ∃ H, CutG G H ∧ wtL H G.length + t ≤ wtL G G.length ∧ Γ' = GA H none none none) ⟨G, .refl hW, Nat.le_refl _, by rw [hGA] <;> rfl⟩ ?_ ?_
  · trivial
    exact ⟨by decide, by decide, hP⟩
  · rintro t Γ' ht ⟨H, hc, hw, rfl⟩
    have hH := hc.wf hW
    have hl := hc.l
    have hb := wf_pos hH
    rw [hl] at hb
    simp only [hGA]
    trivial
    refine ⟨by decide, by decide, ?_⟩
    refine dfor_rng G.length (fun k => (vl H k).D) (fun P hP => ?_) (fun i Γ' => Γ' = GA H (some (.d (.int (t : Int)))) (some (.d (.int (prL H i : Int)))) (some (.o ((List.range i).map fun k => PyData.int (szP (vl H k) : Int))))) (by rw [hGA] <;> rfl) ?_ ?_
    · trivial
      rw [← map_vl H PlV.D, hl]
      exact hP
    · rintro i Γ' hi rfl
      have hv := vl_wf hH (by rw [hl]; exact hi)
      have h6 : prL H i ≤ 6 ^ i := pr_le6 fun x hx => (vl_wf hH (by rw [hl]; omega)).l6
      have h69 : 6 ^ i ≤ 6 ^ 9 := Nat.pow_le_pow_right (by decide) (by omega)
      have hs6 : szP (vl H i) ≤ 6 := by
        unfold szP
        split
        · exact Nat.zero_le _
        · exact hv.l6
      simp only [hGA]
      unfold PlV.D
      trivial
      have es : (((vl H i).el.length : Int) * if (!decide (kdV (vl H i).k = Str.ofString "draw")) = true then 1 else 0) = (szP (vl H i) : Int) := by
        have e0 : decide (kdV (vl H i).k = Str.ofString "draw") = decide ((vl H i).k = none) := kd_eq _
        rw [e0, el_len]
        unfold szP
        by_cases q : (vl H i).k = none
        · rw [if_pos q, if_neg (by rw [decide_eq_true q]; decide)]
          rfl
        · rw [if_neg q, if_pos (by rw [decide_eq_false q]; rfl)]
          exact Int.mul_one _
      have hl6 := hv.l6
      refine ⟨rfl, rfl, _, rfl, small_mulW (by rw [el_len]; omega) (by split <;> decide), by rw [List.length_map, List.length_range]; omega, _, atI_last, ?_⟩
      trivial
      rw [es]
      refine ⟨small_mulW (by omega) (by split <;> omega), rfl, ?_⟩
      rw [pr_step (hb i hi), List.range_succ, List.map_append]
      rfl
    · rintro Γ' rfl
      simp only [hGA]
      trivial
      by_cases q : prL H G.length ≤ m
      · rw [if_pos (decide_eq_true (by omega))]
        exact hP H hc q
      · rw [if_neg (by rw [decide_eq_true_iff]; omega)]
        refine ⟨szL H G.length, by rw [szL_D], by unfold szL; rw [List.length_map, List.length_range]; exact hW.l1, fun mx hm1 hm2 => ⟨sh_sz, rfl, ?_⟩⟩
        rw [← szL_D]
        refine idx_int hm1 fun j hj => ⟨rfl, ?_⟩
        obtain ⟨hj, hk, h2⟩ := sz_max (by omega) hm2 hj
        have hjl : j < H.length := by rw [hl]; exact hj
        refine ⟨_, vD_at hjl, ?_⟩
        infer_instance
        refine ⟨_, atI_zero, _, vD_at hjl, ?_⟩
        infer_instance
        refine ⟨_, atI_one, _, vD_at hjl, ?_⟩
        infer_instance
        refine ⟨_, atI_two, ?_⟩
        infer_instance
        refine ⟨by decide, by decide, (cut_lens (x := .none) hjl (by omega)).1, (cut_lens hjl (by omega)).2, ?_⟩
        rw [cut_data hjl (by omega)]
        refine ⟨_, hc.step hj hk h2, ?_, rfl⟩
        have := wt_set hjl hk h2 G.length
        rw [if_pos hj] at this
        omega
  · rintro Γ' ⟨H, hc, hw, rfl⟩
    exfalso
    omega

abbrev s_law : Stmt := top 46
theorem sc_law : FnScope ["script", "draws", "game", "kept", "steps", "row", "turn", "later", "rises", "one", "told", "after", "least_v", "greatest_v", "place", "a", "b"] ["script"] (defScope s_law) := ⟨rfl, rfl, rfl, by decide +kernel, rfl, by decide +kernel, by decide +kernel⟩
theorem ok_law {f : Addr} {fd : FuncData} (F : Fun K "law" "law" s_law f fd) (U_draws : Has P w K mg base 1 "_law_draws" ["script", "count"] (spDraws K)) (T : Bt mg) (U_few : Has P w K mg base (1) "_law_few" ["game", "most"] (spP K (kFew))) (U_game : Has P w K mg base (4) "_law_game" ["draws", "most"] (spP K (kGameP))) (U_plus_ : Has P w K mg base (3) "_law_plus" ["a", "b"] (spP K (kPlusW))) (U_less : Has P w K mg base (1) "_law_less" ["a", "b"] (spP K (kLessW))) (U_stepped : Has P w K mg base (6) "_law_stepped" ["game", "row"] (spN K (kStp))) (U_is_numbers : Has P w K mg base (3) "_law_is_numbers" ["actual"] (spP K (kIsLW))) (U_values_ : Has P w K mg base (7) "_law_values" ["game"] (spP K (kLVa))) (U_bracket : Has P w K mg base (6) "bracket" ["game", "steps"] (spP K (kBrk))) : LawOk P w K mg base 8 f fd ["script"] (spLaw K) := by
  obtain ⟨f_draws, fd_draws, G_draws, m_draws, k_draws, b_draws⟩ := U_draws
  obtain ⟨f_few, fd_few, G_few, m_few, k_few, b_few⟩ := U_few
  obtain ⟨f_game, fd_game, G_game, m_game, k_game, b_game⟩ := U_game
  obtain ⟨f_plus_, fd_plus_, G_plus_, m_plus_, k_plus_, b_plus_⟩ := U_plus_
  obtain ⟨f_less, fd_less, G_less, m_less, k_less, b_less⟩ := U_less
  obtain ⟨f_stepped, fd_stepped, G_stepped, m_stepped, k_stepped, b_stepped⟩ := U_stepped
  obtain ⟨f_is_numbers, fd_is_numbers, G_is_numbers, m_is_numbers, k_is_numbers, b_is_numbers⟩ := U_is_numbers
  obtain ⟨f_values_, fd_values_, G_values_, m_values_, k_values_, b_values_⟩ := U_values_
  obtain ⟨f_bracket, fd_bracket, G_bracket, m_bracket, k_bracket, b_bracket⟩ := U_bracket
  have sc := sc_law
  refine law_ok F sc (fun vs H Q E x => ?_) (fun cd s h0 vs Q hr hs => ?_)
  · obtain ⟨a, ns, rfl, _⟩ := x
    rfl
  obtain ⟨a, ns, rfl, hS, hl, k⟩ := hs
  have hgd : (callerA.deeper (PyProof.Rows.envOfC "law" (defScope s_law) s.heap.objs.size f cd)).guards = some [] := rfl
  refine ⟨_, (pss_cons (ps_set (i := 1) sc.nd rfl (by first | exact Or.inl rfl | exact Or.inr rfl) (pe_call G_draws (hr.mono (by decide)) rfl m_draws k_draws b_draws .nil pass0 (pa_cons (pv 0) (pa_cons pe_int pa_nil)))) (pss_cons (ps_set (i := 2) sc.nd rfl (by first | exact Or.inl rfl | exact Or.inr rfl) (pe_call G_few (hr.mono (by decide)) rfl m_few k_few b_few .nil pass0 (pa_cons (pe_call G_game (hr.mono (by decide)) rfl m_game k_game b_game .nil pass0 (pa_cons (pv 1) (pa_cons pe_int pa_nil))) (pa_cons pe_int pa_nil)))) (pss_cons (ps_set (i := 3) sc.nd rfl (by first | exact Or.inl rfl | exact Or.inr rfl) (pe_callB (repr_K (K := K) hgd hr.units rfl) (by rfl) T.repr (by decide +kernel) (pa_cons (pv 2) pa_nil))) (pss_cons (ps_set (i := 4) sc.nd rfl (by first | exact Or.inl rfl | exact Or.inr rfl) (pe_op op_mod (pe_callTy cr_int1 (by rfl) T.int (by decide +kernel) (pa_cons (pe_ix (ix_listK (K := K) rfl) (pv 1) pe_int (fun _ _ => rfl)) pa_nil)) pe_int)) (pss_cons (ps_setLc (i := 5) (own := [("place", 14)]) (tt := tYes) rfl sc.nd rfl rfl (sw_true rfl rfl rfl (by decide +kernel)) (pi_listK (K := K) rfl (pv 2)) (blkOk_by (N := ["script", "draws", "game", "kept", "steps", "row", "turn", "later", "rises", "one", "told", "after", "least_v", "greatest_v", "place", "a", "b"]) (sc := defScope s_law) (by decide +kernel)) (fun _ _ _ _ _ => (pg_name (i := 14) sc.nd rfl (by first | exact Or.inl rfl | exact Or.inr rfl))) (fun _ _ _ _ _ => pts_nil) (fun _ _ _ _ _ => (pe_tup (pa_cons pe_int (pa_cons pe_int pa_nil))))) (pss_cons (ps_for PassesOwn.never rfl (pi_range1 (by rfl) T.range (pa_cons (pv 4) pa_nil)) (pg_name (i := 6) sc.nd rfl (by first | exact Or.inl rfl | exact Or.inr rfl)) (pss_one (ps_set (i := 5) sc.nd rfl (by first | exact Or.inl rfl | exact Or.inr rfl) (pe_call G_stepped (hr.mono (by decide)) rfl m_stepped k_stepped b_stepped .nil pass0 (pa_cons (pv 2) (pa_cons (pv 5) pa_nil)))))) (pss_cons (ps_set (i := 7) sc.nd rfl (by first | exact Or.inl rfl | exact Or.inr rfl) (pe_call G_stepped (hr.mono (by decide)) rfl m_stepped k_stepped b_stepped .nil pass0 (pa_cons (pv 2) (pa_cons (pv 5) pa_nil)))) (pss_cons (ps_setLc (i := 8) (own := [("a", 15), ("b", 16)]) (tt := tYes) rfl sc.nd rfl rfl (sw_true rfl rfl rfl (by decide +kernel)) (pi_zipK (K := K) rfl (by rfl) T.zip (pa_cons (pv 7) (pa_cons (pv 5) pa_nil))) (blkOk_by (N := ["script", "draws", "game", "kept", "steps", "row", "turn", "later", "rises", "one", "told", "after", "least_v", "greatest_v", "place", "a", "b"]) (sc := defScope s_law) (by decide +kernel)) (fun _ _ _ _ _ => (pg_tupK (K := K) (n := 2) rfl rfl (pgs_cons (pg_name (i := 15) sc.nd rfl (by first | exact Or.inl rfl | exact Or.inr rfl)) (pgs_cons (pg_name (i := 16) sc.nd rfl (by first | exact Or.inl rfl | exact Or.inr rfl)) pgs_nil)))) (fun _ _ _ _ _ => pts_nil) (fun _ _ _ _ _ => (pe_call G_plus_ (hr.mono (by decide)) rfl m_plus_ k_plus_ b_plus_ .nil pass0 (pa_cons (pv 15) (pa_cons (pe_tup (pa_cons (pe_un un_neg (pe_ix (ix_tupK (K := K) rfl) (pv 16) pe_int (fun _ _ => rfl))) (pa_cons (pe_ix (ix_tupK (K := K) rfl) (pv 16) pe_int (fun _ _ => rfl)) pa_nil))) pa_nil))))) (pss_cons (ps_par rfl sc.nd (i := 12) (j := 13) rfl rfl (by decide) rfl rfl (pa_cons (pe_ix (ix_listK (K := K) rfl) (pv 8) pe_int (fun _ _ => rfl)) (pa_cons (pe_ix (ix_listK (K := K) rfl) (pv 8) pe_int (fun _ _ => rfl)) pa_nil)) (by rfl)) (pss_cons (ps_for PassesOwn.never rfl (pi_listK (K := K) rfl (pv 8)) (pg_name (i := 9) sc.nd rfl (by first | exact Or.inl rfl | exact Or.inr rfl)) (pss_cons (ps_if (pt_val (pe_call G_less (hr.mono (by decide)) rfl m_less k_less b_less .nil pass0 (pa_cons (pv 9) (pa_cons (pv 12) pa_nil)))) (pss_one (ps_set (i := 12) sc.nd rfl (by first | exact Or.inl rfl | exact Or.inr rfl) (pv 9))) pss_nil) (pss_one (ps_if (pt_val (pe_call G_less (hr.mono (by decide)) rfl m_less k_less b_less .nil pass0 (pa_cons (pv 13) (pa_cons (pv 9) pa_nil)))) (pss_one (ps_set (i := 13) sc.nd rfl (by first | exact Or.inl rfl | exact Or.inr rfl) (pv 9))) pss_nil)))) (pss_cons (ps_set (i := 10) sc.nd rfl (by first | exact Or.inl rfl | exact Or.inr rfl) (pe_call G_bracket (hr.mono (by decide)) rfl m_bracket k_bracket b_bracket .nil pass0 (pa_cons (pv 2) (pa_cons (pv 4) pa_nil)))) (pss_cons (ps_if (PW.pt (pw_or (pt_not (pt_val (pe_callB (isi_K (K := K) rfl) (by rfl) T.isinstance (by decide +kernel) (pa_cons (pv 10) (pa_cons (pe_bltn (v := .ty "tuple") (by rfl) T.tuple (by decide +kernel) rfl) pa_nil))))) (pw_or (pt_not (pt_val (pe_call G_is_numbers (hr.mono (by decide)) rfl m_is_numbers k_is_numbers b_is_numbers .nil pass0 (pa_cons (pe_callTy (list_K (K := K) rfl) (by rfl) T.list (by decide +kernel) (pa_cons (pv 10) pa_nil)) pa_nil)))) (pw_or (pt_cmpR (neD_K (K := K) hr.units rfl) (pv 10) (pe_tup (pa_cons (pv 12) (pa_cons (pv 13) pa_nil))) (nomark _)) (pw_or1 (pt_cmpR op_ne (pe_callB (repr_K (K := K) hgd hr.units rfl) (by rfl) T.repr (by decide +kernel) (pa_cons (pv 2) pa_nil)) (pv 3) (nomark _))))))) (pss_one (ps_ret pe_bl)) pss_nil) (pss_cons (ps_for PassesOwn.never rfl (pi_listK (K := K) rfl (pe_call G_values_ (hr.mono (by decide)) rfl m_values_ k_values_ b_values_ .nil pass0 (pa_cons (pv 2) pa_nil))) (pg_name (i := 9) sc.nd rfl (by first | exact Or.inl rfl | exact Or.inr rfl)) (pss_one (ps_if (PW.pt (pw_or (pt_val (pe_call G_less (hr.mono (by decide)) rfl m_less k_less b_less .nil pass0 (pa_cons (pv 9) (pa_cons (pv 12) pa_nil)))) (pw_or1 (pt_val (pe_call G_less (hr.mono (by decide)) rfl m_less k_less b_less .nil pass0 (pa_cons (pv 13) (pa_cons (pv 9) pa_nil))))))) (pss_one (ps_ret pe_bl)) pss_nil))) (pss_cons (ps_set (i := 11) sc.nd rfl (by first | exact Or.inl rfl | exact Or.inr rfl) (pe_call G_bracket (hr.mono (by decide)) rfl m_bracket k_bracket b_bracket .nil pass0 (pa_cons (pv 2) (pa_cons (pe_op op_add (pv 4) pe_int) pa_nil)))) (pss_one (ps_ret (pe_and (pe_not (pe_call G_less (hr.mono (by decide)) rfl m_less k_less b_less .nil pass0 (pa_cons (pe_ix (ix_tupK (K := K) rfl) (pv 11) pe_int (fun _ _ => rfl)) (pa_cons (pv 12) pa_nil)))) (pe_one (pe_not (pe_call G_less (hr.mono (by decide)) rfl m_less k_less b_less .nil pass0 (pa_cons (pv 13) (pa_cons (pe_ix (ix_tupK (K := K) rfl) (pv 11) pe_int (fun _ _ => rfl)) pa_nil)))))))))))))))))))))), ?_⟩
  refine ⟨_, rfl, h0, a, ns, 85, rfl, Ex.refl _, hS, hl, by decide, fun v1 b1 h1 ds g1 hdl hd hv1 => ?_⟩
  dsimp only
  show tSeq _ _ _ [some (.ref a), some v1, none, none, none, none, none, none, none, none, none, none, none, none, none, none, none] _
  refine sim_law2 (b := b1) (Γ := [none, some (.d (.list (ds.map PyData.int))), none, none, none, none, none, none, none, none, none, none, none, none, none, none, none]) (K := K) ?hr g1.gi ?ho k ?p
  case hr =>
    refine ⟨rfl, fun i x e => ?_⟩
    match i, e with
    | 1, e =>
      cases e
      exact ⟨v1, rfl, hv1⟩
    | i + 2, e => exact absurd (startG_gat (n := 15) (ds := []) (i := i) e) (by simp)
  case ho =>
    intro i es e
    match i, e with
    | i + 2, e => exact startG_no (n := 15) (ds := []) (i := i) e
  refine ⟨_, (z_seq (z_asg (z_call (z_cons (z_call (z_cons z_var (z_cons z_i z_nil))) (z_cons z_i z_nil))) g_name) (z_seq (z_asg (z_repr z_var) g_name) (z_seq (z_asg (z_modI (z_int1 (z_ixL z_var z_i)) z_i) g_name) (z_seq (z_asg (z_ofN (z_lc (by decide) (i_list z_var) g_name z_yes (z_tup (z_cons z_i (z_cons z_i z_nil))))) g_name) (z_seq (z_for (ws := [6]) (i_rng1 (z_cons z_var z_nil)) g_name (z_asg (z_ofN (z_callN (z_cons z_var (z_cons z_var z_nil)))) g_name)) (z_seq (z_asg (z_ofN (z_callN (z_cons z_var (z_cons z_var z_nil)))) g_name) (z_seq (z_asg (z_ofN (z_lc (by decide) (i_zip (z_cons z_var (z_cons z_var z_nil))) (g_tup (g_cons g_name (g_cons g_name g_nil))) z_yes (z_call (z_cons z_var (z_cons (z_tup (z_cons (z_neg (z_ixT z_var z_i)) (z_cons (z_ixT z_var z_i) z_nil))) z_nil))))) g_name) (z_seq (z_par (z_cons (z_ixL z_var z_i) (z_cons (z_ixL z_var z_i) z_nil))) (z_seq (z_for (ws := [9]) (i_list z_var) g_name (z_cut (ws := []) (z_ifS (z_tB (z_call (z_cons z_var (z_cons z_var z_nil)))) (z_asg z_var g_name) z_next) (z_ifS (z_tB (z_call (z_cons z_var (z_cons z_var z_nil)))) (z_asg z_var g_name) z_next))) (z_seq (z_asg (z_call (z_cons z_var (z_cons z_var z_nil))) g_name) (z_seq (z_ifS (z_or (z_not (z_tB (z_isi z_var))) (z_or (z_not (z_tB (z_call (z_cons (z_ofN (z_list z_var)) z_nil)))) (z_or (z_test (z_neD z_var (z_tup (z_cons z_var (z_cons z_var z_nil))))) (z_test (z_neS (z_repr z_var) z_var))))) (z_ret z_b) z_next) (z_seq (z_for (ws := [9]) (i_list (z_call (z_cons z_var z_nil))) g_name (z_ifS (z_or (z_tB (z_call (z_cons z_var (z_cons z_var z_nil)))) (z_tB (z_call (z_cons z_var (z_cons z_var z_nil))))) (z_ret z_b) z_next)) (z_seq (z_asg (z_call (z_cons z_var (z_cons (z_add z_var z_i) z_nil))) g_name) (z_ret (z_andV (z_notV (z_call (z_cons (z_ixT z_var z_i) (z_cons z_var z_nil)))) (z_notV (z_call (z_cons z_var (z_cons (z_ixT z_var z_i) z_nil))))))))))))))))))), ?_⟩
  clear hv1 g1 hS k hgd
  trivial
  refine kGameP_i (by decide) (by decide) (by rw [hdl]; decide) hd fun G0 hW hS hPos hl5 => ?_
  refine kFew_i (m := 12) hW (by omega) (by decide) fun G hc hm => ?_
  have hG := hc.wf hW
  have hGl := hc.l
  have hG1 := hG.l1
  have hG5 : G.length ≤ 5 := by omega
  have LV := hc.lv hW hS hPos (by omega) hm (by decide)
  have h6 : ∀ p ∈ G, p.g.2.natAbs ∣ 6 := fun p hp => (hc.sh hS p hp).1
  obtain ⟨r0, r1, r2, r3, r4⟩ := repr_gv hG
  refine ⟨r0, r1, r2, r3, r4, _, at_ds (i := 78) (by omega), ?_⟩
  trivial
  obtain ⟨t, et, ht⟩ := mod_nat (ds.getD 78 0) (n := 16) (by decide)
  have et : ds.getD 78 0 % 16 = (t : Int) := et
  rw [et]
  refine ⟨by decide, ?_⟩
  have x : Wor G 30 6 16 := ⟨by decide, by decide, hG, h6, by decide, by decide, Nat.lt_of_lt_of_le (g30_size2 hG (U := 6) (by decide) (by omega) (by decide)) (Nat.pow_le_pow_right (by decide) (by decide))⟩
  refine dlc_map G PlV.D (fun _ => nQ 0) (fun P hP => ?_) (by omega) (fun q hq P hP => ?_) ?_
  · trivial
    exact hP
  · trivial
    refine ⟨by decide, ?_⟩
    rw [← nQ_zero]
    exact hP
  have e0 : PyData.list (G.map fun _ => nQ 0) = listQ G.length (wG G 1 0) := by
    rw [← map_vl G fun _ => nQ 0]
    rfl
  rw [e0]
  obtain ⟨GA, hGA⟩ : ∃ GA : PyData → Gam, ∀ r, GA r = [none, some (Sl.d (PyData.list (List.map PyData.int ds))), some (Sl.d (gvD G)), some (Sl.d (.str (gvD G).shown)), some (Sl.d (.int (t : Int))), some (Sl.d r), none, none, none, none, none, none, none, none, none, none, none] := ⟨_, fun _ => rfl⟩
  refine dfor_rng t (fun k => PyData.int (k : Int)) (fun P hP => ?_) (fun i Γ' => Γ' = GA (listQ G.length (wG G 1 i))) (by rw [hGA] <;> rfl) ?_ ?_
  · trivial
    rw [Int.toNat_natCast, rangeD0]
    exact ⟨by omega, by omega, hP⟩
  · rintro i Γ' hi rfl
    simp only [hGA]
    trivial
    refine kStp_i (x.stp (j := i) (by omega)) ?_
    rw [nums_congr fun k _ => st1_wG G i k]
    rfl
  · rintro Γ' rfl
    simp only [hGA]
    trivial
    refine kStp_i (x.stp (j := t) (by omega)) ?_
    rw [nums_congr fun k _ => st1_wG G t k]
    refine dlc_rng G.length (fun k => .tuple [nQ (wG G 1 (t + 1) k), nQ (wG G 1 t k)]) (fun k => nQ (wG G 1 (t + 1) k - wG G 1 t k)) (fun P hP => ?_) (by omega) (fun k hk P hP => ?_) ?_
    · trivial
      rw [zipD_map, zip_rr, List.map_map]
      exact hP
    · have en : ∀ r : Rat, PyData.tuple [.int (-r.num), .int (r.den : Int)] = nQ (-r) := fun r => rfl
      have e : wG G 1 (t + 1) k + -wG G 1 t k = wG G 1 (t + 1) k - wG G 1 t k := by grind
      rw [← e] at hP
      trivial
      refine ⟨rfl, rfl, _, rfl, ?_⟩
      trivial
      refine ⟨_, rfl, by decide, ?_⟩
      rw [en]
      refine kPlusW_i (x.ok (by omega) hk) (ok_neg (x.ok (by omega) hk)) ?_ hP
      rw [e]
      exact x.ri (by omega) _ (ri_mem hk)
    have eL : (List.range G.length).map (fun k => nQ (wG G 1 (t + 1) k - wG G 1 t k)) = (riL G t).map nQ := by
      unfold riL
      rw [List.map_map]
      rfl
    rw [eL]
    have okr := x.ri (t := t) (by omega)
    have hrl := ri_len (G := G) (t := t)
    obtain ⟨r0', hr0⟩ : ∃ r, (riL G t)[0]? = some r := ⟨_, List.getElem?_eq_getElem (by omega)⟩
    have hr0m := List.mem_of_getElem? hr0
    have hat : L2.atI ((riL G t).map nQ) 0 = some (nQ r0') := atI_nat (j := 0) (by rw [List.getElem?_map, hr0]; rfl)
    refine ⟨_, hat, _, hat, ?_⟩
    obtain ⟨GB, hGB⟩ : ∃ GB : Rat → Rat → Gam, ∀ a b, GB a b = [none, some (Sl.d (PyData.list (List.map PyData.int ds))), some (Sl.d (gvD G)), some (Sl.d (.str (gvD G).shown)), some (Sl.d (.int (t : Int))), some (Sl.d (listQ G.length (wG G 1 t))), none, some (Sl.d (listQ G.length (wG G 1 (t + 1)))), some (Sl.d (.list ((riL G t).map nQ))), none, none, none, some (Sl.d (nQ a)), some (Sl.d (nQ b)), none, none, none] := ⟨_, fun _ _ => rfl⟩
    refine dfor_inv (riL G t) nQ (fun P hP => ?_) (fun i Γ' => ∃ a b : Rat, a ∈ riL G t ∧ b ∈ riL G t ∧ (∀ r ∈ (riL G t).take i, a ≤ r ∧ r ≤ b) ∧ Γ' = GB a b) ⟨r0', r0', hr0m, hr0m, (fun r hr => by rw [List.take_zero] at hr; cases hr), by first | rfl | (rw [hGB] <;> rfl)⟩ ?_ ?_
    · trivial
      exact hP
    · rintro i r Γ' hr ⟨a, b, ha, hb, hab, rfl⟩
      have hrm := List.mem_of_getElem? hr
      have tk : (riL G t).take (i + 1) = (riL G t).take i ++ [r] := by
        rw [List.take_add_one, hr]
        rfl
      simp only [hGB]
      trivial
      refine ⟨fun Γ' => ∃ a' : Rat, a' ∈ riL G t ∧ (a' ≤ a ∧ a' ≤ r) ∧ Γ' = (GB a' b).set 9 (some (.d (nQ r))), ?_, ?_⟩
      · refine kLessW_i (okr _ hrm) (okr _ ha) ?_
        trivial
        by_cases q : r < a
        · rw [if_pos (decide_eq_true q)]
          exact ⟨r, hrm, ⟨Rat.le_of_lt q, Rat.le_refl⟩, by first | rfl | (rw [hGB] <;> rfl)⟩
        · rw [if_neg (by rw [decide_eq_true_iff]; exact q)]
          exact ⟨a, ha, ⟨Rat.le_refl, by grind⟩, by first | rfl | (rw [hGB] <;> rfl)⟩
      · rintro Γ' ⟨a', ha', hl, rfl⟩
        simp only [hGB]
        trivial
        refine kLessW_i (okr _ hb) (okr _ hrm) ?_
        trivial
        by_cases q : b < r
        · rw [if_pos (decide_eq_true q)]
          refine ⟨a', r, ha', hrm, fun z hz => ?_, by first | rfl | (rw [hGB] <;> rfl)⟩
          rw [tk] at hz
          rcases List.mem_append.mp hz with hz | hz
          · have := hab z hz
            grind
          · rw [List.mem_singleton.mp hz]
            exact ⟨hl.2, Rat.le_refl⟩
        · rw [if_neg (by rw [decide_eq_true_iff]; exact q)]
          refine ⟨a', b, ha', hb, fun z hz => ?_, by first | rfl | (rw [hGB] <;> rfl)⟩
          rw [tk] at hz
          rcases List.mem_append.mp hz with hz | hz
          · have := hab z hz
            grind
          · rw [List.mem_singleton.mp hz]
            exact ⟨hl.2, by grind⟩
    · rintro Γ' ⟨a, b, ha, hb, hab, rfl⟩
      rw [List.take_length] at hab
      have ea : tkQ false (riL G t) = a := tk_is ha fun y hy => (hab y hy).1
      have eb : tkQ true (riL G t) = b := tk_is hb fun y hy => (hab y hy).2
      simp only [hGB]
      trivial
      refine kBrk_i x (by omega) ?_
      rw [ea, eb]
      trivial
      refine ⟨_, rfl, ?_⟩
      rw [if_neg (by decide)]
      have el : PyData.list [nQ a, nQ b] = ratsD [a, b] := rfl
      rw [el]
      refine kIsLW_i (show 2 ≤ 1000 by decide) (fun r hr => ?_) ?_
      · simp only [List.mem_cons, List.not_mem_nil, or_false] at hr
        rcases hr with rfl | rfl
        · exact okr _ ha
        · exact okr _ hb
      trivial
      rw [if_neg (by decide)]
      have e2 : PyData.eqv (.tuple [nQ a, nQ b]) (.tuple [nQ a, nQ b]) = true := by
        show (PyData.eqv (nQ a) (nQ a) && (PyData.eqv (nQ b) (nQ b) && true)) = true
        rw [eqv_nQ, eqv_nQ, decide_eq_true rfl, decide_eq_true rfl]
        rfl
      refine ⟨by decide, rfl, rfl, ?_⟩
      rw [e2, if_neg (by decide)]
      refine ⟨r0, r1, r2, r3, r4, _, rfl, ?_⟩
      rw [decide_eq_true rfl, if_neg (by decide)]
      obtain ⟨c, g, h, rc⟩ := LV.R.right
      have glo := rc.rise_lo hG (t := t) (m := a) fun y hy => (hab _ (ri_mem hy)).1
      have ghi := rc.rise_hi hG (t := t) (m := b) fun y hy => (hab _ (ri_mem hy)).2
      have vlo : ∀ k, k < G.length → a ≤ lwV G k := fun k hk => by rw [← lwV_is LV.R rc hk]; exact glo k hk
      have vhi : ∀ k, k < G.length → lwV G k ≤ b := fun k hk => by rw [← lwV_is LV.R rc hk]; exact ghi k hk
      obtain ⟨GC, hGC⟩ : ∃ GC : Gam, GC = [none, some (Sl.d (PyData.list (List.map PyData.int ds))), some (Sl.d (gvD G)), some (Sl.d (.str (gvD G).shown)), some (Sl.d (.int (t : Int))), some (Sl.d (listQ G.length (wG G 1 t))), none, some (Sl.d (listQ G.length (wG G 1 (t + 1)))), some (Sl.d (.list ((riL G t).map nQ))), none, some (Sl.d (.tuple [nQ a, nQ b])), none, some (Sl.d (nQ a)), some (Sl.d (nQ b)), none, none, none] := ⟨_, rfl⟩
      refine dfor_rng G.length (fun k => nQ (lwV G k)) (fun P hP => ?_) (fun i Γ' => Γ' = GC) (by rw [hGC] <;> rfl) ?_ ?_
      · trivial
        exact kLVa_i LV hP
      · rintro i Γ' hi rfl
        rw [hGC]
        trivial
        have a1 := vlo i hi
        have a2 := vhi i hi
        refine kLessW_i (LV.okv hi) (okr _ ha) ?_
        trivial
        rw [if_neg (by rw [decide_eq_true_iff]; grind)]
        refine kLessW_i (okr _ hb) (LV.okv hi) ?_
        trivial
        rw [if_neg (by rw [decide_eq_true_iff]; grind)]
      · rintro Γ' rfl
        rw [hGC]
        trivial
        have e3 : ((t : Int) + 1) = ((t + 1 : Nat) : Int) := by omega
        rw [e3]
        refine kBrk_i x (by omega) ?_
        trivial
        have nl := ri_lo hG (t := t) (m := a) fun y hy => (hab _ (ri_mem hy)).1
        have nh := ri_hi hG (t := t) (m := b) fun y hy => (hab _ (ri_mem hy)).2
        have hrl2 := ri_len (G := G) (t := t + 1)
        have okr2 := x.ri (t := t + 1) (by omega)
        have m1 := tk_mem (o := false) (l := riL G (t + 1)) (by omega)
        have m2 := tk_mem (o := true) (l := riL G (t + 1)) (by omega)
        have l1 : a ≤ tkQ false (riL G (t + 1)) := by
          obtain ⟨k, hk, e⟩ := List.mem_map.mp m1
          rw [← e]
          exact nl k (List.mem_range.mp hk)
        have l2 : tkQ true (riL G (t + 1)) ≤ b := by
          obtain ⟨k, hk, e⟩ := List.mem_map.mp m2
          rw [← e]
          exact nh k (List.mem_range.mp hk)
        refine ⟨_, atI_zero, ?_⟩
        refine kLessW_i (okr2 _ m1) (okr _ ha) ?_
        trivial
        rw [decide_eq_false (by grind), if_pos (by decide)]
        refine ⟨_, atI_one, ?_⟩
        refine kLessW_i (okr _ hb) (okr2 _ m2) ?_
        trivial
        rw [decide_eq_false (by grind)]
        rfl

end
theorem all_mk {l : PySem.W.OpenLaw} {w : World} {K : PySem.W.Frag} {h : Heap} {mg : Str → Option Value} {fa f1 f2 f3 f4 f5 f6 f7 f8 f9 f10 f11 f12 f13 f14 f15 f16 f17 f18 f19 f20 f21 f22 f23 f24 f25 f26 f27 f28 f29 f30 f31 f32 f33 f34 f35 f36 f37 f38 f39 g1 g2 : Addr} (X : K.In h) (G : h.Ns mainGlobals mg) (hfa : mg "law" = some (.ref fa))
    {oc1 kV1 dc1 pm1 cd1 ct1 : Value} {od1 an1 : Option Addr} {sl1 : Array (Option Value)}
    {oc2 kV2 dc2 pm2 cd2 ct2 : Value} {od2 an2 : Option Addr} {sl2 : Array (Option Value)}
    {oc3 kV3 dc3 pm3 cd3 ct3 : Value} {od3 an3 : Option Addr} {sl3 : Array (Option Value)}
    {oc4 kV4 dc4 pm4 cd4 ct4 : Value} {od4 an4 : Option Addr} {sl4 : Array (Option Value)}
    {oc5 kV5 dc5 pm5 cd5 ct5 : Value} {od5 an5 : Option Addr} {sl5 : Array (Option Value)}
    {oc6 kV6 dc6 pm6 cd6 ct6 : Value} {od6 an6 : Option Addr} {sl6 : Array (Option Value)}
    {oc7 kV7 dc7 pm7 cd7 ct7 : Value} {od7 an7 : Option Addr} {sl7 : Array (Option Value)}
    {oc8 kV8 dc8 pm8 cd8 ct8 : Value} {od8 an8 : Option Addr} {sl8 : Array (Option Value)}
    {oc9 kV9 dc9 pm9 cd9 ct9 : Value} {od9 an9 : Option Addr} {sl9 : Array (Option Value)}
    {oc10 kV10 dc10 pm10 cd10 ct10 : Value} {od10 an10 : Option Addr} {sl10 : Array (Option Value)}
    {oc11 kV11 dc11 pm11 cd11 ct11 : Value} {od11 an11 : Option Addr} {sl11 : Array (Option Value)}
    {oc12 kV12 dc12 pm12 cd12 ct12 : Value} {od12 an12 : Option Addr} {sl12 : Array (Option Value)}
    {oc13 kV13 dc13 pm13 cd13 ct13 : Value} {od13 an13 : Option Addr} {sl13 : Array (Option Value)}
    {oc14 kV14 dc14 pm14 cd14 ct14 : Value} {od14 an14 : Option Addr} {sl14 : Array (Option Value)}
    {oc15 kV15 dc15 pm15 cd15 ct15 : Value} {od15 an15 : Option Addr} {sl15 : Array (Option Value)}
    {oc16 kV16 dc16 pm16 cd16 ct16 : Value} {od16 an16 : Option Addr} {sl16 : Array (Option Value)}
    {oc17 kV17 dc17 pm17 cd17 ct17 : Value} {od17 an17 : Option Addr} {sl17 : Array (Option Value)}
    {oc18 kV18 dc18 pm18 cd18 ct18 : Value} {od18 an18 : Option Addr} {sl18 : Array (Option Value)}
    {oc19 kV19 dc19 pm19 cd19 ct19 : Value} {od19 an19 : Option Addr} {sl19 : Array (Option Value)}
    {oc20 kV20 dc20 pm20 cd20 ct20 : Value} {od20 an20 : Option Addr} {sl20 : Array (Option Value)}
    {oc21 kV21 dc21 pm21 cd21 ct21 : Value} {od21 an21 : Option Addr} {sl21 : Array (Option Value)}
    {oc22 kV22 dc22 pm22 cd22 ct22 : Value} {od22 an22 : Option Addr} {sl22 : Array (Option Value)}
    {oc23 kV23 dc23 pm23 cd23 ct23 : Value} {od23 an23 : Option Addr} {sl23 : Array (Option Value)}
    {oc24 kV24 dc24 pm24 cd24 ct24 : Value} {od24 an24 : Option Addr} {sl24 : Array (Option Value)}
    {oc25 kV25 dc25 pm25 cd25 ct25 : Value} {od25 an25 : Option Addr} {sl25 : Array (Option Value)}
    {oc26 kV26 dc26 pm26 cd26 ct26 : Value} {od26 an26 : Option Addr} {sl26 : Array (Option Value)}
    {oc27 kV27 dc27 pm27 cd27 ct27 : Value} {od27 an27 : Option Addr} {sl27 : Array (Option Value)}
    {oc28 kV28 dc28 pm28 cd28 ct28 : Value} {od28 an28 : Option Addr} {sl28 : Array (Option Value)}
    {oc29 kV29 dc29 pm29 cd29 ct29 : Value} {od29 an29 : Option Addr} {sl29 : Array (Option Value)}
    {oc30 kV30 dc30 pm30 cd30 ct30 : Value} {od30 an30 : Option Addr} {sl30 : Array (Option Value)}
    {oc31 kV31 dc31 pm31 cd31 ct31 : Value} {od31 an31 : Option Addr} {sl31 : Array (Option Value)}
    {oc32 kV32 dc32 pm32 cd32 ct32 : Value} {od32 an32 : Option Addr} {sl32 : Array (Option Value)}
    {oc33 kV33 dc33 pm33 cd33 ct33 : Value} {od33 an33 : Option Addr} {sl33 : Array (Option Value)}
    {oc34 kV34 dc34 pm34 cd34 ct34 : Value} {od34 an34 : Option Addr} {sl34 : Array (Option Value)}
    {oc35 kV35 dc35 pm35 cd35 ct35 : Value} {od35 an35 : Option Addr} {sl35 : Array (Option Value)}
    {oc36 kV36 dc36 pm36 cd36 ct36 : Value} {od36 an36 : Option Addr} {sl36 : Array (Option Value)}
    {oc37 kV37 dc37 pm37 cd37 ct37 : Value} {od37 an37 : Option Addr} {sl37 : Array (Option Value)}
    {oc38 kV38 dc38 pm38 cd38 ct38 : Value} {od38 an38 : Option Addr} {sl38 : Array (Option Value)}
    {oc39 kV39 dc39 pm39 cd39 ct39 : Value} {od39 an39 : Option Addr} {sl39 : Array (Option Value)}
    {do1 : Option Addr} {t1 u1 : Tok} {n1 : Nat} {so1 : Array (Option Value)}
    {do2 : Option Addr} {t2 u2 : Tok} {n2 : Nat} {so2 : Array (Option Value)}
    (a1 : PySem.W.nsIn K mainGlobals "lowest" = some (some (.ref f1)))
    (l1 : K.lookup f1 = some ⟨oc1, od1, .func (PySem.W.fnOf "lowest" "lowest" (defArgs s_lowest) (defBody s_lowest) (defScope s_lowest) .none kV1 dc1 pm1 an1 cd1 ct1), sl1⟩)
    (c1 : PySem.W.codeIn K cd1 "lowest" = true) (k1 : PySem.W.keepIn K (.ref f1) = true)
    (a2 : PySem.W.nsIn K mainGlobals "common_denominator" = some (some (.ref f2)))
    (l2 : K.lookup f2 = some ⟨oc2, od2, .func (PySem.W.fnOf "common_denominator" "common_denominator" (defArgs s_common_denominator) (defBody s_common_denominator) (defScope s_common_denominator) .none kV2 dc2 pm2 an2 cd2 ct2), sl2⟩)
    (c2 : PySem.W.codeIn K cd2 "common_denominator" = true) (k2 : PySem.W.keepIn K (.ref f2) = true)
    (a3 : PySem.W.nsIn K mainGlobals "whole_at" = some (some (.ref f3)))
    (l3 : K.lookup f3 = some ⟨oc3, od3, .func (PySem.W.fnOf "whole_at" "whole_at" (defArgs s_whole_at) (defBody s_whole_at) (defScope s_whole_at) .none kV3 dc3 pm3 an3 cd3 ct3), sl3⟩)
    (c3 : PySem.W.codeIn K cd3 "whole_at" = true) (k3 : PySem.W.keepIn K (.ref f3) = true)
    (a4 : PySem.W.nsIn K mainGlobals "gains_of" = some (some (.ref f4)))
    (l4 : K.lookup f4 = some ⟨oc4, od4, .func (PySem.W.fnOf "gains_of" "gains_of" (defArgs s_gains_of) (defBody s_gains_of) (defScope s_gains_of) .none kV4 dc4 pm4 an4 cd4 ct4), sl4⟩)
    (c4 : PySem.W.codeIn K cd4 "gains_of" = true) (k4 : PySem.W.keepIn K (.ref f4) = true)
    (a5 : PySem.W.nsIn K mainGlobals "_chances_of" = some (some (.ref f5)))
    (l5 : K.lookup f5 = some ⟨oc5, od5, .func (PySem.W.fnOf "_chances_of" "_chances_of" (defArgs s__chances_of) (defBody s__chances_of) (defScope s__chances_of) .none kV5 dc5 pm5 an5 cd5 ct5), sl5⟩)
    (c5 : PySem.W.codeIn K cd5 "_chances_of" = true) (k5 : PySem.W.keepIn K (.ref f5) = true)
    (a6 : PySem.W.nsIn K mainGlobals "targets_of" = some (some (.ref f6)))
    (l6 : K.lookup f6 = some ⟨oc6, od6, .func (PySem.W.fnOf "targets_of" "targets_of" (defArgs s_targets_of) (defBody s_targets_of) (defScope s_targets_of) .none kV6 dc6 pm6 an6 cd6 ct6), sl6⟩)
    (c6 : PySem.W.codeIn K cd6 "targets_of" = true) (k6 : PySem.W.keepIn K (.ref f6) = true)
    (a7 : PySem.W.nsIn K mainGlobals "_scaled_worth" = some (some (.ref f7)))
    (l7 : K.lookup f7 = some ⟨oc7, od7, .func (PySem.W.fnOf "_scaled_worth" "_scaled_worth" (defArgs s__scaled_worth) (defBody s__scaled_worth) (defScope s__scaled_worth) .none kV7 dc7 pm7 an7 cd7 ct7), sl7⟩)
    (c7 : PySem.W.codeIn K cd7 "_scaled_worth" = true) (k7 : PySem.W.keepIn K (.ref f7) = true)
    (a8 : PySem.W.nsIn K mainGlobals "worths_after" = some (some (.ref f8)))
    (l8 : K.lookup f8 = some ⟨oc8, od8, .func (PySem.W.fnOf "worths_after" "worths_after" (defArgs s_worths_after) (defBody s_worths_after) (defScope s_worths_after) .none kV8 dc8 pm8 an8 cd8 ct8), sl8⟩)
    (c8 : PySem.W.codeIn K cd8 "worths_after" = true) (k8 : PySem.W.keepIn K (.ref f8) = true)
    (a9 : PySem.W.nsIn K mainGlobals "worths_from" = some (some (.ref f9)))
    (l9 : K.lookup f9 = some ⟨oc9, od9, .func (PySem.W.fnOf "worths_from" "worths_from" (defArgs s_worths_from) (defBody s_worths_from) (defScope s_worths_from) .none kV9 dc9 pm9 an9 cd9 ct9), sl9⟩)
    (c9 : PySem.W.codeIn K cd9 "worths_from" = true) (k9 : PySem.W.keepIn K (.ref f9) = true)
    (a10 : PySem.W.nsIn K mainGlobals "worths" = some (some (.ref f10)))
    (l10 : K.lookup f10 = some ⟨oc10, od10, .func (PySem.W.fnOf "worths" "worths" (defArgs s_worths) (defBody s_worths) (defScope s_worths) .none kV10 dc10 pm10 an10 cd10 ct10), sl10⟩)
    (c10 : PySem.W.codeIn K cd10 "worths" = true) (k10 : PySem.W.keepIn K (.ref f10) = true)
    (a11 : PySem.W.nsIn K mainGlobals "is_less" = some (some (.ref f11)))
    (l11 : K.lookup f11 = some ⟨oc11, od11, .func (PySem.W.fnOf "is_less" "is_less" (defArgs s_is_less) (defBody s_is_less) (defScope s_is_less) .none kV11 dc11 pm11 an11 cd11 ct11), sl11⟩)
    (c11 : PySem.W.codeIn K cd11 "is_less" = true) (k11 : PySem.W.keepIn K (.ref f11) = true)
    (a12 : PySem.W.nsIn K mainGlobals "greatest" = some (some (.ref f12)))
    (l12 : K.lookup f12 = some ⟨oc12, od12, .func (PySem.W.fnOf "greatest" "greatest" (defArgs s_greatest) (defBody s_greatest) (defScope s_greatest) .none kV12 dc12 pm12 an12 cd12 ct12), sl12⟩)
    (c12 : PySem.W.codeIn K cd12 "greatest" = true) (k12 : PySem.W.keepIn K (.ref f12) = true)
    (a13 : PySem.W.nsIn K mainGlobals "least" = some (some (.ref f13)))
    (l13 : K.lookup f13 = some ⟨oc13, od13, .func (PySem.W.fnOf "least" "least" (defArgs s_least) (defBody s_least) (defScope s_least) .none kV13 dc13 pm13 an13 cd13 ct13), sl13⟩)
    (c13 : PySem.W.codeIn K cd13 "least" = true) (k13 : PySem.W.keepIn K (.ref f13) = true)
    (a14 : PySem.W.nsIn K mainGlobals "minus" = some (some (.ref f14)))
    (l14 : K.lookup f14 = some ⟨oc14, od14, .func (PySem.W.fnOf "minus" "minus" (defArgs s_minus) (defBody s_minus) (defScope s_minus) .none kV14 dc14 pm14 an14 cd14 ct14), sl14⟩)
    (c14 : PySem.W.codeIn K cd14 "minus" = true) (k14 : PySem.W.keepIn K (.ref f14) = true)
    (a15 : PySem.W.nsIn K mainGlobals "bracket" = some (some (.ref f15)))
    (l15 : K.lookup f15 = some ⟨oc15, od15, .func (PySem.W.fnOf "bracket" "bracket" (defArgs s_bracket) (defBody s_bracket) (defScope s_bracket) .none kV15 dc15 pm15 an15 cd15 ct15), sl15⟩)
    (c15 : PySem.W.codeIn K cd15 "bracket" = true) (k15 : PySem.W.keepIn K (.ref f15) = true)
    (a16 : PySem.W.nsIn K mainGlobals "_law_draws" = some (some (.ref f16)))
    (l16 : K.lookup f16 = some ⟨oc16, od16, .func (PySem.W.fnOf "_law_draws" "_law_draws" (defArgs s_draws) (defBody s_draws) (defScope s_draws) .none kV16 dc16 pm16 an16 cd16 ct16), sl16⟩)
    (c16 : PySem.W.codeIn K cd16 "_law_draws" = true) (k16 : PySem.W.keepIn K (.ref f16) = true)
    (a17 : PySem.W.nsIn K mainGlobals "_law_gcd" = some (some (.ref f17)))
    (l17 : K.lookup f17 = some ⟨oc17, od17, .func (PySem.W.fnOf "_law_gcd" "_law_gcd" (defArgs s_gcd) (defBody s_gcd) (defScope s_gcd) .none kV17 dc17 pm17 an17 cd17 ct17), sl17⟩)
    (c17 : PySem.W.codeIn K cd17 "_law_gcd" = true) (k17 : PySem.W.keepIn K (.ref f17) = true)
    (a18 : PySem.W.nsIn K mainGlobals "_law_number" = some (some (.ref f18)))
    (l18 : K.lookup f18 = some ⟨oc18, od18, .func (PySem.W.fnOf "_law_number" "_law_number" (defArgs s_number) (defBody s_number) (defScope s_number) .none kV18 dc18 pm18 an18 cd18 ct18), sl18⟩)
    (c18 : PySem.W.codeIn K cd18 "_law_number" = true) (k18 : PySem.W.keepIn K (.ref f18) = true)
    (a19 : PySem.W.nsIn K mainGlobals "_law_plus" = some (some (.ref f19)))
    (l19 : K.lookup f19 = some ⟨oc19, od19, .func (PySem.W.fnOf "_law_plus" "_law_plus" (defArgs s_plus_) (defBody s_plus_) (defScope s_plus_) .none kV19 dc19 pm19 an19 cd19 ct19), sl19⟩)
    (c19 : PySem.W.codeIn K cd19 "_law_plus" = true) (k19 : PySem.W.keepIn K (.ref f19) = true)
    (a20 : PySem.W.nsIn K mainGlobals "_law_times" = some (some (.ref f20)))
    (l20 : K.lookup f20 = some ⟨oc20, od20, .func (PySem.W.fnOf "_law_times" "_law_times" (defArgs s_times_) (defBody s_times_) (defScope s_times_) .none kV20 dc20 pm20 an20 cd20 ct20), sl20⟩)
    (c20 : PySem.W.codeIn K cd20 "_law_times" = true) (k20 : PySem.W.keepIn K (.ref f20) = true)
    (a21 : PySem.W.nsIn K mainGlobals "_law_less" = some (some (.ref f21)))
    (l21 : K.lookup f21 = some ⟨oc21, od21, .func (PySem.W.fnOf "_law_less" "_law_less" (defArgs s_less) (defBody s_less) (defScope s_less) .none kV21 dc21 pm21 an21 cd21 ct21), sl21⟩)
    (c21 : PySem.W.codeIn K cd21 "_law_less" = true) (k21 : PySem.W.keepIn K (.ref f21) = true)
    (a22 : PySem.W.nsIn K mainGlobals "_law_total" = some (some (.ref f22)))
    (l22 : K.lookup f22 = some ⟨oc22, od22, .func (PySem.W.fnOf "_law_total" "_law_total" (defArgs s_total_) (defBody s_total_) (defScope s_total_) .none kV22 dc22 pm22 an22 cd22 ct22), sl22⟩)
    (c22 : PySem.W.codeIn K cd22 "_law_total" = true) (k22 : PySem.W.keepIn K (.ref f22) = true)
    (a23 : PySem.W.nsIn K mainGlobals "_law_is_number" = some (some (.ref f23)))
    (l23 : K.lookup f23 = some ⟨oc23, od23, .func (PySem.W.fnOf "_law_is_number" "_law_is_number" (defArgs s_is_number) (defBody s_is_number) (defScope s_is_number) .none kV23 dc23 pm23 an23 cd23 ct23), sl23⟩)
    (c23 : PySem.W.codeIn K cd23 "_law_is_number" = true) (k23 : PySem.W.keepIn K (.ref f23) = true)
    (a24 : PySem.W.nsIn K mainGlobals "_law_is_numbers" = some (some (.ref f24)))
    (l24 : K.lookup f24 = some ⟨oc24, od24, .func (PySem.W.fnOf "_law_is_numbers" "_law_is_numbers" (defArgs s_is_numbers) (defBody s_is_numbers) (defScope s_is_numbers) .none kV24 dc24 pm24 an24 cd24 ct24), sl24⟩)
    (c24 : PySem.W.codeIn K cd24 "_law_is_numbers" = true) (k24 : PySem.W.keepIn K (.ref f24) = true)
    (a25 : PySem.W.nsIn K mainGlobals "_law_place" = some (some (.ref f25)))
    (l25 : K.lookup f25 = some ⟨oc25, od25, .func (PySem.W.fnOf "_law_place" "_law_place" (defArgs s_place) (defBody s_place) (defScope s_place) .none kV25 dc25 pm25 an25 cd25 ct25), sl25⟩)
    (c25 : PySem.W.codeIn K cd25 "_law_place" = true) (k25 : PySem.W.keepIn K (.ref f25) = true)
    (a26 : PySem.W.nsIn K mainGlobals "_law_game" = some (some (.ref f26)))
    (l26 : K.lookup f26 = some ⟨oc26, od26, .func (PySem.W.fnOf "_law_game" "_law_game" (defArgs s_game) (defBody s_game) (defScope s_game) .none kV26 dc26 pm26 an26 cd26 ct26), sl26⟩)
    (c26 : PySem.W.codeIn K cd26 "_law_game" = true) (k26 : PySem.W.keepIn K (.ref f26) = true)
    (a27 : PySem.W.nsIn K mainGlobals "_law_onward" = some (some (.ref f27)))
    (l27 : K.lookup f27 = some ⟨oc27, od27, .func (PySem.W.fnOf "_law_onward" "_law_onward" (defArgs s_onward) (defBody s_onward) (defScope s_onward) .none kV27 dc27 pm27 an27 cd27 ct27), sl27⟩)
    (c27 : PySem.W.codeIn K cd27 "_law_onward" = true) (k27 : PySem.W.keepIn K (.ref f27) = true)
    (a28 : PySem.W.nsIn K mainGlobals "_law_stepped" = some (some (.ref f28)))
    (l28 : K.lookup f28 = some ⟨oc28, od28, .func (PySem.W.fnOf "_law_stepped" "_law_stepped" (defArgs s_stepped) (defBody s_stepped) (defScope s_stepped) .none kV28 dc28 pm28 an28 cd28 ct28), sl28⟩)
    (c28 : PySem.W.codeIn K cd28 "_law_stepped" = true) (k28 : PySem.W.keepIn K (.ref f28) = true)
    (a29 : PySem.W.nsIn K mainGlobals "_law_targets" = some (some (.ref f29)))
    (l29 : K.lookup f29 = some ⟨oc29, od29, .func (PySem.W.fnOf "_law_targets" "_law_targets" (defArgs s_targets) (defBody s_targets) (defScope s_targets) .none kV29 dc29 pm29 an29 cd29 ct29), sl29⟩)
    (c29 : PySem.W.codeIn K cd29 "_law_targets" = true) (k29 : PySem.W.keepIn K (.ref f29) = true)
    (a30 : PySem.W.nsIn K mainGlobals "_law_reached" = some (some (.ref f30)))
    (l30 : K.lookup f30 = some ⟨oc30, od30, .func (PySem.W.fnOf "_law_reached" "_law_reached" (defArgs s_reached) (defBody s_reached) (defScope s_reached) .none kV30 dc30 pm30 an30 cd30 ct30), sl30⟩)
    (c30 : PySem.W.codeIn K cd30 "_law_reached" = true) (k30 : PySem.W.keepIn K (.ref f30) = true)
    (a31 : PySem.W.nsIn K mainGlobals "_law_put" = some (some (.ref f31)))
    (l31 : K.lookup f31 = some ⟨oc31, od31, .func (PySem.W.fnOf "_law_put" "_law_put" (defArgs s_put) (defBody s_put) (defScope s_put) .none kV31 dc31 pm31 an31 cd31 ct31), sl31⟩)
    (c31 : PySem.W.codeIn K cd31 "_law_put" = true) (k31 : PySem.W.keepIn K (.ref f31) = true)
    (a32 : PySem.W.nsIn K mainGlobals "_law_all" = some (some (.ref f32)))
    (l32 : K.lookup f32 = some ⟨oc32, od32, .func (PySem.W.fnOf "_law_all" "_law_all" (defArgs s_all) (defBody s_all) (defScope s_all) .none kV32 dc32 pm32 an32 cd32 ct32), sl32⟩)
    (c32 : PySem.W.codeIn K cd32 "_law_all" = true) (k32 : PySem.W.keepIn K (.ref f32) = true)
    (a33 : PySem.W.nsIn K mainGlobals "_law_solved" = some (some (.ref f33)))
    (l33 : K.lookup f33 = some ⟨oc33, od33, .func (PySem.W.fnOf "_law_solved" "_law_solved" (defArgs s_solved_) (defBody s_solved_) (defScope s_solved_) .none kV33 dc33 pm33 an33 cd33 ct33), sl33⟩)
    (c33 : PySem.W.codeIn K cd33 "_law_solved" = true) (k33 : PySem.W.keepIn K (.ref f33) = true)
    (a34 : PySem.W.nsIn K mainGlobals "_law_class_gain" = some (some (.ref f34)))
    (l34 : K.lookup f34 = some ⟨oc34, od34, .func (PySem.W.fnOf "_law_class_gain" "_law_class_gain" (defArgs s_class_gain) (defBody s_class_gain) (defScope s_class_gain) .none kV34 dc34 pm34 an34 cd34 ct34), sl34⟩)
    (c34 : PySem.W.codeIn K cd34 "_law_class_gain" = true) (k34 : PySem.W.keepIn K (.ref f34) = true)
    (a35 : PySem.W.nsIn K mainGlobals "_law_gains" = some (some (.ref f35)))
    (l35 : K.lookup f35 = some ⟨oc35, od35, .func (PySem.W.fnOf "_law_gains" "_law_gains" (defArgs s_gains) (defBody s_gains) (defScope s_gains) .none kV35 dc35 pm35 an35 cd35 ct35), sl35⟩)
    (c35 : PySem.W.codeIn K cd35 "_law_gains" = true) (k35 : PySem.W.keepIn K (.ref f35) = true)
    (a36 : PySem.W.nsIn K mainGlobals "_law_worse" = some (some (.ref f36)))
    (l36 : K.lookup f36 = some ⟨oc36, od36, .func (PySem.W.fnOf "_law_worse" "_law_worse" (defArgs s_worse) (defBody s_worse) (defScope s_worse) .none kV36 dc36 pm36 an36 cd36 ct36), sl36⟩)
    (c36 : PySem.W.codeIn K cd36 "_law_worse" = true) (k36 : PySem.W.keepIn K (.ref f36) = true)
    (a37 : PySem.W.nsIn K mainGlobals "_law_values" = some (some (.ref f37)))
    (l37 : K.lookup f37 = some ⟨oc37, od37, .func (PySem.W.fnOf "_law_values" "_law_values" (defArgs s_values_) (defBody s_values_) (defScope s_values_) .none kV37 dc37 pm37 an37 cd37 ct37), sl37⟩)
    (c37 : PySem.W.codeIn K cd37 "_law_values" = true) (k37 : PySem.W.keepIn K (.ref f37) = true)
    (a38 : PySem.W.nsIn K mainGlobals "_law_few" = some (some (.ref f38)))
    (l38 : K.lookup f38 = some ⟨oc38, od38, .func (PySem.W.fnOf "_law_few" "_law_few" (defArgs s_few) (defBody s_few) (defScope s_few) .none kV38 dc38 pm38 an38 cd38 ct38), sl38⟩)
    (c38 : PySem.W.codeIn K cd38 "_law_few" = true) (k38 : PySem.W.keepIn K (.ref f38) = true)
    (a39 : PySem.W.nsIn K mainGlobals "law" = some (some (.ref f39)))
    (l39 : K.lookup f39 = some ⟨oc39, od39, .func (PySem.W.fnOf "law" "law" (defArgs s_law) (defBody s_law) (defScope s_law) .none kV39 dc39 pm39 an39 cd39 ct39), sl39⟩)
    (c39 : PySem.W.codeIn K cd39 "law" = true) (k39 : PySem.W.keepIn K (.ref f39) = true)
    (ac1 : PySem.W.nsIn K mainGlobals "ZERO" = some (some (.ref g1))) (lc1 : K.lookup g1 = some ⟨.type "tuple", do1, .seq (List.toArray [Value.int 0 t1, Value.int 1 u1]) n1, so1⟩)
    (ac2 : PySem.W.nsIn K mainGlobals "ONE" = some (some (.ref g2))) (lc2 : K.lookup g2 = some ⟨.type "tuple", do2, .seq (List.toArray [Value.int 1 t2, Value.int 1 u2]) n2, so2⟩)
    (z_len : PySem.W.nsIn K mainGlobals "len" = some none)
    (z_int : PySem.W.nsIn K mainGlobals "int" = some none)
    (z_range : PySem.W.nsIn K mainGlobals "range" = some none)
    (z_abs : PySem.W.nsIn K mainGlobals "abs" = some none)
    (z_repr : PySem.W.nsIn K mainGlobals "repr" = some none)
    (z_list : PySem.W.nsIn K mainGlobals "list" = some none)
    (z_isinstance : PySem.W.nsIn K mainGlobals "isinstance" = some none)
    (z_sum : PySem.W.nsIn K mainGlobals "sum" = some none)
    (z_zip : PySem.W.nsIn K mainGlobals "zip" = some none)
    (z_bool : PySem.W.nsIn K mainGlobals "bool" = some none)
    (z_enumerate : PySem.W.nsIn K mainGlobals "enumerate" = some none)
    (z_tuple : PySem.W.nsIn K mainGlobals "tuple" = some none)
    (z_str : PySem.W.nsIn K mainGlobals "str" = some none)
    (z_all : PySem.W.nsIn K mainGlobals "all" = some none)
    (z_any : PySem.W.nsIn K mainGlobals "any" = some none)
    (z_min : PySem.W.nsIn K mainGlobals "min" = some none)
    (z_max : PySem.W.nsIn K mainGlobals "max" = some none)
    (hgcd : PySem.W.nsIn K mainGlobals "gcd" = some (some (.builtin "math.gcd")))
    (hlcm : PySem.W.nsIn K mainGlobals "lcm" = some (some (.builtin "math.lcm")))
    (zsorted : PySem.W.nsIn K mainGlobals "sorted" = some none) :
    ∃ fd : FuncData, (∀ (s : Shared) (v : Value), BindsTo s fd ⟨[v], []⟩ [("script", v)]) ∧ ∀ B : Heap, K.In B → B.Ns mainGlobals mg → LawOk l.prog w K mg B 8 fa fd ["script"] (spLaw K) := by
  have e := hfa.symm.trans (PySem.W.mg_of X G a39)
  cases e
  have T : Bt mg := ⟨PySem.W.mg_none_of X G z_len, PySem.W.mg_none_of X G z_int, PySem.W.mg_none_of X G z_range, PySem.W.mg_none_of X G z_abs, PySem.W.mg_none_of X G z_repr, PySem.W.mg_none_of X G z_list, PySem.W.mg_none_of X G z_isinstance, PySem.W.mg_none_of X G z_sum, PySem.W.mg_none_of X G z_zip, PySem.W.mg_none_of X G z_bool, PySem.W.mg_none_of X G z_enumerate, PySem.W.mg_none_of X G z_tuple, PySem.W.mg_none_of X G z_str, PySem.W.mg_none_of X G z_all, PySem.W.mg_none_of X G z_any, PySem.W.mg_none_of X G z_min, PySem.W.mg_none_of X G z_max⟩
  have F1 := fun_mk (st := s_lowest) l1 c1 k1
  have D1 : IsDef K mg "lowest" s_lowest ["n", "d"] := ⟨_, _, F1, PySem.W.mg_of X G a1, F1.binds (ps := ["n", "d"]) fun _ _ _ _ _ _ us hl => match us, hl with | [_, _], _ => rfl⟩
  have F2 := fun_mk (st := s_common_denominator) l2 c2 k2
  have D2 : IsDef K mg "common_denominator" s_common_denominator ["numbers"] := ⟨_, _, F2, PySem.W.mg_of X G a2, F2.binds (ps := ["numbers"]) fun _ _ _ _ _ _ us hl => match us, hl with | [_], _ => rfl⟩
  have F3 := fun_mk (st := s_whole_at) l3 c3 k3
  have D3 : IsDef K mg "whole_at" s_whole_at ["number", "denominator"] := ⟨_, _, F3, PySem.W.mg_of X G a3, F3.binds (ps := ["number", "denominator"]) fun _ _ _ _ _ _ us hl => match us, hl with | [_, _], _ => rfl⟩
  have F4 := fun_mk (st := s_gains_of) l4 c4 k4
  have D4 : IsDef K mg "gains_of" s_gains_of ["game"] := ⟨_, _, F4, PySem.W.mg_of X G a4, F4.binds (ps := ["game"]) fun _ _ _ _ _ _ us hl => match us, hl with | [_], _ => rfl⟩
  have F5 := fun_mk (st := s__chances_of) l5 c5 k5
  have D5 : IsDef K mg "_chances_of" s__chances_of ["game"] := ⟨_, _, F5, PySem.W.mg_of X G a5, F5.binds (ps := ["game"]) fun _ _ _ _ _ _ us hl => match us, hl with | [_], _ => rfl⟩
  have F6 := fun_mk (st := s_targets_of) l6 c6 k6
  have D6 : IsDef K mg "targets_of" s_targets_of ["place"] := ⟨_, _, F6, PySem.W.mg_of X G a6, F6.binds (ps := ["place"]) fun _ _ _ _ _ _ us hl => match us, hl with | [_], _ => rfl⟩
  have F7 := fun_mk (st := s__scaled_worth) l7 c7 k7
  have D7 : IsDef K mg "_scaled_worth" s__scaled_worth ["place", "worths", "scale"] := ⟨_, _, F7, PySem.W.mg_of X G a7, F7.binds (ps := ["place", "worths", "scale"]) fun _ _ _ _ _ _ us hl => match us, hl with | [_, _, _], _ => rfl⟩
  have F8 := fun_mk (st := s_worths_after) l8 c8 k8
  have D8 : IsDef K mg "worths_after" s_worths_after ["game", "discount", "start", "steps"] := ⟨_, _, F8, PySem.W.mg_of X G a8, F8.binds (ps := ["game", "discount", "start", "steps"]) fun _ _ _ _ _ _ us hl => match us, hl with | [_, _, _, _], _ => rfl⟩
  have F9 := fun_mk (st := s_worths_from) l9 c9 k9
  have D9 : IsDef K mg "worths_from" s_worths_from ["game", "start", "steps"] := ⟨_, _, F9, PySem.W.mg_of X G a9, F9.binds (ps := ["game", "start", "steps"]) fun _ _ _ _ _ _ us hl => match us, hl with | [_, _, _], _ => rfl⟩
  have F10 := fun_mk (st := s_worths) l10 c10 k10
  have D10 : IsDef K mg "worths" s_worths ["game", "steps"] := ⟨_, _, F10, PySem.W.mg_of X G a10, F10.binds (ps := ["game", "steps"]) fun _ _ _ _ _ _ us hl => match us, hl with | [_, _], _ => rfl⟩
  have F11 := fun_mk (st := s_is_less) l11 c11 k11
  have D11 : IsDef K mg "is_less" s_is_less ["a", "b"] := ⟨_, _, F11, PySem.W.mg_of X G a11, F11.binds (ps := ["a", "b"]) fun _ _ _ _ _ _ us hl => match us, hl with | [_, _], _ => rfl⟩
  have F12 := fun_mk (st := s_greatest) l12 c12 k12
  have D12 : IsDef K mg "greatest" s_greatest ["numbers"] := ⟨_, _, F12, PySem.W.mg_of X G a12, F12.binds (ps := ["numbers"]) fun _ _ _ _ _ _ us hl => match us, hl with | [_], _ => rfl⟩
  have F13 := fun_mk (st := s_least) l13 c13 k13
  have D13 : IsDef K mg "least" s_least ["numbers"] := ⟨_, _, F13, PySem.W.mg_of X G a13, F13.binds (ps := ["numbers"]) fun _ _ _ _ _ _ us hl => match us, hl with | [_], _ => rfl⟩
  have F14 := fun_mk (st := s_minus) l14 c14 k14
  have D14 : IsDef K mg "minus" s_minus ["a", "b"] := ⟨_, _, F14, PySem.W.mg_of X G a14, F14.binds (ps := ["a", "b"]) fun _ _ _ _ _ _ us hl => match us, hl with | [_, _], _ => rfl⟩
  have F15 := fun_mk (st := s_bracket) l15 c15 k15
  have D15 : IsDef K mg "bracket" s_bracket ["game", "steps"] := ⟨_, _, F15, PySem.W.mg_of X G a15, F15.binds (ps := ["game", "steps"]) fun _ _ _ _ _ _ us hl => match us, hl with | [_, _], _ => rfl⟩
  have F16 := fun_mk (st := s_draws) l16 c16 k16
  have D16 : IsDef K mg "_law_draws" s_draws ["script", "count"] := ⟨_, _, F16, PySem.W.mg_of X G a16, F16.binds (ps := ["script", "count"]) fun _ _ _ _ _ _ us hl => match us, hl with | [_, _], _ => rfl⟩
  have F17 := fun_mk (st := s_gcd) l17 c17 k17
  have D17 : IsDef K mg "_law_gcd" s_gcd ["a", "b"] := ⟨_, _, F17, PySem.W.mg_of X G a17, F17.binds (ps := ["a", "b"]) fun _ _ _ _ _ _ us hl => match us, hl with | [_, _], _ => rfl⟩
  have F18 := fun_mk (st := s_number) l18 c18 k18
  have D18 : IsDef K mg "_law_number" s_number ["n", "d"] := ⟨_, _, F18, PySem.W.mg_of X G a18, F18.binds (ps := ["n", "d"]) fun _ _ _ _ _ _ us hl => match us, hl with | [_, _], _ => rfl⟩
  have F19 := fun_mk (st := s_plus_) l19 c19 k19
  have D19 : IsDef K mg "_law_plus" s_plus_ ["a", "b"] := ⟨_, _, F19, PySem.W.mg_of X G a19, F19.binds (ps := ["a", "b"]) fun _ _ _ _ _ _ us hl => match us, hl with | [_, _], _ => rfl⟩
  have F20 := fun_mk (st := s_times_) l20 c20 k20
  have D20 : IsDef K mg "_law_times" s_times_ ["a", "b"] := ⟨_, _, F20, PySem.W.mg_of X G a20, F20.binds (ps := ["a", "b"]) fun _ _ _ _ _ _ us hl => match us, hl with | [_, _], _ => rfl⟩
  have F21 := fun_mk (st := s_less) l21 c21 k21
  have D21 : IsDef K mg "_law_less" s_less ["a", "b"] := ⟨_, _, F21, PySem.W.mg_of X G a21, F21.binds (ps := ["a", "b"]) fun _ _ _ _ _ _ us hl => match us, hl with | [_, _], _ => rfl⟩
  have F22 := fun_mk (st := s_total_) l22 c22 k22
  have D22 : IsDef K mg "_law_total" s_total_ ["numbers"] := ⟨_, _, F22, PySem.W.mg_of X G a22, F22.binds (ps := ["numbers"]) fun _ _ _ _ _ _ us hl => match us, hl with | [_], _ => rfl⟩
  have F23 := fun_mk (st := s_is_number) l23 c23 k23
  have D23 : IsDef K mg "_law_is_number" s_is_number ["actual"] := ⟨_, _, F23, PySem.W.mg_of X G a23, F23.binds (ps := ["actual"]) fun _ _ _ _ _ _ us hl => match us, hl with | [_], _ => rfl⟩
  have F24 := fun_mk (st := s_is_numbers) l24 c24 k24
  have D24 : IsDef K mg "_law_is_numbers" s_is_numbers ["actual"] := ⟨_, _, F24, PySem.W.mg_of X G a24, F24.binds (ps := ["actual"]) fun _ _ _ _ _ _ us hl => match us, hl with | [_], _ => rfl⟩
  have F25 := fun_mk (st := s_place) l25 c25 k25
  have D25 : IsDef K mg "_law_place" s_place ["draws", "many"] := ⟨_, _, F25, PySem.W.mg_of X G a25, F25.binds (ps := ["draws", "many"]) fun _ _ _ _ _ _ us hl => match us, hl with | [_, _], _ => rfl⟩
  have F26 := fun_mk (st := s_game) l26 c26 k26
  have D26 : IsDef K mg "_law_game" s_game ["draws", "most"] := ⟨_, _, F26, PySem.W.mg_of X G a26, F26.binds (ps := ["draws", "most"]) fun _ _ _ _ _ _ us hl => match us, hl with | [_, _], _ => rfl⟩
  have F27 := fun_mk (st := s_onward) l27 c27 k27
  have D27 : IsDef K mg "_law_onward" s_onward ["place", "row"] := ⟨_, _, F27, PySem.W.mg_of X G a27, F27.binds (ps := ["place", "row"]) fun _ _ _ _ _ _ us hl => match us, hl with | [_, _], _ => rfl⟩
  have F28 := fun_mk (st := s_stepped) l28 c28 k28
  have D28 : IsDef K mg "_law_stepped" s_stepped ["game", "row"] := ⟨_, _, F28, PySem.W.mg_of X G a28, F28.binds (ps := ["game", "row"]) fun _ _ _ _ _ _ us hl => match us, hl with | [_, _], _ => rfl⟩
  have F29 := fun_mk (st := s_targets) l29 c29 k29
  have D29 : IsDef K mg "_law_targets" s_targets ["place"] := ⟨_, _, F29, PySem.W.mg_of X G a29, F29.binds (ps := ["place"]) fun _ _ _ _ _ _ us hl => match us, hl with | [_], _ => rfl⟩
  have F30 := fun_mk (st := s_reached) l30 c30 k30
  have D30 : IsDef K mg "_law_reached" s_reached ["game", "place"] := ⟨_, _, F30, PySem.W.mg_of X G a30, F30.binds (ps := ["game", "place"]) fun _ _ _ _ _ _ us hl => match us, hl with | [_, _], _ => rfl⟩
  have F31 := fun_mk (st := s_put) l31 c31 k31
  have D31 : IsDef K mg "_law_put" s_put ["game", "side", "strategy"] := ⟨_, _, F31, PySem.W.mg_of X G a31, F31.binds (ps := ["game", "side", "strategy"]) fun _ _ _ _ _ _ us hl => match us, hl with | [_, _, _], _ => rfl⟩
  have F32 := fun_mk (st := s_all) l32 c32 k32
  have D32 : IsDef K mg "_law_all" s_all ["game", "side"] := ⟨_, _, F32, PySem.W.mg_of X G a32, F32.binds (ps := ["game", "side"]) fun _ _ _ _ _ _ us hl => match us, hl with | [_, _], _ => rfl⟩
  have F33 := fun_mk (st := s_solved_) l33 c33 k33
  have D33 : IsDef K mg "_law_solved" s_solved_ ["rows", "many"] := ⟨_, _, F33, PySem.W.mg_of X G a33, F33.binds (ps := ["rows", "many"]) fun _ _ _ _ _ _ us hl => match us, hl with | [_, _], _ => rfl⟩
  have F34 := fun_mk (st := s_class_gain) l34 c34 k34
  have D34 : IsDef K mg "_law_class_gain" s_class_gain ["chain", "places"] := ⟨_, _, F34, PySem.W.mg_of X G a34, F34.binds (ps := ["chain", "places"]) fun _ _ _ _ _ _ us hl => match us, hl with | [_, _], _ => rfl⟩
  have F35 := fun_mk (st := s_gains) l35 c35 k35
  have D35 : IsDef K mg "_law_gains" s_gains ["chain"] := ⟨_, _, F35, PySem.W.mg_of X G a35, F35.binds (ps := ["chain"]) fun _ _ _ _ _ _ us hl => match us, hl with | [_], _ => rfl⟩
  have F36 := fun_mk (st := s_worse) l36 c36 k36
  have D36 : IsDef K mg "_law_worse" s_worse ["rows", "smaller"] := ⟨_, _, F36, PySem.W.mg_of X G a36, F36.binds (ps := ["rows", "smaller"]) fun _ _ _ _ _ _ us hl => match us, hl with | [_, _], _ => rfl⟩
  have F37 := fun_mk (st := s_values_) l37 c37 k37
  have D37 : IsDef K mg "_law_values" s_values_ ["game"] := ⟨_, _, F37, PySem.W.mg_of X G a37, F37.binds (ps := ["game"]) fun _ _ _ _ _ _ us hl => match us, hl with | [_], _ => rfl⟩
  have F38 := fun_mk (st := s_few) l38 c38 k38
  have D38 : IsDef K mg "_law_few" s_few ["game", "most"] := ⟨_, _, F38, PySem.W.mg_of X G a38, F38.binds (ps := ["game", "most"]) fun _ _ _ _ _ _ us hl => match us, hl with | [_, _], _ => rfl⟩
  have m_gcdB := PySem.W.mg_of X G hgcd
  have m_lcmB := PySem.W.mg_of X G hlcm
  have m_sorted := PySem.W.mg_none_of X G zsorted
  have C1 : ConstT K mg "ZERO" (nD (0, 1)) := ⟨_, PySem.W.mg_of X G ac1, fun H => Dt.tuple (xs := [V.int 0, V.int 1]) (.inr ⟨_, _, _, lc1, rfl, rfl, by show 2 ≤ sizeLine; decide, .cons ⟨_, rfl⟩ (.cons ⟨_, rfl⟩ .nil)⟩) (DtA.cons (Dt.int 0) (DtA.one (Dt.int 1)))⟩
  have C2 : ConstT K mg "ONE" (nD (1, 1)) := ⟨_, PySem.W.mg_of X G ac2, fun H => Dt.tuple (xs := [V.int 1, V.int 1]) (.inr ⟨_, _, _, lc2, rfl, rfl, by show 2 ≤ sizeLine; decide, .cons ⟨_, rfl⟩ (.cons ⟨_, rfl⟩ .nil)⟩) (DtA.cons (Dt.int 1) (DtA.one (Dt.int 1)))⟩
  refine ⟨PySem.W.fnOf "law" "law" (defArgs s_law) (defBody s_law) (defScope s_law) .none kV39 dc39 pm39 an39 cd39 ct39, fun s v => .of_eq rfl, fun B _ _ => ?_⟩
  have Wl := (has_lowest (P := l.prog) (w := w) (base := B) m_gcdB D1).to fun _ _ _ _ => c_low
  have Wd := (has_common_denominator (P := l.prog) (w := w) (base := B) m_lcmB D2).to fun _ _ _ _ => c_den
  have Ww0 := has_whole_at (P := l.prog) (w := w) (base := B) D3
  have Ww := Ww0.to fun _ _ _ _ => c_wha
  have Wg := (has_gains_ofV (P := l.prog) (w := w) (base := B) D4).to fun _ _ _ _ => c_gains
  have Wc := (has_chances_of (P := l.prog) (w := w) (base := B) D5).to fun _ _ _ _ => c_chs
  have Wt := has_targets_ofV (P := l.prog) (w := w) (base := B) T D6
  have Ws := (has_scaled_worth T D7 Ww0 Wt).to fun _ _ _ _ => c_sw
  have Wa := has_worths_after D8 T Wd Wg Wc Ww Ws Wl
  have Wf := has_worths_from D9 T C2 Wa
  have Wo := has_worths D10 T C1 Wf
  have Wl0 := has_lowest (P := l.prog) (w := w) (base := B) m_gcdB D1
  have Omi := has_minusR D14 Wl0
  have Wmi := Omi.to fun _ _ _ _ => c_min
  have Wle := has_is_less (P := l.prog) (w := w) (base := B) D11 T
  have Whi := has_greatest D12 T Wle
  have Wlo := has_least D13 T Wle
  have Wbrk := has_bracket D15 T Wo Wf Wmi Whi Wlo
  have Ug := has_gcdW (P := l.prog) (w := w) (base := B) T D17
  have Un := has_numberW D18 Ug
  have Unw := numberW_weak Un
  have Ud := has_draws (P := l.prog) (w := w) (base := B) T D16
  have Up0 := has_plusW D19 Un
  have Ut0 := has_timesW D20 Un
  have Ul0 := has_lessW (P := l.prog) (w := w) (base := B) D21
  have Ul := Ul0.to fun _ _ _ _ => c_lessW
  have Uto0 := has_totW D22 Up0
  have Uto := Uto0.to fun _ _ _ _ => c_totW
  have Up := Up0.to fun _ _ _ _ => c_plusW
  have Ut := Ut0.to fun _ _ _ _ => c_timesW
  have Uin0 := has_is_numberW T D23 Ug
  have Uin := Uin0.to fun _ _ _ _ => c_isNW
  have Uil := (has_is_numbersW T D24 Uin0).to fun _ _ _ _ => c_isLW
  have Upl := has_place6 T D25 Unw
  have Uga := (has_game6 T D26 Upl).to fun _ _ _ _ => c_gameP
  have Uon := has_onward D27 T Uto Ut Ul
  have Ust := has_stepped D28 T Up Uon
  have Uni := Un.to fun _ _ _ _ => c_numI
  have Unk := Unw.to fun _ _ _ _ => c_num
  have Utg := has_targets (P := l.prog) (w := w) (base := B) D29 T
  have Urc := has_reached D30 m_sorted T Utg
  have Uput := has_put (P := l.prog) (w := w) (base := B) D31 T
  have Uall := has_all (P := l.prog) (w := w) (base := B) D32 T
  have Uso := has_solved_ D33 T Uni Up Ut
  have Ucg := has_class_gain D34 T Up Ut Uto Uso
  have Ugn := has_gains D35 T Up Ut Urc Ucg Uso
  have Uwo := has_worse D36 T Ul
  have Uva := has_values_ D37 T Uall Uput Ugn Uwo
  have Ufe := has_few (P := l.prog) (w := w) (base := B) D38 T
  exact ok_law (fun_mk (st := s_law) l39 c39 k39) Ud T Ufe Uga Up Ul Ust Uil Uva Wbrk
end Md

open PySem PySem.W PyProof.Rows in
set_option maxRecDepth 100000 in
set_option maxHeartbeats 0 in
theorem PySem.Challenge.cw_meanhold_k51_brackets_holds : PySem.Challenge.rw_meanhold_k51_brackets.Holds := by
  w_on; o_law; k_head; (case hw => w_witness2)
  k_fill
  refine Md.law_walk (l := PySem.Challenge.rw_meanhold_k51_brackets) (k := 8) (sp := Md.spLaw) (x := "script") rfl rfl ⟨rfl, by decide, by decide⟩ (fun w h Y => PySem.W.kIn_of Y) ?F (fun K H a ns hl _ hS => ⟨a, ns, rfl, hS, hl, fun _ => rfl⟩)
  case F =>
    intro w mg fa h KX G hmg
    refine' Md.all_mk KX G hmg ?a1 ?l1 ?c1 ?k1 ?a2 ?l2 ?c2 ?k2 ?a3 ?l3 ?c3 ?k3 ?a4 ?l4 ?c4 ?k4 ?a5 ?l5 ?c5 ?k5 ?a6 ?l6 ?c6 ?k6 ?a7 ?l7 ?c7 ?k7 ?a8 ?l8 ?c8 ?k8 ?a9 ?l9 ?c9 ?k9 ?a10 ?l10 ?c10 ?k10 ?a11 ?l11 ?c11 ?k11 ?a12 ?l12 ?c12 ?k12 ?a13 ?l13 ?c13 ?k13 ?a14 ?l14 ?c14 ?k14 ?a15 ?l15 ?c15 ?k15 ?a16 ?l16 ?c16 ?k16 ?a17 ?l17 ?c17 ?k17 ?a18 ?l18 ?c18 ?k18 ?a19 ?l19 ?c19 ?k19 ?a20 ?l20 ?c20 ?k20 ?a21 ?l21 ?c21 ?k21 ?a22 ?l22 ?c22 ?k22 ?a23 ?l23 ?c23 ?k23 ?a24 ?l24 ?c24 ?k24 ?a25 ?l25 ?c25 ?k25 ?a26 ?l26 ?c26 ?k26 ?a27 ?l27 ?c27 ?k27 ?a28 ?l28 ?c28 ?k28 ?a29 ?l29 ?c29 ?k29 ?a30 ?l30 ?c30 ?k30 ?a31 ?l31 ?c31 ?k31 ?a32 ?l32 ?c32 ?k32 ?a33 ?l33 ?c33 ?k33 ?a34 ?l34 ?c34 ?k34 ?a35 ?l35 ?c35 ?k35 ?a36 ?l36 ?c36 ?k36 ?a37 ?l37 ?c37 ?k37 ?a38 ?l38 ?c38 ?k38 ?a39 ?l39 ?c39 ?k39 ?ac1 ?lc1 ?ac2 ?lc2 ?z_len ?z_int ?z_range ?z_abs ?z_repr ?z_list ?z_isinstance ?z_sum ?z_zip ?z_bool ?z_enumerate ?z_tuple ?z_str ?z_all ?z_any ?z_min ?z_max ?hgcd ?hlcm ?zsorted
    (case a1 => k_is)
    (case l1 => k_is)
    (case c1 => k_is)
    (case k1 => k_is)
    (case a2 => k_is)
    (case l2 => k_is)
    (case c2 => k_is)
    (case k2 => k_is)
    (case a3 => k_is)
    (case l3 => k_is)
    (case c3 => k_is)
    (case k3 => k_is)
    (case a4 => k_is)
    (case l4 => k_is)
    (case c4 => k_is)
    (case k4 => k_is)
    (case a5 => k_is)
    (case l5 => k_is)
    (case c5 => k_is)
    (case k5 => k_is)
    (case a6 => k_is)
    (case l6 => k_is)
    (case c6 => k_is)
    (case k6 => k_is)
    (case a7 => k_is)
    (case l7 => k_is)
    (case c7 => k_is)
    (case k7 => k_is)
    (case a8 => k_is)
    (case l8 => k_is)
    (case c8 => k_is)
    (case k8 => k_is)
    (case a9 => k_is)
    (case l9 => k_is)
    (case c9 => k_is)
    (case k9 => k_is)
    (case a10 => k_is)
    (case l10 => k_is)
    (case c10 => k_is)
    (case k10 => k_is)
    (case a11 => k_is)
    (case l11 => k_is)
    (case c11 => k_is)
    (case k11 => k_is)
    (case a12 => k_is)
    (case l12 => k_is)
    (case c12 => k_is)
    (case k12 => k_is)
    (case a13 => k_is)
    (case l13 => k_is)
    (case c13 => k_is)
    (case k13 => k_is)
    (case a14 => k_is)
    (case l14 => k_is)
    (case c14 => k_is)
    (case k14 => k_is)
    (case a15 => k_is)
    (case l15 => k_is)
    (case c15 => k_is)
    (case k15 => k_is)
    (case a16 => k_is)
    (case l16 => k_is)
    (case c16 => k_is)
    (case k16 => k_is)
    (case a17 => k_is)
    (case l17 => k_is)
    (case c17 => k_is)
    (case k17 => k_is)
    (case a18 => k_is)
    (case l18 => k_is)
    (case c18 => k_is)
    (case k18 => k_is)
    (case a19 => k_is)
    (case l19 => k_is)
    (case c19 => k_is)
    (case k19 => k_is)
    (case a20 => k_is)
    (case l20 => k_is)
    (case c20 => k_is)
    (case k20 => k_is)
    (case a21 => k_is)
    (case l21 => k_is)
    (case c21 => k_is)
    (case k21 => k_is)
    (case a22 => k_is)
    (case l22 => k_is)
    (case c22 => k_is)
    (case k22 => k_is)
    (case a23 => k_is)
    (case l23 => k_is)
    (case c23 => k_is)
    (case k23 => k_is)
    (case a24 => k_is)
    (case l24 => k_is)
    (case c24 => k_is)
    (case k24 => k_is)
    (case a25 => k_is)
    (case l25 => k_is)
    (case c25 => k_is)
    (case k25 => k_is)
    (case a26 => k_is)
    (case l26 => k_is)
    (case c26 => k_is)
    (case k26 => k_is)
    (case a27 => k_is)
    (case l27 => k_is)
    (case c27 => k_is)
    (case k27 => k_is)
    (case a28 => k_is)
    (case l28 => k_is)
    (case c28 => k_is)
    (case k28 => k_is)
    (case a29 => k_is)
    (case l29 => k_is)
    (case c29 => k_is)
    (case k29 => k_is)
    (case a30 => k_is)
    (case l30 => k_is)
    (case c30 => k_is)
    (case k30 => k_is)
    (case a31 => k_is)
    (case l31 => k_is)
    (case c31 => k_is)
    (case k31 => k_is)
    (case a32 => k_is)
    (case l32 => k_is)
    (case c32 => k_is)
    (case k32 => k_is)
    (case a33 => k_is)
    (case l33 => k_is)
    (case c33 => k_is)
    (case k33 => k_is)
    (case a34 => k_is)
    (case l34 => k_is)
    (case c34 => k_is)
    (case k34 => k_is)
    (case a35 => k_is)
    (case l35 => k_is)
    (case c35 => k_is)
    (case k35 => k_is)
    (case a36 => k_is)
    (case l36 => k_is)
    (case c36 => k_is)
    (case k36 => k_is)
    (case a37 => k_is)
    (case l37 => k_is)
    (case c37 => k_is)
    (case k37 => k_is)
    (case a38 => k_is)
    (case l38 => k_is)
    (case c38 => k_is)
    (case k38 => k_is)
    (case a39 => k_is)
    (case l39 => k_is)
    (case c39 => k_is)
    (case k39 => k_is)
    (case ac1 => k_is)
    (case lc1 => k_is)
    (case ac2 => k_is)
    (case lc2 => k_is)
    (case z_len => k_is)
    (case z_int => k_is)
    (case z_range => k_is)
    (case z_abs => k_is)
    (case z_repr => k_is)
    (case z_list => k_is)
    (case z_isinstance => k_is)
    (case z_sum => k_is)
    (case z_zip => k_is)
    (case z_bool => k_is)
    (case z_enumerate => k_is)
    (case z_tuple => k_is)
    (case z_str => k_is)
    (case z_all => k_is)
    (case z_any => k_is)
    (case z_min => k_is)
    (case z_max => k_is)
    (case hgcd => k_is)
    (case hlcm => k_is)
    (case zsorted => k_is)
