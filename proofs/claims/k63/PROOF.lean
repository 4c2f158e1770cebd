import PyProof.Rows.All
import Wide.All
import OpenK.AllK
import Wide.FinOn
import HandS.ForMost
import HandS.ForExc
import HandS.Evl
import HandS.Steps
import HandS.Wide
import HandS.Walk
import HandS.Gcd
import HandS.IsInst
import HandS.ExcInit
import HandS.ExcField
import HandS.ExcIs
import KE.KExcIs
import HandS.TryMany
import HandS.Small
import HandS.Style
import KE.KMathG
import HandS.SortInts
import HandS.Defaults
import HandS.Flow
import HandS.Deep
import HandS.HeadHook3
import HandS.Conv
import KE.GoesEnum
import KE.GoesMore
import HandS.TryOnly
import PySem.Challenge.RW_meanhold_k63_games_against_and_for_us
set_option Elab.async false
set_option maxRecDepth 100000
set_option maxHeartbeats 2000000
namespace Md
open PySem L2 Evl
mutual
/-- the value v is the datum d: lists are tracked, tuples stand -/
inductive Dt (K : PySem.W.Frag) (H : Hp) : V → PyData → Prop
  | none : Dt K H V.non PyData.none
  | bool (b : Bool) : Dt K H (V.bl b) (PyData.bool b)
  | int (i : Int) : Dt K H (V.int i) (PyData.int i)
  | str (x : Str) : Dt K H (V.str x) (PyData.str x)
  | list {a : Addr} {xs : List V} {ds : List PyData} : H a = some (HO.lst xs) → DtA K H xs ds → Dt K H (V.ref a) (PyData.list ds)
  | tuple {a : Addr} {xs : List V} {ds : List PyData} : SqT K H a xs → DtA K H xs ds → Dt K H (V.ref a) (PyData.tuple ds)
inductive DtA (K : PySem.W.Frag) (H : Hp) : List V → List PyData → Prop
  | nil : DtA K H [] []
  | cons {v : V} {vs : List V} {d : PyData} {ds : List PyData} : Dt K H v d → DtA K H vs ds → DtA K H (v :: vs) (d :: ds)
end
section
variable {K : PySem.W.Frag} {H H' : Hp}
mutual
theorem Dt.mono (e : Ex H H') : ∀ (d : PyData) (v : V), Dt K H v d → Dt K H' v d
  | .none, _, h => by cases h; exact Dt.none
  | .bool b, _, h => by cases h; exact Dt.bool b
  | .int i, _, h => by cases h; exact Dt.int i
  | .str x, _, h => by cases h; exact Dt.str x
  | .list ds, _, h => by
    cases h with
    | list h1 h2 => exact Dt.list (e _ _ h1) (DtA.mono e ds _ h2)
  | .tuple ds, _, h => by
    cases h with
    | tuple h1 h2 => exact Dt.tuple (ex_t e h1) (DtA.mono e ds _ h2)
  | .dict _, _, h => by cases h
theorem DtA.mono (e : Ex H H') : ∀ (ds : List PyData) (vs : List V), DtA K H vs ds → DtA K H' vs ds
  | [], _, h => by cases h; exact DtA.nil
  | d :: ds, _, h => by
    cases h with
    | cons h1 h2 => exact DtA.cons (Dt.mono e d _ h1) (DtA.mono e ds _ h2)
end
theorem Dt.up {v : V} {d : PyData} (h : Dt K H v d) (e : Ex H H') : Dt K H' v d := Dt.mono e d v h
theorem DtA.up {vs : List V} {ds : List PyData} (h : DtA K H vs ds) (e : Ex H H') : DtA K H' vs ds := DtA.mono e ds vs h
mutual
theorem Dt.dp : ∀ (d : PyData) (v : V), Dt K H v d → Dp K H v d
  | .none, _, h => by cases h; exact Dp.non
  | .bool b, _, h => by cases h; exact Dp.bl b
  | .int i, _, h => by cases h; exact Dp.int i
  | .str x, _, h => by cases h; exact Dp.str x
  | .list ds, _, h => by
    cases h with
    | list h1 h2 => exact Dp.lst (SqL.of h1) (DtA.dp ds _ h2)
  | .tuple ds, _, h => by
    cases h with
    | tuple h1 h2 => exact Dp.tup h1 (DtA.dp ds _ h2)
  | .dict _, _, h => by cases h
theorem DtA.dp : ∀ (ds : List PyData) (vs : List V), DtA K H vs ds → DpAll K H vs ds
  | [], _, h => by cases h; exact DpAll.nil
  | d :: ds, _, h => by
    cases h with
    | cons h1 h2 => exact DpAll.cons (Dt.dp d _ h1) (DtA.dp ds _ h2)
end
theorem DtA.length : ∀ {ds : List PyData} {vs : List V}, DtA K H vs ds → vs.length = ds.length
  | [], _, h => by cases h; rfl
  | _ :: ds, _, h => by
    cases h with
    | cons _ h2 => exact congrArg Nat.succ (DtA.length h2)
theorem DtA.get : ∀ {ds : List PyData} {vs : List V} {i : Nat} {d : PyData}, DtA K H vs ds → ds[i]? = some d → ∃ v, vs[i]? = some v ∧ Dt K H v d
  | [], _, _, _, _, e => by simp at e
  | d :: ds, _, 0, _, h, e => by
    cases h with
    | cons h1 _ =>
      simp only [List.getElem?_cons_zero, Option.some.injEq] at e
      subst e
      exact ⟨_, rfl, h1⟩
  | _ :: ds, _, i + 1, _, h, e => by
    cases h with
    | cons _ h2 =>
      simp only [List.getElem?_cons_succ] at e
      obtain ⟨v, e1, h3⟩ := DtA.get h2 e
      exact ⟨v, by simpa using e1, h3⟩
theorem DtA.getV : ∀ {ds : List PyData} {vs : List V} {i : Nat} {v : V}, DtA K H vs ds → vs[i]? = some v → ∃ d, ds[i]? = some d ∧ Dt K H v d
  | [], _, _, _, h, e => by cases h; simp at e
  | d :: ds, _, 0, _, h, e => by
    cases h with
    | cons h1 _ =>
      simp only [List.getElem?_cons_zero, Option.some.injEq] at e
      subst e
      exact ⟨_, rfl, h1⟩
  | _ :: ds, _, i + 1, _, h, e => by
    cases h with
    | cons _ h2 =>
      simp only [List.getElem?_cons_succ] at e
      obtain ⟨d, e1, h3⟩ := DtA.getV h2 e
      exact ⟨d, by simpa using e1, h3⟩
theorem DtA.atI {ds : List PyData} {vs : List V} {i : Int} {d : PyData} (h : DtA K H vs ds) (e : L2.atI ds i = some d) : ∃ v, L2.atI vs i = some v ∧ Dt K H v d := by
  unfold L2.atI at e ⊢
  rw [h.length]
  cases q : ixN ds.length i with
  | none => rw [q] at e; cases e
  | some j =>
    rw [q] at e
    exact h.get e
theorem DtA.append : ∀ {ds es : List PyData} {vs us : List V}, DtA K H vs ds → DtA K H us es → DtA K H (vs ++ us) (ds ++ es)
  | [], _, _, _, h, g => by cases h; exact g
  | _ :: ds, _, _, _, h, g => by
    cases h with
    | cons h1 h2 => exact DtA.cons h1 (DtA.append h2 g)
theorem DtA.take : ∀ {ds : List PyData} {vs : List V} (n : Nat), DtA K H vs ds → DtA K H (vs.take n) (ds.take n)
  | _, _, 0, _ => DtA.nil
  | [], _, n + 1, h => by cases h; exact DtA.nil
  | _ :: ds, _, n + 1, h => by
    cases h with
    | cons h1 h2 => exact DtA.cons h1 (DtA.take n h2)
theorem DtA.drop : ∀ {ds : List PyData} {vs : List V} (n : Nat), DtA K H vs ds → DtA K H (vs.drop n) (ds.drop n)
  | _, _, 0, h => h
  | [], _, n + 1, h => by cases h; exact DtA.nil
  | _ :: ds, _, n + 1, h => by
    cases h with
    | cons _ h2 => exact DtA.drop n h2
theorem DtA.one {v : V} {d : PyData} (h : Dt K H v d) : DtA K H [v] [d] := DtA.cons h DtA.nil
theorem DtA.ints : ∀ ns : List Int, DtA K H (ns.map V.int) (ns.map PyData.int)
  | [] => DtA.nil
  | n :: ns => DtA.cons (Dt.int n) (DtA.ints ns)
def cutD (ds : List PyData) (lo hi : Option Int) : List PyData := (ds.drop (HT.sIx ds.length 0 lo)).take (HT.sIx ds.length ds.length hi - HT.sIx ds.length 0 lo)
theorem DtA.cut {ds : List PyData} {vs : List V} (h : DtA K H vs ds) (lo hi : Option Int) : DtA K H (cutV vs lo hi) (cutD ds lo hi) := by
  unfold cutV cutD
  rw [h.length]
  exact (h.drop _).take _
theorem Dt.listI {v : V} {ds : List PyData} (h : Dt K H v (.list ds)) : ∃ a xs, v = V.ref a ∧ H a = some (HO.lst xs) ∧ DtA K H xs ds := by
  cases h with
  | list h1 h2 => exact ⟨_, _, rfl, h1, h2⟩
theorem Dt.tupleI {v : V} {ds : List PyData} (h : Dt K H v (.tuple ds)) : ∃ a xs, v = V.ref a ∧ SqT K H a xs ∧ DtA K H xs ds := by
  cases h with
  | tuple h1 h2 => exact ⟨_, _, rfl, h1, h2⟩
theorem Dt.intI {v : V} {i : Int} (h : Dt K H v (.int i)) : v = V.int i := by cases h; rfl
theorem Dt.strI {v : V} {x : Str} (h : Dt K H v (.str x)) : v = V.str x := by cases h; rfl
theorem Dt.boolI {v : V} {b : Bool} (h : Dt K H v (.bool b)) : v = V.bl b := by cases h; rfl
theorem Dt.noneI {v : V} (h : Dt K H v .none) : v = V.non := by cases h; rfl
end
structure Gr (b h b' h' : Hp) : Prop where
  gb : Ex b b'
  gh : Ex h h'
  gi : Ex b' h'
  gf : ∀ a, b a = none → h a ≠ none → b' a = none
theorem Gr.refl {b h : Hp} (e : Ex b h) : Gr b h b h := ⟨Ex.refl b, Ex.refl h, e, fun _ q _ => q⟩
theorem Gr.trans {b h b1 h1 b2 h2 : Hp} (x : Gr b h b1 h1) (y : Gr b1 h1 b2 h2) : Gr b h b2 h2 := ⟨x.gb.trans y.gb, x.gh.trans y.gh, y.gi, fun a q n => y.gf a (x.gf a q n) fun z => by
  cases e : h a with
  | none => exact n e
  | some o =>
    rw [x.gh a o e] at z
    cases z⟩
theorem Gr.stay {b h h' : Hp} (e : Ex b h) (e' : Ex h h') : Gr b h b h' := ⟨Ex.refl b, e', e.trans e', fun _ q _ => q⟩
theorem Gr.new {b h : Hp} {p : Addr} {o : HO} (e : Ex b h) (n : h p = none) : Gr b h (upd b p o) (upd h p o) := by
  have nb : b p = none := by
    cases q : b p with
    | none => rfl
    | some u =>
      rw [e p u q] at n
      cases n
  refine ⟨Ex.new nb, Ex.new n, fun a u q => ?_, fun a q z => ?_⟩
  · by_cases ha : a = p
    · subst ha
      rw [upd_same] at q ⊢
      exact q
    · rw [upd_ne ha] at q ⊢
      exact e a u q
  · rw [upd_ne (fun ha => z (by rw [ha]; exact n))]
    exact q
theorem Gr.hid {b h : Hp} {p : Addr} {o : HO} (e : Ex b h) (n : h p = none) : Gr b h b (upd h p o) := Gr.stay e (Ex.new n)
theorem Gr.mut {b0 h0 b h : Hp} {p : Addr} {o : HO} (g : Gr b0 h0 b h) (n : h0 p = none) (nb : b p = none) : Gr b0 h0 b (upd h p o) := ⟨g.gb, Ex.mut g.gh n, Ex.mut g.gi nb, g.gf⟩
theorem Gr.tell {b0 h0 b h : Hp} {p : Addr} {o : HO} (g : Gr b0 h0 b h) (n : h0 p = none) (nb : b p = none) (hp : h p = some o) : Gr b0 h0 (upd b p o) h := by
  refine ⟨g.gb.trans (Ex.new nb), g.gh, fun a u q => ?_, fun a q z => ?_⟩
  · by_cases ha : a = p
    · subst ha
      rw [upd_same] at q
      rw [hp]
      exact q
    · rw [upd_ne ha] at q
      exact g.gi a u q
  · rw [upd_ne (fun ha => z (by rw [ha]; exact n))]
    exact g.gf a q z
theorem none_of {b h : Hp} (e : Ex b h) {p : Addr} (n : h p = none) : b p = none := fresh_back e n
def ED (K : PySem.W.Frag) (te : TE) (σ : L2.St) (b : Hp) (d : PyData) : Prop := ∀ h, Ex b h → ∀ Q : VK, (∀ v b' h', Gr b h b' h' → Dt K b' v d → Q v h') → te σ h Q
def EDA (K : PySem.W.Frag) (ta : TA) (σ : L2.St) (b : Hp) (ds : List PyData) : Prop := ∀ h, Ex b h → ∀ Q : List V → Hp → Prop, (∀ vs b' h', Gr b h b' h' → DtA K b' vs ds → Q vs h') → ta σ h Q
section
variable {K : PySem.W.Frag} {σ : L2.St} {b b' h h' : Hp} {te ta tb : TE} {ts tr : TA} {d d' : PyData} {ds : List PyData} {v : V} {i : Int}
theorem Gr.back {b1 b2 h1 : Hp} (e : Ex b b1) (g : Gr b h b2 h1) (e1 : Ex b1 h) : ∃ b3, Gr b1 h b3 h1 ∧ Ex b2 b3 ∧ ∀ a, b2 a = none → b1 a = none → b3 a = none := by
  refine ⟨fun a => match b2 a with | some o => some o | none => b1 a, ⟨fun a o q => ?_, g.gh, fun a o q => ?_, fun a q n => ?_⟩, fun a o q => ?_, fun a z1 z2 => by simp only [z1, z2]⟩
  · cases z : b2 a with
    | none => simpa [z] using q
    | some u =>
      have h1 := g.gi a u z
      have h2 := g.gh a o (e1 a o q)
      rw [h1] at h2
      simp [z, h2]
  · cases z : b2 a with
    | none =>
      simp only [z] at q
      exact g.gh a o (e1 a o q)
    | some u =>
      simp only [z] at q
      rw [← q]
      exact g.gi a u z
  · have z : b2 a = none := g.gf a (fresh_back e q) n
    simp only [z]
    exact q
  · simp only [q]
theorem ED.up (x : ED K te σ b d) (e : Ex b b') : ED K te σ b' d := fun h e1 _ q => x h (e.trans e1) _ fun v b2 h2 g hv => by
  obtain ⟨b3, g3, e3, _⟩ := g.back e e1
  exact q v b3 h2 g3 (hv.up e3)
theorem EDA.up (x : EDA K ts σ b ds) (e : Ex b b') : EDA K ts σ b' ds := fun h e1 _ q => x h (e.trans e1) _ fun v b2 h2 g hv => by
  obtain ⟨b3, g3, e3, _⟩ := g.back e e1
  exact q v b3 h2 g3 (hv.up e3)
theorem ed_var {k : Nat} (hs : σ[k]? = some (some v)) (hd : Dt K b v d) : ED K (tVar k) σ b d := fun h e _ q => ⟨v, hs, q v b h (Gr.refl e) hd⟩
theorem ed_of (x : Ev te σ b v) (hd : ∀ H2, Dt K H2 v d) : ED K te σ b d := fun h e _ q => x h e _ fun h2 e2 => q v b h2 (Gr.stay e e2) (hd b)
theorem ed_int (x : Ev te σ b (.int i)) : ED K te σ b (.int i) := ed_of x fun _ => Dt.int i
theorem ed_str {z : Str} (x : Ev te σ b (.str z)) : ED K te σ b (.str z) := ed_of x fun _ => Dt.str z
theorem ed_bool {k : Bool} (x : Ev te σ b (.bl k)) : ED K te σ b (.bool k) := ed_of x fun _ => Dt.bool k
theorem ev_int (x : ED K te σ b (.int i)) : Ev te σ b (.int i) := fun h e _ q => x h e _ fun v b2 h2 g hd => by
  rw [hd.intI]
  exact q h2 g.gh
theorem ev_str {z : Str} (x : ED K te σ b (.str z)) : Ev te σ b (.str z) := fun h e _ q => x h e _ fun v b2 h2 g hd => by
  rw [hd.strI]
  exact q h2 g.gh
theorem ev_bool {k : Bool} (x : ED K te σ b (.bool k)) : Ev te σ b (.bl k) := fun h e _ q => x h e _ fun v b2 h2 g hd => by
  rw [hd.boolI]
  exact q h2 g.gh
theorem ed_ixL (ha : ED K ta σ b (.list ds)) (hb : Ev tb σ b (.int i)) (hi : L2.atI ds i = some d) : ED K (tOp (rIxL K) ta tb) σ b d := fun h e _ q => ha h e _ fun x b2 h2 g2 hx => hb h2 (e.trans g2.gh) _ fun h3 e3 => by
  obtain ⟨a, xs, rfl, k1, k2⟩ := hx.listI
  obtain ⟨v, hv, hd⟩ := k2.atI hi
  exact ⟨a, xs, i, v, rfl, rfl, sq_of (e3 _ _ (g2.gi _ _ k1)), hv, q v b2 h3 (g2.trans (Gr.stay g2.gi e3)) hd⟩
theorem ed_ixT (ha : ED K ta σ b (.tuple ds)) (hb : Ev tb σ b (.int i)) (hi : L2.atI ds i = some d) : ED K (tOp (rIxT K) ta tb) σ b d := fun h e _ q => ha h e _ fun x b2 h2 g2 hx => hb h2 (e.trans g2.gh) _ fun h3 e3 => by
  obtain ⟨a, xs, rfl, k1, k2⟩ := hx.tupleI
  obtain ⟨v, hv, hd⟩ := k2.atI hi
  exact ⟨a, xs, i, v, rfl, rfl, ex_t e3 (ex_t g2.gi k1), hv, q v b2 h3 (g2.trans (Gr.stay g2.gi e3)) hd⟩
theorem eda_nil : EDA K tNil σ b [] := fun h e _ q => q [] b h (Gr.refl e) DtA.nil
theorem eda_cons (x : ED K te σ b d) (hr : EDA K tr σ b ds) : EDA K (tCons te tr) σ b (d :: ds) := fun h e _ q => x h e _ fun v b2 h2 g2 hv => hr.up g2.gb h2 g2.gi _ fun vs b3 h3 g3 hvs =>
  q (v :: vs) b3 h3 (g2.trans g3) (DtA.cons (hv.up g3.gb) hvs)
theorem ed_tup (x : EDA K ts σ b ds) (hl : ds.length ≤ 100000) : ED K (tTup ts) σ b (.tuple ds) := fun h e _ q => x h e _ fun vs b2 h2 g2 hvs =>
  ⟨sz_of (by rw [hvs.length]; exact hl), fun p hp => q (.ref p) _ _ (g2.trans (Gr.new g2.gi hp)) (Dt.tuple (st_of upd_same) (hvs.up (Ex.new (none_of g2.gi hp))))⟩
theorem ev_lenL (ha : ED K te σ b (.list ds)) : Ev (tCB (rLenS K) (tCons te tNil)) σ b (.int (ds.length : Int)) := fun h e _ q => ha h e _ fun v b2 h2 g2 hv => by
  obtain ⟨a, xs, rfl, h1, k2⟩ := hv.listI
  refine ⟨a, xs, rfl, .inl (sq_of (g2.gi _ _ h1)), ?_⟩
  rw [k2.length]
  exact q h2 g2.gh
theorem ev_lenT (ha : ED K te σ b (.tuple ds)) : Ev (tCB (rLenS K) (tCons te tNil)) σ b (.int (ds.length : Int)) := fun h e _ q => ha h e _ fun v b2 h2 g2 hv => by
  obtain ⟨a, xs, rfl, h1, k2⟩ := hv.tupleI
  refine ⟨a, xs, rfl, .inr (ex_t g2.gi h1), ?_⟩
  rw [k2.length]
  exact q h2 g2.gh
def rInt1 : List V → Hp → VK → Prop := fun xs H Q => (∃ i, xs = [V.int i] ∧ Q (V.int i) H) ∨ ∃ k, xs = [V.bl k] ∧ Q (V.int (if k then 1 else 0)) H
theorem cr_int1 {X : Cx} : CallR X (.type "int") rInt1 := call_int1
theorem ev_int1 (x : Ev te σ b (.int i)) : Ev (tCB rInt1 (tCons te tNil)) σ b (.int i) := fun h e _ q => x h e _ fun h2 e2 => .inl ⟨i, rfl, q h2 e2⟩
def SpF (K : PySem.W.Frag) (n : Nat) (pre : List PyData → Prop) (f : List PyData → PyData → Prop) : Sp := fun vs h Q _ => ∃ b ds, Ex b h ∧ DtA K b vs ds ∧ ds.length = n ∧ pre ds ∧ ∀ v b' h' d, Gr b h b' h' → f ds d → Dt K b' v d → Q v h'
theorem SpF.len {n : Nat} {pre : List PyData → Prop} {f : List PyData → PyData → Prop} : ∀ vs H Q E, SpF K n pre f vs H Q E → vs.length = n := fun vs H Q E x => by
  obtain ⟨b, ds, _, h1, h2, _⟩ := x
  rw [h1.length, h2]
theorem ed_call {n : Nat} {pre : List PyData → Prop} {f : List PyData → PyData → Prop} {E : XK} (x : EDA K ts σ b ds) (hn : ds.length = n) (hp : pre ds) (he : ∀ e, f ds e → e = d) : ED K (tCall (SpF K n pre f) [] E ts) σ b d := fun h e _ q =>
  x h e _ fun vs b2 h2 g2 hvs => ⟨b2, ds, g2.gi, by rw [List.append_nil]; exact hvs, hn, hp, fun v b3 h3 d3 g3 hf hv => q v b3 h3 (g2.trans g3) (he d3 hf ▸ hv)⟩
def EX (K : PySem.W.Frag) (te : TE) (σ : L2.St) (b : Hp) (P : PyData → Prop) : Prop := ∀ h, Ex b h → ∀ Q : VK, (∀ v b' h' d, Gr b h b' h' → P d → Dt K b' v d → Q v h') → te σ h Q
theorem ED.ex (x : ED K te σ b d) : EX K te σ b (· = d) := fun h e _ q => x h e _ fun v b2 h2 g hv => q v b2 h2 d g rfl hv
end
def EN (K : PySem.W.Frag) (te : TE) (σ : L2.St) (b : Hp) (ds : List PyData) : Prop := ∀ h, Ex b h → ∀ Q : VK, (∀ p vs b' h', h p = none → b' p = none → Gr b h b' h' → h' p = some (.lst vs) → DtA K b' vs ds → Q (.ref p) h') → te σ h Q
section
variable {K : PySem.W.Frag} {σ : L2.St} {b b' : Hp} {te ta tb : TE} {ts tr : TA} {ds es : List PyData}
theorem EN.ed (x : EN K te σ b ds) : ED K te σ b (.list ds) := fun h e _ q => x h e _ fun p vs b2 h2 np nb g2 hp hv => q (.ref p) _ h2 (g2.tell np nb hp) (Dt.list upd_same (hv.up (Ex.new nb)))
theorem EN.up (x : EN K te σ b ds) (e : Ex b b') : EN K te σ b' ds := fun h e1 _ q => x h (e.trans e1) _ fun p us b2 h2 np nb g hp hv => by
  obtain ⟨b3, g3, e3, e4⟩ := g.back e e1
  exact q p us b3 h2 np (e4 p nb (none_of e1 np)) g3 hp (hv.up e3)
theorem gone {b h b1 h1 : Hp} (g : Gr b h b1 h1) {p : Addr} (n : h1 p = none) : h p = none := fresh_back g.gh n
theorem en_lst (x : EDA K ts σ b ds) (hl : ds.length ≤ 100000) : EN K (tLst ts) σ b ds := fun h e _ q => x h e _ fun vs b2 h2 g2 hvs =>
  ⟨sz_of (by rw [hvs.length]; exact hl), fun p hp => q p vs b2 _ (gone g2 hp) (none_of g2.gi hp) (g2.trans (Gr.hid g2.gi hp)) upd_same hvs⟩
theorem en_sl {tl th : TO} {lo hi : Option Int} (x : ED K te σ b (.list ds)) (h1 : EvO tl σ b lo) (h2 : EvO th σ b hi) : EN K (tSl (rSlL K) te tl th) σ b (cutD ds lo hi) := fun h e _ q =>
  x h e _ fun v b2 h2' g2 hv => h1 h2' (g2.gb.trans g2.gi) _ fun h3 e3 => h2 h3 ((g2.gb.trans g2.gi).trans e3) _ fun h4 e4 => by
    obtain ⟨a, xs, rfl, k1, k2⟩ := hv.listI
    have e24 := e3.trans e4
    have g4 := g2.trans (Gr.stay g2.gi e24)
    exact ⟨a, xs, rfl, sq_of (g4.gi _ _ k1), fun p hp => q p _ b2 _ (gone g4 hp) (none_of g4.gi hp) (g4.trans (Gr.hid g4.gi hp)) upd_same (k2.cut lo hi)⟩
end
def givenD (n : Nat) (f : Nat → Bool) (r : Nat → PyData) : List PyData := ((List.range n).filter f).map r
theorem givenD_yes {n : Nat} {f : Nat → Bool} {r : Nat → PyData} (h : f n = true) : givenD (n + 1) f r = givenD n f r ++ [r n] := by
  simp [givenD, List.range_succ, h]
theorem givenD_no {n : Nat} {f : Nat → Bool} {r : Nat → PyData} (h : f n = false) : givenD (n + 1) f r = givenD n f r := by
  simp [givenD, List.range_succ, h]
theorem givenD_len (n : Nat) (f : Nat → Bool) (r : Nat → PyData) : (givenD n f r).length ≤ n := by
  have h := List.length_filter_le f (List.range n)
  simpa [givenD] using h
theorem givenD_all (n : Nat) (r : Nat → PyData) : givenD n (fun _ => true) r = (List.range n).map r := by
  unfold givenD
  rw [List.filter_eq_self.mpr fun _ _ => rfl]
section
variable {K : PySem.W.Frag} {σ : L2.St} {b h1 : Hp} {te : TE} {t : TT} {g : TG} {vs : List Nat}
theorem et_yes : EvT tYes σ b true := fun h _ _ q => q h (Ex.refl h)
theorem lc_data {J : It} {n : Nat} {G : Hp → Prop} {Y : Nat → Hp → V → Hp → Prop} (w : Walk J n G Y) {Dl : Addr} {Qd : Hp → Prop} (f : Nat → Bool) (r : Nat → PyData) (eb : Ex b h1) (hD : h1 Dl = none) (hn : n ≤ 40000) (hG : ∀ h, Ex h1 h → G h)
    (hs : ∀ i x b2 h h', i < n → Ex h1 h → Gr b h1 b2 h → Y i h x h' → ∃ b3, Gr b2 h b3 h' ∧ ∀ Q : L2.St → Hp → Prop, (∀ σ2, wipe σ2 vs = wipe σ vs → EvT t σ2 b3 (f i) → (f i = true → ED K te σ2 b3 (r i)) → Q σ2 h') → g x (wipe σ vs) h' Q)
    (hd : ∀ b2 h us, Gr b h1 b2 h → b2 Dl = none → h Dl = some (.lst us) → DtA K b2 us (givenD n f r) → Qd h) :
    ∃ W : Nat → Nat → Hp → Prop, (∃ m, W 0 m (upd h1 Dl (.lst []))) ∧ ∀ i m H, W i m H →
      (J.stop i H ∧ Qd H) ∨ (J.go i H ∧ ∃ Nx : Hp → Prop, (∀ H', Nx H' → ∃ m', m' < m ∧ W (i + 1) m' H') ∧ ∀ x H', J.yld i H x H' → g x (wipe σ vs) H' fun σ2 H2 => wipe σ2 vs = wipe σ vs ∧ t σ2 H2 fun k H3 =>
        if k = true then te σ2 H3 fun y H4 => ∃ acc, H4 Dl = some (.lst acc) ∧ acc.length < sizeLine ∧ Nx (upd H4 Dl (.lst (acc ++ [y]))) else Nx H3) := by
  refine lc_it w (fun i h => ∃ b2 us, Gr b h1 b2 h ∧ b2 Dl = none ∧ h Dl = some (.lst us) ∧ DtA K b2 us (givenD i f r)) ?_ (fun i h _ p => ?_) ?_ ?_
  · exact ⟨b, [], Gr.hid eb hD, none_of eb hD, upd_same, DtA.nil⟩
  · obtain ⟨b2, us, g2, _⟩ := p
    exact hG h g2.gh
  · rintro i x h2 h3 hi ⟨b2, us, g2, nb, hu, hA⟩ hy
    obtain ⟨b3, g3, hq⟩ := hs i x b2 h2 h3 hi g2.gh g2 hy
    have nb3 : b3 Dl = none := g3.gf Dl nb (by rw [hu]; intro z; cases z)
    refine hq _ fun σ2 hw ht he => ⟨hw, ht h3 g3.gi _ fun h4 e4 => ?_⟩
    have g4 : Gr b3 h3 b3 h4 := Gr.stay g3.gi e4
    have hu4 : h4 Dl = some (.lst us) := e4 _ _ (g3.gh _ _ hu)
    cases hf : f i with
    | true =>
      show te σ2 h4 _
      refine he hf h4 g4.gi _ fun y b5 h5 g5 hy5 => ⟨us, g5.gh _ _ hu4, sz_lt (by have := givenD_len i f r; rw [hA.length]; omega), ?_⟩
      have nb5 : b5 Dl = none := g5.gf Dl nb3 (by rw [hu4]; intro z; cases z)
      refine ⟨b5, us ++ [y], ((g2.trans g3).trans (g4.trans g5)).mut hD nb5, nb5, upd_same, ?_⟩
      rw [givenD_yes hf]
      exact ((hA.up g3.gb).up g5.gb).append (DtA.one hy5)
    | false =>
      show ∃ b2 us, _
      refine ⟨b3, us, (g2.trans g3).trans g4, nb3, hu4, ?_⟩
      rw [givenD_no hf]
      exact hA.up g3.gb
  · rintro h ⟨b2, us, g2, nb, hu, hA⟩
    exact hd b2 h us g2 nb hu hA
end
end Md
set_option Elab.async false
set_option linter.all false
set_option maxRecDepth 100000
set_option maxHeartbeats 2000000
namespace Md
open PySem L2 Evl
section
variable {K : PySem.W.Frag} {σ : L2.St} {b h h0 : Hp} {te tl ta tb : TE} {t : TT} {g : TG} {vs : List Nat} {ds es : List PyData} {d d1 d2 d3 : PyData} {v : V} {Q : L2.St → Hp → Prop}
theorem en_lcR {ts : TA} {j : Nat} {n : Int} (x : EvA ts σ b [.int n]) (hn : 0 ≤ n ∧ n ≤ 40000) (f : Nat → Bool) (r : Nat → PyData) (hw : ∀ x, wipe ((wipe σ vs).set j (some x)) vs = wipe σ vs)
    (hs : ∀ (i : Nat) b2, Ex b b2 → (i : Int) < n → EvT t ((wipe σ vs).set j (some (.int (i : Int)))) b2 (f i) ∧ (f i = true → ED K te ((wipe σ vs).set j (some (.int (i : Int)))) b2 (r i))) :
    EN K (tLc (iRng1 ts) (gName j) t te vs) σ b (givenD n.toNat f r) := fun h e _ q => x h e _ fun h1 e1 => by
  have g1 : Gr b h b h1 := Gr.stay e e1
  refine ⟨n, rfl, by omega, by omega, fun Dl hD => ?_⟩
  refine lc_data (walk_range (lo := 0) (n := n.toNat)) f r g1.gi hD (by omega) (fun _ _ => trivial) (fun i y b2 h2 h3 hi e2 g2 hy => ?_) (fun b2 h2 us g2 nb hu hA => q Dl us b2 h2 (gone g1 hD) nb (g1.trans g2) hu hA)
  obtain ⟨rfl, hy⟩ := hy
  have e0 : (0 : Int) + (i : Int) = (i : Int) := Int.zero_add _
  have hy' : y = V.int (i : Int) := by
    rw [hy]
    show V.int ((0 : Int) + (i : Int)) = V.int (i : Int)
    rw [e0]
  subst hy'
  refine ⟨b2, Gr.refl g2.gi, fun Q k => ?_⟩
  have z := hs i b2 g2.gb (by omega)
  exact k _ (hw _) z.1 z.2
theorem en_lcRX {ts : TA} {j : Nat} {n : Int} (x : EvA ts σ b [.int n]) (hn : 0 ≤ n ∧ n ≤ 40000) (R : Nat → PyData → Prop) (hw : ∀ x, wipe ((wipe σ vs).set j (some x)) vs = wipe σ vs)
    (hs : ∀ (i : Nat) b2, Ex b b2 → (i : Int) < n → EX K te ((wipe σ vs).set j (some (.int (i : Int)))) b2 (R i)) :
    EX K (tLc (iRng1 ts) (gName j) tYes te vs) σ b (fun d => ∃ acc, d = .list acc ∧ acc.length = n.toNat ∧ ∀ i e, acc[i]? = some e → R i e) := fun h e _ q => x h e _ fun h1 e1 => by
  have g1 : Gr b h b h1 := Gr.stay e e1
  refine ⟨n, rfl, by omega, by omega, fun Dl hD => ?_⟩
  refine lc_it (walk_range (lo := 0) (n := n.toNat)) (fun i h => ∃ b2 us acc, Gr b h1 b2 h ∧ b2 Dl = none ∧ h Dl = some (.lst us) ∧ DtA K b2 us acc ∧ acc.length = i ∧ ∀ k e, acc[k]? = some e → R k e) ?_ (fun _ _ _ _ => trivial) ?_ ?_
  · exact ⟨b, [], [], Gr.hid g1.gi hD, none_of g1.gi hD, upd_same, DtA.nil, rfl, fun k e z => by simp at z⟩
  · rintro i y h2 h3 hi ⟨b2, us, acc, g2, nb, hu, hA, hl, hR⟩ hy
    obtain ⟨rfl, hy⟩ := hy
    have e0 : (0 : Int) + (i : Int) = (i : Int) := Int.zero_add _
    have hy' : y = V.int (i : Int) := by
      rw [hy]
      show V.int ((0 : Int) + (i : Int)) = V.int (i : Int)
      rw [e0]
    subst hy'
    refine ⟨hw _, ?_⟩
    show te _ h3 _
    refine hs i b2 g2.gb (by omega) h3 g2.gi _ fun y b5 h5 d g5 hd hy5 => ⟨us, g5.gh _ _ hu, sz_lt (by rw [hA.length]; omega), ?_⟩
    have nb5 : b5 Dl = none := g5.gf Dl nb (by rw [hu]; intro z; cases z)
    refine ⟨b5, us ++ [y], acc ++ [d], (g2.trans g5).mut hD nb5, nb5, upd_same, (hA.up g5.gb).append (DtA.one hy5), by rw [List.length_append, hl]; rfl, fun k e hk => ?_⟩
    rcases Nat.lt_or_ge k acc.length with z | z
    · rw [List.getElem?_append_left z] at hk
      exact hR k e hk
    · rw [List.getElem?_append_right z] at hk
      have : k - acc.length = 0 := by
        rcases Nat.eq_zero_or_pos (k - acc.length) with w | w
        · exact w
        · rw [List.getElem?_eq_none (by rw [List.length_singleton]; omega)] at hk
          cases hk
      rw [this] at hk
      cases hk
      have : k = i := by omega
      rw [this]
      exact hd
  · rintro h2 ⟨b2, us, acc, g2, nb, hu, hA, hl, hR⟩
    exact q (.ref Dl) (upd b2 Dl (.lst us)) h2 (.list acc) ((g1.trans g2).tell (gone g1 hD) nb hu) ⟨acc, rfl, hl, hR⟩ (Dt.list upd_same (hA.up (Ex.new nb)))
variable {D : Ends} {tz tu tw : TS}
theorem r_set {i : Nat} (x : ED K te σ b d) (e : Ex b h) (k : ∀ v b' h', Gr b h b' h' → Dt K b' v d → tz D (σ.set i (some v)) h') : tSeq (tAsg te (gName i)) tz D σ h := x h e _ fun v b' h' g hv => k v b' h' g hv
theorem r_set1 {i : Nat} (x : ED K te σ b d) (e : Ex b h) (k : ∀ v b' h', Gr b h b' h' → Dt K b' v d → D.nx (σ.set i (some v)) h') : tAsg te (gName i) D σ h := x h e _ fun v b' h' g hv => k v b' h' g hv
theorem r_sc {i : Nat} (x : Ev te σ b v) (e : Ex b h) (k : ∀ h', Gr b h b h' → tz D (σ.set i (some v)) h') : tSeq (tAsg te (gName i)) tz D σ h := x h e _ fun h' e' => k h' (Gr.stay e e')
theorem r_ret (x : ED K te σ b d) (e : Ex b h) (k : ∀ v b' h', Gr b h b' h' → Dt K b' v d → D.rt v h') : tRet te D σ h := x h e _ fun v b' h' g hv => k v b' h' g hv
theorem r_retX {P : PyData → Prop} (x : EX K te σ b P) (e : Ex b h) (k : ∀ v b' h' d, Gr b h b' h' → P d → Dt K b' v d → D.rt v h') : tRet te D σ h := x h e _ fun v b' h' d g hp hv => k v b' h' d g hp hv
theorem r_if {c : Bool} (x : EvT t σ b c) (e : Ex b h) (h1 : c = true → ∀ h', Gr b h b h' → tu { D with nx := tz D } σ h') (h2 : c = false → ∀ h', Gr b h b h' → tw { D with nx := tz D } σ h') : tSeq (tIfS t tu tw) tz D σ h :=
  q_if (x.mono e) (fun hc h' e' => h1 hc h' (Gr.stay e e')) (fun hc h' e' => h2 hc h' (Gr.stay e e'))
theorem r_if1 {c : Bool} (x : EvT t σ b c) (e : Ex b h) (h1 : c = true → ∀ h', Gr b h b h' → tu D σ h') (h2 : c = false → ∀ h', Gr b h b h' → tw D σ h') : tIfS t tu tw D σ h :=
  s_if (x.mono e) (fun hc h' e' => h1 hc h' (Gr.stay e e')) (fun hc h' e' => h2 hc h' (Gr.stay e e'))
end
section
variable {X : Cx}
def rRepr (K : PySem.W.Frag) : List V → Hp → VK → Prop := fun xs H Q => ∃ p d, xs = [.ref p] ∧ Dp K H (.ref p) d ∧ d.showable = true ∧ d.hasDict = false ∧ d.depth ≤ 60 ∧ d.shown.length ≤ sizeLine ∧ Q (.str d.shown) H
theorem cr_repr (hg : X.A.guards = some []) (hu : X.A.units + 64 < cLine) : CallR X (.builtin "repr") (rRepr X.K) := by
  intro pins s σ H xs us Q I r x
  obtain ⟨p, d, rfl, hd, h1, h2, h3, h4, q⟩ := x
  obtain ⟨u, rfl, ru⟩ := vals1 r
  obtain rfl : u = Value.ref p := ru
  obtain ⟨as, hr⟩ := Dp.reads I d _ _ hd rfl
  exact PySem.repr_of_reads' hr h1 (PySem.PyData.noDict_hsm h2) hg (by omega) (fun _ _ e => e) (fun h' u tk hk => ⟨.str _, H, I.kept (t' := tk) hk, ⟨_, rfl⟩, q⟩) h4
end
section
variable {X : Cx} {K : PySem.W.Frag} {tg e e2 : Expr} {te tl ta : TE} {ts : TA} {pos p tpos : Pos}
theorem ix_listK (h : X.K = K) : IxR X (rIxL K) := h ▸ ix_list
theorem ix_tupK (h : X.K = K) : IxR X (rIxT K) := h ▸ ix_tup
theorem sl_listK (h : X.K = K) : SlR X (rSlL K) := h ▸ sl_list
theorem len_K (h : X.K = K) : CallR X (.builtin "len") (rLenS K) := h ▸ call_len_seq
theorem list_K (h : X.K = K) : CallR X (.type "list") (rListS K) := h ▸ call_list_of
theorem sum_K (hc : X.calm = true) (h : X.K = K) : CallR X (.builtin "sum") (rSum K) := h ▸ cr_sum hc
theorem all_K (hc : X.calm = true) (h : X.K = K) : CallR X (.builtin "all") (rAll K) := h ▸ cr_all hc
theorem isi_K (h : X.K = K) : CallR X (.builtin "isinstance") (rIsi K) := h ▸ call_isi
theorem isiT_K (h : X.K = K) : CallR X (.builtin "isinstance") (rIsiT K) := h ▸ call_isiT
theorem repr_K (hg : X.A.guards = some []) (hu : X.A.units + 64 < cLine) (h : X.K = K) : CallR X (.builtin "repr") (rRepr K) := h ▸ cr_repr hg hu
theorem pi_listK (h : X.K = K) (hl : PE X e tl) : PI X tg e (iList K tl) := h ▸ pi_list hl
theorem pg_tupK {es : List Expr} {k : Nat} {t : TGs} {n : Nat} (h : X.K = K) (hc : X.calm = true) (ht : PGs X es t) (hn : (assignEach es X.env).length = n := by rfl) (hst : (assignEach es X.env).findIdx? (·.1) = none := by rfl) :
    PG X (.Tuple es k pos) (gTup K n t) := h ▸ pg_tup hc ht hn hst
theorem pe_appK {o : Expr} {to : TE} {apos cpos : Pos} (h : X.K = K) (ho : PE X o to) (ha : PA X [e] ts) (hbase : attributeBase o "append" X.env (eval o X.env) = eval o X.env := by rfl)
    (hfew : ((backTo cpos (starEach [e] X.env)).all (fun x => !x.1) && (backToKw cpos (keywordEach [] X.env)).all (fun x => x.1.isSome) && decide ([e].length + ([] : List Keyword).length + (if ([] : List Keyword).isEmpty then 0 else 1) < 30)) = true := by rfl)
    (hline : (apos.endLine == cpos.line) = true := by rfl) (hs : starEach [e] X.env = (false, eval e X.env) :: starEach [] X.env := by rfl) (hp : (backTo cpos (starEach [] X.env)).any (·.1) = false := by rfl) :
    PE X (.Call (.Attribute o "append" apos) [e] [] cpos) (tBM K "list" rAppend to ts) :=
  h ▸ pe_bm PySem.F.plainAttrs_list PySem.F.slot_list_append PySem.F.type_list_append mt_append ho ha hbase hfew hline hs hp
end
end Md
set_option Elab.async false
set_option linter.all false
set_option maxRecDepth 100000
set_option maxHeartbeats 2000000
namespace Md
open PySem L2 Evl
theorem mod_twice {x y : Nat} (h : y ≤ x) (h0 : 0 < y) : x % y * 2 ≤ x := by
  have h1 := Nat.mod_lt x h0
  have h2 := Nat.div_add_mod x y
  have h3 : 1 ≤ x / y := (Nat.le_div_iff_mul_le h0).mpr (by omega)
  have h4 : y * 1 ≤ y * (x / y) := Nat.mul_le_mul_left y h3
  omega
def num (n d : Int) : Int × Int := ((if d < 0 then -n else n) / ((Nat.gcd n.natAbs d.natAbs : Nat) : Int), (if d < 0 then -d else d) / ((Nat.gcd n.natAbs d.natAbs : Nat) : Int))
def nD (p : Int × Int) : PyData := .tuple [.int p.1, .int p.2]
section
variable {K : PySem.W.Frag} {σ : L2.St} {b h : Hp} {te : TE} {i : Int}
def rAbs : List V → Hp → VK → Prop := fun xs H Q => ∃ i, xs = [V.int i] ∧ Q (V.int (if i < 0 then -i else i)) H
theorem cr_abs {X : Cx} : CallR X (.builtin "abs") rAbs := call_abs
theorem ev_abs (x : Ev te σ b (.int i)) : Ev (tCB rAbs (tCons te tNil)) σ b (.int (i.natAbs : Int)) := fun h e _ q => x h e _ fun h2 e2 => ⟨i, rfl, by
  have e3 : (if i < 0 then -i else i) = (i.natAbs : Int) := by split <;> omega
  rw [e3]
  exact q h2 e2⟩
end
structure Bt (mg : Str → Option Value) : Prop where
  len : mg "len" = none
  int : mg "int" = none
  range : mg "range" = none
  abs : mg "abs" = none
  repr : mg "repr" = none
  list : mg "list" = none
  isinstance : mg "isinstance" = none
  sum : mg "sum" = none
  zip : mg "zip" = none
  bool : mg "bool" = none
  enumerate : mg "enumerate" = none
  tuple : mg "tuple" = none
  str : mg "str" = none
  all : mg "all" = none
  any : mg "any" = none
  min : mg "min" = none
  max : mg "max" = none
def IsDef (K : PySem.W.Frag) (mg : Str → Option Value) (x : Str) (st : Stmt) (ps : List Str) : Prop := ∃ f fd, Fun K x x st f fd ∧ mg x = some (.ref f) ∧ Binds K fd ps []
def Has (P : Program) (w : World) (K : PySem.W.Frag) (mg : Str → Option Value) (base : Heap) (k : Nat) (x : Str) (ps : List Str) (sp : Sp) : Prop :=
  ∃ f fd, FnOk P w K mg base CX0 k f fd ps sp ∧ mg x = some (.ref f) ∧ PySem.W.keepIn K (.ref f) = true ∧ Binds K fd ps []
def spDraws (K : PySem.W.Frag) : Sp := fun vs h Q _ => ∃ (b : Hp) (a : Addr) (ns : List Int) (n : Nat), vs = [.ref a, .int (n : Int)] ∧ Ex b h ∧ SqL K b a (ns.map V.int) ∧ ns.length ≤ 63 ∧ n ≤ 1000 ∧
  ∀ v b' h' (ds : List Int), Gr b h b' h' → ds.length = n → (∀ d ∈ ds, 0 ≤ d ∧ d < 1000) → Dt K b' v (.list (ds.map PyData.int)) → Q v h'
def spNumber (K : PySem.W.Frag) : Sp := SpF K 2 (fun ds => ∃ n d : Int, ds = [.int n, .int d] ∧ d ≠ 0 ∧ n.natAbs < 2 ^ 1900 ∧ d.natAbs < 2 ^ 1900) (fun ds r => ∀ n d : Int, ds = [.int n, .int d] → r = nD (num n d))
section
variable {K : PySem.W.Frag} {b : Hp} {vs : List V}
theorem DtA.i1 {x : Int} (h : DtA K b vs [.int x]) : vs = [.int x] := by
  cases h with
  | cons h1 h2 =>
    cases h2
    rw [h1.intI]
theorem DtA.i2 {x y : Int} (h : DtA K b vs [.int x, .int y]) : vs = [.int x, .int y] := by
  cases h with
  | cons h1 h2 =>
    rw [h1.intI, h2.i1]
end
section
variable {K : PySem.W.Frag} {σ : L2.St} {b h : Hp} {te ta tb : TE}
theorem DtA.intsI : ∀ {ns : List Int} {vs : List V}, DtA K b vs (ns.map PyData.int) → vs = ns.map V.int
  | [], _, h => by cases h; rfl
  | n :: ns, _, h => by
    cases h with
    | cons h1 h2 => rw [h1.intI, h2.intsI]; rfl
theorem at_ints {ns : List Int} {j : Nat} {z : Int} (e : z = (j : Int)) (h : j < ns.length) : L2.atI (ns.map PyData.int) z = some (.int (ns.getD j 0)) := by
  subst e
  refine atI_nat ?_
  rw [List.getElem?_map, List.getD_eq_getElem?_getD, List.getElem?_eq_getElem h]
  rfl
theorem at_pick (ns : List Int) {z : Int} (h0 : 0 ≤ z) (h : z < (ns.length : Int)) : ∃ x ∈ ns, L2.atI (ns.map PyData.int) z = some (.int x) := by
  have hj : z.toNat < ns.length := by omega
  refine ⟨ns.getD z.toNat 0, ?_, at_ints (by omega) hj⟩
  rw [List.getD_eq_getElem?_getD, List.getElem?_eq_getElem hj]
  exact List.getElem_mem hj
theorem ev_ixI {ns : List Int} {z : Int} (j : Nat) (x : ED K ta σ b (.list (ns.map PyData.int))) (y : Ev tb σ b (.int z)) (e : z = (j : Int)) (hj : j < ns.length) : Ev (tOp (rIxL K) ta tb) σ b (.int (ns.getD j 0)) := ev_int (ed_ixL x y (at_ints e hj))
theorem ev_sum {ns : List Int} (x : ED K te σ b (.list (ns.map PyData.int))) : Ev (tCB (rSum K) (tCons te tNil)) σ b (.int ns.sum) := fun h e _ q => x h e _ fun v b2 h2 g2 hv => by
  obtain ⟨a, xs, rfl, k1, k2⟩ := hv.listI
  rw [k2.intsI] at k1
  exact ⟨a, ns, rfl, sq_of (g2.gi _ _ k1), q h2 g2.gh⟩
theorem ds_get {ns : List Int} {j : Nat} (h : ∀ d ∈ ns, 0 ≤ d ∧ d < 1000) : 0 ≤ ns.getD j 0 ∧ ns.getD j 0 < 1000 := by
  rw [List.getD_eq_getElem?_getD]
  cases e : ns[j]? with
  | none => decide
  | some x => exact h x (List.mem_of_getElem? e)
end
theorem map_range_ints (n : Nat) (r : Nat → Int) : (List.range n).map (fun i => PyData.int (r i)) = ((List.range n).map r).map PyData.int := by
  rw [List.map_map]
  rfl
theorem sIx_of {n : Nat} (d : Nat) {j : Nat} (h : j ≤ n) : HT.sIx n d (some (j : Int)) = j := by
  rw [HT.sIx_nat, Nat.min_eq_left h]
theorem cut_ints {ds : List Int} {lo n : Nat} (hl : lo + n ≤ ds.length) (hd : ∀ d ∈ ds, 0 ≤ d ∧ d < 1000) : ∃ es : List Int, cutD (ds.map PyData.int) (some (lo : Int)) (some ((lo + n : Nat) : Int)) = es.map PyData.int ∧ es.length = n ∧ ∀ d ∈ es, 0 ≤ d ∧ d < 1000 := by
  refine ⟨(ds.drop lo).take n, ?_, by rw [List.length_take, List.length_drop]; omega, fun d h => hd d (List.mem_of_mem_drop (List.mem_of_mem_take h))⟩
  unfold cutD
  rw [List.length_map, sIx_of 0 (show lo ≤ ds.length by omega), sIx_of _ hl, ← List.map_drop, ← List.map_take, show lo + n - lo = n by omega]
inductive Pl where
  | draw (g : Int × Int) (bs : List ((Int × Int) × Int))
  | side (g : Int × Int) (o : Bool) (ts : List Int)
def brD (p : (Int × Int) × Int) : PyData := .tuple [nD p.1, .int p.2]
def Pl.gain : Pl → Int × Int
  | .draw g _ => g
  | .side g _ _ => g
def Pl.kind : Pl → Str
  | .draw _ _ => "draw"
  | .side _ o _ => if o then "ours" else "theirs"
def Pl.bd : Pl → List PyData
  | .draw _ bs => bs.map brD
  | .side _ _ ts => ts.map PyData.int
def Pl.D (p : Pl) : PyData := .tuple [nD p.gain, .str p.kind, .list p.bd]
def gameD (G : List Pl) : PyData := .list (G.map Pl.D)
def SmallN (p : Int × Int) : Prop := 1 ≤ p.2 ∧ p.2 < 1000 ∧ p.1.natAbs < 1000 ∧ Nat.gcd p.1.natAbs p.2.natAbs = 1
def WfP (many : Int) : Pl → Prop
  | .draw g bs => SmallN g ∧ 1 ≤ bs.length ∧ bs.length ≤ 6 ∧ (∀ p ∈ bs, 0 ≤ p.2 ∧ p.2 < many) ∧ ∃ ws : List Int, ws.length = bs.length ∧ (∀ w ∈ ws, 1 ≤ w ∧ w ≤ 5) ∧ bs.map (·.1) = ws.map (fun w => num w ws.sum)
  | .side g _ ts => SmallN g ∧ 1 ≤ ts.length ∧ ts.length ≤ 6 ∧ ∀ t ∈ ts, 0 ≤ t ∧ t < many
def WfG (G : List Pl) : Prop := 1 ≤ G.length ∧ G.length ≤ 12 ∧ ∀ p ∈ G, WfP (G.length : Int) p
theorem num_small {n d : Int} (hn : n.natAbs < 1000) (h0 : d ≠ 0) (hd : d.natAbs < 1000) : SmallN (num n d) := by
  unfold num SmallN
  simp only
  generalize hg : Nat.gcd n.natAbs d.natAbs = g
  have g0 : 0 < g := by rw [← hg]; exact Nat.gcd_pos_of_pos_right _ (by omega)
  generalize hN : (if d < 0 then -n else n) = N
  generalize hDd : (if d < 0 then -d else d) = Dd
  have eN : N.natAbs = n.natAbs := by rw [← hN]; split <;> omega
  have eD : Dd = (d.natAbs : Int) := by rw [← hDd]; split <;> omega
  obtain ⟨a, ha⟩ : g ∣ n.natAbs := by rw [← hg]; exact Nat.gcd_dvd_left _ _
  obtain ⟨c, hc⟩ : g ∣ d.natAbs := by rw [← hg]; exact Nat.gcd_dvd_right _ _
  have hab : Nat.gcd a c = 1 := by
    have := Nat.gcd_mul_left g a c
    rw [← ha, ← hc, hg] at this
    exact Nat.eq_of_mul_eq_mul_left g0 (by omega)
  have hc0 : 0 < c := by
    rcases Nat.eq_zero_or_pos c with z | z
    · subst z; omega
    · exact z
  have gi : (0 : Int) < (g : Int) := by omega
  have e1 : Dd / (g : Int) = (c : Int) := by
    rw [eD, hc]
    rw [Int.natCast_mul]
    exact Int.mul_ediv_cancel_left _ (by omega)
  have e2 : (N / (g : Int)).natAbs = a := by
    rcases Int.natAbs_eq N with z | z
    · rw [z, eN, ha, Int.natCast_mul, Int.mul_ediv_cancel_left _ (by omega)]
      rfl
    · rw [z, eN, ha, Int.natCast_mul, ← Int.mul_neg, Int.mul_ediv_cancel_left _ (by omega), Int.natAbs_neg]
      rfl
  have hcl : c ≤ g * c := Nat.le_mul_of_pos_left c g0
  have hal : a ≤ g * a := Nat.le_mul_of_pos_left a g0
  rw [e1, e2]
  refine ⟨by omega, by omega, by omega, ?_⟩
  rw [Int.natAbs_natCast]
  exact hab
theorem map_getD {α : Type} (ws : List Int) (f : Int → α) : (List.range ws.length).map (fun i => f (ws.getD i 0)) = ws.map f := by
  refine List.ext_getElem? fun i => ?_
  rw [List.getElem?_map, List.getElem?_map]
  by_cases h : i < ws.length
  · rw [List.getElem?_range h, List.getElem?_eq_getElem h]
    show some (f (ws.getD i 0)) = some (f ws[i])
    rw [List.getD_eq_getElem?_getD, List.getElem?_eq_getElem h]
    rfl
  · rw [List.getElem?_eq_none (by rw [List.length_range]; omega), List.getElem?_eq_none (by omega)]
    rfl
theorem sum_small : ∀ {ws : List Int}, (∀ w ∈ ws, 1 ≤ w ∧ w ≤ 5) → ws.sum ≤ 5 * ws.length
  | [], _ => by simp
  | x :: ws, h => by
    have h1 := h x List.mem_cons_self
    have h2 := sum_small fun w hw => h w (List.mem_cons_of_mem _ hw)
    rw [List.sum_cons, List.length_cons]
    omega
theorem sum_pos : ∀ {ws : List Int}, (∀ w ∈ ws, 1 ≤ w ∧ w ≤ 5) → (ws.length : Int) ≤ ws.sum
  | [], _ => by simp
  | x :: ws, h => by
    have h1 := h x List.mem_cons_self
    have h2 := sum_pos fun w hw => h w (List.mem_cons_of_mem _ hw)
    rw [List.sum_cons, List.length_cons]
    omega
theorem all_some {α : Type} {W : α → Prop} {D : α → PyData} : ∀ {acc : List PyData}, (∀ e ∈ acc, ∃ p, W p ∧ e = D p) → ∃ G : List α, acc = G.map D ∧ ∀ p ∈ G, W p
  | [], _ => ⟨[], rfl, fun _ h => by cases h⟩
  | e :: acc, h => by
    obtain ⟨p, hp, rfl⟩ := h e List.mem_cons_self
    obtain ⟨G, rfl, hG⟩ := all_some fun x hx => h x (List.mem_cons_of_mem _ hx)
    exact ⟨p :: G, rfl, fun q hq => by
      rcases List.mem_cons.mp hq with rfl | hq
      · exact hp
      · exact hG q hq⟩
def WfS (x : Str) (G : List Pl) (S : List (Option Nat)) : Prop := S.length = G.length ∧ ∀ (i : Nat) (p : Pl), G[i]? = some p → (p.kind = x → ∃ j, S[i]? = some (some j) ∧ j < p.bd.length) ∧ (p.kind ≠ x → S[i]? = some none)
def Pl.at (p : Pl) (j : Nat) : Int := match p with
  | .draw _ bs => (bs.getD j ((0, 1), 0)).2
  | .side _ _ ts => ts.getD j 0
section
variable {K : PySem.W.Frag} {σ : L2.St} {b h : Hp} {te ta : TE} {d : PyData} {q : Addr} {us : List V} {D : Ends} {tz : TS}
end
def svV : Option Nat → V
  | some j => .int (j : Int)
  | none => .non
end Md
set_option Elab.async false
set_option linter.all false
set_option maxRecDepth 100000
set_option maxHeartbeats 2000000
namespace Md
open PySem L2 Evl
structure Nice (k L : Nat) (d : PyData) : Prop where
  show_ : d.showable = true
  nd : d.hasDict = false
  dep : d.depth ≤ k
  lay : d.canLay0 = true
  len : d.shown.length ≤ L
theorem Nice.mono {k L k' L' : Nat} {d : PyData} (h : Nice k L d) (hk : k ≤ k') (hl : L ≤ L') : Nice k' L' d := ⟨h.show_, h.nd, Nat.le_trans h.dep hk, h.lay, Nat.le_trans h.len hl⟩
theorem nice_int {i : Int} (h : i.natAbs < 10 ^ 18) : Nice 0 19 (.int i) := by
  refine ⟨?_, rfl, Nat.le_refl _, rfl, ?_⟩
  · show decide (i.natAbs.log2 < 1920) = true
    refine decide_eq_true ?_
    by_cases h0 : i.natAbs = 0
    · rw [h0]; decide
    · rw [Nat.log2_lt h0]
      exact Nat.lt_trans h (by decide +kernel)
  · have := PySem.int_text_length_le10 (k := 18) (by decide) h
    show (Str.ofString (toString i)).length ≤ 19
    rw [ofString_length]
    exact this
theorem nice_str {z : Str} {L : Nat} (h : (PyData.str z).shown.length ≤ L) (h2 : (PyData.str z).canLay0 = true) : Nice 0 L (.str z) := ⟨rfl, rfl, Nat.le_refl _, h2, h⟩
theorem nice_all {k L : Nat} : ∀ {ds : List PyData}, (∀ d ∈ ds, Nice k L d) → PyData.showableAll ds = true ∧ PyData.hasDictAll ds = false ∧ PyData.depthAll ds ≤ k ∧ PyData.canLayAll0 ds = true ∧ piled (PyData.shownAll ds) ≤ ds.length * (L + 2)
  | [], _ => ⟨rfl, rfl, Nat.zero_le _, rfl, by rw [List.length_nil, Nat.zero_mul]; exact Nat.le_refl _⟩
  | d :: ds, h => by
    obtain ⟨h1, h2, h3, h4, h5⟩ := nice_all fun x hx => h x (List.mem_cons_of_mem _ hx)
    have hd := h d List.mem_cons_self
    refine ⟨?_, ?_, ?_, ?_, ?_⟩
    · show (d.showable && PyData.showableAll ds) = true
      rw [hd.show_, h1] <;> rfl
    · show (d.hasDict || PyData.hasDictAll ds) = false
      rw [hd.nd, h2] <;> rfl
    · show max d.depth (PyData.depthAll ds) ≤ k
      exact Nat.max_le.mpr ⟨hd.dep, h3⟩
    · show (d.canLay0 && PyData.canLayAll0 ds) = true
      rw [hd.lay, h4] <;> rfl
    · show piled (d.shown :: PyData.shownAll ds) ≤ _
      rw [piled_cons, List.length_cons, Nat.add_mul, Nat.one_mul]
      have := hd.len
      omega
theorem textFrom_le : ∀ (ts : List Str) (k : Nat) (acc : Str), (textFrom k acc ts).length ≤ acc.length + piled ts
  | [], k, acc => by show acc.length ≤ acc.length + piled []; omega
  | t :: r, k, acc => by
    have h := textFrom_le r (k + 1) (acc ++ (if k > 0 then ", " else "" : String) ++ t)
    have e : (acc ++ (if k > 0 then ", " else "" : String) ++ t).length ≤ acc.length + 2 + t.length := by
      rw [strLen_append, strLen_append]
      split
      · exact Nat.le_refl _
      · show acc.length + 0 + t.length ≤ _
        omega
    rw [piled_cons]
    show (textFrom (k + 1) _ r).length ≤ _
    omega
theorem listText_le (ts : List Str) : (listText ts).length ≤ piled ts + 2 := by
  unfold listText
  rw [strLen_append]
  have := textFrom_le ts 0 "["
  have e1 : (("[" : String) : Str).length = 1 := by decide +kernel
  have e2 : (("]" : String) : Str).length = 1 := by decide +kernel
  omega
theorem tupleText_le (ts : List Str) : (tupleText ts).length ≤ piled ts + 4 := by
  unfold tupleText
  rw [strLen_append, strLen_append]
  have e1 : (("(" : Str)).length = 1 := by decide +kernel
  have e3 : ((if ts.length == 1 then ",)" else ")" : String) : Str).length ≤ 2 := by
    split
    · decide +kernel
    · decide +kernel
  by_cases h : ts = []
  · subst h
    have e2 : (Str.join ", " []).length = 0 := by decide +kernel
    omega
  · have := join_length_add ts h
    omega
theorem nice_list {k L n : Nat} {ds : List PyData} (h : ∀ d ∈ ds, Nice k L d) (hn : ds.length ≤ n) : Nice (k + 1) (n * (L + 2) + 4) (.list ds) := by
  obtain ⟨h1, h2, h3, h4, h5⟩ := nice_all h
  refine ⟨h1, h2, Nat.succ_le_succ h3, h4, ?_⟩
  show (listText (PyData.shownAll ds)).length ≤ _
  have := listText_le (PyData.shownAll ds)
  have e : ds.length * (L + 2) ≤ n * (L + 2) := Nat.mul_le_mul_right _ hn
  omega
theorem nice_tup {k L n : Nat} {ds : List PyData} (h : ∀ d ∈ ds, Nice k L d) (hn : ds.length ≤ n) : Nice (k + 1) (n * (L + 2) + 4) (.tuple ds) := by
  obtain ⟨h1, h2, h3, h4, h5⟩ := nice_all h
  refine ⟨h1, h2, Nat.succ_le_succ h3, h4, ?_⟩
  show (tupleText (PyData.shownAll ds)).length ≤ _
  have := tupleText_le (PyData.shownAll ds)
  have e : ds.length * (L + 2) ≤ n * (L + 2) := Nat.mul_le_mul_right _ hn
  omega
theorem nice_kind (p : Pl) : Nice 0 20 (.str p.kind) := by
  cases p with
  | draw g bs => exact nice_str (z := "draw") (L := 20) (by decide +kernel) (by decide +kernel)
  | side g o ts =>
    cases o with
    | true => exact nice_str (z := "ours") (L := 20) (by decide +kernel) (by decide +kernel)
    | false => exact nice_str (z := "theirs") (L := 20) (by decide +kernel) (by decide +kernel)
def NumOk (p : Int × Int) : Prop := p.1.natAbs < 10 ^ 18 ∧ p.2.natAbs < 10 ^ 18
theorem nice_num {p : Int × Int} (h : NumOk p) : Nice 1 46 (nD p) := nice_tup (L := 19) (n := 2) (fun d hd => by
  simp only [List.mem_cons, List.not_mem_nil, or_false] at hd
  rcases hd with rfl | rfl
  · exact nice_int h.1
  · exact nice_int h.2) (by show 2 ≤ 2; decide)
theorem Nice.shaped {k L : Nat} {d : PyData} (h : Nice k L d) (hk : k ≤ 64) : SeqAt.shaped d = true := by
  unfold SeqAt.shaped
  rw [h.lay, decide_eq_true (Nat.le_trans h.dep hk)] <;> rfl
theorem Nice.eqv {k L : Nat} {d : PyData} (h : Nice k L d) : PyData.eqv d d = true := PySem.SeqAt.eqv_refl d h.lay
theorem ok_small {p : Int × Int} (h : SmallN p) : NumOk p := ⟨Nat.lt_trans h.2.2.1 (by decide), Nat.lt_trans (show p.2.natAbs < 1000 by have := h.1; have := h.2.1; omega) (by decide)⟩
def OwnL (K : PySem.W.Frag) (h b' : Hp) (u : V) : Prop := ∃ t g kd l bs, u = .ref t ∧ SqT K b' t [g, kd, .ref l] ∧ h l = none ∧ b' l = some (.lst bs) ∧ bs.length ≤ 6
theorem OwnL.up {K : PySem.W.Frag} {h b b' : Hp} {u : V} (x : OwnL K h b u) (e : Ex b b') : OwnL K h b' u := by
  obtain ⟨t, g, kd, l, bs, h1, h2, h3, h4, h5⟩ := x
  exact ⟨t, g, kd, l, bs, h1, ex_t e h2, h3, e _ _ h4, h5⟩
theorem OwnL.of {K : PySem.W.Frag} {h h' b : Hp} {u : V} (x : OwnL K h' b u) (e : Ex h h') : OwnL K h b u := by
  obtain ⟨t, g, kd, l, bs, h1, h2, h3, h4, h5⟩ := x
  exact ⟨t, g, kd, l, bs, h1, h2, fresh_back e h3, h4, h5⟩
def OwnQ (K : PySem.W.Frag) (h : Hp) (p : Addr) (b' : Hp) (u : V) : Prop := ∃ t g kd l bs, u = .ref t ∧ SqT K b' t [g, kd, .ref l] ∧ h l = none ∧ l ≠ p ∧ b' l = some (.lst bs) ∧ bs.length ≤ 6
theorem OwnL.q {K : PySem.W.Frag} {h b : Hp} {u : V} {p : Addr} (x : OwnL K h b u) (n : b p = none) : OwnQ K h p b u := by
  obtain ⟨t, g, kd, l, bs, h1, h2, h3, h4, h5⟩ := x
  exact ⟨t, g, kd, l, bs, h1, h2, h3, ne_of_none h4 n, h4, h5⟩
theorem OwnQ.up {K : PySem.W.Frag} {h b b' : Hp} {u : V} {p : Addr} (x : OwnQ K h p b u) (e : Ex b b') : OwnQ K h p b' u := by
  obtain ⟨t, g, kd, l, bs, h1, h2, h3, h4, h5, h6⟩ := x
  exact ⟨t, g, kd, l, bs, h1, ex_t e h2, h3, h4, e _ _ h5, h6⟩
section
variable {K : PySem.W.Frag} {σ : L2.St} {b h : Hp} {te : TE} {ts : TA} {ds : List PyData} {D : Ends} {tz : TS} {sp : Sp} {E : XK}
theorem ev_eqS {ta tb : TE} {v : V} (x : Ev ta σ b v) (y : Ev tb σ b v) (hs : scal v v = true) : Ev (tOp rEq ta tb) σ b (.bl true) := by
  have := ev_op x y (rv_eq hs)
  rwa [decide_eq_true rfl] at this
theorem ev_neS {ta tb : TE} {v : V} (x : Ev ta σ b v) (y : Ev tb σ b v) (hs : scal v v = true) : Ev (tOp rNe ta tb) σ b (.bl false) := by
  have := ev_op x y (rv_ne hs)
  rwa [decide_eq_true rfl] at this
end
end Md
set_option Elab.async false
set_option linter.all false
set_option maxRecDepth 100000
set_option maxHeartbeats 2000000
namespace Md
open PySem PySem.Spec PyProof.Rows L2 Evl
def LawOk (P : Program) (w : World) (K : PySem.W.Frag) (mg : Str → Option Value) (base : Heap) (k : Nat) (f : Addr) (fd : FuncData) (ps : List Str) (sp : Sp) : Prop :=
  ∀ (s : Shared) (H : Hp) (ar : Args) (us : List Value) (vs : List V) (Q : VK), Room k callerA → Env0 P w K mg base callerA [] s H →
    BindsTo s fd ar (ps.zip us) → Vals vs us → sp vs H Q E0 → codeAny (model P w) callerA (.call (.ref f) ar) (CR CX0 [] P w H s Q E0) s
theorem law_ok {P : Program} {w : World} {K : PySem.W.Frag} {mg : Str → Option Value} {base : Heap} {x qual : Str} {st : Stmt} {f : Addr} {fd : FuncData} {N ps : List Str} {k : Nat} {sp : Sp} (F : Fun K x qual st f fd)
    (S : FnScope N ps (defScope st)) (len : ∀ vs H Q E, sp vs H Q E → vs.length = ps.length)
    (body : ∀ (cd : Value) (s : Shared) (H : Hp) (vs : List V) (Q : VK), Room k (callerA.deeper (envOfC qual (defScope st) s.heap.objs.size f cd)) → sp vs H Q E0 →
      ∃ t, PSs (cxOf CX0 P w K mg base N qual (defScope st) f cd callerA [] s H E0).nox (defBody st) t ∧ t { nx := fun _ H' => Q .non H', rt := Q } (start N vs) H) : LawOk P w K mg base (k + 1) f fd ps sp := by
  obtain ⟨oc, od, kV, dc, pm, an, cd, ct, sl, rfl, lk, hcd⟩ := F.ex
  intro s H ar us vs Q room e0 hb rv hs
  have hlen := len _ _ _ _ hs
  have old : ∀ c o, base.get? c = some o → s.heap.get? c = some o := fun c o e => (e0.bs c o e).1
  have kin : K.In s.heap := e0.mod.kin.keeps old
  have nolim : s.heap.NoLimit := e0.mod.nolimit.keeps old
  have kinds : ∀ y ∈ ps.zip us, (defScope st).names.lookup y.1 = some .local ∨ ((defScope st).names.lookup y.1 = some .cell ∧ ((cellsFrom (s.heap.objs.size + 1) (defScope st).names []).lookup y.1).isSome = true) := by
    rintro ⟨n, v⟩ hy
    rcases S.par n (List.of_mem_zip hy).1 with z | z
    · exact .inl z
    · exact .inr ⟨z, PySem.W.cellsFrom_some _ _ _ (.inl z)⟩
  refine codeAny_call_function room.depth (kin _ _ lk) rfl S.co S.gen rfl (PySem.W.codeRec_of kin hcd) (hb _ _ _ _ (wpAny_newFunctionEnv_cells S.kind kinds ?_))
  rintro env rfl s1 call
  refine ⟨nolim.keeps call.toInCall.keep, codeAny_func ?_⟩
  obtain ⟨t, ht, hq⟩ := body cd s H vs Q (room.deeper _) hs
  have start_ : Inv (cxOf CX0 P w K mg base N qual (defScope st) f cd callerA [] s H E0) [] (start N vs) H s1 := inv_start S room.hd e0 hlen rv call
  refine wpAny_mono (ht.nox.run [] s1 (start N vs) H _ start_ hq) ?_ (fun _ _ z => z)
  intro fl s2 z
  cases fl with
  | next =>
    obtain ⟨σ2, H2, J, q⟩ := z
    exact ⟨V.non, H2, J.os, J.bare, J.base, J.hok, rfl, q⟩
  | ret u =>
    obtain ⟨v, σ2, H2, J, r, q⟩ := z
    exact ⟨v, H2, J.os, J.bare, J.base, J.hok, r, q⟩
  | brk =>
    obtain ⟨_, _, _, q⟩ := z
    cases q
  | cont =>
    obtain ⟨_, _, _, q⟩ := z
    cases q
theorem law_run {P : Program} {w : World} {K : PySem.W.Frag} {mg mb : Str → Option Value} {k : Nat} {f a : Addr} {fd : FuncData} {x : Str} {sp : Sp} {s1 : Shared} {us : List Value} {ns : List Int}
    (kx : K.In s1.heap) (gl : s1.heap.Ns mainGlobals mg) (bl : s1.heap.Ns builtinsNs mb) (bb : ∀ y : Str, y ≠ "__name__" → mb y = bootBuiltins y) (nl : s1.heap.NoLimit) (gn : s1.gens = #[])
    (ha : s1.heap.get? a = some { cls := .type "list", data := .seq us.toArray }) (hi : IntsAre us ns) (hz : ns.length ≤ sizeLine) (room : Room k callerA)
    (F : ∀ B : Heap, K.In B → B.Ns mainGlobals mg → LawOk P w K mg B k f fd [x] sp) (hb : ∀ (s : Shared) (u : Value), BindsTo s fd ⟨[u], []⟩ [(x, u)])
    (hsp : ∀ H : Hp, Only H → SqL K H a (ns.map V.int) → sp [.ref a] H (fun v _ => v = .bl true) E0) :
    codeAny (model P w) callerA (.call (.ref f) ⟨[.ref a], []⟩) (fun r s2 => r = .ok (.ret (.bool true)) ∧ OldK s1.heap s2.heap ∧ s2.os = s1.os ∧ AllBare s2.gens) s1 := by
  have rv := vals_ints hi
  have hlen := hi.length
  have key : ∀ H : Hp, Only H → SqL K H a (ns.map V.int) → HOk P w H s1.heap → (∀ c, H c ≠ none → c = a) → (H a ≠ none → K.lookup a = none) →
      codeAny (model P w) callerA (.call (.ref f) ⟨[.ref a], []⟩) (fun r s2 => r = .ok (.ret (.bool true)) ∧ OldK s1.heap s2.heap ∧ s2.os = s1.os ∧ AllBare s2.gens) s1 := by
    intro H only sq ok one out
    have nodict : ∀ {c : Addr} {o : Obj} {es : Array DictEntry} {n : Nat}, s1.heap.get? c = some o → o.data = .dict es n → H c = none := by
      intro c o es n e d
      cases q : H c with
      | none => rfl
      | some u =>
        obtain rfl : c = a := one c (by rw [q]; simp)
        rw [ha] at e
        cases e
        cases d
    have ns_ : ∀ {c : Addr} {m : Str → Option Value}, s1.heap.Ns c m → (hidT s1.heap H).Ns c m := by
      rintro c m ⟨o, es, n, e, d, r⟩
      exact ⟨o, es, n, hidT_get e (nodict e d), d, r⟩
    have kB : K.In (hidT s1.heap H) := fun c o e => hidT_get (kx c o e) (by
      cases q : H c with
      | none => rfl
      | some u =>
        obtain rfl : c = a := one c (by rw [q]; simp)
        rw [out (by rw [q]; simp)] at e
        cases e)
    have lim : (hidT s1.heap H).NoLimit := by
      obtain ⟨mc, h1, h2⟩ := nl
      exact ⟨mc, ns_ h1, h2⟩
    have e0 : Env0 P w K mg (hidT s1.heap H) callerA [] s1 H := ⟨rfl, ⟨kB, ns_ gl, ⟨mb, ns_ bl, bb⟩, lim⟩, fun c o e => of_hidT e, Nat.le_of_eq (hidT_size _ _), trivial, (fun c hc => absurd (show c ∈ ([] : List Addr) from hc) (by simp)), ok, .of_eq gn⟩
    refine codeAny_mono (F _ kB (ns_ gl) s1 H ⟨[.ref a], []⟩ [.ref a] [.ref a] _ room e0 (hb s1 (.ref a)) (.cons rfl .nil) (hsp H only sq)) ?_
    intro r s2 z
    cases r with
    | error e => cases z
    | ok fl =>
      cases fl with
      | next => cases z
      | brk => cases z
      | cont => cases z
      | ret u =>
        obtain ⟨v, H2, os, bare, un, ok2, ru, q⟩ := z
        obtain rfl : v = .bl true := q
        obtain rfl : u = Value.bool true := ru
        refine ⟨rfl, OldK.of_keep (fun c o e => ?_), os, bare⟩
        cases q : H c with
        | none => exact un.keep c o e q (fun z => absurd (show c ∈ ([] : List Addr) from z) (by simp)) (by simp)
        | some u =>
          rcases only c with z | ⟨ob, xs, z⟩
          · rw [q] at z
            cases z
          · obtain ⟨e1, _⟩ := ok c _ z
            obtain ⟨e2, _⟩ := ok2 c _ (un.frzs c ob _ z)
            rw [e] at e1
            cases e1
            exact e2
  cases hk : K.lookup a with
  | some o =>
    have e := kx a o hk
    rw [ha] at e
    cases e
    refine key (fun _ => none) (fun _ => .inl rfl) (.inr ⟨_, us.toArray, _, hk, rfl, rfl, rfl, by rw [List.size_toArray, hlen]; exact hz, by simpa using rv⟩) (fun c u z => ?_) (fun c z => absurd rfl z) (fun z => absurd rfl z)
    cases (show (none : Option HO) = some u from z)
  | none =>
    let O : Obj := { cls := .type "list", data := .seq us.toArray }
    let H0 : Hp := fun c => if c = a then some (.frz O (.lst (ns.map V.int))) else none
    have at_a : H0 a = some (.frz O (.lst (ns.map V.int))) := if_pos rfl
    have off : ∀ c, c ≠ a → H0 c = none := fun c hc => if_neg hc
    refine key H0 (fun c => ?_) (.inl (.inr ⟨O, at_a⟩)) (fun c u z => ?_) (fun c z => ?_) (fun _ => hk)
    · by_cases hc : c = a
      · exact .inr ⟨O, ns.map V.int, by rw [hc]; exact at_a⟩
      · exact .inl (off c hc)
    · by_cases hc : c = a
      · subst hc
        rw [at_a] at z
        cases z
        exact ⟨ha, by rw [List.length_map]; exact hz, us, _, rv, ha⟩
      · rw [off c hc] at z
        cases z
    · by_cases hc : c = a
      · exact hc
      · exact absurd (off c hc) z
theorem law_walk {l : PySem.W.OpenLaw} {k : Nat} {q : Program} {loose : List Str} {XP : (Str → Option Value) → Heap → Prop} {YP : World → Heap → Prop} {d : DefRec} {K : Params → PySem.W.Frag} {sp : PySem.W.Frag → Sp} {x : Str}
    (hn : l.most = some 63) (hdf : d.params.defaults = []) (room : Room k callerA) (hY : ∀ (w : World) (h : Heap), YP w h → (K w.params).In h)
    (F : ∀ (w : World) (mg : Str → Option Value) (fa : Addr) (h : Heap), (K w.params).In h → h.Ns mainGlobals mg → mg d.name = some (.ref fa) →
      ∃ fd : FuncData, (∀ (s : Shared) (u : Value), BindsTo s fd ⟨[u], []⟩ [(x, u)]) ∧ ∀ B : Heap, (K w.params).In B → B.Ns mainGlobals mg → LawOk l.prog w (K w.params) mg B k fa fd [x] (sp (K w.params)))
    (hsp : ∀ (K : PySem.W.Frag) (H : Hp) (a : Addr) (ns : List Int), ns.length ≤ 63 → Only H → SqL K H a (ns.map V.int) → sp K [.ref a] H (fun v _ => v = .bl true) E0) :
    PySem.W.WalkO q loose XP YP l.row.toRowW d [] (fun f vs => PySem.call f vs) := by
  refine Att.attach_call hn hdf fun w s₀ s₁ mg mb fa o pm cd doc a vs ns G Y ho hd hcd hmg hobj hints hlen hg => ?_
  have kx := hY w _ Y
  obtain ⟨fd, hb, hF⟩ := F w mg fa _ kx G.T.g hmg
  exact law_run kx G.T.g G.T.b G.T.builtins G.T.nolimit hg hobj hints (Nat.le_trans hlen (by decide)) room hF hb fun H only sq => hsp _ H a ns hlen only sq
def spLaw (K : PySem.W.Frag) : Sp := fun vs H Q _ => ∃ (a : Addr) (ns : List Int), vs = [.ref a] ∧ SqL K H a (ns.map V.int) ∧ ns.length ≤ 63 ∧ ∀ H', Q (.bl true) H'
end Md
set_option Elab.async false
set_option linter.all false
set_option maxRecDepth 100000
set_option maxHeartbeats 2000000
namespace Md
open PySem L2 Evl
section
variable {X : Cx} {CX : CXT} {k : Nat} {f : Addr} {fd : FuncData} {ps ks : List Str} {sp : Sp} {E : L2.St → XK} {x : Str} {p pos : Pos} {e : Expr} {es : List Expr} {kws : List Keyword} {t tk : TA} {g : List Value → List Value → List Value} {gV : List V → List V → List V}
end
def NBAt (H : Hp) (C : Addr) (n : Int) (E : XK) : Prop := ∀ d h', Ex H h' → H d = none → h' d = some (.xd [(("at" : Str), .int n)]) → E (.ref C) (some d) h'
theorem NBAt.up {H H' : Hp} {C : Addr} {n : Int} {E : XK} (x : NBAt H C n E) (e : Ex H H') : NBAt H' C n E := fun d h' e' nd hd => x d h' (e.trans e') (fresh_back e nd) hd
def Pl.tg : Pl → List Int
  | .draw _ bs => bs.map (·.2)
  | .side _ _ ts => ts
def plAt (G : List Pl) (x : Nat) : Pl := G.getD x (.side (0, 1) true [])
def stepT (G : List Pl) (x : Nat) (n : Int) : Nat := ((plAt G x).tg.getD n.toNat 0).toNat
def okB (G : List Pl) (x : Nat) (n : Int) : Prop := 0 ≤ n ∧ n < ((plAt G x).tg.length : Int)
instance (G : List Pl) (x : Nat) (n : Int) : Decidable (okB G x n) := by unfold okB; exact inferInstance
def lastF (G : List Pl) : Nat → List Int → Nat
  | x, [] => x
  | x, n :: r => lastF G (stepT G x n) r
def pathF (G : List Pl) : Nat → List Int → List Nat
  | x, [] => [x]
  | x, n :: r => x :: pathF G (stepT G x n) r
def OkTo (G : List Pl) (x : Nat) (r : List Int) (i : Nat) : Prop := ∀ j n, j < i → r[j]? = some n → okB G (lastF G x (r.take j)) n
theorem OkTo.take {G : List Pl} {x : Nat} {r : List Int} {i : Nat} (h : OkTo G x r i) (hi : i ≤ r.length) : OkTo G x (r.take i) (r.take i).length := fun j n hj hn => by
  rw [List.length_take, Nat.min_eq_left hi] at hj
  rw [List.getElem?_take_of_lt hj] at hn
  rw [List.take_take, Nat.min_eq_left (Nat.le_of_lt hj)]
  exact h j n hj hn
def intsD (l : List Int) : PyData := .list (l.map PyData.int)
def natsD (l : List Nat) : PyData := .list (l.map fun x : Nat => PyData.int (x : Int))
section
variable {K : PySem.W.Frag} {σ : L2.St} {b h : Hp} {te ta tb tc : TE} {ts : TA} {ds : List PyData} {E : XK}
end
theorem DtA.boolsI {K : PySem.W.Frag} {b : Hp} : ∀ {bs : List Bool} {vs : List V}, DtA K b vs (bs.map PyData.bool) → vs = bs.map V.bl
  | [], _, h => by cases h; rfl
  | n :: ns, _, h => by
    cases h with
    | cons h1 h2 => rw [h1.boolI, h2.boolsI]; rfl
theorem ev_all {K : PySem.W.Frag} {σ : L2.St} {b : Hp} {te : TE} {bs : List Bool} (x : ED K te σ b (.list (bs.map PyData.bool))) : Ev (tCB (rAll K) (tCons te tNil)) σ b (.bl (bs.all id)) := fun h e _ q => x h e _ fun v b2 h2 g2 hv => by
  obtain ⟨a, xs, rfl, k1, k2⟩ := hv.listI
  rw [k2.boolsI] at k1
  exact ⟨a, bs, rfl, sq_of (g2.gi _ _ k1), q h2 g2.gh⟩
def eK (G : List Pl) (S : List (Option Nat)) (x : Nat) (r : List Int) (k : Nat) : Bool := decide (V.int (r.getD k 0) = svV (S.getD (lastF G x (r.take k)) none))
def gK (n m : Nat) {α : Type} (us ws : List α) : List α := if us.length = n ∧ ws.length = m then us ++ ws else []
section
variable {K : PySem.W.Frag} {σ : L2.St} {b b' h : Hp} {te t1 t2 : TE} {ts tk : TA} {E : XK} {P P1 P2 : PyData → Prop}
theorem EX.up (x : EX K te σ b P) (e : Ex b b') : EX K te σ b' P := fun h e1 _ q => x h (e.trans e1) _ fun v b2 h2 d g hp hv => by
  obtain ⟨b3, g3, e3, _⟩ := g.back e e1
  exact q v b3 h2 d g3 hp (hv.up e3)
end
end Md
set_option Elab.async false
set_option linter.all false
set_option maxRecDepth 100000
set_option maxHeartbeats 2000000
namespace Md
open PySem L2 Evl
theorem cast_dvd {g : Nat} {n : Int} (h : g ∣ n.natAbs) : (g : Int) ∣ n := Int.natAbs_dvd_natAbs.mp (by rw [Int.natAbs_natCast]; exact h)
def Red (p : Int × Int) : Prop := 1 ≤ p.2 ∧ Nat.gcd p.1.natAbs p.2.natAbs = 1
theorem red_small {p : Int × Int} (h : SmallN p) : Red p := ⟨h.1, h.2.2.2⟩
theorem num_pos {n d : Int} (h : 0 < d) : num n d = (n / ((Nat.gcd n.natAbs d.natAbs : Nat) : Int), d / ((Nat.gcd n.natAbs d.natAbs : Nat) : Int)) := by
  unfold num
  rw [if_neg (by omega), if_neg (by omega)]
theorem num_cross {n d : Int} (h : 0 < d) : (num n d).1 * d = n * (num n d).2 := by
  rw [num_pos h]
  show n / ((Nat.gcd n.natAbs d.natAbs : Nat) : Int) * d = n * (d / ((Nat.gcd n.natAbs d.natAbs : Nat) : Int))
  have h1 : ((Nat.gcd n.natAbs d.natAbs : Nat) : Int) ∣ n := cast_dvd (Nat.gcd_dvd_left _ _)
  have h2 : ((Nat.gcd n.natAbs d.natAbs : Nat) : Int) ∣ d := cast_dvd (Nat.gcd_dvd_right _ _)
  have g0 : ((Nat.gcd n.natAbs d.natAbs : Nat) : Int) ≠ 0 := by
    have := Nat.gcd_pos_of_pos_right n.natAbs (show 0 < d.natAbs by omega)
    omega
  generalize ((Nat.gcd n.natAbs d.natAbs : Nat) : Int) = g at h1 h2 g0
  obtain ⟨a, rfl⟩ := h1
  obtain ⟨c, rfl⟩ := h2
  rw [Int.mul_ediv_cancel_left _ g0, Int.mul_ediv_cancel_left _ g0]
  rw [Int.mul_left_comm, Int.mul_assoc]
theorem num_red {n d : Int} (h : 0 < d) : Red (num n d) := by
  rw [num_pos h]
  have hg := Nat.gcd_pos_of_pos_right n.natAbs (show 0 < d.natAbs by omega)
  obtain ⟨a, ha⟩ := Nat.gcd_dvd_left n.natAbs d.natAbs
  obtain ⟨c, hc⟩ := Nat.gcd_dvd_right n.natAbs d.natAbs
  generalize hgg : Nat.gcd n.natAbs d.natAbs = g at *
  have hac : Nat.gcd a c = 1 := by
    have := Nat.gcd_mul_left g a c
    rw [← ha, ← hc, hgg] at this
    exact Nat.eq_of_mul_eq_mul_left hg (by omega)
  have e1 : (n / (g : Int)).natAbs = a := by
    rcases Int.natAbs_eq n with z | z
    · rw [z, ha, Int.natCast_mul, Int.mul_ediv_cancel_left _ (by omega), Int.natAbs_natCast]
    · rw [z, ha, Int.natCast_mul, ← Int.mul_neg, Int.mul_ediv_cancel_left _ (by omega), Int.natAbs_neg, Int.natAbs_natCast]
  have e2 : d / (g : Int) = (c : Int) := by
    have z : d = ((d.natAbs : Nat) : Int) := by omega
    rw [z, hc, Int.natCast_mul, Int.mul_ediv_cancel_left _ (by omega)]
  have hc0 : 0 < c := by
    rcases Nat.eq_zero_or_pos c with z | z
    · subst z; omega
    · exact z
  refine ⟨?_, ?_⟩
  · show 1 ≤ d / (g : Int)
    rw [e2]
    omega
  · show Nat.gcd (n / (g : Int)).natAbs (d / (g : Int)).natAbs = 1
    rw [e1, e2, Int.natAbs_natCast]
    exact hac
theorem red_ext {p q : Int × Int} (hp : Red p) (hq : Red q) (h : p.1 * q.2 = q.1 * p.2) : p = q := by
  obtain ⟨p1, p2⟩ := hp
  obtain ⟨q1, q2⟩ := hq
  have hn : p.1.natAbs * q.2.natAbs = q.1.natAbs * p.2.natAbs := by rw [← Int.natAbs_mul, ← Int.natAbs_mul, h]
  have d1 : p.2.natAbs ∣ q.2.natAbs := by
    have c : Nat.Coprime p.2.natAbs p.1.natAbs := by rw [Nat.coprime_comm]; exact p2
    exact c.dvd_of_dvd_mul_left ⟨q.1.natAbs, by rw [hn, Nat.mul_comm]⟩
  have d2 : q.2.natAbs ∣ p.2.natAbs := by
    have c : Nat.Coprime q.2.natAbs q.1.natAbs := by rw [Nat.coprime_comm]; exact q2
    exact c.dvd_of_dvd_mul_left ⟨p.1.natAbs, by rw [← hn, Nat.mul_comm]⟩
  have e : p.2.natAbs = q.2.natAbs := Nat.dvd_antisymm d1 d2
  have e2 : p.2 = q.2 := by omega
  rw [e2] at h
  have e1 : p.1 = q.1 := Int.eq_of_mul_eq_mul_right (by omega) h
  exact Prod.ext e1 e2
def plusN (a b : Int × Int) : Int × Int := num (a.1 * b.2 + b.1 * a.2) (a.2 * b.2)
def sumN (l : List (Int × Int)) : Int × Int := l.foldl plusN (0, 1)
def Big (k : Nat) (p : Int × Int) : Prop := p.1.natAbs < 2 ^ k ∧ p.2.natAbs < 2 ^ k
theorem Big.mono {j k : Nat} {p : Int × Int} (h : Big j p) (hk : j ≤ k) : Big k p := ⟨Nat.lt_of_lt_of_le h.1 (Nat.pow_le_pow_right (by decide) hk), Nat.lt_of_lt_of_le h.2 (Nat.pow_le_pow_right (by decide) hk)⟩
def numsD (l : List (Int × Int)) : PyData := .list (l.map nD)
section
variable {K : PySem.W.Frag} {σ : L2.St} {b h : Hp} {te ta tb : TE} {ts : TA} {E : XK} {p q : Int × Int} {l : List (Int × Int)}
end
end Md
set_option Elab.async false
set_option linter.all false
set_option maxRecDepth 100000
set_option maxHeartbeats 2000000
namespace Md
open PySem L2 Evl
def kindD : PyData → String
  | .none => "NoneType" | .bool _ => "bool" | .int _ => "int" | .str _ => "str" | .list _ => "list" | .tuple _ => "tuple" | .dict _ => "dict"
def isNo : PyData → Bool
  | .none => true
  | _ => false
theorem Dt.ty {K : PySem.W.Frag} {H : Hp} : ∀ {d : PyData} {v : V}, Dt K H v d → TyX K H v (.type (kindD d))
  | .none, _, h => by cases h; exact .base .non
  | .bool b, _, h => by cases h; exact .base (.bl b)
  | .int i, _, h => by cases h; exact .base (.int i)
  | .str x, _, h => by cases h; exact .base (.str x)
  | .list ds, _, h => by
    cases h with
    | list h1 h2 => exact .base (.lst h1)
  | .tuple ds, _, h => by
    cases h with
    | tuple h1 h2 =>
      rcases h1 with (h1 | ⟨o, h1⟩) | ⟨o, its, n, h1, h3, _⟩
      · exact .base (.tup h1)
      · exact .fTuple h1
      · exact .kTuple h1 h3
  | .dict _, _, h => by cases h
section
variable {K : PySem.W.Frag} {σ : L2.St} {b h : Hp} {te ta tb : TE} {d : PyData} {ds : List PyData} {E : XK} {ts : TA}
theorem ev_isiD {T : String} {r : Bool} (x : ED K te σ b d) (hk : kitB (kindD d) T = some r) : Ev (tCB (rIsi K) (tCons te (tCons (tC (.ty T)) tNil))) σ b (.bl r) := fun h e _ q => x h e _ fun v b2 h2 g2 hv =>
  ⟨v, .ty T, .type (kindD d), .type T, r, rfl, .ty _, (hv.up g2.gi).ty, kit_ty hk, q h2 g2.gh⟩
theorem ev_isN (x : ED K te σ b d) {r : Bool} (hr : isNo d = r) : Ev (tOp rIsN te (tC .non)) σ b (.bl r) := fun h e _ q => x h e _ fun v b2 h2 g2 hv => by
  refine ⟨rfl, ?_⟩
  have e1 : decide (v = V.non) = r := by
    rw [← hr]
    cases d with
    | none => rw [hv.noneI] <;> rfl
    | bool k => rw [hv.boolI] <;> rfl
    | int k => rw [hv.intI] <;> rfl
    | str k => rw [hv.strI] <;> rfl
    | list k => obtain ⟨a, xs, rfl, _⟩ := hv.listI; rfl
    | tuple k => obtain ⟨a, xs, rfl, _⟩ := hv.tupleI; rfl
    | dict k => cases hv
  rw [e1]
  exact q h2 g2.gh
def Dep : Nat → PyData → Prop
  | 0, _ => False
  | n + 1, .list ds => ds.length ≤ 30000 ∧ ∀ d ∈ ds, Dep n d
  | n + 1, .tuple ds => ds.length ≤ 30000 ∧ ∀ d ∈ ds, Dep n d
  | _ + 1, .dict _ => False
  | _ + 1, _ => True
def spSame (K : PySem.W.Frag) (n : Nat) : Sp := fun vs h Q _ => ∃ (b : Hp) (d : PyData), Ex b h ∧ DtA K b vs [d, d] ∧ Dep n d ∧ ∀ h', Ex h h' → Q (.bl true) h'
theorem ev_sameD {n : Nat} (y : EDA K ts σ b [d, d]) (hd : Dep n d) : Ev (tCall (spSame K n) [] E ts) σ b (.bl true) := fun h e _ q =>
  y h e _ fun vs b2 h2 g2 hv => ⟨b2, d, g2.gi, by rw [List.append_nil]; exact hv, hd, fun h3 e3 => q h3 (g2.gh.trans e3)⟩
theorem all_true (n : Nat) : ((List.range n).map fun _ => true).all id = true := by
  rw [List.all_eq_true]
  intro x hx
  obtain ⟨_, _, rfl⟩ := List.mem_map.mp hx
  rfl
theorem givenD_true (n : Nat) : givenD n (fun _ => true) (fun _ => PyData.bool true) = ((List.range n).map fun _ => true).map PyData.bool := by
  rw [givenD_all, List.map_map]
  rfl
end
theorem fn_never {P : Program} {w : World} {K : PySem.W.Frag} {mg : Str → Option Value} {base : Heap} {CX : CXT} {k : Nat} {f : Addr} {fd : FuncData} {ps : List Str} {sp : Sp} (h : ∀ vs H Q E, ¬ sp vs H Q E) : FnOk P w K mg base CX k f fd ps sp :=
  ⟨fun vs H Q E x => absurd x (h vs H Q E), fun A outer s H args us vs Q E _ _ _ _ x => absurd x (h vs H Q E)⟩
def rIsX (K : PySem.W.Frag) (D a : Addr) (cls : Value) (d : Option Addr) : List V → Hp → VK → Prop := fun xs H Q => ∃ (c : V) (cv : Value) (b : Bool) (dd : Addr) (fs : List (Str × V)), xs = [.ref a, c] ∧ (∀ u, RelV c u → u = cv) ∧ cls = .ref D ∧ d = some dd ∧ H dd = some (.xd fs) ∧
  PySem.W.kitOne K (.ref D) cv = some b ∧ Q (.bl b) H
theorem call_isX {X : Cx} {a D : Addr} {oe : Obj} {cls : Value} {d : Option Addr} {pn : List (Addr × Obj)} (C : ExcC X.K D) (hz : Zc cls d oe) (hf : ∃ vs, oe.data = .fields vs) : CallR (X.suite a ((a, oe) :: pn)) (.builtin "isinstance") (rIsX X.K D a cls d) := by
  intro pins s σ H xs us Q I r h
  obtain ⟨c, cv, b, dd, fs, rfl, hcv, rfl, rfl, hx, e, q⟩ := h
  obtain ⟨u1, u2, rfl, r1, r2⟩ := vals2 r
  obtain rfl : u1 = Value.ref a := r1
  obtain rfl := hcv _ r2
  obtain ⟨ha, _⟩ := I.pin (a, oe) (List.mem_append_left _ List.mem_cons_self)
  obtain ⟨vs, hd⟩ := hf
  obtain ⟨mA, hns, _⟩ := I.hok dd _ hx
  obtain ⟨od, ho, _⟩ := lookIn_ns hns
  have J : PySem.W.InstAt s.heap a oe D (some od) := ⟨ha, hz.1, by unfold PySem.W.notCls; rw [hd], by rw [hz.2]; exact ho⟩
  have hcl : (PySem.W.clsIn X.K D).isSome = true := by
    obtain ⟨cd, hc, _⟩ := PySem.W.any_some C.hd
    rw [hc]
    rfl
  exact PySem.W.kia_one (PySem.W.kitx_exc hcl C.hg C.hk C.hs C.ha C.hn C.ht C.hm) I.kIn J e (fun z => nomatch z) fun tk => ⟨.bl b, H, I.kept (t' := tk) fun _ _ z => z, rfl, q⟩
theorem isX_K {X : Cx} {K : PySem.W.Frag} {a D : Addr} {oe : Obj} {cls : Value} {d : Option Addr} {pn : List (Addr × Obj)} (h : X.K = K) (C : ExcC K D) (hz : Zc cls d oe) (hf : ∃ vs, oe.data = .fields vs) : CallR (X.suite a ((a, oe) :: pn)) (.builtin "isinstance") (rIsX K D a cls d) := by
  subst h
  exact call_isX C hz hf
def gainsF (G : List Pl) (x : Nat) (r : List Int) : List (Int × Int) := ((pathF G x r).take r.length).map fun y => (plAt G y).gain
end Md
namespace Md
open PySem L2 Evl
theorem map_getDn {α β : Type} (l : List α) (d : α) (f : α → β) : (List.range l.length).map (fun i => f (l.getD i d)) = l.map f := by
  refine List.ext_getElem? fun i => ?_
  rw [List.getElem?_map, List.getElem?_map]
  by_cases h : i < l.length
  · rw [List.getElem?_range h, List.getElem?_eq_getElem h]
    show some (f (l.getD i d)) = some (f l[i])
    rw [List.getD_eq_getElem?_getD, List.getElem?_eq_getElem h]
    rfl
  · rw [List.getElem?_eq_none (by rw [List.length_range]; omega), List.getElem?_eq_none (by omega)]
    rfl
end Md
namespace Md
open PySem L2 Evl
structure NBIs (K : PySem.W.Frag) (mg : Str → Option Value) (C cg : Addr) : Prop where
  mG : mg "GainError" = some (.ref cg)
  mV : mg "ValueError" = none
  ec : ExcC K C
  kG : PySem.W.kitOne K (.ref C) (.ref cg) = some true
  kV : PySem.W.kitOne K (.ref C) (.type "ValueError") = some true
section
variable {K : PySem.W.Frag} {σ : L2.St} {b h : Hp} {te ta : TE} {C cg a : Addr} {cls : Value} {d : Option Addr} {dd : Addr} {fs : List (Str × V)}
end
end Md
namespace Md
open PySem L2 Evl
section
variable {K : PySem.W.Frag} {σ : L2.St} {b : Hp} {ts : TA} {E : XK} {G : List Pl} {x m : Nat} {r : List Int}
end
end Md
namespace Md
open PySem L2 Evl
end Md
set_option Elab.async false
set_option linter.all false
set_option maxRecDepth 100000
set_option maxHeartbeats 2000000
namespace Md
open PySem L2 Evl
def qN (p : Int × Int) : Rat := (p.1 : Rat) / (p.2 : Rat)
theorem cast_ne {z : Int} (h : z ≠ 0) : (z : Rat) ≠ 0 := fun e => h (Rat.intCast_inj.mp (by rw [e]; rfl))
theorem red_ne {p : Int × Int} (h : Red p) : (p.2 : Rat) ≠ 0 := cast_ne (by have := h.1; omega)
theorem div_eq_of {a b c d : Rat} (hb : b ≠ 0) (hd : d ≠ 0) (h : a * d = c * b) : a / b = c / d := by grind
theorem cross_of_div {a b c d : Rat} (hb : b ≠ 0) (hd : d ≠ 0) (h : a / b = c / d) : a * d = c * b := by grind
theorem q_inj {p r : Int × Int} (hp : Red p) (hr : Red r) (h : qN p = qN r) : p = r := by
  refine red_ext hp hr ?_
  have h1 := cross_of_div (red_ne hp) (red_ne hr) h
  rw [← Rat.intCast_mul, ← Rat.intCast_mul] at h1
  exact Rat.intCast_inj.mp h1
theorem q_num {n d : Int} (h : 0 < d) : qN (num n d) = (n : Rat) / (d : Rat) := by
  refine div_eq_of (red_ne (num_red h)) (cast_ne (by omega)) ?_
  rw [← Rat.intCast_mul, ← Rat.intCast_mul, num_cross h]
def divN (a b : Int × Int) : Int × Int := num (a.1 * b.2) (a.2 * b.1)
end Md
set_option Elab.async false
set_option linter.all false
set_option maxRecDepth 100000
set_option maxHeartbeats 4000000
namespace Md
open PySem PySem.Spec PyProof.Rows L2 Evl
end Md
set_option Elab.async false
set_option linter.all false
set_option maxRecDepth 100000
set_option maxHeartbeats 2000000
namespace Md
open PySem L2 Evl
def okA (G : List Pl) : Nat → List Int → Prop
  | _, [] => True
  | x, n :: r => okB G x n ∧ okA G (stepT G x n) r
def gainsR (G : List Pl) : Nat → List Int → List (Int × Int)
  | _, [] => []
  | x, n :: r => (plAt G x).gain :: gainsR G (stepT G x n) r
theorem okTo_of {G : List Pl} : ∀ {r : List Int} {x : Nat}, okA G x r → OkTo G x r r.length
  | [], _, _ => fun j n hj => absurd hj (Nat.not_lt_zero _)
  | n :: r, x, h => fun j m hj hm => by
    cases j with
    | zero =>
      simp only [List.getElem?_cons_zero, Option.some.injEq] at hm
      subst hm
      exact h.1
    | succ j =>
      simp only [List.getElem?_cons_succ] at hm
      exact okTo_of h.2 j m (Nat.lt_of_succ_lt_succ hj) hm
def gainAns (G : List Pl) (y : Nat) (s : List Int) : Int × Int := divN (sumN (gainsF G y s)) ((s.length : Int), 1)
def qSum (G : List Pl) (y : Nat) (s : List Int) : Rat := ((gainsR G y s).map qN).sum
end Md
namespace Md
open PySem L2 Evl
def tTru (K : PySem.W.Frag) (ta : TE) : TT := fun σ H Q => ta σ H fun x H' => ∃ k, TruV K x H' k ∧ Q k H'
structure NCs (K : PySem.W.Frag) (mg : Str → Option Value) (N C : Addr) : Prop where
  mN : mg "NoCircle" = some (.ref N)
  ex : PySem.W.excIn K N [.type "ValueError", .type "Exception", .type "BaseException", .type "object"] "ValueError.__new__" = true
  kp : PySem.W.keepIn K (.ref N) = true
  sb : PySem.W.subIn K (.ref N) (.type "BaseException") = some true
  ty : PySem.W.typeIn K (.ref N) = some (.type "type")
def NCAt (h : Hp) (N : Addr) (E : XK) : Prop := ∀ h', Ex h h' → E (.ref N) none h'
theorem NCAt.up {H H' : Hp} {N : Addr} {E : XK} (x : NCAt H N E) (e : Ex H H') : NCAt H' N E := fun h' e' => x h' (e.trans e')
def NoC (G : List Pl) (x : Nat) (r s : List Int) : Prop := okA G x (r ++ s) ∧ (s = [] ∨ lastF G x (r ++ s) ≠ lastF G x r)
def BadAt (G : List Pl) (x : Nat) (r : List Int) (j : Nat) : Prop := ∃ n, r[j]? = some n ∧ OkTo G x r j ∧ ¬ okB G (lastF G x (r.take j)) n
theorem bad_ok {G : List Pl} {x : Nat} {r : List Int} {j : Nat} (h : BadAt G x r j) (ho : okA G x r) : False := by
  obtain ⟨n, hj, _, hb⟩ := h
  exact hb (okTo_of ho j n (List.getElem?_eq_some_iff.mp hj).1 hj)
theorem bad_det {G : List Pl} {x : Nat} {r : List Int} {i j : Nat} (h : BadAt G x r i) (h2 : BadAt G x r j) : i = j := by
  obtain ⟨n, hj, ho, hb⟩ := h
  obtain ⟨m, hj2, ho2, hb2⟩ := h2
  rcases Nat.lt_trichotomy i j with z | z | z
  · exact absurd (ho2 i n z hj) hb
  · exact z
  · exact absurd (ho j m z hj2) hb2
inductive Res5 (G : List Pl) (x : Nat) (r s : List Int) : PyData → Prop
  | good : okA G x (r ++ s) → s ≠ [] → lastF G x (r ++ s) = lastF G x r → Res5 G x r s (nD (gainAns G (lastF G x r) s))
  | circle : NoC G x r s → Res5 G x r s (.tuple [.str "raised", .str "circle"])
  | branch (j : Nat) : BadAt G x (r ++ s) j → Res5 G x r s (.tuple [.str "raised", .str "branch", .int (j : Int)])
theorem Res5.det {G : List Pl} {x : Nat} {r s : List Int} {d e : PyData} (h : Res5 G x r s d) (h2 : Res5 G x r s e) : d = e := by
  cases h with
  | good a1 a2 a3 =>
    cases h2 with
    | good _ _ _ => rfl
    | circle c => rcases c.2 with z | z
                  · exact absurd z a2
                  · exact absurd a3 z
    | branch j c => exact (bad_ok c a1).elim
  | circle a =>
    cases h2 with
    | good b1 b2 b3 => rcases a.2 with z | z
                       · exact absurd z b2
                       · exact absurd b3 z
    | circle _ => rfl
    | branch j c => exact (bad_ok c a.1).elim
  | branch i a =>
    cases h2 with
    | good b1 _ _ => exact (bad_ok a b1).elim
    | circle c => exact (bad_ok a c.1).elim
    | branch j c => rw [bad_det a c]
section
variable {K : PySem.W.Frag} {σ : L2.St} {b : Hp} {ts : TA} {E : XK} {G : List Pl} {x : Nat} {r s : List Int} {d : PyData} {p q : Int × Int}
end
end Md
namespace Md
open PySem L2 Evl
end Md
set_option Elab.async false
set_option linter.all false
set_option maxRecDepth 100000
set_option maxHeartbeats 2000000
namespace Md
open PySem L2 Evl
theorem pigeon : ∀ (n N : Nat) (p : Nat → Nat), (∀ i, i < N → p i < n) → (∀ i j, i < j → j < N → p i ≠ p j) → N ≤ n
  | 0, N, p, h, _ => by
    rcases Nat.eq_zero_or_pos N with z | z
    · omega
    · exact absurd (h 0 z) (Nat.not_lt_zero _)
  | n + 1, N, p, h, d => by
    by_cases hx : ∃ i, i < N ∧ p i = n
    · obtain ⟨i0, h0, e0⟩ := hx
      have ih := pigeon n (N - 1) (fun j => if j < i0 then p j else p (j + 1)) (fun j hj => ?_) (fun i j hij hj => ?_)
      · omega
      · show (if j < i0 then p j else p (j + 1)) < n
        split
        · rename_i z
          have h1 := h j (by omega)
          have h2 := d j i0 z h0
          omega
        · rename_i z
          have h1 := h (j + 1) (by omega)
          have h2 := d i0 (j + 1) (by omega) (by omega)
          omega
      · show (if i < i0 then p i else p (i + 1)) ≠ (if j < i0 then p j else p (j + 1))
        split
        · split
          · exact d i j hij (by omega)
          · exact d i (j + 1) (by omega) (by omega)
        · rw [if_neg (by omega)]
          exact d (i + 1) (j + 1) (by omega) (by omega)
    · have ih := pigeon n N p (fun i hi => ?_) d
      · omega
      · have h1 := h i hi
        have h2 : p i ≠ n := fun z => hx ⟨i, hi, z⟩
        omega
def atK (G : List Pl) (x : Nat) (r : List Int) (k : Nat) : Nat := lastF G x (r.take k)
section
variable {K : PySem.W.Frag} {σ : L2.St} {b : Hp} {te ta tb : TE} {l : List Nat} {x : Nat}
end
end Md
namespace Md
open PySem L2 Evl
section
variable {K : PySem.W.Frag} {σ : L2.St} {b h : Hp} {te ta tb : TE} {ts : TA} {E : XK} {D : Ends} {tz : TS} {d1 d2 : PyData}
end
end Md
set_option Elab.async false
set_option linter.all false
set_option maxRecDepth 100000
set_option maxHeartbeats 2000000
namespace Md
open PySem L2 Evl
def NoDraw (G : List Pl) : Prop := ∀ p ∈ G, p.kind ≠ "draw"
def tbr (So St : List (Option Nat)) (p : Pl) (y : Nat) : Nat := if p.kind = "ours" then (So.getD y none).getD 0 else (St.getD y none).getD 0
def playR (G : List Pl) (So St : List (Option Nat)) (x : Nat) : Nat → List Int
  | 0 => []
  | n + 1 => playR G So St x n ++ [((tbr So St (plAt G (lastF G x (playR G So St x n))) (lastF G x (playR G So St x n)) : Nat) : Int)]
def hereR (G : List Pl) (So St : List (Option Nat)) (x n : Nat) : Nat := lastF G x (playR G So St x n)
structure Two (G : List Pl) (So St : List (Option Nat)) : Prop where
  wf : WfG G
  nd : NoDraw G
  so : WfS "ours" G So
  st : WfS "theirs" G St
section
variable {G : List Pl} {So St : List (Option Nat)} {x : Nat}
structure Lp (G : List Pl) (So St : List (Option Nat)) (x m f : Nat) : Prop where
  lt : f < m
  le : m ≤ G.length
  eq : hereR G So St x f = hereR G So St x m
  di : ∀ i k, i < k → k < m → hereR G So St x i ≠ hereR G So St x k
end
end Md
namespace Md
open PySem L2 Evl
def HasK (P : Program) (w : World) (K : PySem.W.Frag) (mg : Str → Option Value) (base : Heap) (k : Nat) (x : Str) (ps ks : List Str) (n m : Nat) (sp : Sp) : Prop :=
  ∃ f fd, FnOk P w K mg base CX0 k f fd ps sp ∧ mg x = some (.ref f) ∧ PySem.W.keepIn K (.ref f) = true ∧ KBinds K fd ps ks (gK n m) (gK n m)
end Md
namespace Md
open PySem L2 Evl
section
variable {K : PySem.W.Frag} {σ : L2.St} {b h : Hp} {te ta tb t1 t2 : TE} {ts tk : TA} {D : Ends} {tz : TS} {ds1 ds2 : List PyData} {E : XK}
end
section
variable {G : List Pl} {So St : List (Option Nat)} {x m f : Nat}
end
end Md
namespace Md
open PySem L2 Evl
section
variable {K : PySem.W.Frag} {σ : L2.St} {b h : Hp} {te t1 t2 : TE} {D : Ends} {tz : TS} {E : XK} {P1 P2 : PyData → Prop}
end
end Md
namespace Md
open PySem L2 Evl
end Md
set_option Elab.async false
set_option linter.all false
set_option maxRecDepth 100000
set_option maxHeartbeats 2000000
namespace Md
open PySem L2 Evl
abbrev US := List Int × List (Nat × List Int)
structure Circ (G : List Pl) (n : Nat) (p : Nat × List Int) : Prop where
  lt : p.1 < G.length
  ok : okA G p.1 p.2
  cy : lastF G p.1 p.2 = p.1
  di : ∀ i k, i < k → k < p.2.length → atK G p.1 p.2 i ≠ atK G p.1 p.2 k
  le : p.2.length ≤ n
def cSum (G : List Pl) (C : List (Nat × List Int)) : Rat := (C.map fun p => qSum G p.1 p.2).sum
def cLen (C : List (Nat × List Int)) : Nat := (C.map fun p => p.2.length).sum
structure UInv (G : List Pl) (x : Nat) (r : List Int) (s : US) : Prop where
  ok : okA G x s.1
  di : ∀ i k, i < k → k ≤ s.1.length → atK G x s.1 i ≠ atK G x s.1 k
  last : lastF G x s.1 = lastF G x r
  len : s.1.length + cLen s.2 = r.length
  sum : qSum G x s.1 + cSum G s.2 = qSum G x r
  circ : ∀ p ∈ s.2, Circ G r.length p
  many : s.2.length ≤ r.length
theorem sum_snoc (l : List Rat) (a : Rat) : (l ++ [a]).sum = l.sum + a := by
  rw [List.sum_append, List.sum_cons, List.sum_nil, Rat.add_zero]
end Md
namespace Md
open PySem L2 Evl
def OwnC (K : PySem.W.Frag) (h b' : Hp) (v : V) : Prop := ∃ t c us y, v = V.ref t ∧ SqT K b' t [.int y, .ref c] ∧ h c = none ∧ b' c = some (.lst us) ∧ us.length ≤ 60
theorem OwnC.up {K : PySem.W.Frag} {h b b' : Hp} {v : V} (x : OwnC K h b v) (e : Ex b b') : OwnC K h b' v := by
  obtain ⟨t, c, us, y, h1, h2, h3, h4, h5⟩ := x
  exact ⟨t, c, us, y, h1, ex_t e h2, h3, e _ _ h4, h5⟩
theorem OwnC.back {K : PySem.W.Frag} {h h1 b : Hp} {v : V} (x : OwnC K h1 b v) (e : Ex h h1) : OwnC K h b v := by
  obtain ⟨t, c, us, y, q1, q2, q3, q4, q5⟩ := x
  exact ⟨t, c, us, y, q1, q2, fresh_back e q3, q4, q5⟩
section
variable {K : PySem.W.Frag} {σ : L2.St} {b h : Hp} {te ta t1 t2 : TE} {ts : TA} {E : XK} {D : Ends} {tz : TS} {ds : List PyData} {y : Int} {q : Addr} {us : List V}
end
end Md
namespace Md
open PySem L2 Evl
end Md
namespace Md
open PySem L2 Evl
end Md
namespace Md
open PySem L2 Evl
section
variable {K : PySem.W.Frag} {σ : L2.St} {b : Hp} {te : TE} {ts : TA} {E : XK} {G : List Pl} {x : Nat} {r : List Int}
end
end Md
set_option Elab.async false
set_option linter.all false
set_option maxRecDepth 100000
set_option maxHeartbeats 2000000
namespace L2
open PySem PySem.Spec PyProof.Rows
section
variable {X : Cx}
def rLcm : List V → Hp → VK → Prop := fun vs H Q => ∃ a b : Int, vs = [.int a, .int b] ∧ a.natAbs < 2 ^ 13000 ∧ b.natAbs < 2 ^ 13000 ∧ Q (.int ((Nat.lcm a.natAbs b.natAbs : Nat) : Int)) H
end
end L2
namespace Md
open PySem L2 Evl
section
variable {K : PySem.W.Frag} {σ : L2.St} {b h : Hp} {te tl tl1 ta tb : TE} {ts : TA} {E : XK} {D : Ends} {tz : TS} {d : PyData} {ds : List PyData}
end
end Md
set_option Elab.async false
set_option linter.all false
set_option maxRecDepth 100000
set_option maxHeartbeats 2000000
namespace Md
open PySem L2 Evl
abbrev BrC := (Int × Int) × Nat
structure PlC where
  g : Int × Int
  bs : List BrC
def brC (q : BrC) : PyData := .tuple [nD q.1, .int (q.2 : Int)]
def PlC.D (p : PlC) : PyData := .tuple [nD p.g, .str "draw", .list (p.bs.map brC)]
def chD (C : List PlC) : PyData := .list (C.map PlC.D)
structure WfB (n : Nat) (p : PlC) : Prop where
  g : SmallN p.g
  l1 : 1 ≤ p.bs.length
  l6 : p.bs.length ≤ 6
  q : ∀ q ∈ p.bs, SmallN q.1 ∧ 0 < q.1.1 ∧ q.2 < n
  w : ∃ W : Nat, 0 < W ∧ W ≤ 360 ∧ ∀ q ∈ p.bs, q.1.2.natAbs ∣ W
  s : (p.bs.map fun q => qN q.1).sum = 1
structure WfC (C : List PlC) : Prop where
  l1 : 1 ≤ C.length
  l12 : C.length ≤ 12
  p : ∀ p ∈ C, WfB C.length p
def plC (C : List PlC) (k : Nat) : PlC := C.getD k ⟨(0, 1), []⟩
theorem plC_get {C : List PlC} {k : Nat} (h : k < C.length) : C[k]? = some (plC C k) := by
  unfold plC
  rw [List.getD_eq_getElem?_getD, List.getElem?_eq_getElem h]
  rfl
theorem plC_wf {C : List PlC} (h : WfC C) {k : Nat} (hk : k < C.length) : WfB C.length (plC C k) := h.p _ (List.mem_of_getElem? (plC_get hk))
def sumR (n : Nat) (f : Nat → Rat) : Rat := ((List.range n).map f).sum
theorem sumR_zero (f : Nat → Rat) : sumR 0 f = 0 := rfl
theorem sumR_succ (n : Nat) (f : Nat → Rat) : sumR (n + 1) f = sumR n f + f n := by
  unfold sumR
  rw [List.range_succ, List.map_append, List.map_cons, List.map_nil, sum_snoc]
theorem sumR_congr {n : Nat} {f g : Nat → Rat} (h : ∀ i, i < n → f i = g i) : sumR n f = sumR n g := by
  induction n with
  | zero => rfl
  | succ n ih => rw [sumR_succ, sumR_succ, ih fun i hi => h i (Nat.lt_succ_of_lt hi), h n (Nat.lt_succ_self n)]
theorem sumR_add (n : Nat) (f g : Nat → Rat) : sumR n (fun i => f i + g i) = sumR n f + sumR n g := by
  induction n with
  | zero => rw [sumR_zero, sumR_zero, sumR_zero, Rat.add_zero]
  | succ n ih => rw [sumR_succ, sumR_succ, sumR_succ, ih]; grind
theorem sumR_mul (n : Nat) (c : Rat) (f : Nat → Rat) : sumR n (fun i => c * f i) = c * sumR n f := by
  induction n with
  | zero => rw [sumR_zero, sumR_zero, Rat.mul_zero]
  | succ n ih => rw [sumR_succ, sumR_succ, ih]; grind
theorem sumR_const0 (n : Nat) : sumR n (fun _ => 0) = 0 := by
  induction n with
  | zero => rfl
  | succ n ih => rw [sumR_succ, ih, Rat.add_zero]
theorem sumR_one {n k : Nat} (a : Rat) (h : k < n) : sumR n (fun j => if j = k then a else 0) = a := by
  induction n with
  | zero => omega
  | succ n ih =>
    rw [sumR_succ]
    by_cases e : k = n
    · subst e
      rw [if_pos rfl, sumR_congr (g := fun _ => 0) fun i hi => if_neg (by omega), sumR_const0, Rat.zero_add]
    · rw [ih (by omega), if_neg (fun z => e z.symm), Rat.add_zero]
def wsum (bs : List BrC) (f : Nat → Rat) : Rat := (bs.map fun q => qN q.1 * f q.2).sum
theorem wsum_nil (f : Nat → Rat) : wsum [] f = 0 := rfl
theorem wsum_cons (q : BrC) (bs : List BrC) (f : Nat → Rat) : wsum (q :: bs) f = qN q.1 * f q.2 + wsum bs f := by
  unfold wsum
  rw [List.map_cons, List.sum_cons]
theorem wsum_congr {bs : List BrC} {f g : Nat → Rat} (h : ∀ q ∈ bs, f q.2 = g q.2) : wsum bs f = wsum bs g := by
  induction bs with
  | nil => rfl
  | cons q bs ih => rw [wsum_cons, wsum_cons, ih fun q hq => h q (List.mem_cons_of_mem _ hq), h q (List.mem_cons_self ..)]
theorem wsum_add (bs : List BrC) (f g : Nat → Rat) : wsum bs (fun j => f j + g j) = wsum bs f + wsum bs g := by
  induction bs with
  | nil => rw [wsum_nil, wsum_nil, wsum_nil, Rat.add_zero]
  | cons q bs ih => rw [wsum_cons, wsum_cons, wsum_cons, ih]; grind
theorem wsum_mul (bs : List BrC) (c : Rat) (f : Nat → Rat) : wsum bs (fun j => c * f j) = c * wsum bs f := by
  induction bs with
  | nil => rw [wsum_nil, wsum_nil, Rat.mul_zero]
  | cons q bs ih => rw [wsum_cons, wsum_cons, ih]; grind
theorem wsum_one (bs : List BrC) : wsum bs (fun _ => 1) = (bs.map fun q => qN q.1).sum := by
  unfold wsum
  congr 1
  exact List.map_congr_left fun q _ => Rat.mul_one _
def meanC (C : List PlC) (f : Nat → Rat) (k : Nat) : Rat := wsum (plC C k).bs f
theorem mean_one {C : List PlC} (h : WfC C) {k : Nat} (hk : k < C.length) : meanC C (fun _ => 1) k = 1 := by
  unfold meanC
  rw [wsum_one]
  exact (plC_wf h hk).s
def gainC (C : List PlC) (k : Nat) : Rat := qN (plC C k).g
def Zt (M : Nat) (r : Rat) : Prop := ∃ z : Int, r * ((M : Int) : Rat) = (z : Rat)
theorem Zt.add {M : Nat} {a b : Rat} (h : Zt M a) (g : Zt M b) : Zt M (a + b) := by
  obtain ⟨x, hx⟩ := h
  obtain ⟨y, hy⟩ := g
  exact ⟨x + y, by rw [Rat.intCast_add]; grind⟩
theorem Zt.mul {M N : Nat} {a b : Rat} (h : Zt M a) (g : Zt N b) : Zt (M * N) (a * b) := by
  obtain ⟨x, hx⟩ := h
  obtain ⟨y, hy⟩ := g
  refine ⟨x * y, ?_⟩
  rw [Int.natCast_mul, Rat.intCast_mul, Rat.intCast_mul, ← hx, ← hy]
  grind
theorem Zt.dvd {M N : Nat} {a : Rat} (h : Zt M a) (d : M ∣ N) : Zt N a := by
  obtain ⟨x, hx⟩ := h
  obtain ⟨c, rfl⟩ := d
  refine ⟨x * c, ?_⟩
  rw [Int.natCast_mul, Rat.intCast_mul, Rat.intCast_mul, ← hx]
  grind
theorem zt_zero (M : Nat) : Zt M 0 := ⟨0, by rw [Rat.zero_mul]; rfl⟩
theorem zt_int (M : Nat) (z : Int) : Zt M (z : Rat) := ⟨z * M, by rw [Rat.intCast_mul]⟩
theorem zt_den {p : Int × Int} (h : Red p) {M : Nat} (d : p.2.natAbs ∣ M) : Zt M (qN p) := by
  obtain ⟨c, rfl⟩ := d
  refine ⟨p.1 * c, ?_⟩
  have e : ((p.2.natAbs * c : Nat) : Int) = p.2 * (c : Int) := by
    rw [Int.natCast_mul, Int.natAbs_of_nonneg (by have := h.1; omega)]
  rw [e, Rat.intCast_mul, Rat.intCast_mul]
  have := red_ne h
  unfold qN
  grind
theorem nat_ne {M : Nat} (h : 0 < M) : ((M : Int) : Rat) ≠ 0 := cast_ne (by omega)
theorem zt_dvd {p : Int × Int} (h : Red p) {M : Nat} (z : Zt M (qN p)) : p.2.natAbs ∣ M := by
  obtain ⟨x, hx⟩ := z
  have hp := red_ne h
  have e : (p.1 : Rat) * ((M : Int) : Rat) = (x : Rat) * (p.2 : Rat) := by
    unfold qN at hx
    grind
  rw [← Rat.intCast_mul, ← Rat.intCast_mul] at e
  have e2 : p.1 * (M : Int) = x * p.2 := Rat.intCast_inj.mp e
  have e3 : p.1.natAbs * M = x.natAbs * p.2.natAbs := by
    have := congrArg Int.natAbs e2
    rwa [Int.natAbs_mul, Int.natAbs_mul, Int.natAbs_natCast] at this
  have d : p.2.natAbs ∣ p.1.natAbs * M := ⟨x.natAbs, by rw [e3, Nat.mul_comm]⟩
  exact Nat.Coprime.dvd_of_dvd_mul_left (show Nat.Coprime p.2.natAbs p.1.natAbs by unfold Nat.Coprime; rw [Nat.gcd_comm]; exact h.2) d
theorem cast_le {a b : Int} (h : (a : Rat) ≤ (b : Rat)) : a ≤ b := Rat.intCast_le_intCast.mp h
theorem le_cast {a b : Int} (h : a ≤ b) : (a : Rat) ≤ (b : Rat) := Rat.intCast_le_intCast.mpr h
theorem cast_pos {a : Int} (h : 0 < a) : (0 : Rat) < (a : Rat) := Rat.intCast_lt_intCast.mpr h
theorem q_mul {p : Int × Int} (h : Red p) : qN p * (p.2 : Rat) = (p.1 : Rat) := by
  have := red_ne h
  unfold qN
  grind
theorem zt_big {p : Int × Int} (h : Red p) {M B : Nat} (hM : 0 < M) (z : Zt M (qN p)) (h1 : -((B : Int) : Rat) ≤ qN p) (h2 : qN p ≤ ((B : Int) : Rat)) : p.2.natAbs ≤ M ∧ p.1.natAbs ≤ B * M := by
  have d := Nat.le_of_dvd hM (zt_dvd h z)
  have hp : (0 : Rat) ≤ (p.2 : Rat) := Rat.le_of_lt (cast_pos (by have := h.1; omega))
  have e := q_mul h
  have u1 := Rat.mul_le_mul_of_nonneg_right h1 hp
  have u2 := Rat.mul_le_mul_of_nonneg_right h2 hp
  rw [e] at u1 u2
  have v2 : p.1 ≤ (B : Int) * p.2 := cast_le (by rw [Rat.intCast_mul]; exact u2)
  have v1 : -((B : Int) * p.2) ≤ p.1 := cast_le (by rw [Rat.intCast_neg, Rat.intCast_mul]; grind)
  have e2 : (p.2.natAbs : Int) = p.2 := Int.natAbs_of_nonneg (by have := h.1; omega)
  have h3 : p.1.natAbs ≤ B * p.2.natAbs := by
    have e3 : ((B * p.2.natAbs : Nat) : Int) = (B : Int) * p.2 := by rw [Int.natCast_mul, e2]
    omega
  exact ⟨d, Nat.le_trans h3 (Nat.mul_le_mul_left B d)⟩
theorem zt_Big {p : Int × Int} (h : Red p) {M B j : Nat} (hM : 0 < M) (z : Zt M (qN p)) (h1 : -((B : Int) : Rat) ≤ qN p) (h2 : qN p ≤ ((B : Int) : Rat)) (hB : 1 ≤ B) (hj : B * M < 2 ^ j) : Big j p := by
  have := zt_big h hM z h1 h2
  have hm : M ≤ B * M := Nat.le_mul_of_pos_left M hB
  exact ⟨by omega, by omega⟩
def denL (l : List (Int × Int)) : Nat := l.foldl (fun d p => Nat.lcm d p.2.natAbs) 1
theorem denL_from : ∀ (l : List (Int × Int)) (d : Nat), d ∣ l.foldl (fun d p => Nat.lcm d p.2.natAbs) d ∧ ∀ p ∈ l, p.2.natAbs ∣ l.foldl (fun d p => Nat.lcm d p.2.natAbs) d
  | [], d => ⟨Nat.dvd_refl d, fun p hp => (by cases hp)⟩
  | q :: l, d => by
    obtain ⟨h1, h2⟩ := denL_from l (Nat.lcm d q.2.natAbs)
    refine ⟨Nat.dvd_trans (Nat.dvd_lcm_left _ _) h1, fun p hp => ?_⟩
    rcases List.mem_cons.mp hp with rfl | hp
    · exact Nat.dvd_trans (Nat.dvd_lcm_right _ _) h1
    · exact h2 p hp
theorem denL_dvd {l : List (Int × Int)} {p : Int × Int} (h : p ∈ l) : p.2.natAbs ∣ denL l := (denL_from l 1).2 p h
theorem denL_least : ∀ (l : List (Int × Int)) (d M : Nat), d ∣ M → (∀ p ∈ l, p.2.natAbs ∣ M) → l.foldl (fun d p => Nat.lcm d p.2.natAbs) d ∣ M
  | [], d, M, h, _ => h
  | q :: l, d, M, h, g => denL_least l _ M (Nat.lcm_dvd h (g q (List.mem_cons_self ..))) fun p hp => g p (List.mem_cons_of_mem _ hp)
theorem denL_to {l : List (Int × Int)} {M : Nat} (g : ∀ p ∈ l, p.2.natAbs ∣ M) : denL l ∣ M := denL_least l 1 M (Nat.one_dvd M) g
theorem denL_pos : ∀ {l : List (Int × Int)}, (∀ p ∈ l, 1 ≤ p.2) → 0 < denL l := by
  intro l
  unfold denL
  suffices ∀ d, 0 < d → (∀ p ∈ l, 1 ≤ p.2) → 0 < l.foldl (fun d p => Nat.lcm d p.2.natAbs) d from fun h => this 1 (by decide) h
  induction l with
  | nil => exact fun d h _ => h
  | cons q l ih => exact fun d h g => ih _ (Nat.lcm_pos h (by have := g q (List.mem_cons_self ..); omega)) fun p hp => g p (List.mem_cons_of_mem _ hp)
def gainsC (C : List PlC) : List (Int × Int) := C.map (·.g)
theorem unit_le : ∀ {C : List PlC} {n : Nat}, (∀ p ∈ C, WfB n p) → ∃ M : Nat, 0 < M ∧ M ≤ 999 ^ C.length ∧ ∀ c ∈ gainsC C, c.2.natAbs ∣ M
  | [], n, _ => ⟨1, by decide, by decide, fun c h => by cases h⟩
  | p :: C, n, h => by
    obtain ⟨M, h0, h1, h2⟩ := unit_le (C := C) (n := n) fun p hp => h p (List.mem_cons_of_mem _ hp)
    have hg := (h p (List.mem_cons_self ..)).g
    refine ⟨M * p.g.2.natAbs, Nat.mul_pos h0 (by have := hg.1; omega), ?_, fun c hc => ?_⟩
    · rw [List.length_cons, Nat.pow_succ]
      exact Nat.mul_le_mul h1 (by have := hg.1; have := hg.2.1; omega)
    · rcases List.mem_cons.mp hc with rfl | hc
      · exact Nat.dvd_mul_left _ _
      · exact Nat.dvd_trans (h2 c hc) (Nat.dvd_mul_right _ _)
theorem unit_ok {C : List PlC} (h : WfC C) : 0 < denL (gainsC C) ∧ denL (gainsC C) ≤ 999 ^ C.length := by
  obtain ⟨M, h0, h1, h2⟩ := unit_le h.p
  refine ⟨denL_pos fun c hc => ?_, Nat.le_trans (Nat.le_of_dvd h0 (denL_to h2)) h1⟩
  obtain ⟨p, hp, rfl⟩ := List.mem_map.mp hc
  exact (h.p p hp).g.1
end Md
set_option Elab.async false
set_option linter.all false
set_option maxRecDepth 100000
set_option maxHeartbeats 2000000
namespace Md
open PySem L2 Evl
def canon (r : Rat) : Int × Int := (r.num, (r.den : Int))
theorem canon_red (r : Rat) : Red (canon r) := ⟨by have := r.den_pos; show (1 : Int) ≤ (r.den : Int); omega, r.reduced⟩
theorem q_canon (r : Rat) : qN (canon r) = r := by
  show (r.num : Rat) / ((r.den : Int) : Rat) = r
  rw [← Rat.divInt_eq_div]
  exact Rat.num_divInt_den r
theorem canon_of {p : Int × Int} {r : Rat} (h : Red p) (e : qN p = r) : p = canon r := q_inj h (canon_red r) (by rw [e, q_canon])
def nQ (r : Rat) : PyData := nD (canon r)
theorem num_canon {n d : Int} (h : 0 < d) : num n d = canon ((n : Rat) / (d : Rat)) := canon_of (num_red h) (q_num h)
theorem q_one : qN (1, 1) = 1 := by show ((1 : Int) : Rat) / ((1 : Int) : Rat) = 1; decide +kernel
def listQ (n : Nat) (f : Nat → Rat) : PyData := .list ((List.range n).map fun k => nQ (f k))
theorem whole_q {p : Int × Int} (h : Red p) {M : Nat} (d : p.2.natAbs ∣ M) : ((p.1 * ((M : Int) / p.2) : Int) : Rat) = qN p * ((M : Int) : Rat) := by
  have d2 : p.2 ∣ (M : Int) := Int.natAbs_dvd_natAbs.mp (by rw [Int.natAbs_natCast]; exact d)
  obtain ⟨c, hc⟩ := d2
  have hp : p.2 ≠ 0 := by have := h.1; omega
  rw [hc, Int.mul_ediv_cancel_left _ hp, Rat.intCast_mul, Rat.intCast_mul, ← Rat.mul_assoc, q_mul h]
theorem wsum_le {bs : List BrC} {f g : Nat → Rat} (h : ∀ q ∈ bs, 0 ≤ qN q.1 ∧ f q.2 ≤ g q.2) : wsum bs f ≤ wsum bs g := by
  induction bs with
  | nil => exact Rat.le_refl
  | cons q bs ih =>
    rw [wsum_cons, wsum_cons]
    have h1 := ih fun q hq => h q (List.mem_cons_of_mem _ hq)
    obtain ⟨h2, h3⟩ := h q (List.mem_cons_self ..)
    have := Rat.mul_le_mul_of_nonneg_left h3 h2
    grind
theorem q_pos {p : Int × Int} (h : Red p) (h0 : 0 < p.1) : 0 < qN p := by
  have h1 : (0 : Rat) < (p.2 : Rat) := cast_pos (by have := h.1; omega)
  have h2 : (0 : Rat) < (p.1 : Rat) := cast_pos h0
  unfold qN
  rw [Rat.div_def]
  exact Rat.mul_pos h2 (Rat.inv_pos.mpr h1)
theorem br_pos {C : List PlC} (h : WfC C) {k : Nat} (hk : k < C.length) {q : BrC} (hq : q ∈ (plC C k).bs) : 0 < qN q.1 := q_pos (red_small ((plC_wf h hk).q q hq).1) ((plC_wf h hk).q q hq).2.1
theorem mean_le {C : List PlC} (h : WfC C) {k : Nat} (hk : k < C.length) {f : Nat → Rat} {c : Rat} (hf : ∀ j, j < C.length → f j ≤ c) : meanC C f k ≤ c := by
  have h1 : meanC C f k ≤ meanC C (fun _ => c * 1) k := wsum_le fun q hq => ⟨Rat.le_of_lt (br_pos h hk hq), by rw [Rat.mul_one]; exact hf _ ((plC_wf h hk).q q hq).2.2⟩
  have h2 : meanC C (fun _ => c * 1) k = c * meanC C (fun _ => 1) k := wsum_mul _ _ _
  rw [mean_one h hk] at h2
  grind
theorem mean_ge {C : List PlC} (h : WfC C) {k : Nat} (hk : k < C.length) {f : Nat → Rat} {c : Rat} (hf : ∀ j, j < C.length → c ≤ f j) : c ≤ meanC C f k := by
  have h1 : meanC C (fun _ => c * 1) k ≤ meanC C f k := wsum_le fun q hq => ⟨Rat.le_of_lt (br_pos h hk hq), by rw [Rat.mul_one]; exact hf _ ((plC_wf h hk).q q hq).2.2⟩
  have h2 : meanC C (fun _ => c * 1) k = c * meanC C (fun _ => 1) k := wsum_mul _ _ _
  rw [mean_one h hk] at h2
  grind
theorem div_le' {a b c : Rat} (h : 0 < b) (g : a ≤ c * b) : a / b ≤ c := by
  have : ¬ c < a / b := fun z => by
    rw [Rat.lt_div_iff h] at z
    grind
  grind
theorem le_div' {a b c : Rat} (h : 0 < b) (g : c * b ≤ a) : c ≤ a / b := by
  have : ¬ a / b < c := fun z => by
    rw [Rat.div_lt_iff h] at z
    grind
  grind
theorem q_le {p : Int × Int} (h : Red p) {c : Int} (hc : p.1 ≤ c * p.2) : qN p ≤ (c : Rat) := by
  have h1 : (0 : Rat) < (p.2 : Rat) := cast_pos (by have := h.1; omega)
  unfold qN
  refine div_le' h1 ?_
  rw [← Rat.intCast_mul]
  exact le_cast hc
theorem q_ge {p : Int × Int} (h : Red p) {c : Int} (hc : c * p.2 ≤ p.1) : (c : Rat) ≤ qN p := by
  have h1 : (0 : Rat) < (p.2 : Rat) := cast_pos (by have := h.1; omega)
  unfold qN
  refine le_div' h1 ?_
  rw [← Rat.intCast_mul]
  exact le_cast hc
theorem q_small {p : Int × Int} (h : SmallN p) : -(1000 : Rat) ≤ qN p ∧ qN p ≤ 1000 := by
  obtain ⟨h1, h2, h3, h4⟩ := h
  have hr : Red p := ⟨h1, h4⟩
  constructor
  · have := q_ge hr (c := -1000) (by omega)
    exact this
  · have := q_le hr (c := 1000) (by omega)
    exact this
def OwnF (h b' : Hp) (v : V) : Prop := ∃ p us, v = V.ref p ∧ h p = none ∧ b' p = some (.lst us) ∧ us.length ≤ 60
theorem OwnF.back {h h1 b : Hp} {v : V} (x : OwnF h1 b v) (e : Ex h h1) : OwnF h b v := by
  obtain ⟨p, us, h1, h2, h3, h4⟩ := x
  exact ⟨p, us, h1, fresh_back e h2, h3, h4⟩
section
variable {K : PySem.W.Frag} {σ : L2.St} {b h : Hp} {te tl ta tb : TE} {ts tk : TA} {E : XK} {D : Ends} {tz : TS} {d : PyData} {ds : List PyData} {C : List PlC} {p q : Int × Int} {r s : Rat}
end
end Md
namespace Md
open PySem L2 Evl
theorem lt_pow_mul {a b c i j : Nat} (h : a ≤ b * c) (hb : b ≤ 2 ^ i) (hc : c < 2 ^ j) : a < 2 ^ (i + j) := by
  rw [Nat.pow_add]
  have h1 : b * c ≤ 2 ^ i * c := Nat.mul_le_mul_right c hb
  have h2 : 2 ^ i * c < 2 ^ i * 2 ^ j := Nat.mul_lt_mul_of_pos_left hc (Nat.two_pow_pos i)
  omega
end Md
namespace Md
open PySem L2 Evl
theorem num_dvd {n d : Int} (h : 0 < d) : (num n d).2.natAbs ∣ d.natAbs := by
  rw [num_pos h]
  show (d / _).natAbs ∣ d.natAbs
  obtain ⟨c, hc⟩ := cast_dvd (g := Nat.gcd n.natAbs d.natAbs) (n := d) (Nat.gcd_dvd_right _ _)
  have hg : 0 < Nat.gcd n.natAbs d.natAbs := Nat.gcd_pos_of_pos_right _ (by omega)
  generalize ((Nat.gcd n.natAbs d.natAbs : Nat) : Int) = g at hc
  rcases Int.lt_or_le 0 g with z | z
  · have e : d / g = c := by rw [hc]; exact Int.mul_ediv_cancel_left _ (by omega)
    rw [e]
    exact ⟨g.natAbs, by rw [hc, Int.natAbs_mul, Nat.mul_comm]⟩
  · rcases Int.lt_or_eq_of_le z with z | z
    · have e : d / g = c := by rw [hc]; exact Int.mul_ediv_cancel_left _ (by omega)
      rw [e]
      exact ⟨g.natAbs, by rw [hc, Int.natAbs_mul, Nat.mul_comm]⟩
    · rw [z, Int.zero_mul] at hc
      omega
end Md
set_option Elab.async false
set_option linter.all false
set_option maxRecDepth 100000
set_option maxHeartbeats 2000000
namespace Md
open PySem L2 Evl
def EDh (K : PySem.W.Frag) (te : TE) (σ : L2.St) (b h : Hp) (d : PyData) : Prop := ∀ h1, Ex h h1 → ∀ Q : VK, (∀ v b' h', Gr b h1 b' h' → Dt K b' v d → Q v h') → te σ h1 Q
def EDAh (K : PySem.W.Frag) (ta : TA) (σ : L2.St) (b h : Hp) (ds : List PyData) : Prop := ∀ h1, Ex h h1 → ∀ Q : List V → Hp → Prop, (∀ vs b' h', Gr b h1 b' h' → DtA K b' vs ds → Q vs h') → ta σ h1 Q
section
variable {K : PySem.W.Frag} {σ : L2.St} {b b' h h' : Hp} {te tr' ta tb : TE} {ts tr : TA} {E : XK} {D : Ends} {tz : TS} {d d' : PyData} {ds : List PyData} {v : V} {i : Int} {p q : Int × Int} {r s : Rat} {us : List V} {a : Addr}
theorem ED.at (x : ED K te σ b d) (e : Ex b h) : EDh K te σ b h d := fun h1 e1 Q q => x h1 (e.trans e1) Q q
theorem EDA.at (x : EDA K ts σ b ds) (e : Ex b h) : EDAh K ts σ b h ds := fun h1 e1 Q q => x h1 (e.trans e1) Q q
theorem DtA.set : ∀ {ds : List PyData} {us : List V} (j : Nat), DtA K b us ds → Dt K b v d → DtA K b (us.set j v) (ds.set j d)
  | [], _, j, h, _ => by
    cases h
    exact DtA.nil
  | _ :: _, _, 0, h, g => by
    cases h with
    | cons h1 h2 => exact DtA.cons g h2
  | _ :: _, _, j + 1, h, g => by
    cases h with
    | cons h1 h2 => exact DtA.cons h1 (DtA.set j h2 g)
end
theorem wsum_take {bs : List BrC} (h : ∀ q ∈ bs, 0 ≤ qN q.1) (i : Nat) : 0 ≤ wsum (bs.take i) (fun _ => 1) ∧ wsum (bs.take i) (fun _ => 1) ≤ wsum bs (fun _ => 1) := by
  induction bs generalizing i with
  | nil => rw [List.take_nil]; exact ⟨Rat.le_refl, Rat.le_refl⟩
  | cons q bs ih =>
    have h1 := h q (List.mem_cons_self ..)
    have h0 := (ih (fun q hq => h q (List.mem_cons_of_mem _ hq)) bs.length).1
    rw [List.take_length] at h0
    cases i with
    | zero =>
      rw [List.take_zero, wsum_nil, wsum_cons]
      grind
    | succ i =>
      have h2 := ih (fun q hq => h q (List.mem_cons_of_mem _ hq)) i
      rw [List.take_succ_cons, wsum_cons, wsum_cons]
      grind
structure Later (C : List PlC) (S : Nat) (m : Nat → Rat) (t k i : Nat) (l : Nat → Rat) : Prop where
  nn : ∀ j, j < C.length → 0 ≤ l j
  zt : ∀ j, j < C.length → Zt (S ^ (t + 1)) (l j)
  dot : ∀ f : Nat → Rat, sumR C.length (fun j => l j * f j) = sumR k (fun j => m j * meanC C f j) + m k * wsum ((plC C k).bs.take i) f
structure Mass (C : List PlC) (S : Nat) (t : Nat) (m : Nat → Rat) : Prop where
  nn : ∀ j, j < C.length → 0 ≤ m j
  zt : ∀ j, j < C.length → Zt (S ^ t) (m j)
  one : sumR C.length m = 1
structure Booked (C : List PlC) (U S : Nat) (T x t k : Nat) (bk : Rat) : Prop where
  zt : Zt (U * S ^ t) bk
  lo : -(((1000 * (t * C.length + k) : Nat) : Int) : Rat) ≤ bk
  hi : bk ≤ (((1000 * (t * C.length + k) : Nat) : Int) : Rat)
end Md
set_option Elab.async false
set_option linter.all false
set_option maxRecDepth 100000
set_option maxHeartbeats 2000000
namespace Md
theorem sumR_neg (n : Nat) (f : Nat → Rat) : sumR n (fun i => -f i) = -sumR n f := by
  induction n with
  | zero => rw [sumR_zero, sumR_zero]; grind
  | succ n ih => rw [sumR_succ, sumR_succ, ih]; grind
theorem sumR_comm (n m : Nat) (f : Nat → Nat → Rat) : sumR n (fun i => sumR m (fun j => f i j)) = sumR m (fun j => sumR n (fun i => f i j)) := by
  induction n with
  | zero =>
    rw [sumR_zero, sumR_congr (f := fun j => sumR 0 fun i => f i j) (g := fun _ => 0) fun j _ => sumR_zero _, sumR_const0]
  | succ n ih =>
    rw [sumR_succ, ih, ← sumR_add]
    exact sumR_congr fun j _ => (sumR_succ _ _).symm
theorem sumR_anti {n : Nat} {w : Nat → Nat → Rat} (h : ∀ i j, i < n → j < n → w i j = -w j i) : sumR n (fun i => sumR n (fun j => w i j)) = 0 := by
  have e : sumR n (fun i => sumR n (fun j => w i j)) = -sumR n (fun i => sumR n (fun j => w i j)) := by
    conv => lhs; rw [sumR_comm]
    rw [← sumR_neg]
    refine sumR_congr fun j hj => ?_
    rw [← sumR_neg]
    exact sumR_congr fun i hi => h i j hi hj
  grind
theorem sumR_only {n k : Nat} {f : Nat → Rat} (hk : k < n) (h : ∀ i, i < n → i ≠ k → f i = 0) : sumR n f = f k := by
  rw [sumR_congr (g := fun i => if i = k then f k else 0) fun i hi => ?_, sumR_one _ hk]
  by_cases e : i = k
  · rw [if_pos e, e]
  · rw [if_neg e, h i hi e]
theorem sumR_zeros {n : Nat} {f : Nat → Rat} (h : ∀ i, i < n → f i = 0) : sumR n f = 0 := by
  rw [sumR_congr (g := fun _ => 0) h, sumR_const0]
def sk (i r : Nat) : Nat := if r < i then r else r + 1
def pd (i j : Nat) : Nat := if j < i then j else j - 1
theorem sk_lt {i r k : Nat} (h : r < k) : sk i r < k + 1 := by
  unfold sk
  split <;> omega
theorem sk_lo {i r : Nat} (h : r < i) : sk i r = r := if_pos h
theorem sk_hi {i r : Nat} (h : i ≤ r) : sk i r = r + 1 := if_neg (by omega)
theorem sk_sk {i j : Nat} (h : j < i) (r : Nat) : sk i (sk j r) = sk j (sk (i - 1) r) := by
  rcases Nat.lt_or_ge r j with z | z
  · rw [sk_lo z, sk_lo (by omega), sk_lo (show r < i - 1 by omega), sk_lo z]
  · rw [sk_hi z]
    rcases Nat.lt_or_ge r (i - 1) with y | y
    · rw [sk_lo (show r + 1 < i by omega), sk_lo y, sk_hi z]
    · rw [sk_hi (show i ≤ r + 1 by omega), sk_hi y, sk_hi (by omega)]
theorem skip_sum {n i : Nat} (g : Nat → Rat) (h : i ≤ n) : sumR n (fun m => g (sk i m)) = sumR (n + 1) (fun j => if j = i then 0 else g j) := by
  induction n with
  | zero =>
    obtain rfl : i = 0 := by omega
    rw [sumR_zero, sumR_succ, sumR_zero, if_pos rfl, Rat.add_zero]
  | succ n ih =>
    by_cases e : i = n + 1
    · subst e
      rw [sumR_succ (n + 1), if_pos rfl, Rat.add_zero]
      refine sumR_congr fun j hj => ?_
      rw [if_neg (by omega)]
      unfold sk
      rw [if_pos hj]
    · rw [sumR_succ, ih (by omega), sumR_succ (n + 1), if_neg (fun z => e z.symm)]
      congr 2
      unfold sk
      rw [if_neg (by omega)]
def sgn (n : Nat) : Rat := if n % 2 = 0 then 1 else -1
theorem sgn_succ (n : Nat) : sgn (n + 1) = -sgn n := by
  unfold sgn
  by_cases h : n % 2 = 0
  · rw [if_pos h, if_neg (by omega)]
  · rw [if_neg h, if_pos (by omega)]
    decide +kernel
theorem sgn_two (n : Nat) : sgn (n + n) = 1 := by
  unfold sgn
  rw [if_pos (by omega)]
def Fd : Nat → (Nat → Nat → Rat) → Rat
  | 0, _ => 1
  | k + 1, c => sumR (k + 1) fun i => sgn (i + k) * (c k i * Fd k (fun col r => c col (sk i r)))
theorem Fd_succ (k : Nat) (c : Nat → Nat → Rat) : Fd (k + 1) c = sumR (k + 1) fun i => sgn (i + k) * (c k i * Fd k (fun col r => c col (sk i r))) := rfl
theorem Fd_congr : ∀ (k : Nat) {c c' : Nat → Nat → Rat}, (∀ col r, col < k → r < k → c col r = c' col r) → Fd k c = Fd k c'
  | 0, _, _, _ => rfl
  | k + 1, c, c', h => by
    rw [Fd_succ, Fd_succ]
    refine sumR_congr fun i hi => ?_
    rw [h k i (Nat.lt_succ_self k) hi, Fd_congr k fun col r h1 h2 => h col (sk i r) (Nat.lt_succ_of_lt h1) (sk_lt h2)]
def upc (c : Nat → Nat → Rat) (j : Nat) (v : Nat → Rat) : Nat → Nat → Rat := fun col => if col = j then v else c col
theorem upc_same (c : Nat → Nat → Rat) (j : Nat) (v : Nat → Rat) : upc c j v j = v := if_pos rfl
theorem upc_ne {c : Nat → Nat → Rat} {j i : Nat} {v : Nat → Rat} (h : i ≠ j) : upc c j v i = c i := if_neg h
theorem upc_rows (c : Nat → Nat → Rat) (j i : Nat) (v : Nat → Rat) : (fun col r => upc c j v col (sk i r)) = upc (fun col r => c col (sk i r)) j (fun r => v (sk i r)) := by
  funext col r
  unfold upc
  split <;> rfl
theorem Fd_lin : ∀ (k : Nat) (c : Nat → Nat → Rat) (j : Nat) (v w : Nat → Rat) (a b : Rat), j < k → Fd k (upc c j (fun r => a * v r + b * w r)) = a * Fd k (upc c j v) + b * Fd k (upc c j w)
  | 0, _, _, _, _, _, _, h => by omega
  | k + 1, c, j, v, w, a, b, h => by
    rw [Fd_succ, Fd_succ, Fd_succ, ← sumR_mul, ← sumR_mul, ← sumR_add]
    refine sumR_congr fun i hi => ?_
    rw [upc_rows, upc_rows, upc_rows]
    by_cases e : j = k
    · subst e
      rw [upc_same, upc_same, upc_same]
      have hc : ∀ u : Nat → Rat, Fd j (upc (fun col r => c col (sk i r)) j u) = Fd j (fun col r => c col (sk i r)) := fun u => Fd_congr j fun col r h1 _ => by rw [upc_ne (by omega)]
      rw [hc, hc, hc]
      grind
    · rw [upc_ne (fun z => e z.symm), upc_ne (fun z => e z.symm), upc_ne (fun z => e z.symm), Fd_lin k _ j _ _ a b (by omega)]
      grind
theorem Fd_add (k : Nat) (c : Nat → Nat → Rat) (j : Nat) (v w : Nat → Rat) (h : j < k) : Fd k (upc c j (fun r => v r + w r)) = Fd k (upc c j v) + Fd k (upc c j w) := by
  have e := Fd_lin k c j v w 1 1 h
  rw [Rat.one_mul, Rat.one_mul] at e
  rw [← e]
  congr 1
  congr 1
  funext r
  rw [Rat.one_mul, Rat.one_mul]
theorem Fd_mul (k : Nat) (c : Nat → Nat → Rat) (j : Nat) (v : Nat → Rat) (a : Rat) (h : j < k) : Fd k (upc c j (fun r => a * v r)) = a * Fd k (upc c j v) := by
  have e := Fd_lin k c j v v a 0 h
  rw [Rat.zero_mul, Rat.add_zero] at e
  rw [← e]
  congr 1
  congr 1
  funext r
  rw [Rat.zero_mul, Rat.add_zero]
def Alt (k : Nat) : Prop := ∀ (c : Nat → Nat → Rat) (i j : Nat), i < j → j < k → (∀ r, r < k → c i r = c j r) → Fd k c = 0
theorem alt_swap {k : Nat} (h : Alt k) (c : Nat → Nat → Rat) {i j : Nat} (hij : i < j) (hj : j < k) : Fd k (upc (upc c i (c j)) j (c i)) = -Fd k c := by
  have z : ∀ v : Nat → Rat, Fd k (upc (upc c i v) j v) = 0 := fun v => h _ i j hij hj fun r _ => by rw [upc_same, upc_ne (by omega), upc_same]
  have comm : ∀ v w : Nat → Rat, upc (upc c i v) j w = upc (upc c j w) i v := fun v w => by
    funext col
    unfold upc
    by_cases e1 : col = j
    · rw [if_pos e1, if_neg (by omega), if_pos e1]
    · rw [if_neg e1]
      by_cases e2 : col = i
      · rw [if_pos e2, if_pos e2]
      · rw [if_neg e2, if_neg e2, if_neg e1]
  have self : upc (upc c i (c i)) j (c j) = c := by
    funext col
    unfold upc
    by_cases e1 : col = j
    · rw [if_pos e1, e1]
    · rw [if_neg e1]
      by_cases e2 : col = i
      · rw [if_pos e2, e2]
      · rw [if_neg e2]
  have e := z (fun r => c i r + c j r)
  rw [Fd_add k _ j _ _ hj, comm, comm, Fd_add k _ i _ _ (by omega), Fd_add k _ i _ _ (by omega), ← comm, ← comm, ← comm, ← comm, z, z, self] at e
  grind
theorem alt_last {k : Nat} {c : Nat → Nat → Rat} (h : ∀ r, r < k + 2 → c k r = c (k + 1) r) : Fd (k + 2) c = 0 := by
  let w : Nat → Nat → Rat := fun i j => if j = i then 0 else sgn (i + (k + 1)) * (c k i * (sgn (pd i j + k) * (c k j * Fd k (fun col r => c col (sk i (sk (pd i j) r))))))
  have e : Fd (k + 2) c = sumR (k + 2) fun i => sumR (k + 2) fun j => w i j := by
    rw [Fd_succ]
    refine sumR_congr fun i hi => ?_
    rw [Fd_succ]
    have hp : ∀ m, pd i (sk i m) = m := fun m => by
      unfold pd sk
      by_cases y : m < i
      · rw [if_pos y, if_pos y]
      · rw [if_neg y, if_neg (show ¬ m + 1 < i by omega)]
        omega
    have e2 : sumR (k + 1) (fun m => sgn (m + k) * (c k (sk i m) * Fd k (fun col r => c col (sk i (sk m r))))) = sumR (k + 1) (fun m => (fun j => sgn (pd i j + k) * (c k j * Fd k (fun col r => c col (sk i (sk (pd i j) r))))) (sk i m)) := by
      refine sumR_congr fun m _ => ?_
      dsimp only
      rw [hp m]
    rw [e2, skip_sum (fun j => sgn (pd i j + k) * (c k j * Fd k (fun col r => c col (sk i (sk (pd i j) r))))) (show i ≤ k + 1 by omega), ← h i hi, ← sumR_mul, ← sumR_mul]
    refine sumR_congr fun j _ => ?_
    show _ = w i j
    show _ = if j = i then (0 : Rat) else _
    by_cases z : j = i
    · rw [if_pos z, if_pos z, Rat.mul_zero, Rat.mul_zero]
    · rw [if_neg z, if_neg z]
  rw [e]
  refine sumR_anti fun i j hi hj => ?_
  show (if j = i then (0 : Rat) else _) = -(if i = j then (0 : Rat) else _)
  by_cases z : j = i
  · rw [if_pos z, if_pos z.symm]
    grind
  · rw [if_neg z, if_neg (fun y => z y.symm)]
    have hr : ∀ r, sk i (sk (pd i j) r) = sk j (sk (pd j i) r) := fun r => by
      unfold pd
      rcases Nat.lt_or_gt_of_ne z with y | y
      · rw [if_pos y, if_neg (show ¬ i < j by omega)]
        exact sk_sk y r
      · rw [if_neg (show ¬ j < i by omega), if_pos y]
        exact (sk_sk y r).symm
    have hF : (fun col r => c col (sk i (sk (pd i j) r))) = fun col r => c col (sk j (sk (pd j i) r)) := by
      funext col r
      rw [hr]
    rw [hF]
    generalize Fd k (fun col r => c col (sk j (sk (pd j i) r))) = G
    have hs : sgn (i + (k + 1)) * sgn (pd i j + k) = -(sgn (j + (k + 1)) * sgn (pd j i + k)) := by
      unfold pd
      rcases Nat.lt_or_gt_of_ne z with y | y
      · rw [if_pos y, if_neg (by omega)]
        obtain ⟨i', rfl⟩ : ∃ i', i = i' + 1 := ⟨i - 1, by omega⟩
        have e1 : i' + 1 + (k + 1) = (i' + 1 - 1 + k) + 1 + 1 := by omega
        have e2 : j + (k + 1) = (j + k) + 1 := by omega
        rw [e1, e2, sgn_succ, sgn_succ, sgn_succ]
        grind
      · rw [if_neg (by omega), if_pos y]
        obtain ⟨j', rfl⟩ : ∃ j', j = j' + 1 := ⟨j - 1, by omega⟩
        have e1 : j' + 1 + (k + 1) = (j' + 1 - 1 + k) + 1 + 1 := by omega
        have e2 : i + (k + 1) = (i + k) + 1 := by omega
        rw [e1, e2, sgn_succ, sgn_succ, sgn_succ]
        grind
    generalize sgn (i + (k + 1)) = s1 at hs
    generalize sgn (pd i j + k) = s2 at hs
    generalize sgn (j + (k + 1)) = s3 at hs
    generalize sgn (pd j i + k) = s4 at hs
    have : s1 * (c k i * (s2 * (c k j * G))) = s1 * s2 * (c k i * c k j * G) := by grind
    rw [this, hs]
    grind
theorem alt_all : ∀ k, Alt k
  | 0 => fun _ _ _ _ h _ => by omega
  | k + 1 => fun c i j hij hj hr => by
    have ih := alt_all k
    rcases Nat.lt_or_ge j k with z | z
    · rw [Fd_succ]
      refine sumR_zeros fun m _ => ?_
      rw [ih (fun col r => c col (sk m r)) i j hij z fun r h => hr _ (sk_lt h), Rat.mul_zero, Rat.mul_zero]
    · obtain rfl : j = k := by omega
      obtain ⟨k', rfl⟩ : ∃ k', j = k' + 1 := ⟨j - 1, by omega⟩
      rcases Nat.lt_or_ge i k' with y | y
      · -- first bring the column i to the place k'
        have e : Fd (k' + 2) (upc (upc c i (c k')) k' (c i)) = -Fd (k' + 2) c := by
          rw [Fd_succ, Fd_succ, ← sumR_neg]
          refine sumR_congr fun m _ => ?_
          rw [upc_ne (by omega), upc_ne (by omega), upc_rows, upc_rows]
          have := alt_swap ih (fun col r => c col (sk m r)) y (Nat.lt_succ_self k')
          rw [this]
          grind
        have z2 : Fd (k' + 2) (upc (upc c i (c k')) k' (c i)) = 0 := alt_last fun r h => by
          rw [upc_same, upc_ne (by omega), upc_ne (by omega)]
          exact hr r h
        rw [z2] at e
        grind
      · obtain rfl : i = k' := by omega
        exact alt_last hr
theorem Fd_alt {k : Nat} {c : Nat → Nat → Rat} {i j : Nat} (hi : i < k) (hj : j < k) (hij : i ≠ j) (h : ∀ r, r < k → c i r = c j r) : Fd k c = 0 := by
  rcases Nat.lt_or_gt_of_ne hij with z | z
  · exact alt_all k c i j z hj h
  · exact alt_all k c j i z hi fun r hr => (h r hr).symm
theorem Fd_col0 (k : Nat) (c : Nat → Nat → Rat) (j : Nat) (h : j < k) : Fd k (upc c j (fun _ => 0)) = 0 := by
  have e := Fd_mul k c j (fun _ => 0) 0 h
  have e2 : (fun _ : Nat => (0 : Rat) * 0) = fun _ => 0 := by
    funext r
    exact Rat.mul_zero 0
  rw [e2] at e
  exact e.trans (Rat.zero_mul _)
theorem Fd_sum (k n : Nat) (c : Nat → Nat → Rat) (j : Nat) (t : Nat → Rat) (w : Nat → Nat → Rat) (h : j < k) : Fd k (upc c j (fun r => sumR n fun i => t i * w i r)) = sumR n fun i => t i * Fd k (upc c j (w i)) := by
  induction n with
  | zero =>
    rw [sumR_zero]
    exact Fd_col0 k c j h
  | succ n ih =>
    rw [sumR_succ, ← ih, ← Fd_mul k c j (w n) (t n) h, ← Fd_add k c j _ _ h]
    congr 1
    congr 1
    funext r
    rw [sumR_succ]
theorem cramer {k : Nat} {c : Nat → Nat → Rat} {t v : Nat → Rat} {d : Rat} (h : ∀ r, r < k → (sumR k fun i => t i * c i r) = d * v r) {j : Nat} (hj : j < k) : d * Fd k (upc c j v) = t j * Fd k c := by
  rw [← Fd_mul k c j v d hj]
  have e : Fd k (upc c j (fun r => d * v r)) = Fd k (upc c j (fun r => sumR k fun i => t i * c i r)) := Fd_congr k fun col r hc hr => by
    by_cases z : col = j
    · subst z
      rw [upc_same, upc_same]
      exact (h r hr).symm
    · rw [upc_ne z, upc_ne z]
  rw [e, Fd_sum k k c j t c hj, sumR_only hj]
  · congr 1
    congr 1
    funext col
    by_cases z : col = j
    · rw [z, upc_same]
    · rw [upc_ne z]
  · intro i hi hij
    rw [Fd_alt hi hj hij fun r _ => by rw [upc_ne hij, upc_same], Rat.mul_zero]
theorem Fd_unit {k : Nat} {c : Nat → Nat → Rat} {u : Rat} (h0 : ∀ r, r < k → c k r = 0) (h1 : c k k = u) : Fd (k + 1) c = u * Fd k c := by
  rw [Fd_succ, sumR_succ, sumR_zeros fun i hi => by rw [h0 i hi, Rat.zero_mul, Rat.mul_zero], Rat.zero_add, sgn_two, Rat.one_mul, h1]
  congr 1
  exact Fd_congr k fun col r _ hr => by
    unfold sk
    rw [if_pos hr]
theorem Zt1 {r : Rat} (h : Zt 1 r) : ∃ z : Int, r = (z : Rat) := by
  obtain ⟨z, hz⟩ := h
  refine ⟨z, ?_⟩
  rw [← hz]
  show r = r * ((1 : Int) : Rat)
  exact (Rat.mul_one r).symm
theorem zt_sum {M n : Nat} {f : Nat → Rat} (h : ∀ i, i < n → Zt M (f i)) : Zt M (sumR n f) := by
  induction n with
  | zero => exact zt_zero M
  | succ n ih =>
    rw [sumR_succ]
    exact (ih fun i hi => h i (Nat.lt_succ_of_lt hi)).add (h n (Nat.lt_succ_self n))
theorem zt_sgn (n : Nat) : Zt 1 (sgn n) := by
  unfold sgn
  split
  · exact (show Zt 1 ((1 : Int) : Rat) from zt_int 1 1)
  · exact (show Zt 1 ((-1 : Int) : Rat) from zt_int 1 (-1))
theorem Fd_int : ∀ (k : Nat) {c : Nat → Nat → Rat}, (∀ col r, col < k → r < k → Zt 1 (c col r)) → Zt 1 (Fd k c)
  | 0, _, _ => (show Zt 1 ((1 : Int) : Rat) from zt_int 1 1)
  | k + 1, c, h => by
    rw [Fd_succ]
    refine zt_sum fun i hi => ?_
    have := (zt_sgn (i + k)).mul ((h k i (Nat.lt_succ_self k) hi).mul (Fd_int k fun col r h1 h2 => h col (sk i r) (Nat.lt_succ_of_lt h1) (sk_lt h2)))
    exact this
theorem mul_bd {x y a b : Rat} (h1 : -a ≤ x) (h2 : x ≤ a) (h3 : -b ≤ y) (h4 : y ≤ b) : -(a * b) ≤ x * y ∧ x * y ≤ a * b := by
  have p1 := Rat.mul_nonneg (show 0 ≤ a - x by grind) (show 0 ≤ b + y by grind)
  have p2 := Rat.mul_nonneg (show 0 ≤ a + x by grind) (show 0 ≤ b - y by grind)
  have p3 := Rat.mul_nonneg (show 0 ≤ a - x by grind) (show 0 ≤ b - y by grind)
  have p4 := Rat.mul_nonneg (show 0 ≤ a + x by grind) (show 0 ≤ b + y by grind)
  constructor <;> grind
theorem sum_bd {n : Nat} {f : Nat → Rat} {a : Rat} (h : ∀ i, i < n → -a ≤ f i ∧ f i ≤ a) : -(((n : Int) : Rat) * a) ≤ sumR n f ∧ sumR n f ≤ ((n : Int) : Rat) * a := by
  induction n with
  | zero =>
    rw [sumR_zero]
    have : (((0 : Nat) : Int) : Rat) = 0 := rfl
    rw [this, Rat.zero_mul]
    constructor <;> grind
  | succ n ih =>
    rw [sumR_succ]
    have e : (((n + 1 : Nat) : Int) : Rat) = ((n : Int) : Rat) + 1 := by rw [Int.natCast_add, Rat.intCast_add]; rfl
    have h1 := ih fun i hi => h i (Nat.lt_succ_of_lt hi)
    have h2 := h n (Nat.lt_succ_self n)
    rw [e]
    constructor <;> grind
def fbd (B : Rat) : Nat → Rat
  | 0 => 1
  | k + 1 => (((k + 1 : Nat) : Int) : Rat) * (B * fbd B k)
theorem Fd_bd {B : Rat} : ∀ (k : Nat) {c : Nat → Nat → Rat}, (∀ col r, col < k → r < k → -B ≤ c col r ∧ c col r ≤ B) → -fbd B k ≤ Fd k c ∧ Fd k c ≤ fbd B k
  | 0, _, _ => ⟨by show -(1 : Rat) ≤ 1; decide +kernel, Rat.le_refl⟩
  | k + 1, c, h => by
    rw [Fd_succ]
    refine sum_bd fun i hi => ?_
    have h1 := h k i (Nat.lt_succ_self k) hi
    have h2 := Fd_bd k (c := fun col r => c col (sk i r)) fun col r h1 h2 => h col (sk i r) (Nat.lt_succ_of_lt h1) (sk_lt h2)
    have h3 := mul_bd h1.1 h1.2 h2.1 h2.2
    unfold sgn
    split
    · rw [Rat.one_mul]
      exact h3
    · constructor <;> grind
end Md
set_option Elab.async false
set_option linter.all false
set_option maxRecDepth 100000
set_option maxHeartbeats 2000000
namespace Md
def qa (a : Nat → Nat → Int) (r l : Nat) : Rat := ((a r l : Int) : Rat)
structure Elim (n : Nat) (a : Nat → Nat → Int) (k : Nat) (T : Nat → Nat → Int) (d : Int) : Prop where
  pos : 0 < d
  det : (d : Rat) = Fd k (fun col r => qa a r col)
  top : ∀ r l, r < k → l ≤ n → sumR k (fun j => qa T j l * qa a r j) = (d : Rat) * qa a r l
  bot : ∀ r l, k ≤ r → r < n → l ≤ n → qa T r l = (d : Rat) * qa a r l - sumR k (fun j => qa T j l * qa a r j)
def elimT (k : Nat) (T : Nat → Nat → Int) (d : Int) : Nat → Nat → Int := fun j l => if j = k then T k l else (T k k * T j l - T j k * T k l) / d
theorem elim_start (n : Nat) (a : Nat → Nat → Int) : Elim n a 0 a 1 := ⟨by decide, rfl, fun r l h => by omega, fun r l _ _ _ => by
  rw [sumR_zero]
  have : ((1 : Int) : Rat) = 1 := rfl
  rw [this]
  grind⟩
theorem elim_step {n : Nat} {a : Nat → Nat → Int} {k : Nat} {T : Nat → Nat → Int} {d : Int} (h : Elim n a k T d) (hk : k < n) (hp : 0 < T k k) :
    Elim n a (k + 1) (elimT k T d) (T k k) ∧ ∀ j l, j < n → l ≤ n → j ≠ k → d ∣ T k k * T j l - T j k * T k l := by
  have d0 : (d : Rat) ≠ 0 := cast_ne (by have := h.pos; omega)
  have p0 : ((T k k : Int) : Rat) ≠ 0 := cast_ne (by omega)
  let R : Nat → Nat → Rat := fun j l => if j = k then qa T k l else (qa T k k * qa T j l - qa T j k * qa T k l) / (d : Rat)
  have Rk : ∀ l, R k l = qa T k l := fun l => if_pos rfl
  have Rne : ∀ j l, j ≠ k → R j l = (qa T k k * qa T j l - qa T j k * qa T k l) / (d : Rat) := fun j l e => if_neg e
  have hsum : ∀ r l, sumR k (fun j => R j l * qa a r j) = (qa T k k * sumR k (fun j => qa T j l * qa a r j) - qa T k l * sumR k (fun j => qa T j k * qa a r j)) / (d : Rat) := fun r l => by
    have e : ∀ j, j < k → R j l * qa a r j = (qa T k k / (d : Rat)) * (qa T j l * qa a r j) + (-(qa T k l / (d : Rat))) * (qa T j k * qa a r j) := fun j hj => by
      rw [Rne j l (by omega)]
      grind
    rw [sumR_congr e, sumR_add, sumR_mul, sumR_mul]
    grind
  have top' : ∀ r l, r < k + 1 → l ≤ n → sumR (k + 1) (fun j => R j l * qa a r j) = qa T k k * qa a r l := fun r l hr hl => by
    rw [sumR_succ, hsum, Rk]
    rcases Nat.lt_or_ge r k with z | z
    · rw [h.top r l z hl, h.top r k z (by omega)]
      grind
    · obtain rfl : r = k := by omega
      have e1 := h.bot r l (Nat.le_refl _) hk hl
      have e2 := h.bot r r (Nat.le_refl _) hk (by omega)
      generalize sumR r (fun j => qa T j l * qa a r j) = S1 at *
      generalize sumR r (fun j => qa T j r * qa a r j) = S2 at *
      grind
  have bot' : ∀ r l, k + 1 ≤ r → r < n → l ≤ n → R r l = qa T k k * qa a r l - sumR (k + 1) (fun j => R j l * qa a r j) := fun r l hr hrn hl => by
    rw [sumR_succ, hsum, Rk, Rne r l (by omega)]
    have e1 := h.bot r l (by omega) hrn hl
    have e2 := h.bot r k (by omega) hrn (by omega)
    generalize sumR k (fun j => qa T j l * qa a r j) = S1 at *
    generalize sumR k (fun j => qa T j k * qa a r j) = S2 at *
    grind
  have det' : ((T k k : Int) : Rat) = Fd (k + 1) (fun col r => qa a r col) := by
    let c : Nat → Nat → Rat := fun col r => qa a r col
    show _ = Fd (k + 1) c
    let e : Nat → Rat := fun r => if r = k then qa T k k else 0
    have f1 : (d : Rat) * Fd (k + 1) c = Fd (k + 1) (upc c k (fun r => (d : Rat) * c k r)) := by
      rw [Fd_mul (k + 1) c k (c k) _ (Nat.lt_succ_self k)]
      congr 2
      funext col
      by_cases z : col = k
      · rw [z, upc_same]
      · rw [upc_ne z]
    have f2 : Fd (k + 1) (upc c k (fun r => (d : Rat) * c k r)) = Fd (k + 1) (upc c k (fun r => (sumR k fun j => qa T j k * c j r) + e r)) := Fd_congr _ fun col r hc hr => by
      by_cases z : col = k
      · subst z
        rw [upc_same, upc_same]
        show (d : Rat) * qa a r col = (sumR col fun j => qa T j col * qa a r j) + e r
        rcases Nat.lt_or_ge r col with y | y
        · rw [h.top r col y (by omega)]
          show _ = _ + (if r = col then _ else (0 : Rat))
          rw [if_neg (by omega), Rat.add_zero]
        · obtain rfl : r = col := by omega
          have := h.bot r r (Nat.le_refl _) hk (by omega)
          show _ = _ + (if r = r then _ else (0 : Rat))
          rw [if_pos rfl]
          grind
      · rw [upc_ne z, upc_ne z]
    rw [Fd_add _ _ _ _ _ (Nat.lt_succ_self k), Fd_sum _ _ _ _ _ _ (Nat.lt_succ_self k)] at f2
    have f3 : (sumR k fun i => qa T i k * Fd (k + 1) (upc c k (c i))) = 0 := sumR_zeros fun i hi => by
      rw [Fd_alt (i := i) (j := k) (by omega) (Nat.lt_succ_self k) (by omega) fun r _ => by rw [upc_ne (by omega), upc_same], Rat.mul_zero]
    have f4 : Fd (k + 1) (upc c k e) = qa T k k * (d : Rat) := by
      rw [Fd_unit (u := qa T k k) (fun r hr => by rw [upc_same]; exact if_neg (by omega)) (by rw [upc_same]; exact if_pos rfl), h.det]
      congr 1
      exact Fd_congr _ fun col r hc _ => by rw [upc_ne (by omega)]
    rw [f3, f4, Rat.zero_add] at f2
    rw [f2] at f1
    have e3 : (d : Rat) * Fd (k + 1) c = (d : Rat) * qa T k k := by rw [f1, Rat.mul_comm]
    have e4 := congrArg (fun z => (d : Rat)⁻¹ * z) e3
    rw [← Rat.mul_assoc, ← Rat.mul_assoc, Rat.inv_mul_cancel _ d0, Rat.one_mul, Rat.one_mul] at e4
    exact e4.symm
  have int1 : ∀ j l, j < k + 1 → l ≤ n → Zt 1 (R j l) := fun j l hj hl => by
    have e := cramer (k := k + 1) (c := fun col r => qa a r col) (t := fun i => R i l) (v := fun r => qa a r l) (d := qa T k k) (fun r hr => top' r l hr hl) hj
    rw [← det'] at e
    have e2 : R j l = Fd (k + 1) (upc (fun col r => qa a r col) j fun r => qa a r l) := by
      show R j l = _
      have e3 := congrArg (fun z => ((T k k : Int) : Rat)⁻¹ * z) e
      have e4 : qa T k k = ((T k k : Int) : Rat) := rfl
      rw [e4, ← Rat.mul_assoc, Rat.inv_mul_cancel _ p0, Rat.one_mul] at e3
      rw [e3]
      grind
    rw [e2]
    refine Fd_int _ fun col r _ _ => ?_
    by_cases z : col = j
    · rw [z, upc_same]
      exact zt_int 1 _
    · rw [upc_ne z]
      exact zt_int 1 _
  have int2 : ∀ j l, j < n → l ≤ n → Zt 1 (R j l) := fun j l hj hl => by
    rcases Nat.lt_or_ge j (k + 1) with z | z
    · exact int1 j l z hl
    · rw [bot' j l z hj hl]
      have s1 : Zt 1 (sumR (k + 1) fun i => R i l * qa a j i) := zt_sum fun i hi => (int1 i l hi hl).mul (show Zt 1 (qa a j i) from zt_int 1 _)
      have s2 : Zt 1 (qa T k k * qa a j l) := (show Zt 1 (qa T k k) from zt_int 1 _).mul (show Zt 1 (qa a j l) from zt_int 1 _)
      have s3 : Zt 1 ((-1 : Rat) * sumR (k + 1) fun i => R i l * qa a j i) := (show Zt 1 (((-1 : Int) : Rat)) from zt_int 1 (-1)).mul s1
      have : qa T k k * qa a j l - sumR (k + 1) (fun i => R i l * qa a j i) = qa T k k * qa a j l + (-1 : Rat) * sumR (k + 1) (fun i => R i l * qa a j i) := by grind
      rw [this]
      exact s2.add s3
  have dv : ∀ j l, j < n → l ≤ n → j ≠ k → ∃ z : Int, R j l = (z : Rat) ∧ T k k * T j l - T j k * T k l = d * z := fun j l hj hl hjk => by
    obtain ⟨z, hz⟩ := Zt1 (int2 j l hj hl)
    refine ⟨z, hz, ?_⟩
    rw [Rne j l hjk] at hz
    have e : (qa T k k * qa T j l - qa T j k * qa T k l) = (d : Rat) * (z : Rat) := by grind
    have e2 : ((T k k * T j l - T j k * T k l : Int) : Rat) = ((d * z : Int) : Rat) := by
      rw [Rat.intCast_sub, Rat.intCast_mul, Rat.intCast_mul, Rat.intCast_mul]
      exact e
    exact Rat.intCast_inj.mp e2
  have RT : ∀ j l, j < n → l ≤ n → qa (elimT k T d) j l = R j l := fun j l hj hl => by
    by_cases z : j = k
    · subst z
      rw [Rk]
      show (((if j = j then T j l else _) : Int) : Rat) = _
      rw [if_pos rfl]
      rfl
    · obtain ⟨y, h1, h2⟩ := dv j l hj hl z
      rw [h1]
      show (((if j = k then T k l else (T k k * T j l - T j k * T k l) / d) : Int) : Rat) = _
      rw [if_neg z, h2, Int.mul_ediv_cancel_left _ (by have := h.pos; omega)]
  refine ⟨⟨hp, det', fun r l hr hl => ?_, fun r l hr hrn hl => ?_⟩, fun j l hj hl hjk => ?_⟩
  · rw [sumR_congr fun j hj => by rw [RT j l (by omega) hl]]
    exact top' r l hr hl
  · rw [RT r l hrn hl, sumR_congr fun j hj => by rw [RT j l (by omega) hl]]
    exact bot' r l hr hrn hl
  · obtain ⟨y, _, h2⟩ := dv j l hj hl hjk
    exact ⟨y, h2⟩
theorem elim_pivot {n : Nat} {a : Nat → Nat → Int} {k : Nat} {T : Nat → Nat → Int} {d : Int} (h : Elim n a k T d) (hk : k < n) :
    let w : Nat → Rat := fun j => if j = k then (d : Rat) else -qa T j k
    (∀ r, r < k → sumR (k + 1) (fun j => qa a r j * w j) = 0) ∧ sumR (k + 1) (fun j => qa a k j * w j) = qa T k k := by
  intro w
  have hw : ∀ r, sumR (k + 1) (fun j => qa a r j * w j) = (d : Rat) * qa a r k - sumR k (fun j => qa T j k * qa a r j) := fun r => by
    rw [sumR_succ]
    have e : sumR k (fun j => qa a r j * w j) = -sumR k (fun j => qa T j k * qa a r j) := by
      rw [← sumR_neg]
      refine sumR_congr fun j hj => ?_
      show qa a r j * (if j = k then (d : Rat) else -qa T j k) = _
      rw [if_neg (by omega)]
      grind
    have e2 : w k = (d : Rat) := if_pos rfl
    rw [e, e2]
    grind
  refine ⟨fun r hr => ?_, ?_⟩
  · rw [hw, h.top r k hr (by omega)]
    grind
  · rw [hw, h.bot k k (Nat.le_refl _) hk (by omega)]
theorem elim_end {n : Nat} {a : Nat → Nat → Int} {T : Nat → Nat → Int} {d : Int} (h : Elim n a n T d) (r : Nat) (hr : r < n) : sumR n (fun j => qa a r j * (qa T j n / (d : Rat))) = qa a r n := by
  have d0 : (d : Rat) ≠ 0 := cast_ne (by have := h.pos; omega)
  have e := h.top r n hr (Nat.le_refl _)
  have e2 : sumR n (fun j => qa a r j * (qa T j n / (d : Rat))) = (1 / (d : Rat)) * sumR n (fun j => qa T j n * qa a r j) := by
    rw [← sumR_mul]
    exact sumR_congr fun j _ => by grind
  rw [e2, e]
  grind
end Md
set_option Elab.async false
set_option linter.all false
set_option maxRecDepth 100000
set_option maxHeartbeats 2000000
namespace Md
def Out (C : List PlC) (L : List Nat) : Prop := ∀ Z : Nat → Prop, (∃ x, Z x) → (∀ x, Z x → x ∈ L) → ∃ x, Z x ∧ ∃ q ∈ (plC C x).bs, ¬ Z q.2
theorem Out.sub {C : List PlC} {L L' : List Nat} (h : Out C L) (hs : ∀ x ∈ L', x ∈ L) : Out C L' := fun Z h1 h2 => h Z h1 fun x hx => hs x (h2 x hx)
theorem max_list (f : Nat → Rat) : ∀ {L : List Nat}, L ≠ [] → ∃ x ∈ L, ∀ y ∈ L, f y ≤ f x
  | [], h => absurd rfl h
  | [x], _ => ⟨x, List.mem_singleton.mpr rfl, fun y hy => by
    rw [List.mem_singleton] at hy
    rw [hy]
    exact Rat.le_refl⟩
  | x :: y :: L, _ => by
    obtain ⟨z, h1, h2⟩ := max_list f (L := y :: L) (by simp)
    by_cases h : f x ≤ f z
    · exact ⟨z, List.mem_cons_of_mem _ h1, fun u hu => by
        rcases List.mem_cons.mp hu with rfl | hu
        · exact h
        · exact h2 u hu⟩
    · exact ⟨x, List.mem_cons_self .., fun u hu => by
        rcases List.mem_cons.mp hu with rfl | hu
        · exact Rat.le_refl
        · have := h2 u hu
          grind⟩
theorem mean_max {bs : List BrC} {f : Nat → Rat} {M : Rat} (hp : ∀ q ∈ bs, 0 < qN q.1) (hf : ∀ q ∈ bs, f q.2 ≤ M) (h : M * wsum bs (fun _ => 1) ≤ wsum bs f) : ∀ q ∈ bs, f q.2 = M := by
  induction bs with
  | nil => intro q hq; cases hq
  | cons b bs ih =>
    rw [wsum_cons, wsum_cons] at h
    have p := hp b (List.mem_cons_self ..)
    have f1 := hf b (List.mem_cons_self ..)
    have hle : wsum bs f ≤ M * wsum bs (fun _ => 1) := by
      rw [← wsum_mul]
      refine wsum_le fun q hq => ⟨Rat.le_of_lt (hp q (List.mem_cons_of_mem _ hq)), ?_⟩
      rw [Rat.mul_one]
      exact hf q (List.mem_cons_of_mem _ hq)
    have u1 := Rat.mul_le_mul_of_nonneg_left f1 (Rat.le_of_lt p)
    have e1 : qN b.1 * f b.2 = qN b.1 * M := by grind
    have e2 : f b.2 = M := by
      have := congrArg (fun z => (qN b.1)⁻¹ * z) e1
      rw [← Rat.mul_assoc, ← Rat.mul_assoc, Rat.inv_mul_cancel _ (by grind), Rat.one_mul, Rat.one_mul] at this
      exact this
    intro q hq
    rcases List.mem_cons.mp hq with rfl | hq
    · exact e2
    · exact ih (fun q hq => hp q (List.mem_cons_of_mem _ hq)) (fun q hq => hf q (List.mem_cons_of_mem _ hq)) (by grind) q hq
theorem max_closed {C : List PlC} (hW : WfC C) {L : List Nat} (hL : ∀ x ∈ L, x < C.length) (hO : Out C L) {f : Nat → Rat} (h0 : ∀ y, y < C.length → y ∉ L → f y ≤ 0) (hf : ∀ x ∈ L, f x ≤ meanC C f x) : ∀ x ∈ L, f x ≤ 0 := by
  intro x hx
  obtain ⟨m, hm, hmax⟩ := max_list f (L := L) (List.ne_nil_of_mem hx)
  have hxm := hmax x hx
  by_cases hM : f m ≤ 0
  · grind
  · exfalso
    obtain ⟨z, ⟨hz, hzm⟩, q, hq, hnz⟩ := hO (fun y => y ∈ L ∧ f y = f m) ⟨m, hm, rfl⟩ fun y hy => hy.1
    have hzl := hL z hz
    have hw := plC_wf hW hzl
    have hall : ∀ y, y < C.length → f y ≤ f m := fun y hy => by
      by_cases hyL : y ∈ L
      · exact hmax y hyL
      · have := h0 y hy hyL
        grind
    have h1 : wsum (plC C z).bs (fun _ => 1) = 1 := mean_one hW hzl
    have e := mean_max (bs := (plC C z).bs) (f := f) (M := f m) (fun q hq => br_pos hW hzl hq) (fun q hq => hall _ (hw.q q hq).2.2) (by
      rw [h1, Rat.mul_one, ← hzm]
      exact hf z hz) q hq
    refine hnz ⟨?_, e⟩
    by_cases hqL : q.2 ∈ L
    · exact hqL
    · have := h0 _ (hw.q q hq).2.2 hqL
      grind
structure IsFill (C : List PlC) (L : List Nat) (e kn f : Nat → Rat) : Prop where
  eq : ∀ x ∈ L, f x = e x + meanC C f x
  out : ∀ y, y ∉ L → f y = kn y
theorem mean_sub (C : List PlC) (f g : Nat → Rat) (k : Nat) : meanC C (fun y => f y - g y) k = meanC C f k - meanC C g k := by
  have e : (fun y => f y - g y) = fun y => f y + (-1) * g y := by
    funext y
    grind
  unfold meanC
  rw [e, wsum_add, wsum_mul]
  grind
theorem fill_unique {C : List PlC} (hW : WfC C) {L : List Nat} (hL : ∀ x ∈ L, x < C.length) (hO : Out C L) {e kn f g : Nat → Rat} (hf : IsFill C L e kn f) (hg : IsFill C L e kn g) : ∀ y, f y = g y := by
  have key : ∀ {f g : Nat → Rat}, IsFill C L e kn f → IsFill C L e kn g → ∀ x ∈ L, f x - g x ≤ 0 := fun {f g} hf hg => max_closed hW hL hO (f := fun y => f y - g y) (fun y _ hy => by
    rw [hf.out y hy, hg.out y hy]
    grind) fun x hx => by
      rw [mean_sub, hf.eq x hx, hg.eq x hx]
      grind
  intro y
  by_cases hy : y ∈ L
  · have h1 := key hf hg y hy
    have h2 := key hg hf y hy
    grind
  · rw [hf.out y hy, hg.out y hy]
def scaleC (C : List PlC) (x : Nat) : Nat := denL ((plC C x).bs.map (·.1))
def cz (s : Nat) (q : BrC) : Int := q.1.1 * ((s : Int) / q.1.2)
def rowZ (C : List PlC) (L : List Nat) (x y : Nat) : Int := (if y = x then (scaleC C x : Int) else 0) - ((plC C x).bs.map fun q => if q.2 = y then cz (scaleC C x) q else 0).sum
theorem scaleC_ok {C : List PlC} (h : WfC C) {x : Nat} (hx : x < C.length) : 0 < scaleC C x ∧ scaleC C x ≤ 360 ∧ ∀ q ∈ (plC C x).bs, q.1.2.natAbs ∣ scaleC C x := by
  have w := plC_wf h hx
  obtain ⟨W, h1, h2, h3⟩ := w.w
  refine ⟨denL_pos fun p hp => ?_, Nat.le_trans (Nat.le_of_dvd h1 (denL_to fun p hp => ?_)) h2, fun q hq => denL_dvd (List.mem_map.mpr ⟨q, hq, rfl⟩)⟩
  · obtain ⟨q, hq, rfl⟩ := List.mem_map.mp hp
    exact (w.q q hq).1.1
  · obtain ⟨q, hq, rfl⟩ := List.mem_map.mp hp
    exact h3 q hq
theorem cz_cast {s : Nat} {q : BrC} (h : Red q.1) (d : q.1.2.natAbs ∣ s) : ((cz s q : Int) : Rat) = qN q.1 * ((s : Int) : Rat) := whole_q h d
theorem rowZ_cast {C : List PlC} (h : WfC C) (L : List Nat) {x : Nat} (hx : x < C.length) (y : Nat) : ((rowZ C L x y : Int) : Rat) = ((scaleC C x : Int) : Rat) * ((if y = x then 1 else 0) - meanC C (fun z => if z = y then 1 else 0) x) := by
  obtain ⟨s0, s1, s2⟩ := scaleC_ok h hx
  have w := plC_wf h hx
  unfold rowZ meanC
  generalize scaleC C x = s at *
  have e : ∀ bs : List BrC, (∀ q ∈ bs, Red q.1 ∧ q.1.2.natAbs ∣ s) → (((bs.map fun q => if q.2 = y then cz s q else 0).sum : Int) : Rat) = ((s : Int) : Rat) * wsum bs (fun z => if z = y then 1 else 0) := by
    intro bs
    induction bs with
    | nil => intro _; rw [wsum_nil, Rat.mul_zero]; rfl
    | cons q bs ih =>
      intro hq
      have h1 := hq q (List.mem_cons_self ..)
      rw [List.map_cons, List.sum_cons, wsum_cons, Rat.intCast_add, ih fun q hq' => hq q (List.mem_cons_of_mem _ hq')]
      by_cases z : q.2 = y
      · rw [if_pos z, if_pos z, cz_cast h1.1 h1.2]
        grind
      · rw [if_neg z, if_neg z]
        have : ((0 : Int) : Rat) = 0 := rfl
        rw [this]
        grind
  rw [Rat.intCast_sub, e _ fun q hq => ⟨red_small (w.q q hq).1, s2 q hq⟩]
  by_cases z : y = x
  · rw [if_pos z, if_pos z]
    grind
  · rw [if_neg z, if_neg z]
    have : ((0 : Int) : Rat) = 0 := rfl
    rw [this]
    grind
def wt (L : List Nat) (m : Nat) (w : Nat → Rat) (y : Nat) : Rat := sumR m fun j => if y = L.getD j 0 then w j else 0
theorem nodup_getD {L : List Nat} (h : L.Nodup) {i j : Nat} (hi : i < L.length) (hj : j < L.length) (e : L.getD i 0 = L.getD j 0) : i = j := by
  rw [List.getD_eq_getElem?_getD, List.getD_eq_getElem?_getD, List.getElem?_eq_getElem hi, List.getElem?_eq_getElem hj] at e
  exact (List.getElem_inj h).mp (Option.some.inj (congrArg some e))
theorem wt_at {L : List Nat} (h : L.Nodup) {m r : Nat} (hm : m ≤ L.length) (hr : r < m) (w : Nat → Rat) : wt L m w (L.getD r 0) = w r := by
  unfold wt
  rw [sumR_only hr, if_pos rfl]
  intro i hi hir
  rw [if_neg]
  exact fun e => hir (nodup_getD h (by omega) (by omega) e.symm)
theorem getD_mem {L : List Nat} {j : Nat} (h : j < L.length) : L.getD j 0 ∈ L := by
  rw [List.getD_eq_getElem?_getD, List.getElem?_eq_getElem h]
  exact List.getElem_mem h
theorem getD_take {L : List Nat} {j m : Nat} (h : j < m) (hm : m ≤ L.length) : L.getD j 0 ∈ L.take m := by
  have : (L.take m)[j]? = some (L.getD j 0) := by
    rw [List.getElem?_take, if_pos h, List.getD_eq_getElem?_getD, List.getElem?_eq_getElem (by omega)]
    rfl
  exact List.mem_of_getElem? this
theorem take_getD {L : List Nat} {m x : Nat} (h : x ∈ L.take m) : ∃ j, j < m ∧ j < L.length ∧ L.getD j 0 = x := by
  obtain ⟨j, hj, e⟩ := List.mem_iff_getElem.mp h
  rw [List.length_take] at hj
  refine ⟨j, by omega, by omega, ?_⟩
  rw [List.getElem_take] at e
  rw [List.getD_eq_getElem?_getD, List.getElem?_eq_getElem (by omega)]
  exact e
theorem wt_out {L : List Nat} {m y : Nat} (hm : m ≤ L.length) (w : Nat → Rat) (h : y ∉ L.take m) : wt L m w y = 0 := sumR_zeros fun j hj => if_neg fun e => h (by
  rw [e]
  exact getD_take hj hm)
theorem mean_wt (C : List PlC) (L : List Nat) (m x : Nat) (w : Nat → Rat) : meanC C (wt L m w) x = sumR m fun j => meanC C (fun z => if z = L.getD j 0 then 1 else 0) x * w j := by
  induction m with
  | zero =>
    rw [sumR_zero]
    unfold meanC
    have : wt L 0 w = fun _ => 0 * 1 := by
      funext y
      rw [Rat.zero_mul]
      rfl
    rw [this, wsum_mul, Rat.zero_mul]
  | succ m ih =>
    rw [sumR_succ, ← ih]
    unfold meanC
    have : wt L (m + 1) w = fun y => wt L m w y + w m * (if y = L.getD m 0 then 1 else 0) := by
      funext y
      unfold wt
      rw [sumR_succ]
      by_cases z : y = L.getD m 0
      · rw [if_pos z, if_pos z, Rat.mul_one]
      · rw [if_neg z, if_neg z, Rat.mul_zero]
    rw [this, wsum_add, wsum_mul]
    grind
theorem row_dot {C : List PlC} (h : WfC C) {L : List Nat} (hn : L.Nodup) (hL : ∀ x ∈ L, x < C.length) {m r : Nat} (hm : m ≤ L.length) (hr : r < m) (w : Nat → Rat) :
    sumR m (fun j => ((rowZ C L (L.getD r 0) (L.getD j 0) : Int) : Rat) * w j) = ((scaleC C (L.getD r 0) : Int) : Rat) * (w r - meanC C (wt L m w) (L.getD r 0)) := by
  have hx := hL _ (getD_mem (L := L) (j := r) (by omega))
  have e : ∀ j, j < m → ((rowZ C L (L.getD r 0) (L.getD j 0) : Int) : Rat) * w j = ((scaleC C (L.getD r 0) : Int) : Rat) * ((if L.getD r 0 = L.getD j 0 then w j else 0) + (-1) * (meanC C (fun z => if z = L.getD j 0 then 1 else 0) (L.getD r 0) * w j)) := fun j hj => by
    rw [rowZ_cast h L hx]
    by_cases z : L.getD j 0 = L.getD r 0
    · rw [if_pos z, if_pos z.symm]
      grind
    · rw [if_neg z, if_neg fun y => z y.symm]
      grind
  rw [sumR_congr e, sumR_mul, sumR_add, sumR_mul, ← mean_wt]
  have := wt_at hn hm hr w
  unfold wt at this
  rw [this]
  grind
def matA (C : List PlC) (L : List Nat) (kr : Nat → Rat) (U : Nat) : Nat → Nat → Int := fun r l => if l < L.length then rowZ C L (L.getD r 0) (L.getD l 0) else (canon (kr r)).1 * ((U : Int) / (canon (kr r)).2)
theorem matA_lo {C : List PlC} {L : List Nat} {kr : Nat → Rat} {U r l : Nat} (h : l < L.length) : matA C L kr U r l = rowZ C L (L.getD r 0) (L.getD l 0) := if_pos h
theorem pivot_pos {C : List PlC} (h : WfC C) {L : List Nat} (hn : L.Nodup) (hL : ∀ x ∈ L, x < C.length) (hO : Out C L) {kr : Nat → Rat} {U k : Nat} {T : Nat → Nat → Int} {d : Int} (hE : Elim L.length (matA C L kr U) k T d) (hk : k < L.length) : 0 < T k k := by
  obtain ⟨p1, p2⟩ := elim_pivot hE hk
  generalize hw : (fun j => if j = k then (d : Rat) else -qa T j k) = w at p1 p2
  have hwk : w k = (d : Rat) := by rw [← hw]; exact if_pos rfl
  have hrow : ∀ r, r < k + 1 → sumR (k + 1) (fun j => qa (matA C L kr U) r j * w j) = ((scaleC C (L.getD r 0) : Int) : Rat) * (w r - meanC C (wt L (k + 1) w) (L.getD r 0)) := fun r hr => by
    rw [← row_dot h hn hL hk hr w]
    refine sumR_congr fun j hj => ?_
    unfold qa
    rw [matA_lo (by omega)]
  rcases Int.lt_or_le 0 (T k k) with z | z
  · exact z
  · exfalso
    have zq : qa T k k ≤ 0 := le_cast z
    have hle : ∀ r, r < k + 1 → w r ≤ meanC C (wt L (k + 1) w) (L.getD r 0) := fun r hr => by
      have hx := hL _ (getD_mem (L := L) (j := r) (by omega))
      have s0 : (0 : Rat) < ((scaleC C (L.getD r 0) : Int) : Rat) := cast_pos (by have := (scaleC_ok h hx).1; omega)
      have e := hrow r hr
      have e2 : sumR (k + 1) (fun j => qa (matA C L kr U) r j * w j) ≤ 0 := by
        rcases Nat.lt_or_ge r k with y | y
        · rw [p1 r y]
          exact Rat.le_refl
        · obtain rfl : r = k := by omega
          rw [p2]
          exact zq
      rw [e] at e2
      rcases (Rat.le_total : w r ≤ meanC C (wt L (k + 1) w) (L.getD r 0) ∨ _) with y | y
      · exact y
      · by_cases y2 : w r - meanC C (wt L (k + 1) w) (L.getD r 0) = 0
        · grind
        · have := Rat.mul_pos s0 (show 0 < w r - meanC C (wt L (k + 1) w) (L.getD r 0) by grind)
          grind
    have hsub : ∀ x ∈ L.take (k + 1), x ∈ L := fun x hx => List.mem_of_mem_take hx
    have key := max_closed h (L := L.take (k + 1)) (fun x hx => hL x (hsub x hx)) (hO.sub hsub) (f := wt L (k + 1) w) (fun y _ hy => by rw [wt_out hk w hy]; exact Rat.le_refl) (fun x hx => by
      obtain ⟨j, h1, h2, rfl⟩ := take_getD hx
      rw [wt_at hn hk h1]
      exact hle j h1) (L.getD k 0) (getD_take (Nat.lt_succ_self k) hk)
    rw [wt_at hn hk (Nat.lt_succ_self k), hwk] at key
    have : (0 : Rat) < (d : Rat) := cast_pos hE.pos
    grind
end Md
set_option Elab.async false
set_option linter.all false
set_option maxRecDepth 100000
set_option maxHeartbeats 2000000
namespace Md
open PySem L2 Evl
def natR (n : Nat) : Rat := ((n : Int) : Rat)
theorem natR_add (a b : Nat) : natR (a + b) = natR a + natR b := by unfold natR; rw [Int.natCast_add, Rat.intCast_add]
theorem natR_mul (a b : Nat) : natR (a * b) = natR a * natR b := by unfold natR; rw [Int.natCast_mul, Rat.intCast_mul]
theorem natR_le {a b : Nat} (h : a ≤ b) : natR a ≤ natR b := le_cast (by omega)
theorem natR_nonneg (a : Nat) : 0 ≤ natR a := Rat.intCast_nonneg.mpr (by omega)
theorem natR_pos {a : Nat} (h : 0 < a) : 0 < natR a := cast_pos (by omega)
structure NB (M B : Nat) (r : Rat) : Prop where
  zt : Zt M r
  lo : -natR B ≤ r
  hi : r ≤ natR B
theorem NB.mono {M B M' B' : Nat} {r : Rat} (h : NB M B r) (hM : M ∣ M') (hB : B ≤ B') : NB M' B' r := ⟨h.zt.dvd hM, by have := natR_le hB; have := h.lo; grind, by have := natR_le hB; have := h.hi; grind⟩
theorem NB.big {M B j : Nat} {r : Rat} (h : NB M B r) (hM : 0 < M) (hB : 1 ≤ B) (hj : B * M < 2 ^ j) : Big j (canon r) := zt_Big (canon_red r) hM (by rw [q_canon]; exact h.zt) (by rw [q_canon]; exact h.lo) (by rw [q_canon]; exact h.hi) hB hj
theorem nb_zero (M B : Nat) : NB M B 0 := ⟨zt_zero M, by have := natR_nonneg B; grind, natR_nonneg B⟩
theorem natR_one : natR 1 = 1 := rfl
theorem nb_one {M B : Nat} (h : 1 ≤ B) : NB M B 1 := ⟨(show Zt M ((1 : Int) : Rat) from zt_int M 1), by have := natR_le h; rw [natR_one] at this; grind, by have := natR_le h; rw [natR_one] at this; exact this⟩
theorem part_bd {bs : List BrC} {f : Nat → Rat} {B : Nat} (hp : ∀ q ∈ bs, 0 ≤ qN q.1) (hf : ∀ q ∈ bs, -natR B ≤ f q.2 ∧ f q.2 ≤ natR B) (h1 : wsum bs (fun _ => 1) ≤ 1) : -natR B ≤ wsum bs f ∧ wsum bs f ≤ natR B := by
  have u1 : wsum bs f ≤ wsum bs (fun _ => natR B * 1) := wsum_le fun q hq => ⟨hp q hq, by rw [Rat.mul_one]; exact (hf q hq).2⟩
  have u2 : wsum bs (fun _ => -natR B * 1) ≤ wsum bs f := wsum_le fun q hq => ⟨hp q hq, by rw [Rat.mul_one]; exact (hf q hq).1⟩
  rw [wsum_mul] at u1 u2
  have u3 := Rat.mul_le_mul_of_nonneg_left h1 (natR_nonneg B)
  constructor <;> grind
theorem part_zt {bs : List BrC} {f : Nat → Rat} {M W : Nat} (hq : ∀ q ∈ bs, Red q.1 ∧ q.1.2.natAbs ∣ W ∧ Zt M (f q.2)) : Zt (M * W) (wsum bs f) := by
  induction bs with
  | nil => exact zt_zero _
  | cons q bs ih =>
    rw [wsum_cons]
    obtain ⟨h1, h2, h3⟩ := hq q (List.mem_cons_self ..)
    refine Zt.add ?_ (ih fun q hq' => hq q (List.mem_cons_of_mem _ hq'))
    rw [Nat.mul_comm]
    exact (zt_den h1 h2).mul h3
theorem nb_part {n : Nat} {p : PlC} (hw : WfB n p) {f : Nat → Rat} {M B : Nat} (hf : ∀ q ∈ p.bs, NB M B (f q.2)) (i : Nat) : NB (M * denL (p.bs.map (·.1))) B (wsum (p.bs.take i) f) := by
  have hp : ∀ q ∈ p.bs, 0 ≤ qN q.1 := fun q hq => Rat.le_of_lt (q_pos (red_small (hw.q q hq).1) (hw.q q hq).2.1)
  have h1 := (wsum_take hp i).2
  have h2 : wsum p.bs (fun _ => 1) = 1 := by rw [wsum_one]; exact hw.s
  rw [h2] at h1
  have b := part_bd (bs := p.bs.take i) (f := f) (B := B) (fun q hq => hp q (List.mem_of_mem_take hq)) (fun q hq => ⟨(hf q (List.mem_of_mem_take hq)).lo, (hf q (List.mem_of_mem_take hq)).hi⟩) h1
  exact ⟨part_zt fun q hq => ⟨red_small (hw.q q (List.mem_of_mem_take hq)).1, denL_dvd (List.mem_map.mpr ⟨q, List.mem_of_mem_take hq, rfl⟩), (hf q (List.mem_of_mem_take hq)).zt⟩, b.1, b.2⟩
theorem nb_mean {C : List PlC} (hW : WfC C) {x : Nat} (hx : x < C.length) {f : Nat → Rat} {M B : Nat} (hf : ∀ y, y < C.length → NB M B (f y)) : NB (M * scaleC C x) B (meanC C f x) := by
  have hw := plC_wf hW hx
  have := nb_part hw (f := f) (M := M) (B := B) (fun q hq => hf _ (hw.q q hq).2.2) (plC C x).bs.length
  rw [List.take_length] at this
  exact this
def fbN (B : Nat) : Nat → Nat
  | 0 => 1
  | k + 1 => (k + 1) * (B * fbN B k)
theorem fbd_nat (B : Nat) : ∀ k, fbd (natR B) k = natR (fbN B k)
  | 0 => rfl
  | k + 1 => by
    show natR (k + 1) * (natR B * fbd (natR B) k) = natR ((k + 1) * (B * fbN B k))
    rw [fbd_nat B k, natR_mul, natR_mul]
theorem fbN_le {B k : Nat} (h : k ≤ 12) : fbN B k ≤ (12 * B) ^ k := by
  induction k with
  | zero => exact Nat.le_refl _
  | succ k ih =>
    show (k + 1) * (B * fbN B k) ≤ (12 * B) ^ (k + 1)
    rw [Nat.pow_succ, ← Nat.mul_assoc, Nat.mul_comm ((12 * B) ^ k)]
    exact Nat.mul_le_mul (Nat.mul_le_mul_right B h) (ih (by omega))
theorem elim_col {n : Nat} {a : Nat → Nat → Int} {k : Nat} {T : Nat → Nat → Int} {d : Int} (h : Elim n a k T d) {j l : Nat} (hj : j < k) (hl : l ≤ n) : qa T j l = Fd k (upc (fun col r => qa a r col) j fun r => qa a r l) := by
  have d0 : (d : Rat) ≠ 0 := cast_ne (by have := h.pos; omega)
  have e := cramer (k := k) (c := fun col r => qa a r col) (t := fun i => qa T i l) (v := fun r => qa a r l) (d := (d : Rat)) (fun r hr => h.top r l hr hl) hj
  rw [← h.det] at e
  have e3 := congrArg (fun z => (d : Rat)⁻¹ * z) e
  rw [← Rat.mul_assoc, Rat.inv_mul_cancel _ d0, Rat.one_mul] at e3
  rw [e3]
  grind
theorem pow_le12 {b k : Nat} (hb : 1 ≤ b) (h : k ≤ 12) : b ^ k ≤ b ^ 12 := Nat.pow_le_pow_right hb h
theorem elim_d {n : Nat} {a : Nat → Nat → Int} {k : Nat} {T : Nat → Nat → Int} {d : Int} (h : Elim n a k T d) (hn : n ≤ 12) (hk : k ≤ n) {B : Nat} (hB : 1 ≤ B) (ha : ∀ r l, r < n → l < n → (a r l).natAbs ≤ B) : d ≤ ((12 * B) ^ 12 : Nat) := by
  have := (Fd_bd (B := natR B) k (c := fun col r => qa a r col) fun col r h1 h2 => by
    have := ha r col (by omega) (by omega)
    constructor
    · have e : -natR B = (((-(B : Int)) : Int) : Rat) := by rw [Rat.intCast_neg]; rfl
      rw [e]
      exact le_cast (by omega)
    · exact le_cast (by omega)).2
  rw [← h.det, fbd_nat] at this
  have e := cast_le this
  have e2 := Nat.le_trans (fbN_le (B := B) (k := k) (by omega)) (pow_le12 (by omega) (by omega))
  omega
theorem abs_of {z : Int} {X : Nat} (h1 : -natR X ≤ (z : Rat)) (h2 : (z : Rat) ≤ natR X) : z.natAbs ≤ X := by
  have e1 : z ≤ (X : Int) := cast_le h2
  have e2 : -(X : Int) ≤ z := cast_le (by rw [Rat.intCast_neg]; exact h1)
  omega
theorem abs_to {z : Int} {X : Nat} (h : z.natAbs ≤ X) : -natR X ≤ (z : Rat) ∧ (z : Rat) ≤ natR X := by
  constructor
  · have e : -natR X = (((-(X : Int)) : Int) : Rat) := by rw [Rat.intCast_neg]; rfl
    rw [e]
    exact le_cast (by omega)
  · exact le_cast (by omega)
theorem elim_bd {n : Nat} {a : Nat → Nat → Int} {k : Nat} {T : Nat → Nat → Int} {d : Int} (h : Elim n a k T d) (hn : n ≤ 12) (hk : k ≤ n) {B : Nat} (hB : 1 ≤ B) (ha : ∀ r l, r < n → l ≤ n → (a r l).natAbs ≤ B) {j l : Nat} (hj : j < n) (hl : l ≤ n) : (T j l).natAbs ≤ 13 * ((12 * B) ^ 12 * B) := by
  have top : ∀ i, i < k → (T i l).natAbs ≤ (12 * B) ^ 12 := fun i hi => by
    have e := elim_col h hi hl
    have := Fd_bd (B := natR B) k (c := upc (fun col r => qa a r col) i fun r => qa a r l) fun col r h1 h2 => by
      by_cases z : col = i
      · rw [z, upc_same]
        exact abs_to (ha r l (by omega) hl)
      · rw [upc_ne z]
        exact abs_to (ha r col (by omega) (by omega))
    rw [← e, fbd_nat] at this
    exact Nat.le_trans (abs_of this.1 this.2) (Nat.le_trans (fbN_le (by omega)) (pow_le12 (by omega) (by omega)))
  generalize hP : (12 * B) ^ 12 = P at *
  have hPB : P ≤ P * B := Nat.le_mul_of_pos_right P hB
  rcases Nat.lt_or_ge j k with z | z
  · have := top j z
    omega
  · have e := h.bot j l z hj hl
    have s := sum_bd (n := k) (f := fun i => qa T i l * qa a j i) (a := natR (P * B)) fun i hi => by
      have h1 := abs_to (top i hi)
      have h2 := abs_to (ha j i hj (by omega))
      rw [natR_mul]
      exact mul_bd h1.1 h1.2 h2.1 h2.2
    have dd := elim_d h hn hk hB fun r l h1 h2 => ha r l h1 (by omega)
    rw [hP] at dd
    have hd1 : -natR P ≤ (d : Rat) ∧ (d : Rat) ≤ natR P := abs_to (by have := h.pos; omega)
    have h2 := abs_to (ha j l hj hl)
    have m := mul_bd hd1.1 hd1.2 h2.1 h2.2
    have e13 : natR (13 * (P * B)) = 13 * natR (P * B) := by rw [natR_mul]; rfl
    have ek : ((k : Int) : Rat) * natR (P * B) ≤ 12 * natR (P * B) := Rat.mul_le_mul_of_nonneg_right (show natR k ≤ natR 12 from natR_le (by omega)) (natR_nonneg _)
    rw [← natR_mul] at m
    have hq : qa T j l = ((T j l : Int) : Rat) := rfl
    have hq2 : qa a j l = ((a j l : Int) : Rat) := rfl
    rw [hq2] at e
    refine abs_of ?_ ?_
    · rw [e13, ← hq, e]
      grind
    · rw [e13, ← hq, e]
      grind
theorem rowZ_bd {C : List PlC} (h : WfC C) (L : List Nat) {x : Nat} (hx : x < C.length) (y : Nat) : (rowZ C L x y).natAbs ≤ 360 := by
  obtain ⟨s0, s1, _⟩ := scaleC_ok h hx
  have e := rowZ_cast h L hx y
  have w := plC_wf h hx
  have m1 : 0 ≤ meanC C (fun z => if z = y then 1 else 0) x := mean_ge h hx fun j _ => by split <;> decide +kernel
  have m2 : meanC C (fun z => if z = y then 1 else 0) x ≤ 1 := mean_le h hx fun j _ => by split <;> decide +kernel
  have b : -(1 : Rat) ≤ (if y = x then 1 else 0) - meanC C (fun z => if z = y then 1 else 0) x ∧ (if y = x then 1 else 0) - meanC C (fun z => if z = y then 1 else 0) x ≤ 1 := by
    split <;> constructor <;> grind
  have s : -natR 360 ≤ ((scaleC C x : Int) : Rat) ∧ ((scaleC C x : Int) : Rat) ≤ natR 360 := abs_to (by omega)
  have := mul_bd s.1 s.2 b.1 b.2
  rw [← e, Rat.mul_one] at this
  exact abs_of this.1 this.2
theorem fill_of {C : List PlC} (hW : WfC C) {L : List Nat} (hn : L.Nodup) (hL : ∀ x ∈ L, x < C.length) {e kn : Nat → Rat} (hk0 : ∀ x ∈ L, kn x = 0) {U : Nat} (hU : 0 < U) {T : Nat → Nat → Int} {d : Int}
    (hd : ∀ r, r < L.length → (canon ((e (L.getD r 0) + meanC C kn (L.getD r 0)) * ((scaleC C (L.getD r 0) : Int) : Rat))).2.natAbs ∣ U)
    (hE : Elim L.length (matA C L (fun r => (e (L.getD r 0) + meanC C kn (L.getD r 0)) * ((scaleC C (L.getD r 0) : Int) : Rat)) U) L.length T d) :
    IsFill C L e kn (fun y => wt L L.length (fun j => qa T j L.length / ((d : Rat) * natR U)) y + kn y) := by
  have d0 : (d : Rat) ≠ 0 := cast_ne (by have := hE.pos; omega)
  have u0 : natR U ≠ 0 := nat_ne hU
  have hLt : ∀ y, y ∉ L → y ∉ L.take L.length := fun y hy => by rw [List.take_length]; exact hy
  refine ⟨fun x hx => ?_, fun y hy => by rw [wt_out (Nat.le_refl _) _ (hLt y hy), Rat.zero_add]⟩
  obtain ⟨r, hr, _, rfl⟩ := take_getD (m := L.length) (by rw [List.take_length]; exact hx)
  have hxl := hL _ hx
  have s0 : ((scaleC C (L.getD r 0) : Int) : Rat) ≠ 0 := cast_ne (by have := (scaleC_ok hW hxl).1; omega)
  rw [wt_at hn (Nat.le_refl _) hr, hk0 _ hx, Rat.add_zero]
  have em : meanC C (fun y => wt L L.length (fun j => qa T j L.length / ((d : Rat) * natR U)) y + kn y) (L.getD r 0) = meanC C (wt L L.length fun j => qa T j L.length / ((d : Rat) * natR U)) (L.getD r 0) + meanC C kn (L.getD r 0) := wsum_add _ _ _
  rw [em]
  have e1 := elim_end hE r hr
  have e2 : qa (matA C L (fun r => (e (L.getD r 0) + meanC C kn (L.getD r 0)) * ((scaleC C (L.getD r 0) : Int) : Rat)) U) r L.length = (e (L.getD r 0) + meanC C kn (L.getD r 0)) * ((scaleC C (L.getD r 0) : Int) : Rat) * natR U := by
    unfold qa matA
    rw [if_neg (Nat.lt_irrefl _), whole_q (canon_red _) (hd r hr), q_canon]
    rfl
  have e3 := row_dot hW hn hL (Nat.le_refl _) hr fun j => qa T j L.length / ((d : Rat) * natR U)
  have e4 : sumR L.length (fun j => ((rowZ C L (L.getD r 0) (L.getD j 0) : Int) : Rat) * (qa T j L.length / ((d : Rat) * natR U))) = (1 / natR U) * sumR L.length (fun j => qa (matA C L (fun r => (e (L.getD r 0) + meanC C kn (L.getD r 0)) * ((scaleC C (L.getD r 0) : Int) : Rat)) U) r j * (qa T j L.length / (d : Rat))) := by
    rw [← sumR_mul]
    refine sumR_congr fun j hj => ?_
    have : qa (matA C L (fun r => (e (L.getD r 0) + meanC C kn (L.getD r 0)) * ((scaleC C (L.getD r 0) : Int) : Rat)) U) r j = ((rowZ C L (L.getD r 0) (L.getD j 0) : Int) : Rat) := by
      unfold qa
      rw [matA_lo hj]
    rw [this]
    grind
  rw [e4, e1, e2] at e3
  generalize qa T r L.length / ((d : Rat) * natR U) = t at *
  generalize meanC C (wt L L.length fun j => qa T j L.length / ((d : Rat) * natR U)) (L.getD r 0) = m1 at *
  generalize meanC C kn (L.getD r 0) = m2 at *
  generalize e (L.getD r 0) = ee at *
  generalize ((scaleC C (L.getD r 0) : Int) : Rat) = s at *
  have e5 : (1 / natR U) * ((ee + m2) * s * natR U) = (ee + m2) * s := by grind
  rw [e5] at e3
  grind
end Md
set_option Elab.async false
set_option linter.all false
set_option maxRecDepth 100000
set_option maxHeartbeats 2000000
namespace L2
open PySem PySem.Spec PyProof.Rows
end L2
namespace Md
open PySem L2 Evl
def ratsD (l : List Rat) : PyData := .list (l.map nQ)
def rowD (n : Nat) (T : Nat → Nat → Int) (j : Nat) : PyData := .list ((List.range (n + 1)).map fun l => PyData.int (T j l))
def tabD (n : Nat) (T : Nat → Nat → Int) : PyData := .list ((List.range n).map (rowD n T))
def placeK (L : List Nat) (kx : Nat → Rat) : Nat → Rat := fun r => kx (L.getD r 0)
def unitK (L : List Nat) (kx : Nat → Rat) : Nat := denL (L.map fun x => canon (kx x))
section
variable {K : PySem.W.Frag} {σ : L2.St} {b h : Hp} {te tl ta tb : TE} {ts tk : TA} {E : XK} {C : List PlC} {p q : Int × Int} {r s : Rat}
end
end Md
namespace Md
open PySem L2 Evl
section
variable {K : PySem.W.Frag} {σ : L2.St} {b h0 : Hp} {tl ta tb : TE} {ts : TA} {D : Ends} {tu : TS} {ds es : List PyData} {i j : Nat}
end
end Md
namespace Md
open PySem L2 Evl
end Md
namespace Md
open PySem L2 Evl
theorem elim_exists {C : List PlC} (h : WfC C) {L : List Nat} (hn : L.Nodup) (hL : ∀ x ∈ L, x < C.length) (hO : Out C L) (kr : Nat → Rat) (U : Nat) : ∀ k, k ≤ L.length → ∃ T d, Elim L.length (matA C L kr U) k T d
  | 0, _ => ⟨_, 1, elim_start _ _⟩
  | k + 1, hk => by
    obtain ⟨T, d, hE⟩ := elim_exists h hn hL hO kr U k (by omega)
    exact ⟨_, _, (elim_step hE hk (pivot_pos h hn hL hO hE hk)).1⟩
theorem zt_scale {M s : Nat} {r : Rat} (h : Zt (M * s) r) : Zt M (r * natR s) := by
  obtain ⟨z, hz⟩ := h
  refine ⟨z, ?_⟩
  rw [Int.natCast_mul, Rat.intCast_mul] at hz
  rw [← hz]
  unfold natR
  grind
def constK (C : List PlC) (e kn : Nat → Rat) (x : Nat) : Rat := (e x + meanC C kn x) * ((scaleC C x : Int) : Rat)
theorem const_nb {C : List PlC} (hW : WfC C) {e kn : Nat → Rat} {M B x : Nat} (hx : x < C.length) (he : NB M B (e x)) (hk : ∀ y, y < C.length → NB M B (kn y)) : NB (M * scaleC C x) (2 * B) (e x + meanC C kn x) ∧ NB M (720 * B) (constK C e kn x) := by
  have m := nb_mean hW hx hk
  obtain ⟨s0, s1, _⟩ := scaleC_ok hW hx
  have z : Zt (M * scaleC C x) (e x + meanC C kn x) := (he.zt.dvd (Nat.dvd_mul_right _ _)).add m.zt
  have b2 : natR (2 * B) = natR B + natR B := by rw [natR_mul]; have : natR 2 = 2 := rfl; rw [this]; grind
  have l1 := he.lo
  have l2 := he.hi
  have l3 := m.lo
  have l4 := m.hi
  have lo : -natR (2 * B) ≤ e x + meanC C kn x := by rw [b2]; grind
  have hi : e x + meanC C kn x ≤ natR (2 * B) := by rw [b2]; grind
  refine ⟨⟨z, lo, hi⟩, zt_scale z, ?_, ?_⟩
  · have := (mul_bd lo hi (show -natR 360 ≤ natR (scaleC C x) by have := natR_nonneg (scaleC C x); have := natR_nonneg 360; grind) (natR_le s1)).1
    rw [← natR_mul] at this
    have e48 : 2 * B * 360 = 720 * B := by omega
    rw [e48] at this
    exact this
  · have := (mul_bd lo hi (show -natR 360 ≤ natR (scaleC C x) by have := natR_nonneg (scaleC C x); have := natR_nonneg 360; grind) (natR_le s1)).2
    rw [← natR_mul] at this
    have e48 : 2 * B * 360 = 720 * B := by omega
    rw [e48] at this
    exact this
end Md
namespace Md
open PySem L2 Evl
section
variable {K : PySem.W.Frag} {σ : L2.St} {b h : Hp} {te tl ta tb : TE} {ts tk : TA} {E : XK} {C : List PlC}
end
end Md
namespace Md
theorem nodup_len {L : List Nat} {n : Nat} (h : L.Nodup) (hL : ∀ x ∈ L, x < n) : L.length ≤ n := by
  refine pigeon n L.length (fun i => L.getD i 0) (fun i hi => hL _ (getD_mem hi)) fun i j hij hj e => ?_
  have := nodup_getD h (by omega) hj e
  omega
end Md
namespace Md
open PySem L2 Evl
section
variable {K : PySem.W.Frag} {σ : L2.St} {b h : Hp} {ts : TA} {E : XK} {D : Ends} {tz : TS} {ds : List PyData} {sp : Sp} {u : V} {du : PyData}
end
end Md
set_option Elab.async false
set_option linter.all false
set_option maxRecDepth 100000
set_option maxHeartbeats 2000000
namespace Md
open PySem L2 Evl
inductive Reach (C : List PlC) (x : Nat) : Nat → Prop
  | refl : Reach C x x
  | step {y : Nat} {q : BrC} : Reach C x y → q ∈ (plC C y).bs → Reach C x q.2
theorem Reach.trans {C : List PlC} {x y z : Nat} (h : Reach C x y) (g : Reach C y z) : Reach C x z := by
  induction g with
  | refl => exact h
  | step _ hq ih => exact ih.step hq
theorem Reach.lt {C : List PlC} (h : WfC C) {x y : Nat} (hx : x < C.length) (g : Reach C x y) : y < C.length := by
  induction g with
  | refl => exact hx
  | step _ hq ih => exact ((plC_wf h ih).q _ hq).2.2
noncomputable def reachL (C : List PlC) (x : Nat) : List Nat := (List.range C.length).filter fun y => @decide (Reach C x y) (Classical.propDecidable _)
theorem mem_reachL {C : List PlC} (h : WfC C) {x y : Nat} (hx : x < C.length) : y ∈ reachL C x ↔ Reach C x y := by
  unfold reachL
  rw [List.mem_filter, List.mem_range]
  exact ⟨fun z => @of_decide_eq_true _ (Classical.propDecidable _) z.2, fun z => ⟨z.lt h hx, @decide_eq_true _ (Classical.propDecidable _) z⟩⟩
theorem small11 : SmallN (1, 1) := ⟨by decide, by decide, by decide, by decide⟩
section
variable {K : PySem.W.Frag} {σ : L2.St} {b h : Hp} {te tl ta tb : TE} {t : TT} {ts tk : TA} {E : XK} {D : Ends} {tz : TS} {C : List PlC} {d : PyData} {ds : List PyData} {a : Addr} {us : List V}
end
section
variable {K : PySem.W.Frag} {σ : L2.St} {b h : Hp} {ts : TA} {E : XK} {C : List PlC} {x : Nat}
end
end Md
namespace Md
open PySem L2 Evl
end Md
namespace Md
open PySem L2 Evl
end Md
namespace Md
open PySem L2 Evl
end Md
set_option Elab.async false
set_option linter.all false
set_option maxRecDepth 100000
set_option maxHeartbeats 2000000
namespace Md
open PySem L2 Evl
inductive Back (g : Nat → Bool) (tg : Nat → List Nat) (n : Nat) (S : List Nat) : Nat → Prop
  | base {y : Nat} : y ∈ S → Back g tg n S y
  | step {k t : Nat} : k < n → g k = true → t ∈ tg k → Back g tg n S t → Back g tg n S k
structure PInv (g : Nat → Bool) (tg : Nat → List Nat) (n : Nat) (S0 S : List Nat) : Prop where
  nd : S.Nodup
  lt : ∀ y ∈ S, y < n
  sub : ∀ y ∈ S0, y ∈ S
  bk : ∀ y ∈ S, Back g tg n S0 y
variable {g : Nat → Bool} {tg : Nat → List Nat} {n : Nat} {S0 S : List Nat}
end Md
namespace Md
open PySem L2 Evl
section
variable {K : PySem.W.Frag} {σ : L2.St} {b h : Hp} {ts : TA} {E : XK} {C : List PlC} {x : Nat} {r s : Rat}
end
theorem wf_sure_one {n t : Nat} {g : Int × Int} (hg : SmallN g) (h : t < n) : WfB n ⟨g, [((1, 1), t)]⟩ := by
  refine ⟨hg, by show 1 ≤ 1; decide, by show 1 ≤ 6; decide, fun q hq => ?_, ⟨1, by decide, by decide, fun q hq => ?_⟩, ?_⟩
  · have : q = ((1, 1), t) := List.mem_singleton.mp hq
    rw [this]
    exact ⟨small11, (show (0 : Int) < 1 by decide), h⟩
  · have : q = ((1, 1), t) := List.mem_singleton.mp hq
    rw [this]
    exact Nat.dvd_refl 1
  · show (qN (1, 1) + 0 : Rat) = 1
    rw [q_one, Rat.add_zero]
end Md
set_option Elab.async false
set_option linter.all false
set_option maxRecDepth 100000
set_option maxHeartbeats 2000000
namespace Md
open PySem L2 Evl
section
variable {K : PySem.W.Frag} {σ : L2.St} {b h : Hp} {ts : TA} {ta tb te : TE} {E : XK} {C : List PlC} {x : Nat} {r s : Rat} {p : Addr} {us : List V} {d : PyData} {ds : List PyData}
end
end Md
set_option Elab.async false
set_option linter.all false
set_option maxRecDepth 100000
set_option maxHeartbeats 2000000
namespace Md
open PySem L2 Evl
theorem gain_nb {C : List PlC} (h : WfC C) {y : Nat} (hy : y < C.length) : NB (denL (gainsC C)) 1000 (gainC C y) := by
  have hw := plC_wf h hy
  have c := q_small hw.g
  exact ⟨zt_den (red_small hw.g) (denL_dvd (List.mem_map.mpr ⟨plC C y, List.mem_of_getElem? (plC_get hy), rfl⟩)), c.1, c.2⟩
theorem unit_lt {C : List PlC} (h : WfC C) : 0 < denL (gainsC C) ∧ denL (gainsC C) < 2 ^ 120 := by
  refine ⟨(unit_ok h).1, Nat.lt_of_le_of_lt (unit_ok h).2 ?_⟩
  exact Nat.lt_of_le_of_lt (Nat.pow_le_pow_right (by decide) h.l12) (by decide +kernel)
section
variable {K : PySem.W.Frag} {σ : L2.St} {b h : Hp} {ts ts1 ts2 : TA} {ta tb te : TE} {E : XK} {C : List PlC} {x : Nat} {r s : Rat} {p : Addr} {us : List V} {d : PyData} {ds : List PyData} {D : Ends} {tz : TS}
end
end Md
set_option Elab.async false
set_option linter.all false
set_option maxRecDepth 100000
set_option maxHeartbeats 2000000
namespace Md
open PySem L2 Evl
def isHead (C : List PlC) (R : Nat → List Nat) (x : Nat) : Bool := (R x).getD 0 0 == x && (R x).all fun y => R y == R x
noncomputable def headsL (C : List PlC) : List Nat := (List.range C.length).filter (isHead C (reachL C))
noncomputable def groupsL (C : List PlC) : List (List Nat) := (headsL C).map (reachL C)
noncomputable def passL (C : List PlC) : List Nat := (List.range C.length).filter fun x => !decide (x ∈ (groupsL C).flatten)
theorem reach_nodup (C : List PlC) (x : Nat) : (reachL C x).Nodup := List.nodup_range.filter _
theorem reach_lt {C : List PlC} {x y : Nat} (h : y ∈ reachL C x) : y < C.length := by
  unfold reachL at h
  exact List.mem_range.mp (List.mem_filter.mp h).1
variable {C : List PlC}
theorem self_mem (h : WfC C) {x : Nat} (hx : x < C.length) : x ∈ reachL C x := (mem_reachL h hx).mpr .refl
structure IsGrp (C : List PlC) (x : Nat) (L : List Nat) : Prop where
  nd : (x :: L).Nodup
  lt : ∀ y ∈ x :: L, y < C.length
  al : ∀ y ∈ x :: L, reachL C y = x :: L
theorem mem_heads {x : Nat} : x ∈ headsL C ↔ x < C.length ∧ (reachL C x).getD 0 0 = x ∧ ∀ y ∈ reachL C x, reachL C y = reachL C x := by
  unfold headsL isHead
  rw [List.mem_filter, List.mem_range, Bool.and_eq_true, beq_iff_eq, List.all_eq_true]
  exact ⟨fun ⟨a, b, c⟩ => ⟨a, b, fun y hy => eq_of_beq (c y hy)⟩, fun ⟨a, b, c⟩ => ⟨a, b, fun y hy => beq_iff_eq.mpr (c y hy)⟩⟩
theorem head_grp (h : WfC C) {x : Nat} (hx : x ∈ headsL C) : ∃ L, reachL C x = x :: L ∧ IsGrp C x L := by
  obtain ⟨h1, h2, h3⟩ := mem_heads.mp hx
  have hs := self_mem h h1
  cases e : reachL C x with
  | nil => rw [e] at hs; cases hs
  | cons a L =>
    rw [e] at h2 h3
    have h2' : a = x := h2
    subst h2'
    refine ⟨L, rfl, by rw [← e]; exact reach_nodup C a, fun y hy => reach_lt (by rw [e]; exact hy), h3⟩
theorem grp_closed (h : WfC C) {x : Nat} {L : List Nat} (g : IsGrp C x L) {y : Nat} (hy : y ∈ x :: L) {q : BrC} (hq : q ∈ (plC C y).bs) : q.2 ∈ x :: L := by
  rw [← g.al y hy]
  exact (mem_reachL h (g.lt y hy)).mpr (Reach.refl.step hq)
theorem closed_reach {Z : Nat → Prop} (hZ : ∀ x, Z x → ∀ q ∈ (plC C x).bs, Z q.2) {x y : Nat} (hx : Z x) (r : Reach C x y) : Z y := by
  induction r with
  | refl => exact hx
  | step _ hq ih => exact hZ _ ih _ hq
theorem out_tail (h : WfC C) {x : Nat} {L : List Nat} (g : IsGrp C x L) : Out C L := fun Z ⟨z, hz⟩ hsub => by
  refine Classical.byContradiction fun hno => ?_
  have hcl : ∀ w, Z w → ∀ q ∈ (plC C w).bs, Z q.2 := fun w hw q hq => Classical.byContradiction fun hn => hno ⟨w, hw, q, hq, hn⟩
  have hzm := List.mem_cons_of_mem x (hsub z hz)
  have r : Reach C z x := (mem_reachL h (g.lt z hzm)).mp (by rw [g.al z hzm]; exact List.mem_cons_self ..)
  have hxL := hsub x (closed_reach hcl hz r)
  exact (List.nodup_cons.mp g.nd).1 hxL
theorem mem_pass {x : Nat} : x ∈ passL C ↔ x < C.length ∧ ∀ y ∈ headsL C, x ∉ reachL C y := by
  unfold passL groupsL
  rw [List.mem_filter, List.mem_range, Bool.not_eq_true', decide_eq_false_iff_not, List.mem_flatten]
  constructor
  · rintro ⟨a, b⟩
    exact ⟨a, fun y hy hx => b ⟨_, List.mem_map.mpr ⟨y, hy, rfl⟩, hx⟩⟩
  · rintro ⟨a, b⟩
    refine ⟨a, ?_⟩
    rintro ⟨l, hl, hx⟩
    obtain ⟨y, hy, rfl⟩ := List.mem_map.mp hl
    exact b y hy hx
theorem reach_sub (h : WfC C) {z w : Nat} (hz : z < C.length) (r : Reach C z w) : ∀ y ∈ reachL C w, y ∈ reachL C z := fun y hy => (mem_reachL h hz).mpr (r.trans ((mem_reachL h (r.lt h hz)).mp hy))
theorem filter_eq_of {n : Nat} {p q : Nat → Bool} (h1 : ∀ y ∈ (List.range n).filter p, y ∈ (List.range n).filter q) (h2 : ((List.range n).filter q).length ≤ ((List.range n).filter p).length) : (List.range n).filter p = (List.range n).filter q := by
  have hs : ∀ y ∈ (List.range n).filter q, y ∈ (List.range n).filter p := fun y hy => Classical.byContradiction fun hn => by
    have hnd : (y :: (List.range n).filter p).Nodup := List.nodup_cons.mpr ⟨hn, List.nodup_range.filter _⟩
    have := hnd.length_le_of_subset (l₂ := (List.range n).filter q) (fun a ha => by
      rcases List.mem_cons.mp ha with rfl | ha
      · exact hy
      · exact h1 a ha)
    rw [List.length_cons] at this
    omega
  refine List.filter_congr fun y hy => ?_
  rw [Bool.eq_iff_iff]
  exact ⟨fun z => (List.mem_filter.mp (h1 y (List.mem_filter.mpr ⟨hy, z⟩))).2, fun z => (List.mem_filter.mp (hs y (List.mem_filter.mpr ⟨hy, z⟩))).2⟩
theorem leastZ (f : Nat → Nat) {Z : Nat → Prop} : ∀ (k z : Nat), f z ≤ k → Z z → ∃ w, Z w ∧ ∀ v, Z v → f w ≤ f v
  | 0, z, h, hz => ⟨z, hz, fun v _ => by omega⟩
  | k + 1, z, h, hz => by
    by_cases c : ∃ v, Z v ∧ f v ≤ k
    · obtain ⟨v, hv, hk⟩ := c
      exact leastZ f k v hk hv
    · exact ⟨z, hz, fun v hv => Nat.le_of_not_lt fun hlt => c ⟨v, hv, by omega⟩⟩
theorem grp_in (h : WfC C) {Z : Nat → Prop} {z : Nat} (hz : Z z) (hlt : ∀ x, Z x → x < C.length) (hcl : ∀ w, Z w → ∀ q ∈ (plC C w).bs, Z q.2) : ∃ w x, Z w ∧ x ∈ headsL C ∧ w ∈ reachL C x := by
  obtain ⟨w, hw, hmin⟩ := leastZ (fun x => (reachL C x).length) _ z (Nat.le_refl _) hz
  have hwl := hlt w hw
  have key : ∀ y ∈ reachL C w, reachL C y = reachL C w := fun y hy => by
    have r := (mem_reachL h hwl).mp hy
    exact filter_eq_of (reach_sub h hwl r) (hmin y (closed_reach hcl hw r))
  have hs := self_mem h hwl
  cases e : reachL C w with
  | nil => rw [e] at hs; cases hs
  | cons a L =>
    have ha : a ∈ reachL C w := by rw [e]; exact List.mem_cons_self ..
    have ea := key a ha
    refine ⟨w, a, hw, mem_heads.mpr ⟨reach_lt ha, by rw [ea, e]; rfl, fun y hy => ?_⟩, by rw [ea]; exact hs⟩
    rw [ea] at hy
    rw [key y hy, ea]
theorem out_pass (h : WfC C) : Out C (passL C) := fun Z ⟨z, hz⟩ hsub => by
  refine Classical.byContradiction fun hno => ?_
  have hcl : ∀ w, Z w → ∀ q ∈ (plC C w).bs, Z q.2 := fun w hw q hq => Classical.byContradiction fun hn => hno ⟨w, hw, q, hq, hn⟩
  obtain ⟨w, x, hw, hx, hm⟩ := grp_in h hz (fun x hx => (mem_pass.mp (hsub x hx)).1) hcl
  exact (mem_pass.mp (hsub w hw)).2 x hx hm
theorem heads_one (h : WfC C) {x y z : Nat} (hx : x ∈ headsL C) (hy : y ∈ headsL C) (h1 : z ∈ reachL C x) (h2 : z ∈ reachL C y) : x = y := by
  obtain ⟨a1, a2, a3⟩ := mem_heads.mp hx
  obtain ⟨b1, b2, b3⟩ := mem_heads.mp hy
  rw [← a2, ← b2, ← a3 z h1, ← b3 z h2]
theorem pass_lt : ∀ x ∈ passL C, x < C.length := fun x hx => (mem_pass.mp hx).1
theorem pass_nodup : (passL C).Nodup := List.nodup_range.filter _
theorem heads_nodup : (headsL C).Nodup := List.nodup_range.filter _
theorem pass_or {x : Nat} (hx : x < C.length) : x ∈ passL C ∨ ∃ y ∈ headsL C, x ∈ reachL C y := by
  by_cases c : ∃ y ∈ headsL C, x ∈ reachL C y
  · exact .inr c
  · exact .inl (mem_pass.mpr ⟨hx, fun y hy hm => c ⟨y, hy, hm⟩⟩)
theorem mean_congr (h : WfC C) {x : Nat} {f g : Nat → Rat} (e : ∀ q ∈ (plC C x).bs, f q.2 = g q.2) : meanC C f x = meanC C g x := wsum_congr e
theorem mean_mulC (c : Rat) (f : Nat → Rat) (x : Nat) : meanC C (fun y => c * f y) x = c * meanC C f x := wsum_mul _ _ _
theorem mean_const (h : WfC C) (c : Rat) {x : Nat} (hx : x < C.length) : meanC C (fun _ => c) x = c := by
  have e : (fun _ : Nat => c) = fun y => c * (fun _ => (1 : Rat)) y := by
    funext y
    grind
  rw [e, mean_mulC, mean_one h hx, Rat.mul_one]
structure GrpMean (C : List PlC) (x : Nat) (L : List Nat) (e : Nat → Rat) (m : Rat) : Prop where
  ex : ∃ s t, IsFill C L e (fun _ => 0) s ∧ IsFill C L (fun _ => 1) (fun _ => 0) t ∧ m = (e x + meanC C s x) / (1 + meanC C t x)
theorem steps_nn (h : WfC C) {x : Nat} {L : List Nat} (g : IsGrp C x L) {t : Nat → Rat} (ht : IsFill C L (fun _ => 1) (fun _ => 0) t) : (∀ y, 0 ≤ t y) ∧ ∀ k, k < C.length → 0 ≤ meanC C t k := by
  have hL : ∀ y ∈ L, y < C.length := fun y hy => g.lt y (List.mem_cons_of_mem x hy)
  have key := max_closed h hL (out_tail h g) (f := fun y => (-1) * t y) (fun y _ hy => by
    show (-1) * t y ≤ 0
    rw [ht.out y hy]
    grind) fun y hy => by
      rw [mean_mulC]
      have e := ht.eq y hy
      grind
  have nn : ∀ y, 0 ≤ t y := fun y => by
    by_cases hy : y ∈ L
    · have k := key y hy
      have k' : (-1) * t y ≤ 0 := k
      grind
    · rw [ht.out y hy]
      exact Rat.le_refl
  exact ⟨nn, fun k hk => mean_ge h hk fun j _ => nn j⟩
theorem grp_round (h : WfC C) {x : Nat} {L : List Nat} (g : IsGrp C x L) {e : Nat → Rat} {m : Rat} (hm : GrpMean C x L e m) {s : Nat → Rat} (hs : IsFill C L (fun y => e y - m) (fun _ => 0) s) : (e x - m) + meanC C s x = 0 := by
  obtain ⟨s1, t, h1, h2, h3⟩ := hm.ex
  have hL : ∀ y ∈ L, y < C.length := fun y hy => g.lt y (List.mem_cons_of_mem x hy)
  have e1 : IsFill C L (fun y => e y - m) (fun _ => 0) (fun y => s1 y - m * t y) := ⟨fun y hy => by
    rw [mean_sub, mean_mulC]
    have a := h1.eq y hy
    have b := h2.eq y hy
    grind, fun y hy => by
    show s1 y - m * t y = 0
    rw [h1.out y hy, h2.out y hy]
    grind⟩
  have e2 := fill_unique h hL (out_tail h g) hs e1
  have e3 : meanC C s x = meanC C s1 x - m * meanC C t x := by
    rw [← mean_mulC, ← mean_sub]
    exact wsum_congr fun q _ => e2 q.2
  have ht := (steps_nn h g h2).2 x (g.lt x (List.mem_cons_self ..))
  have hT : 1 + meanC C t x ≠ 0 := by grind
  rw [e3]
  have : m * (1 + meanC C t x) = e x + meanC C s1 x := by
    rw [h3]
    grind
  grind
structure LongOk (C : List PlC) (g : Nat → Rat) : Prop where
  grp : ∀ x ∈ headsL C, ∀ L, reachL C x = x :: L → ∃ m, GrpMean C x L (gainC C) m ∧ ∀ y ∈ x :: L, g y = m
  pas : ∀ x ∈ passL C, g x = meanC C g x
structure LeadOk (C : List PlC) (g f : Nat → Rat) : Prop where
  grp : ∀ x ∈ headsL C, ∀ L, reachL C x = x :: L → ∃ s m, IsFill C L (fun y => gainC C y - g y) (fun _ => 0) s ∧ GrpMean C x L s m ∧ ∀ y ∈ x :: L, f y = s y - m
  pas : ∀ x ∈ passL C, f x = gainC C x - g x + meanC C f x
theorem long_mean (h : WfC C) {g : Nat → Rat} (hg : LongOk C g) {x : Nat} (hx : x < C.length) : g x = meanC C g x := by
  rcases pass_or hx with hp | ⟨z, hz, hm⟩
  · exact hg.pas x hp
  · obtain ⟨L, e, G⟩ := head_grp h hz
    obtain ⟨m, _, h2⟩ := hg.grp z hz L e
    rw [e] at hm
    rw [h2 x hm, mean_congr h (g := fun _ => m) fun q hq => h2 _ (grp_closed h G hm hq), mean_const h m hx]
theorem lead_eq (h : WfC C) {g f : Nat → Rat} (hg : LongOk C g) (hf : LeadOk C g f) {x : Nat} (hx : x < C.length) : g x + f x = gainC C x + meanC C f x := by
  rcases pass_or hx with hp | ⟨z, hz, hm⟩
  · have := hf.pas x hp
    grind
  · obtain ⟨L, e, G⟩ := head_grp h hz
    obtain ⟨m, hm1, h2⟩ := hg.grp z hz L e
    obtain ⟨s, m2, hs, _, h3⟩ := hf.grp z hz L e
    rw [e] at hm
    have em : meanC C f x = meanC C s x - m2 := by
      rw [mean_congr h (g := fun y => s y - m2) fun q hq => h3 _ (grp_closed h G hm hq), mean_sub, mean_const h m2 hx]
    have hs' : IsFill C L (fun y => gainC C y - m) (fun _ => 0) s := ⟨fun y hy => by
      have := hs.eq y hy
      rw [h2 y (List.mem_cons_of_mem z hy)] at this
      exact this, hs.out⟩
    rw [h3 x hm, em, h2 x hm]
    rcases List.mem_cons.mp hm with rfl | hxL
    · have r := grp_round h G hm1 hs'
      have s0 := hs.out x (List.nodup_cons.mp G.nd).1
      grind
    · have := hs'.eq x hxL
      grind
end Md
set_option Elab.async false
set_option linter.all false
set_option maxRecDepth 100000
set_option maxHeartbeats 2000000
namespace Md
open PySem L2 Evl
def detC (C : List PlC) (L : List Nat) : Rat := Fd L.length fun col r => ((rowZ C L (L.getD r 0) (L.getD col 0) : Int) : Rat)
theorem elim_dS {n : Nat} {a : Nat → Nat → Int} {k : Nat} {T : Nat → Nat → Int} {d : Int} (h : Elim n a k T d) (hn : n ≤ 12) (hk : k ≤ n) {B : Nat} (hB : 1 ≤ B) (ha : ∀ r l, r < n → l < n → (a r l).natAbs ≤ B) : d ≤ ((12 * B) ^ k : Nat) := by
  have := (Fd_bd (B := natR B) k (c := fun col r => qa a r col) fun col r h1 h2 => by
    have := ha r col (by omega) (by omega)
    constructor
    · have e : -natR B = (((-(B : Int)) : Int) : Rat) := by rw [Rat.intCast_neg]; rfl
      rw [e]
      exact le_cast (by omega)
    · exact le_cast (by omega)).2
  rw [← h.det, fbd_nat] at this
  have e := cast_le this
  have e2 := fbN_le (B := B) (k := k) (by omega)
  omega
theorem fill_nbS {C : List PlC} (hW : WfC C) {L : List Nat} (hn : L.Nodup) (hl : L.length ≤ 12) (hL : ∀ x ∈ L, x < C.length) {kr : Nat → Rat} {U M B : Nat} (hU : 0 < U) (hUM : U ∣ M) {T : Nat → Nat → Int} {d : Int} (hB : 1 ≤ B)
    (hd : ∀ r, r < L.length → (canon (kr r)).2.natAbs ∣ U) (hk : ∀ r, r < L.length → -natR B ≤ kr r ∧ kr r ≤ natR B) (hE : Elim L.length (matA C L kr U) L.length T d) :
    d.toNat ≤ 4320 ^ L.length ∧ ∀ j, j < L.length → NB (M * d.toNat) (B * 4320 ^ L.length) (qa T j L.length / ((d : Rat) * natR U)) := by
  have hp := hE.pos
  have d0 : (d : Rat) ≠ 0 := cast_ne (by omega)
  have u0 : natR U ≠ 0 := nat_ne hU
  have hlo : ∀ r l, r < L.length → l < L.length → (matA C L kr U r l).natAbs ≤ 360 := fun r l h1 h2 => by
    rw [matA_lo h2]
    exact rowZ_bd hW L (hL _ (getD_mem h1)) _
  have hdl := elim_dS hE hl (Nat.le_refl _) (B := 360) (by decide) hlo
  have hdn : d.toNat ≤ 4320 ^ L.length := by
    have : (12 * 360) = 4320 := rfl
    rw [this] at hdl
    omega
  have ed : ((d.toNat : Nat) : Int) = d := Int.toNat_of_nonneg (by omega)
  refine ⟨hdn, fun j hj => ?_⟩
  -- the column of the constants, made small
  have hv : ∀ r, r < L.length → qa (matA C L kr U) r L.length = natR (U * B) * (kr r / natR B) := fun r hr => by
    have b0 : natR B ≠ 0 := nat_ne hB
    unfold qa matA
    rw [if_neg (Nat.lt_irrefl _), whole_q (canon_red _) (hd r hr), q_canon, natR_mul]
    show kr r * natR U = _
    grind
  have e1 := elim_col hE hj (Nat.le_refl L.length)
  have e2 : Fd L.length (upc (fun col r => qa (matA C L kr U) r col) j fun r => qa (matA C L kr U) r L.length) = natR (U * B) * Fd L.length (upc (fun col r => qa (matA C L kr U) r col) j fun r => kr r / natR B) := by
    rw [← Fd_mul _ _ _ _ _ hj]
    refine Fd_congr _ fun col r h1 h2 => ?_
    by_cases z : col = j
    · rw [z, upc_same, upc_same]
      exact hv r h2
    · rw [upc_ne z, upc_ne z]
  have bF := Fd_bd (B := natR 360) L.length (c := upc (fun col r => qa (matA C L kr U) r col) j fun r => kr r / natR B) fun col r h1 h2 => by
    by_cases z : col = j
    · rw [z, upc_same]
      have hBp := natR_pos hB
      have h3 := hk r h2
      have c1 : kr r / natR B ≤ 1 := div_le' hBp (by rw [Rat.one_mul]; exact h3.2)
      have c2 : (-1 : Rat) ≤ kr r / natR B := le_div' hBp (by grind)
      have : natR 360 = 360 := rfl
      rw [this]
      constructor <;> grind
    · rw [upc_ne z]
      exact abs_to (hlo r col h2 h1)
  rw [fbd_nat] at bF
  have f288 : natR (fbN 360 L.length) ≤ natR (4320 ^ L.length) := natR_le (fbN_le (B := 360) hl)
  generalize hFe : Fd L.length (upc (fun col r => qa (matA C L kr U) r col) j fun r => kr r / natR B) = FF at *
  have et : qa T j L.length / ((d : Rat) * natR U) = natR B * FF * (1 / (d : Rat)) := by
    rw [e1, e2, natR_mul]
    grind
  have dpos : (0 : Rat) < (d : Rat) := cast_pos hp
  have done : (1 : Rat) ≤ (d : Rat) := (show ((1 : Int) : Rat) ≤ (d : Rat) from le_cast (by omega))
  have i1 : 1 / (d : Rat) ≤ 1 := div_le' dpos (by rw [Rat.one_mul]; exact done)
  have i0 : -(1 : Rat) ≤ 1 / (d : Rat) := le_div' dpos (by grind)
  have b1 := natR_nonneg B
  have m1 := mul_bd (x := natR B) (a := natR B) (y := FF) (b := natR (4320 ^ L.length)) (by grind) Rat.le_refl (by grind) (by grind)
  have m2 := mul_bd m1.1 m1.2 i0 i1
  rw [Rat.mul_one, ← natR_mul, ← et] at m2
  refine ⟨?_, m2.1, m2.2⟩
  obtain ⟨c, rfl⟩ := hUM
  refine Zt.dvd (M := U * d.toNat) ⟨T j L.length, ?_⟩ ⟨c, by rw [Nat.mul_assoc, Nat.mul_comm c, ← Nat.mul_assoc]⟩
  rw [Int.natCast_mul, ed, Rat.intCast_mul]
  show qa T j L.length / ((d : Rat) * natR U) * (natR U * (d : Rat)) = qa T j L.length
  grind
theorem matA_bdS {C : List PlC} (h : WfC C) {L : List Nat} (hL : ∀ x ∈ L, x < C.length) {kx : Nat → Rat} {M B : Nat} (hk : ∀ x ∈ L, NB M B (kx x)) (hM : 0 < M) (hB : 1 ≤ B) (hMB : B * M < 2 ^ 1500) :
    unitK L kx ∣ M ∧ 0 < unitK L kx ∧ (∀ r, r < L.length → (canon (placeK L kx r)).2.natAbs ∣ unitK L kx) ∧ ∀ r l, r < L.length → l ≤ L.length → (matA C L (placeK L kx) (unitK L kx) r l).natAbs ≤ 2 ^ 1500 := by
  have hmem : ∀ c ∈ L.map fun x => canon (kx x), ∃ x ∈ L, c = canon (kx x) := fun c hc => by
    obtain ⟨x, hx, rfl⟩ := List.mem_map.mp hc
    exact ⟨x, hx, rfl⟩
  have u1 : unitK L kx ∣ M := denL_to fun c hc => by
    obtain ⟨x, hx, rfl⟩ := hmem c hc
    exact zt_dvd (canon_red _) (by rw [q_canon]; exact (hk x hx).zt)
  have u2 : 0 < unitK L kx := denL_pos fun c hc => by
    obtain ⟨x, hx, rfl⟩ := hmem c hc
    exact (canon_red _).1
  have u3 : ∀ r, r < L.length → (canon (placeK L kx r)).2.natAbs ∣ unitK L kx := fun r hr => denL_dvd (List.mem_map.mpr ⟨_, getD_mem hr, rfl⟩)
  refine ⟨u1, u2, u3, fun r l hr hl => ?_⟩
  unfold matA
  split
  · exact Nat.le_trans (rowZ_bd h L (hL _ (getD_mem hr)) _) (Nat.le_trans (by decide : 360 ≤ 2 ^ 9) (Nat.pow_le_pow_right (by decide) (by decide)))
  · have e := whole_q (canon_red (placeK L kx r)) (u3 r hr)
    rw [q_canon] at e
    have b := hk _ (getD_mem hr)
    have hUM := Nat.le_of_dvd hM u1
    have m := mul_bd b.lo b.hi (show -natR (unitK L kx) ≤ (((unitK L kx : Nat) : Int) : Rat) by have := natR_nonneg (unitK L kx); have e : (((unitK L kx : Nat) : Int) : Rat) = natR (unitK L kx) := rfl; grind) (Rat.le_refl)
    have e2 : (((unitK L kx : Nat) : Int) : Rat) = natR (unitK L kx) := rfl
    have ek : placeK L kx r = kx (L.getD r 0) := rfl
    rw [ek] at e
    rw [e2] at m e
    rw [← natR_mul, ← e] at m
    have := abs_of m.1 m.2
    have h2 : B * unitK L kx ≤ B * M := Nat.mul_le_mul_left B hUM
    exact Nat.le_trans this (Nat.le_of_lt (Nat.lt_of_le_of_lt h2 hMB))
theorem fill_dataS {C : List PlC} (hW : WfC C) {L : List Nat} (hn : L.Nodup) (hl : L.length ≤ 12) (hL : ∀ x ∈ L, x < C.length) (hO : Out C L) {e kn : Nat → Rat} {M B : Nat} (hM : 0 < M) (hB : 1 ≤ B) (hMB : B * M < 2 ^ 1400)
    (he : ∀ x ∈ L, NB M B (e x)) (hk : ∀ y, y < C.length → NB M B (kn y)) (h0 : ∀ x ∈ L, kn x = 0) :
    ∃ f D, IsFill C L e kn f ∧ 0 < D ∧ (D ≤ 4320 ^ L.length ∧ natR D = detC C L) ∧ (∀ y, y < C.length → NB (M * D) (B * 4320 ^ (L.length + 1)) (f y)) ∧
      ∀ T d, Elim L.length (matA C L (placeK L (constK C e kn)) (unitK L (constK C e kn))) L.length T d → ((List.range L.length).map fun j => qa T j L.length / ((d : Rat) * natR (unitK L (constK C e kn)))) = L.map f := by
  have hc : ∀ x ∈ L, NB M (720 * B) (constK C e kn x) := fun x hx => (const_nb hW (hL x hx) (he x hx) hk).2
  obtain ⟨u1, u2, u3, u4⟩ := matA_bdS hW hL hc hM (by omega) (by
    rw [Nat.mul_assoc]
    exact Nat.lt_of_lt_of_le (lt_pow_mul (i := 10) (Nat.le_refl _) (by decide) hMB) (Nat.pow_le_pow_right (by decide) (by decide)))
  obtain ⟨T0, d0, hE0⟩ := elim_exists hW hn hL hO (placeK L (constK C e kn)) (unitK L (constK C e kn)) L.length (Nat.le_refl _)
  have hf0 := fill_of hW hn hL h0 u2 u3 hE0
  obtain ⟨hd, hnb⟩ := fill_nbS hW hn hl hL u2 u1 (by omega : 1 ≤ 720 * B) u3 (fun r hr => ⟨(hc _ (getD_mem hr)).lo, (hc _ (getD_mem hr)).hi⟩) hE0
  have hdp : 0 < d0.toNat := by have := hE0.pos; omega
  have hdet : natR d0.toNat = detC C L := by
    have e1 := hE0.det
    have e2 : natR d0.toNat = (d0 : Rat) := by
      unfold natR
      rw [Int.toNat_of_nonneg (by have := hE0.pos; omega)]
    rw [e2, e1]
    unfold detC
    refine Fd_congr _ fun col r h1 h2 => ?_
    unfold qa
    rw [matA_lo h1]
  refine ⟨_, d0.toNat, hf0, hdp, ⟨hd, hdet⟩, fun y hy => ?_, fun T d hE => ?_⟩
  · by_cases hyL : y ∈ L
    · obtain ⟨j, hj, _, rfl⟩ := take_getD (m := L.length) (by rw [List.take_length]; exact hyL)
      show NB _ _ (wt L L.length _ (L.getD j 0) + kn (L.getD j 0))
      rw [wt_at hn (Nat.le_refl _) hj, h0 _ hyL, Rat.add_zero]
      refine (hnb j hj).mono (Nat.dvd_refl _) ?_
      have : 720 * 4320 ^ L.length ≤ 4320 ^ (L.length + 1) := by
        rw [Nat.pow_succ, Nat.mul_comm]
        exact Nat.mul_le_mul_left _ (by decide)
      have h2 := Nat.mul_le_mul_left B this
      have e2 : 720 * B * 4320 ^ L.length = B * (720 * 4320 ^ L.length) := by rw [Nat.mul_comm 720 B, Nat.mul_assoc]
      rw [e2]
      exact h2
    · show NB _ _ (wt L L.length _ y + kn y)
      rw [wt_out (Nat.le_refl _) _ (by rw [List.take_length]; exact hyL), Rat.zero_add]
      exact (hk y hy).mono (Nat.dvd_mul_right _ _) (Nat.le_mul_of_pos_right B (Nat.pow_pos (by decide)))
  · have hf := fill_of hW hn hL h0 u2 u3 hE
    have key := fill_unique hW hL hO hf hf0
    rw [← map_getDn L 0]
    refine List.map_congr_left fun j hj => ?_
    have hj := List.mem_range.mp hj
    have e1 := key (L.getD j 0)
    rw [wt_at hn (Nat.le_refl _) hj, h0 _ (getD_mem hj), Rat.add_zero] at e1
    show _ = _ + kn (L.getD j 0)
    rw [h0 _ (getD_mem hj)]
    exact e1
section
variable {K : PySem.W.Frag} {σ : L2.St} {b h : Hp} {te tl ta tb : TE} {ts tk : TA} {E : XK} {C : List PlC} {p q : Int × Int} {r s : Rat}
end
end Md
set_option Elab.async false
set_option linter.all false
set_option maxRecDepth 100000
set_option maxHeartbeats 2000000
namespace Md
open PySem L2 Evl
variable {C : List PlC}
theorem fill_le (h : WfC C) {x : Nat} {L : List Nat} (G : IsGrp C x L) {e s t : Nat → Rat} {B : Rat} (he : ∀ y, y < C.length → e y ≤ B) (hs : IsFill C L e (fun _ => 0) s) (ht : IsFill C L (fun _ => 1) (fun _ => 0) t) : ∀ y, s y ≤ B * t y := by
  have hL : ∀ y ∈ L, y < C.length := fun y hy => G.lt y (List.mem_cons_of_mem x hy)
  have key := max_closed h hL (out_tail h G) (f := fun y => s y - B * t y) (fun y _ hy => by
    show s y - B * t y ≤ 0
    rw [hs.out y hy, ht.out y hy]
    grind) fun y hy => by
      rw [mean_sub, mean_mulC]
      have a := hs.eq y hy
      have b := ht.eq y hy
      have c := he y (hL y hy)
      have d : B * t y = B + B * meanC C t y := by
        rw [b]
        grind
      show s y - B * t y ≤ _
      generalize B * t y = u1 at *
      generalize B * meanC C t y = u2 at *
      grind
  intro y
  by_cases hy : y ∈ L
  · have k : s y - B * t y ≤ 0 := key y hy
    grind
  · rw [hs.out y hy, ht.out y hy]
    grind
theorem neg_fill {L : List Nat} {e s : Nat → Rat} (hs : IsFill C L e (fun _ => 0) s) : IsFill C L (fun y => (-1) * e y) (fun _ => 0) (fun y => (-1) * s y) := ⟨fun y hy => by
  rw [mean_mulC]
  have := hs.eq y hy
  grind, fun y hy => by
  show (-1) * s y = 0
  rw [hs.out y hy]
  grind⟩
theorem grp_mean_le (h : WfC C) {x : Nat} {L : List Nat} (G : IsGrp C x L) {e : Nat → Rat} {m B : Rat} (he : ∀ y, y < C.length → e y ≤ B) (hm : GrpMean C x L e m) : m ≤ B := by
  obtain ⟨s, t, hs, ht, hq⟩ := hm.ex
  have k := fill_le h G he hs ht
  have hx := G.lt x (List.mem_cons_self ..)
  have tn := (steps_nn h G ht).2 x hx
  have a1 : meanC C s x ≤ B * meanC C t x := by
    rw [← mean_mulC]
    exact wsum_le fun q hq => ⟨Rat.le_of_lt (br_pos h hx hq), k q.2⟩
  rw [hq]
  have := he x hx
  exact div_le' (by grind) (by grind)
theorem grp_mean_neg {x : Nat} {L : List Nat} {e : Nat → Rat} {m : Rat} (hm : GrpMean C x L e m) : GrpMean C x L (fun y => (-1) * e y) ((-1) * m) := by
  obtain ⟨s, t, hs, ht, hq⟩ := hm.ex
  refine ⟨_, t, neg_fill hs, ht, ?_⟩
  rw [hq, mean_mulC]
  grind
theorem grp_mean_bd (h : WfC C) {x : Nat} {L : List Nat} (G : IsGrp C x L) {e : Nat → Rat} {m : Rat} {B : Nat} (he : ∀ y, y < C.length → -natR B ≤ e y ∧ e y ≤ natR B) (hm : GrpMean C x L e m) : -natR B ≤ m ∧ m ≤ natR B := by
  have a := grp_mean_le h G (fun y hy => (he y hy).2) hm
  have b := grp_mean_le h G (B := natR B) (fun y hy => by have := (he y hy).1; grind) (grp_mean_neg hm)
  exact ⟨by grind, a⟩
theorem fill_same (h : WfC C) {L : List Nat} (hL : ∀ y ∈ L, y < C.length) (hO : Out C L) {kn f : Nat → Rat} {B : Rat} (hB : 0 ≤ B) (hk : ∀ y, y < C.length → kn y ≤ B) (hf : IsFill C L (fun _ => 0) kn f) : ∀ y, y < C.length → f y ≤ B := by
  have key := max_closed h hL hO (f := fun y => f y - (fun _ => B) y) (fun y hy hn => by
    show f y - B ≤ 0
    rw [hf.out y hn]
    have := hk y hy
    grind) fun y hy => by
      rw [mean_sub, mean_const h B (hL y hy)]
      have := hf.eq y hy
      grind
  intro y hy
  by_cases hm : y ∈ L
  · have k : f y - B ≤ 0 := key y hm
    grind
  · rw [hf.out y hm]
    exact hk y hy
theorem fill_same_bd (h : WfC C) {L : List Nat} (hL : ∀ y ∈ L, y < C.length) (hO : Out C L) {kn f : Nat → Rat} {B : Nat} (hk : ∀ y, y < C.length → -natR B ≤ kn y ∧ kn y ≤ natR B) (hf : IsFill C L (fun _ => 0) kn f) : ∀ y, y < C.length → -natR B ≤ f y ∧ f y ≤ natR B := fun y hy => by
  have a := fill_same h hL hO (natR_nonneg B) (fun y hy => (hk y hy).2) hf y hy
  have hn : IsFill C L (fun _ => 0) (fun y => (-1) * kn y) (fun y => (-1) * f y) := ⟨fun y hy => by
    rw [mean_mulC]
    have := hf.eq y hy
    grind, fun y hy => by
    show (-1) * f y = (-1) * kn y
    rw [hf.out y hy]⟩
  have b := fill_same h hL hO (natR_nonneg B) (fun y hy => by have := (hk y hy).1; grind) hn y hy
  exact ⟨by grind, a⟩
theorem grp_mean_zt (h : WfC C) {x : Nat} {L : List Nat} (G : IsGrp C x L) {e s t : Nat → Rat} {M B D E : Nat} (hs : ∀ y, y < C.length → NB (M * D) B (s y)) (he : Zt M (e x)) (hD : 0 < D) (hDl : D ≤ 4320 ^ L.length) (hDE : D = E)
    (ht : ∀ y, y < C.length → NB (1 * E) (1 * 4320 ^ (L.length + 1)) (t y)) (htf : IsFill C L (fun _ => 1) (fun _ => 0) t) : ∃ Z : Nat, 0 < Z ∧ Z ≤ 4320 ^ (2 * (L.length + 1)) ∧ Zt (M * Z) ((e x + meanC C s x) / (1 + meanC C t x)) := by
  subst hDE
  have hx := G.lt x (List.mem_cons_self ..)
  have tn := (steps_nn h G htf).2 x hx
  have nS := nb_mean h hx hs
  have nT := nb_mean h hx ht
  obtain ⟨s0, s1, _⟩ := scaleC_ok h hx
  have zS : Zt (M * D * scaleC C x) (e x + meanC C s x) := (he.dvd (by rw [Nat.mul_assoc]; exact Nat.dvd_mul_right _ _)).add nS.zt
  have zT : Zt (1 * D * scaleC C x) (1 + meanC C t x) := (show Zt _ ((1 : Int) : Rat) from zt_int _ 1).add nT.zt
  obtain ⟨z1, h1⟩ := zS
  obtain ⟨z2, h2⟩ := zT
  have sc0 : 0 < scaleC C x := by omega
  have e1 : (((M * D * scaleC C x : Nat) : Int) : Rat) = natR M * natR D * natR (scaleC C x) := by
    show natR (M * D * scaleC C x) = _
    rw [natR_mul, natR_mul]
  have e2 : (((1 * D * scaleC C x : Nat) : Int) : Rat) = natR D * natR (scaleC C x) := by
    show natR (1 * D * scaleC C x) = _
    rw [Nat.one_mul, natR_mul]
  rw [e1] at h1
  rw [e2] at h2
  have pD := natR_pos hD
  have pS := natR_pos sc0
  have pp : 0 < natR D * natR (scaleC C x) := Rat.mul_pos pD pS
  have hT : 0 < 1 + meanC C t x := by grind
  have z2p : (0 : Rat) < (z2 : Rat) := by
    rw [← h2]
    exact Rat.mul_pos hT pp
  have z2q : 0 < z2 := by
    have : ((0 : Int) : Rat) < (z2 : Rat) := z2p
    exact Rat.intCast_lt_intCast.mp this
  have ez : ((z2.toNat : Nat) : Int) = z2 := Int.toNat_of_nonneg (by omega)
  refine ⟨z2.toNat, by omega, ?_, z1, ?_⟩
  · have hi : meanC C t x ≤ natR (4320 ^ (L.length + 1)) := by
      have := nT.hi
      rwa [Nat.one_mul] at this
    have b1 : 1 + meanC C t x ≤ natR (1 + 4320 ^ (L.length + 1)) := by
      rw [natR_add, natR_one]
      grind
    have b2 : (z2 : Rat) ≤ natR ((1 + 4320 ^ (L.length + 1)) * (D * scaleC C x)) := by
      rw [← h2, natR_mul, natR_mul]
      exact Rat.mul_le_mul_of_nonneg_right b1 (Rat.le_of_lt pp)
    have b3 : z2 ≤ (((1 + 4320 ^ (L.length + 1)) * (D * scaleC C x) : Nat) : Int) := cast_le b2
    have b4 : (1 + 4320 ^ (L.length + 1)) * (D * scaleC C x) ≤ (1 + 4320 ^ (L.length + 1)) * (4320 ^ L.length * 360) := Nat.mul_le_mul_left _ (Nat.mul_le_mul hDl s1)
    have b5 : (1 + 4320 ^ (L.length + 1)) * (4320 ^ L.length * 360) ≤ 4320 ^ (2 * (L.length + 1)) := by
      have e : 4320 ^ (2 * (L.length + 1)) = 4320 ^ L.length * 4320 * (4320 ^ L.length * 4320) := by
        rw [Nat.two_mul, Nat.pow_add, Nat.pow_succ]
      rw [e, Nat.pow_succ]
      have p1 : 1 ≤ 4320 ^ L.length := Nat.pow_pos (by decide)
      generalize 4320 ^ L.length = P at *
      have : 1 + P * 4320 ≤ P * 4320 * 2 := by omega
      calc (1 + P * 4320) * (P * 360) ≤ (P * 4320 * 2) * (P * 360) := Nat.mul_le_mul_right _ this
        _ = P * 4320 * (P * 720) := by
          rw [Nat.mul_assoc (P * 4320) 2, Nat.mul_comm 2 (P * 360), Nat.mul_assoc P 360 2]
        _ ≤ P * 4320 * (P * 4320) := Nat.mul_le_mul_left _ (Nat.mul_le_mul_left _ (by decide))
    omega
  · have e3 : (((M * z2.toNat : Nat) : Int) : Rat) = natR M * (z2 : Rat) := by
      rw [Int.natCast_mul, ez, Rat.intCast_mul]
      rfl
    rw [e3, ← h2, ← h1]
    have hT0 : 1 + meanC C t x ≠ 0 := by grind
    grind
theorem natR_inj {a b : Nat} (h : natR a = natR b) : a = b := by
  have h1 : ((a : Int) : Rat) = ((b : Int) : Rat) := h
  have := Rat.intCast_inj.mp h1
  omega
theorem nb_add {M A B : Nat} {r s : Rat} (h : NB M A r) (g : NB M B s) : NB M (A + B) (r + s) := by
  have e := natR_add A B
  have := h.lo
  have := h.hi
  have := g.lo
  have := g.hi
  exact ⟨h.zt.add g.zt, by rw [e]; grind, by rw [e]; grind⟩
theorem nb_neg {M B : Nat} {s : Rat} (g : NB M B s) : NB M B (-s) := by
  have := g.lo
  have := g.hi
  refine ⟨?_, by grind, by grind⟩
  obtain ⟨z, hz⟩ := g.zt
  refine ⟨-z, ?_⟩
  rw [Rat.intCast_neg, ← hz]
  grind
theorem nb_sub {M A B : Nat} {r s : Rat} (h : NB M A r) (g : NB M B s) : NB M (A + B) (r - s) := by
  have : r - s = r + -s := by grind
  rw [this]
  exact nb_add h (nb_neg g)
theorem grp_len {x : Nat} {L : List Nat} (h : WfC C) (G : IsGrp C x L) : L.length + 1 ≤ C.length := nodup_len G.nd G.lt
section
variable {K : PySem.W.Frag} {σ : L2.St} {b h : Hp} {ts : TA} {ta tb te : TE} {E : XK} {x : Nat} {r s : Rat} {L : List Nat} {d : PyData} {ds : List PyData} {p q : Int × Int}
end
end Md
set_option Elab.async false
set_option linter.all false
set_option maxRecDepth 100000
set_option maxHeartbeats 2000000
namespace Md
open PySem L2 Evl
variable {C : List PlC}
theorem flat_nodup (f : Nat → List Nat) : ∀ {H : List Nat}, H.Nodup → (∀ x ∈ H, (f x).Nodup) → (∀ x ∈ H, ∀ y ∈ H, ∀ z, z ∈ f x → z ∈ f y → x = y) → ((H.map f).flatten).Nodup
  | [], _, _, _ => List.nodup_nil
  | a :: H, h1, h2, h3 => by
    obtain ⟨n1, n2⟩ := List.nodup_cons.mp h1
    rw [List.map_cons, List.flatten_cons, List.nodup_append]
    refine ⟨h2 a (List.mem_cons_self ..), flat_nodup f n2 (fun x hx => h2 x (List.mem_cons_of_mem a hx)) (fun x hx y hy => h3 x (List.mem_cons_of_mem a hx) y (List.mem_cons_of_mem a hy)), fun p hp q hq e => ?_⟩
    subst e
    obtain ⟨l, hl, hq⟩ := List.mem_flatten.mp hq
    obtain ⟨y, hy, rfl⟩ := List.mem_map.mp hl
    have := h3 a (List.mem_cons_self ..) y (List.mem_cons_of_mem a hy) p hp hq
    rw [this] at n1
    exact n1 hy
noncomputable def sizeG (C : List PlC) (n : Nat) : Nat := ((((headsL C).take n).map (reachL C)).flatten).length
theorem size_all (h : WfC C) : sizeG C (headsL C).length + (passL C).length ≤ C.length := by
  unfold sizeG
  rw [List.take_length, ← List.length_append]
  refine nodup_len ?_ fun x hx => ?_
  · rw [List.nodup_append]
    refine ⟨flat_nodup _ heads_nodup (fun x _ => reach_nodup C x) (fun x hx y hy z => heads_one h hx hy), pass_nodup, fun p hp q hq e => ?_⟩
    subst e
    obtain ⟨l, hl, hp⟩ := List.mem_flatten.mp hp
    obtain ⟨y, hy, rfl⟩ := List.mem_map.mp hl
    exact (mem_pass.mp hq).2 y hy hp
  · rcases List.mem_append.mp hx with z | z
    · obtain ⟨l, hl, hp⟩ := List.mem_flatten.mp z
      obtain ⟨y, hy, rfl⟩ := List.mem_map.mp hl
      exact reach_lt hp
    · exact pass_lt x z
theorem take_snoc {n x : Nat} {H : List Nat} (e : H[n]? = some x) : H.take (n + 1) = H.take n ++ [x] := by
  rw [List.take_add_one, e]
  rfl
theorem size_succ {n x : Nat} (e : (headsL C)[n]? = some x) : sizeG C (n + 1) = sizeG C n + (reachL C x).length := by
  unfold sizeG
  rw [take_snoc e, List.map_append, List.flatten_append, List.length_append]
  congr 1
  show ([reachL C x].flatten).length = _
  rw [List.flatten_cons, List.flatten_nil, List.append_nil]
theorem take_other {n x : Nat} (h : WfC C) (e : (headsL C)[n]? = some x) {z y : Nat} (hz : z ∈ (headsL C).take n) (hy : y ∈ reachL C z) : y ∉ reachL C x := fun hyx => by
  have hxm := List.mem_of_getElem? e
  have hzm := List.mem_of_mem_take hz
  have := heads_one h hzm hxm hy hyx
  subst this
  have hnd : ((headsL C).take (n + 1)).Nodup := (List.take_sublist (n + 1) _).nodup heads_nodup
  rw [take_snoc e, List.nodup_append] at hnd
  exact hnd.2.2 z hz z (List.mem_singleton.mpr rfl) rfl
structure GInv (C : List PlC) (R : Nat → List Nat → (Nat → Rat) → Prop) (M : Nat) (B k : Nat) (n : Nat) (kn : Nat → Rat) (Z : Nat) : Prop where
  z0 : 0 < Z
  z1 : Z ≤ 4320 ^ (k * sizeG C n)
  nb : ∀ y, NB (M * Z) B (kn y)
  grp : ∀ x ∈ (headsL C).take n, ∀ L, reachL C x = x :: L → R x L kn
  out : ∀ y, (∀ x ∈ (headsL C).take n, y ∉ reachL C x) → kn y = 0
theorem ginv_zero {R : Nat → List Nat → (Nat → Rat) → Prop} {M B k : Nat} : GInv C R M B k 0 (fun _ => 0) 1 := ⟨by decide, Nat.pow_pos (by decide), fun _ => nb_zero _ _, fun x hx => (by rw [List.take_zero] at hx; cases hx), fun _ _ => rfl⟩
theorem ginv_step (h : WfC C) {R : Nat → List Nat → (Nat → Rat) → Prop} (hR : ∀ x L f g, R x L f → (∀ y ∈ x :: L, g y = f y) → R x L g) {M B k n x Z Zg : Nat} {kn nw : Nat → Rat} (g : GInv C R M B k n kn Z) {L : List Nat} (e : (headsL C)[n]? = some x) (hL : reachL C x = x :: L) (z0 : 0 < Zg) (z1 : Zg ≤ 4320 ^ (k * (L.length + 1)))
    (nb : ∀ y ∈ x :: L, NB (M * Zg) B (nw y)) (hr : R x L nw) : GInv C R M B k (n + 1) (fun y => if y ∈ x :: L then nw y else kn y) (Z * Zg) := by
  refine ⟨Nat.mul_pos g.z0 z0, ?_, fun y => ?_, fun z hz Lz hLz => ?_, fun y hy => ?_⟩
  · rw [size_succ e, hL, Nat.mul_add, Nat.pow_add]
    exact Nat.mul_le_mul g.z1 z1
  · show NB _ _ (if y ∈ x :: L then nw y else kn y)
    by_cases hy : y ∈ x :: L
    · rw [if_pos hy]
      exact (nb y hy).mono ⟨Z, by rw [Nat.mul_comm Z Zg, ← Nat.mul_assoc]⟩ (Nat.le_refl _)
    · rw [if_neg hy]
      exact (g.nb y).mono ⟨Zg, by rw [← Nat.mul_assoc]⟩ (Nat.le_refl _)
  · rw [take_snoc e] at hz
    rcases List.mem_append.mp hz with hz | hz
    · refine hR z Lz kn _ (g.grp z hz Lz hLz) fun y hy => ?_
      have := take_other h e hz (y := y) (by rw [hLz]; exact hy)
      rw [hL] at this
      exact if_neg this
    · obtain rfl := List.mem_singleton.mp hz
      rw [hL] at hLz
      injection hLz with _ hLz
      subst hLz
      exact hR z L nw _ hr fun y hy => if_pos hy
  · have h1 : y ∉ x :: L := by
      rw [← hL]
      exact hy x (by rw [take_snoc e]; exact List.mem_append_right _ (List.mem_singleton.mpr rfl))
    show (if y ∈ x :: L then nw y else kn y) = 0
    rw [if_neg h1]
    exact g.out y fun z hz => hy z (by rw [take_snoc e]; exact List.mem_append_left _ hz)
theorem ginv_pass {R : Nat → List Nat → (Nat → Rat) → Prop} {M B k Z : Nat} {kn : Nat → Rat} (g : GInv C R M B k (headsL C).length kn Z) : (∀ x ∈ passL C, kn x = 0) ∧ ∀ x ∈ headsL C, ∀ L, reachL C x = x :: L → R x L kn := by
  refine ⟨fun x hx => g.out x fun z hz => ?_, fun x hx L hL => g.grp x (by rw [List.take_length]; exact hx) L hL⟩
  rw [List.take_length] at hz
  exact (mem_pass.mp hx).2 z hz
theorem pass_out (h : WfC C) {x : Nat} {L : List Nat} (hx : x ∈ headsL C) (hL : reachL C x = x :: L) {y : Nat} (hy : y ∈ x :: L) : y ∉ passL C := fun z => (mem_pass.mp z).2 x hx (by rw [hL]; exact hy)
def RLong (C : List PlC) (x : Nat) (L : List Nat) (f : Nat → Rat) : Prop := ∃ m, GrpMean C x L (gainC C) m ∧ ∀ y ∈ x :: L, f y = m
def RLead (C : List PlC) (g : Nat → Rat) (x : Nat) (L : List Nat) (f : Nat → Rat) : Prop := ∃ s m, IsFill C L (fun y => gainC C y - g y) (fun _ => 0) s ∧ GrpMean C x L s m ∧ ∀ y ∈ x :: L, f y = s y - m
theorem rlong_mono (x : Nat) (L : List Nat) (f g : Nat → Rat) (h : RLong C x L f) (e : ∀ y ∈ x :: L, g y = f y) : RLong C x L g := by
  obtain ⟨m, h1, h2⟩ := h
  exact ⟨m, h1, fun y hy => (e y hy).trans (h2 y hy)⟩
theorem rlead_mono {g0 : Nat → Rat} (x : Nat) (L : List Nat) (f g : Nat → Rat) (h : RLead C g0 x L f) (e : ∀ y ∈ x :: L, g y = f y) : RLead C g0 x L g := by
  obtain ⟨s, m, h1, h2, h3⟩ := h
  exact ⟨s, m, h1, h2, fun y hy => (e y hy).trans (h3 y hy)⟩
theorem mean_unique {x : Nat} {L : List Nat} (h : WfC C) (G : IsGrp C x L) {e : Nat → Rat} {m m' : Rat} (h1 : GrpMean C x L e m) (h2 : GrpMean C x L e m') : m = m' := by
  obtain ⟨s, t, a1, a2, a3⟩ := h1.ex
  obtain ⟨s', t', b1, b2, b3⟩ := h2.ex
  have hL : ∀ y ∈ L, y < C.length := fun y hy => G.lt y (List.mem_cons_of_mem x hy)
  have e1 := fill_unique h hL (out_tail h G) a1 b1
  have e2 := fill_unique h hL (out_tail h G) a2 b2
  rw [a3, b3, mean_congr h (f := s) (g := s') fun q _ => e1 q.2, mean_congr h (f := t) (g := t') fun q _ => e2 q.2]
theorem long_unique (h : WfC C) {f g : Nat → Rat} (hf : LongOk C f) (hg : LongOk C g) : ∀ y, y < C.length → f y = g y := by
  have hgr : ∀ x ∈ headsL C, ∀ y ∈ reachL C x, f y = g y := fun x hx y hy => by
    obtain ⟨L, e, G⟩ := head_grp h hx
    obtain ⟨m, a1, a2⟩ := hf.grp x hx L e
    obtain ⟨m', b1, b2⟩ := hg.grp x hx L e
    rw [e] at hy
    rw [a2 y hy, b2 y hy, mean_unique h G a1 b1]
  -- both fill the same
  have two : ∀ {f g : Nat → Rat}, LongOk C f → LongOk C g → (∀ x ∈ headsL C, ∀ y ∈ reachL C x, f y = g y) → ∀ x ∈ passL C, f x - g x ≤ 0 := fun {f g} hf hg hgr => max_closed h pass_lt (out_pass h) (f := fun y => f y - g y) (fun y hy hn => by
    show f y - g y ≤ 0
    rcases pass_or (C := C) hy with z | ⟨x, hx, hm⟩
    · exact absurd z hn
    · rw [hgr x hx y hm]
      grind) fun x hx => by
      rw [mean_sub, ← hf.pas x hx, ← hg.pas x hx]
      exact Rat.le_refl
  intro y hy
  rcases pass_or (C := C) hy with z | ⟨x, hx, hm⟩
  · have a := two hf hg hgr y z
    have b := two hg hf (fun x hx y hy => (hgr x hx y hy).symm) y z
    grind
  · exact hgr x hx y hm
end Md
set_option Elab.async false
set_option linter.all false
set_option maxRecDepth 100000
set_option maxHeartbeats 2000000
namespace Md
open PySem L2 Evl
variable {C : List PlC}
theorem mean_exists (h : WfC C) {x : Nat} {L : List Nat} (G : IsGrp C x L) {e : Nat → Rat} {M B : Nat} (hM : 0 < M) (hB : 1 ≤ B) (hMB : B * M < 2 ^ 1400) (he : ∀ y, y < C.length → NB M B (e y)) : ∃ m Z, GrpMean C x L e m ∧ 0 < Z ∧ Z ≤ 4320 ^ (2 * (L.length + 1)) ∧ NB (M * Z) B m := by
  have hx := G.lt x (List.mem_cons_self ..)
  have hLl := grp_len h G
  have h12 := h.l12
  have hLn : L.Nodup := (List.nodup_cons.mp G.nd).2
  have hLt : ∀ y ∈ L, y < C.length := fun y hy => G.lt y (List.mem_cons_of_mem x hy)
  obtain ⟨s, D1, hS, a1, a2, a3, _⟩ := fill_dataS h hLn (by omega) hLt (out_tail h G) (e := e) (kn := fun _ => 0) hM hB hMB (fun y hy => he y (hLt y hy)) (fun _ _ => nb_zero _ _) (fun _ _ => rfl)
  obtain ⟨t, D2, hT, b1, b2, b3, _⟩ := fill_dataS h hLn (by omega) hLt (out_tail h G) (e := fun _ => 1) (kn := fun _ => 0) (M := 1) (B := 1) (by decide) (by decide) (by decide +kernel) (fun _ _ => nb_one (by decide)) (fun _ _ => nb_zero _ _) (fun _ _ => rfl)
  obtain ⟨Z, c1, c2, c3⟩ := grp_mean_zt h G (e := e) a3 (he x hx).zt a1 a2.1 (natR_inj (by rw [a2.2, b2.2])) b3 hT
  have hGM : GrpMean C x L e ((e x + meanC C s x) / (1 + meanC C t x)) := ⟨s, t, hS, hT, rfl⟩
  have hbd := grp_mean_bd h G (B := B) (fun y hy => ⟨(he y hy).lo, (he y hy).hi⟩) hGM
  exact ⟨_, Z, hGM, c1, c2, c3, hbd.1, hbd.2⟩
theorem head_at {n : Nat} (hn : n < (headsL C).length) : ∃ x, (headsL C)[n]? = some x := ⟨_, List.getElem?_eq_getElem hn⟩
theorem unit_lt13 (h : WfC C) {j : Nat} {Z a : Nat} (hZ : Z ≤ 2 ^ a) : denL (gainsC C) * Z < 2 ^ (a + 120) := by
  rw [Nat.mul_comm]
  exact lt_pow_mul (Nat.le_refl _) hZ (unit_lt h).2
theorem pow288 {k a : Nat} (h : k ≤ a) : 4320 ^ k ≤ 2 ^ (13 * a) := by
  refine Nat.le_trans (Nat.pow_le_pow_right (by decide) h) ?_
  rw [Nat.pow_mul]
  exact Nat.pow_le_pow_left (by decide) a
theorem long_ginv (h : WfC C) : ∀ n, n ≤ (headsL C).length → ∃ kn Z, GInv C (RLong C) (denL (gainsC C)) 1000 2 n kn Z
  | 0, _ => ⟨_, _, ginv_zero⟩
  | n + 1, hn => by
    obtain ⟨kn, Z, g⟩ := long_ginv h n (by omega)
    obtain ⟨x, hx⟩ := head_at (C := C) (n := n) (by omega)
    obtain ⟨L, e, G⟩ := head_grp h (List.mem_of_getElem? hx)
    obtain ⟨m, Zg, a1, a2, a3, a4⟩ := mean_exists h G (e := gainC C) (M := denL (gainsC C)) (B := 1000) (unit_lt h).1 (by decide) (Nat.lt_of_lt_of_le (lt_pow_mul (i := 10) (Nat.le_refl _) (by decide) (unit_lt h).2) (Nat.pow_le_pow_right (by decide) (by decide))) fun y hy => gain_nb h hy
    exact ⟨_, _, ginv_step h rlong_mono g hx e a2 a3 (nw := fun _ => m) (fun _ _ => a4) ⟨m, a1, fun _ _ => rfl⟩⟩
theorem long_exists (h : WfC C) : ∃ g Z, LongOk C g ∧ 0 < Z ∧ Z ≤ 4320 ^ (2 * C.length) ∧ ∀ y, y < C.length → NB (denL (gainsC C) * Z) 1000 (g y) := by
  obtain ⟨kn, Z, inv⟩ := long_ginv h _ (Nat.le_refl _)
  obtain ⟨ip, ig⟩ := ginv_pass inv
  have hsz := size_all h
  have h12 := h.l12
  have hz2 : Z ≤ 4320 ^ (2 * C.length) := Nat.le_trans inv.z1 (Nat.pow_le_pow_right (by decide) (by omega))
  have hz3 : Z ≤ 2 ^ (13 * 24) := Nat.le_trans hz2 (pow288 (by omega))
  have hpl := nodup_len (pass_nodup (C := C)) pass_lt
  obtain ⟨f, D, hF, d0, d1, d2, _⟩ := fill_dataS h pass_nodup (by omega) pass_lt (out_pass h) (e := fun _ => 0) (kn := kn) (M := denL (gainsC C) * Z) (B := 1000) (Nat.mul_pos (unit_lt h).1 inv.z0) (by decide) (Nat.lt_of_lt_of_le (lt_pow_mul (i := 10) (Nat.le_refl _) (by decide) (unit_lt13 (j := 0) h hz3)) (Nat.pow_le_pow_right (by decide) (by decide))) (fun _ _ => nb_zero _ _) (fun y _ => inv.nb y) ip
  have hbd := fill_same_bd h pass_lt (out_pass h) (B := 1000) (fun y _ => ⟨(inv.nb y).lo, (inv.nb y).hi⟩) hF
  refine ⟨f, Z * D, ⟨fun x hx L hL => ?_, fun x hx => ?_⟩, Nat.mul_pos inv.z0 d0, ?_, fun y hy => ⟨?_, (hbd y hy).1, (hbd y hy).2⟩⟩
  · obtain ⟨m, a1, a2⟩ := ig x hx L hL
    exact ⟨m, a1, fun y hy => by rw [hF.out y (pass_out h hx hL hy)]; exact a2 y hy⟩
  · have := hF.eq x hx
    rwa [Rat.zero_add] at this
  · refine Nat.le_trans (Nat.mul_le_mul inv.z1 d1.1) ?_
    rw [← Nat.pow_add]
    exact Nat.pow_le_pow_right (by decide) (by omega)
  · have := (d2 y hy).zt
    rwa [Nat.mul_assoc] at this
open Classical in
noncomputable def longC (C : List PlC) : Nat → Rat := if h : ∃ g, LongOk C g then h.choose else fun _ => 0
theorem long_ok (h : WfC C) : LongOk C (longC C) := by
  obtain ⟨g, Z, a, _⟩ := long_exists h
  have e : ∃ g, LongOk C g := ⟨g, a⟩
  unfold longC
  rw [dif_pos e]
  exact e.choose_spec
theorem long_nb (h : WfC C) : ∃ Z, 0 < Z ∧ Z ≤ 4320 ^ (2 * C.length) ∧ ∀ y, y < C.length → NB (denL (gainsC C) * Z) 1000 (longC C y) := by
  obtain ⟨g, Z, a, b, c, d⟩ := long_exists h
  exact ⟨Z, b, c, fun y hy => by rw [long_unique h (long_ok h) a y hy]; exact d y hy⟩
theorem lead_unique (h : WfC C) {g f f' : Nat → Rat} (hf : LeadOk C g f) (hf' : LeadOk C g f') : ∀ y, y < C.length → f y = f' y := by
  have hgr : ∀ x ∈ headsL C, ∀ y ∈ reachL C x, f y = f' y := fun x hx y hy => by
    obtain ⟨L, e, G⟩ := head_grp h hx
    obtain ⟨s, m, a1, a2, a3⟩ := hf.grp x hx L e
    obtain ⟨s', m', b1, b2, b3⟩ := hf'.grp x hx L e
    have hL : ∀ y ∈ L, y < C.length := fun y hy => G.lt y (List.mem_cons_of_mem x hy)
    have es : s = s' := funext (fill_unique h hL (out_tail h G) a1 b1)
    subst es
    rw [e] at hy
    rw [a3 y hy, b3 y hy, mean_unique h G a2 b2]
  have two : ∀ {f f' : Nat → Rat}, LeadOk C g f → LeadOk C g f' → (∀ x ∈ headsL C, ∀ y ∈ reachL C x, f y = f' y) → ∀ x ∈ passL C, f x - f' x ≤ 0 := fun {f f'} hf hf' hgr => max_closed h pass_lt (out_pass h) (f := fun y => f y - f' y) (fun y hy hn => by
    show f y - f' y ≤ 0
    rcases pass_or (C := C) hy with z | ⟨x, hx, hm⟩
    · exact absurd z hn
    · rw [hgr x hx y hm]
      grind) fun x hx => by
      have a := hf.pas x hx
      have b := hf'.pas x hx
      rw [mean_sub]
      show f x - f' x ≤ _
      grind
  intro y hy
  rcases pass_or (C := C) hy with z | ⟨x, hx, hm⟩
  · have a := two hf hf' hgr y z
    have b := two hf' hf (fun x hx y hy => (hgr x hx y hy).symm) y z
    grind
  · exact hgr x hx y hm
theorem grp_pass_len (h : WfC C) {x : Nat} {L : List Nat} (hx : x ∈ headsL C) (hL : reachL C x = x :: L) (G : IsGrp C x L) : L.length + 1 + (passL C).length ≤ C.length := by
  have : ((x :: L) ++ passL C).Nodup := by
    rw [List.nodup_append]
    exact ⟨G.nd, pass_nodup, fun a ha b hb e => pass_out h hx hL ha (by rw [e]; exact hb)⟩
  have := nodup_len this fun y hy => by
    rcases List.mem_append.mp hy with z | z
    · exact G.lt y z
    · exact pass_lt y z
  rw [List.length_append] at this
  exact this
theorem ahead_nb (h : WfC C) {Z : Nat} (hg : ∀ y, y < C.length → NB (denL (gainsC C) * Z) 1000 (longC C y)) : ∀ y, y < C.length → NB (denL (gainsC C) * Z) 2000 (gainC C y - longC C y) := fun y hy => nb_sub ((gain_nb h hy).mono (Nat.dvd_mul_right _ _) (Nat.le_refl _)) (hg y hy)
theorem lead_size (h : WfC C) {x : Nat} {L : List Nat} (hx : x ∈ headsL C) (hL : reachL C x = x :: L) (G : IsGrp C x L) {M D Zg : Nat} {s : Nat → Rat} {m : Rat} (hD : D ≤ 4320 ^ L.length) (hZ : Zg ≤ 4320 ^ (2 * (L.length + 1))) (hs : ∀ y, y < C.length → NB (M * D) (2000 * 4320 ^ (L.length + 1)) (s y)) (hm : NB (M * D * Zg) (2000 * 4320 ^ (L.length + 1)) m) :
    D * Zg ≤ 4320 ^ (3 * (L.length + 1)) ∧ ∀ y ∈ x :: L, NB (M * (D * Zg)) (4000 * 4320 ^ (C.length - (passL C).length)) (s y - m) := by
  have hl := grp_pass_len h hx hL G
  refine ⟨?_, fun y hy => ?_⟩
  · refine Nat.le_trans (Nat.mul_le_mul hD hZ) ?_
    rw [← Nat.pow_add]
    exact Nat.pow_le_pow_right (by decide) (by omega)
  · have a := nb_sub ((hs y (G.lt y hy)).mono (Nat.dvd_mul_right _ Zg) (Nat.le_refl _)) hm
    rw [Nat.mul_assoc] at a
    refine a.mono (Nat.dvd_refl _) ?_
    have : 4320 ^ (L.length + 1) ≤ 4320 ^ (C.length - (passL C).length) := Nat.pow_le_pow_right (by decide) (by omega)
    omega
theorem sz_raise {U0 : Nat} (h : WfC C) {Z : Nat} (hZ : Z ≤ 4320 ^ (2 * C.length)) : 2000 * (denL (gainsC C) * Z) < 2 ^ 1400 := by
  have h12 := h.l12
  have hz3 : Z ≤ 2 ^ (13 * 24) := Nat.le_trans hZ (pow288 (by omega))
  exact Nat.lt_of_lt_of_le (lt_pow_mul (i := 11) (Nat.le_refl _) (by decide) (unit_lt13 (j := 0) h hz3)) (Nat.pow_le_pow_right (by decide) (by decide))
theorem sz_mean (h : WfC C) {Z D l : Nat} (hZ : Z ≤ 4320 ^ (2 * C.length)) (hl : l + 1 ≤ C.length) (hD : D ≤ 4320 ^ l) : 2000 * 4320 ^ (l + 1) * (denL (gainsC C) * Z * D) < 2 ^ 1400 := by
  have h12 := h.l12
  have a : 4320 ^ (2 * C.length) * 4320 ^ l ≤ 4320 ^ (2 * C.length + l) := by rw [← Nat.pow_add]; exact Nat.le_refl _
  have b : Z * D ≤ 2 ^ (13 * 36) := Nat.le_trans (Nat.le_trans (Nat.mul_le_mul hZ hD) a) (pow288 (by omega))
  have c : 2000 * 4320 ^ (l + 1) ≤ 2 ^ (11 + 13 * 12) := by
    have c1 : 4320 ^ (l + 1) ≤ 2 ^ (13 * 12) := pow288 (k := l + 1) (a := 12) (by omega)
    generalize 4320 ^ (l + 1) = P at *
    rw [Nat.pow_add]
    exact Nat.mul_le_mul (by decide) c1
  rw [Nat.mul_assoc (denL (gainsC C))]
  exact Nat.lt_of_lt_of_le (lt_pow_mul (Nat.le_refl _) c (unit_lt13 (j := 0) h b)) (Nat.pow_le_pow_right (by decide) (by decide))
theorem sz_last (h : WfC C) {Z W : Nat} (hZ : Z ≤ 4320 ^ (2 * C.length)) (hW : W ≤ 4320 ^ (3 * C.length)) : 4000 * 4320 ^ (C.length - (passL C).length) * (denL (gainsC C) * Z * W) < 2 ^ 1400 := by
  have h12 := h.l12
  have a : 4320 ^ (2 * C.length) * 4320 ^ (3 * C.length) ≤ 4320 ^ (2 * C.length + 3 * C.length) := by rw [← Nat.pow_add]; exact Nat.le_refl _
  have b : Z * W ≤ 2 ^ (13 * 60) := Nat.le_trans (Nat.le_trans (Nat.mul_le_mul hZ hW) a) (pow288 (by omega))
  have c : 4000 * 4320 ^ (C.length - (passL C).length) ≤ 2 ^ (12 + 13 * 12) := by
    rw [Nat.pow_add]
    exact Nat.mul_le_mul (by decide) (pow288 (by omega))
  rw [Nat.mul_assoc (denL (gainsC C))]
  exact Nat.lt_of_lt_of_le (lt_pow_mul (Nat.le_refl _) c (unit_lt13 (j := 0) h b)) (Nat.pow_le_pow_right (by decide) (by decide))
theorem lead_last (h : WfC C) {Z0 W D : Nat} {kn f : Nat → Rat} (z0 : 0 < Z0) (z1 : Z0 ≤ 4320 ^ (2 * C.length)) (inv : GInv C (RLead C (longC C)) (denL (gainsC C) * Z0) (4000 * 4320 ^ (C.length - (passL C).length)) 3 (headsL C).length kn W) (d0 : 0 < D) (d1 : D ≤ 4320 ^ (passL C).length)
    (hF : IsFill C (passL C) (fun y => gainC C y - longC C y) kn f) (hNf : ∀ y, y < C.length → NB (denL (gainsC C) * Z0 * W * D) (4000 * 4320 ^ (C.length - (passL C).length) * 4320 ^ ((passL C).length + 1)) (f y)) :
    LeadOk C (longC C) f ∧ 0 < Z0 * W * D ∧ Z0 * W * D ≤ 4320 ^ (5 * C.length) ∧ ∀ y, y < C.length → NB (denL (gainsC C) * (Z0 * W * D)) (4000 * 4320 ^ (C.length + 1)) (f y) := by
  obtain ⟨ip, ig⟩ := ginv_pass inv
  have hsz := size_all h
  refine ⟨⟨fun x hx L hL => ?_, fun x hx => hF.eq x hx⟩, Nat.mul_pos (Nat.mul_pos z0 inv.z0) d0, ?_, fun y hy => ?_⟩
  · obtain ⟨s, m, a1, a2, a3⟩ := ig x hx L hL
    exact ⟨s, m, a1, a2, fun y hy => by rw [hF.out y (pass_out h hx hL hy)]; exact a3 y hy⟩
  · refine Nat.le_trans (Nat.mul_le_mul (Nat.mul_le_mul z1 inv.z1) d1) ?_
    rw [← Nat.pow_add, ← Nat.pow_add]
    exact Nat.pow_le_pow_right (by decide) (by omega)
  · have a := hNf y hy
    rw [Nat.mul_assoc 4000, ← Nat.pow_add] at a
    have e1 : C.length - (passL C).length + ((passL C).length + 1) = C.length + 1 := by omega
    have e2 : denL (gainsC C) * Z0 * W * D = denL (gainsC C) * (Z0 * W * D) := by simp only [Nat.mul_assoc]
    rw [e1, e2] at a
    exact a
theorem lead_ginv (h : WfC C) {Z0 : Nat} (z0 : 0 < Z0) (z1 : Z0 ≤ 4320 ^ (2 * C.length)) (hg : ∀ y, y < C.length → NB (denL (gainsC C) * Z0) 1000 (longC C y)) : ∀ n, n ≤ (headsL C).length → ∃ kn W, GInv C (RLead C (longC C)) (denL (gainsC C) * Z0) (4000 * 4320 ^ (C.length - (passL C).length)) 3 n kn W
  | 0, _ => ⟨_, _, ginv_zero⟩
  | n + 1, hn => by
    obtain ⟨kn, W, g⟩ := lead_ginv h z0 z1 hg n (by omega)
    obtain ⟨x, hx⟩ := head_at (C := C) (n := n) (by omega)
    have hxm := List.mem_of_getElem? hx
    obtain ⟨L, e, G⟩ := head_grp h hxm
    have hLl := grp_len h G
    have h12 := h.l12
    have hLn : L.Nodup := (List.nodup_cons.mp G.nd).2
    have hLt : ∀ y ∈ L, y < C.length := fun y hy => G.lt y (List.mem_cons_of_mem x hy)
    have M0 : 0 < denL (gainsC C) * Z0 := Nat.mul_pos (unit_lt h).1 z0
    obtain ⟨s, D, a1, a2, a3, a4, _⟩ := fill_dataS h hLn (by omega) hLt (out_tail h G) (e := fun y => gainC C y - longC C y) (kn := fun _ => 0) (B := 2000) M0 (by decide) (sz_raise (U0 := 0) h z1) (fun y hy => ahead_nb h hg y (hLt y hy)) (fun _ _ => nb_zero _ _) (fun _ _ => rfl)
    obtain ⟨m, Zg, b1, b2, b3, b4⟩ := mean_exists h G (e := s) (Nat.mul_pos M0 a2) (Nat.mul_pos (by decide) (Nat.pow_pos (by decide))) (sz_mean h z1 hLl a3.1) a4
    obtain ⟨c1, c2⟩ := lead_size h hxm e G a3.1 b3 a4 b4
    exact ⟨_, _, ginv_step h rlead_mono g hx e (Nat.mul_pos a2 b2) c1 (nw := fun y => s y - m) c2 ⟨s, m, a1, b1, fun _ _ => rfl⟩⟩
theorem lead_exists (h : WfC C) : ∃ f Z, LeadOk C (longC C) f ∧ 0 < Z ∧ Z ≤ 4320 ^ (5 * C.length) ∧ ∀ y, y < C.length → NB (denL (gainsC C) * Z) (4000 * 4320 ^ (C.length + 1)) (f y) := by
  obtain ⟨Z0, z0, z1, hg⟩ := long_nb h
  obtain ⟨kn, W, inv⟩ := lead_ginv h z0 z1 hg _ (Nat.le_refl _)
  obtain ⟨ip, ig⟩ := ginv_pass inv
  have hsz := size_all h
  have h12 := h.l12
  have hpl := nodup_len (pass_nodup (C := C)) pass_lt
  have hW2 : W ≤ 4320 ^ (3 * C.length) := Nat.le_trans inv.z1 (Nat.pow_le_pow_right (by decide) (by omega))
  obtain ⟨f, D, hF, d0, d1, d2, _⟩ := fill_dataS h pass_nodup (by omega) pass_lt (out_pass h) (e := fun y => gainC C y - longC C y) (kn := kn) (M := denL (gainsC C) * Z0 * W) (B := 4000 * 4320 ^ (C.length - (passL C).length)) (Nat.mul_pos (Nat.mul_pos (unit_lt h).1 z0) inv.z0) (Nat.mul_pos (by decide) (Nat.pow_pos (by decide))) (sz_last h z1 hW2)
    (fun y hy => (ahead_nb h hg y (pass_lt y hy)).mono (Nat.dvd_mul_right _ _) (Nat.le_trans (by decide : 2000 ≤ 4000 * 1) (Nat.mul_le_mul_left 4000 (Nat.pow_pos (by decide))))) (fun y _ => inv.nb y) ip
  obtain ⟨c1, c2, c3, c4⟩ := lead_last h z0 z1 inv d0 d1.1 hF d2
  exact ⟨f, _, c1, c2, c3, c4⟩
open Classical in
noncomputable def leadC (C : List PlC) : Nat → Rat := if h : ∃ f, LeadOk C (longC C) f then h.choose else fun _ => 0
theorem lead_ok (h : WfC C) : LeadOk C (longC C) (leadC C) := by
  obtain ⟨g, Z, a, _⟩ := lead_exists h
  have e : ∃ f, LeadOk C (longC C) f := ⟨g, a⟩
  unfold leadC
  rw [dif_pos e]
  exact e.choose_spec
section
variable {K : PySem.W.Frag} {σ : L2.St} {b h : Hp} {ts : TA} {E : XK}
end
end Md
set_option Elab.async false
set_option linter.all false
set_option maxRecDepth 100000
set_option maxHeartbeats 2000000
namespace Md
open PySem L2 Evl
variable {C : List PlC}
theorem nb_big {M B j i k : Nat} {r : Rat} (h : NB M B r) (hM : 0 < M) (hB : 1 ≤ B) (h1 : B ≤ 2 ^ i) (h2 : M < 2 ^ k) (hj : i + k ≤ j) : Big j (canon r) := h.big hM hB (Nat.lt_of_lt_of_le (lt_pow_mul (Nat.le_refl _) h1 h2) (Nat.pow_le_pow_right (by decide) hj))
theorem pow288' {k : Nat} (h : k ≤ 60) : 4320 ^ k ≤ 2 ^ 726 := Nat.le_trans (Nat.pow_le_pow_right (by decide) h) (by decide +kernel)
theorem nb_mul {M N A B : Nat} {r s : Rat} (h : NB M A r) (g : NB N B s) : NB (M * N) (A * B) (r * s) := by
  have m := mul_bd h.lo h.hi g.lo g.hi
  rw [← natR_mul] at m
  exact ⟨h.zt.mul g.zt, m.1, m.2⟩
theorem wsum_ring (t : Nat) (f : Nat → Rat) : wsum [((1, 1), t)] f = f t := by
  rw [wsum_cons, wsum_nil, q_one]
  show 1 * f t + 0 = f t
  grind
section
variable {K : PySem.W.Frag} {σ : L2.St} {b h : Hp} {ts : TA} {E : XK} {ds : List PyData} {D : Ends} {tz : TS}
end
end Md
set_option Elab.async false
set_option linter.all false
set_option maxRecDepth 100000
set_option maxHeartbeats 2000000
namespace Md
open PySem L2 Evl
def hiQ (f : Nat → Rat) : Nat → Rat
  | 0 => f 0
  | k + 1 => if decide (hiQ f k < f k) = true then f k else hiQ f k
def loQ (f : Nat → Rat) : Nat → Rat
  | 0 => f 0
  | k + 1 => if decide (f k < loQ f k) = true then f k else loQ f k
theorem hi_mem {f : Nat → Rat} {n : Nat} (hn : 0 < n) : ∀ k, k ≤ n → ∃ j, j < n ∧ hiQ f k = f j
  | 0, _ => ⟨0, hn, rfl⟩
  | k + 1, hk => by
    obtain ⟨j, h1, h2⟩ := hi_mem hn k (by omega)
    show ∃ j, j < n ∧ (if decide (hiQ f k < f k) = true then f k else hiQ f k) = f j
    by_cases c : decide (hiQ f k < f k) = true
    · rw [if_pos c]
      exact ⟨k, by omega, rfl⟩
    · rw [if_neg c]
      exact ⟨j, h1, h2⟩
theorem lo_mem {f : Nat → Rat} {n : Nat} (hn : 0 < n) : ∀ k, k ≤ n → ∃ j, j < n ∧ loQ f k = f j
  | 0, _ => ⟨0, hn, rfl⟩
  | k + 1, hk => by
    obtain ⟨j, h1, h2⟩ := lo_mem hn k (by omega)
    show ∃ j, j < n ∧ (if decide (f k < loQ f k) = true then f k else loQ f k) = f j
    by_cases c : decide (f k < loQ f k) = true
    · rw [if_pos c]
      exact ⟨k, by omega, rfl⟩
    · rw [if_neg c]
      exact ⟨j, h1, h2⟩
theorem hi_ge {f : Nat → Rat} : ∀ {k j : Nat}, j < k → f j ≤ hiQ f k
  | k + 1, j, h => by
    show f j ≤ (if decide (hiQ f k < f k) = true then f k else hiQ f k)
    by_cases c : decide (hiQ f k < f k) = true
    · rw [if_pos c]
      have c := of_decide_eq_true c
      rcases Nat.lt_or_ge j k with z | z
      · have := hi_ge (f := f) z
        grind
      · obtain rfl : j = k := by omega
        exact Rat.le_refl
    · rw [if_neg c]
      have c : ¬ hiQ f k < f k := fun z => c (decide_eq_true z)
      rcases Nat.lt_or_ge j k with z | z
      · exact hi_ge z
      · obtain rfl : j = k := by omega
        grind
theorem lo_le {f : Nat → Rat} : ∀ {k j : Nat}, j < k → loQ f k ≤ f j
  | k + 1, j, h => by
    show (if decide (f k < loQ f k) = true then f k else loQ f k) ≤ f j
    by_cases c : decide (f k < loQ f k) = true
    · rw [if_pos c]
      have c := of_decide_eq_true c
      rcases Nat.lt_or_ge j k with z | z
      · have := lo_le (f := f) z
        grind
      · obtain rfl : j = k := by omega
        exact Rat.le_refl
    · rw [if_neg c]
      have c : ¬ f k < loQ f k := fun z => c (decide_eq_true z)
      rcases Nat.lt_or_ge j k with z | z
      · exact lo_le z
      · obtain rfl : j = k := by omega
        grind
section
variable {K : PySem.W.Frag} {σ : L2.St} {b h : Hp} {ts : TA} {E : XK} {C : List PlC} {r s : Rat} {n : Nat} {f : Nat → Rat}
end
end Md
set_option Elab.async false
set_option linter.all false
set_option maxRecDepth 100000
set_option maxHeartbeats 2000000
namespace Md
open PySem L2 Evl
def hgtR (c : Rat) (g : Nat → Int) : Nat → Rat
  | 0 => 0
  | k + 1 => hgtR c g k + (c - (g k : Rat))
section
variable {n : Nat} {g : Nat → Int}
end
end Md
set_option Elab.async false
set_option linter.all false
set_option maxRecDepth 100000
set_option maxHeartbeats 2000000
namespace Md
open PySem L2 Evl
section
variable {a b : Int} {m : Nat}
end
end Md
set_option Elab.async false
set_option linter.all false
set_option maxRecDepth 100000
set_option maxHeartbeats 2000000
namespace Md
open PySem L2 Evl
section
variable {n : Nat} {g : Nat → Int}
theorem nb_int {M B : Nat} {z : Int} (h : z.natAbs ≤ B) : NB M B (z : Rat) := ⟨zt_int M z, (abs_to h).1, (abs_to h).2⟩
structure RngS (n : Nat) (g : Nat → Int) (c : Rat) : Prop where
  G : ∀ k, k < n → Big 900 (canon (g k : Rat))
  A : ∀ i, i ≤ n → Big 900 (canon (sumR i fun j => (g j : Rat)))
  B : Big 900 (canon c)
  C : ∀ k, k < n → Big 900 (canon (c - (g k : Rat)))
  D : ∀ k, k ≤ n → Big 900 (canon (hgtR c g k))
  E : ∀ i, i ≤ n → Big 900 (canon (sumR i (hgtR c g)))
  F : Big 900 (canon (sumR n (hgtR c g) / natR n))
  I : Big 900 (canon (1 / natR n))
end
end Md
set_option Elab.async false
set_option linter.all false
set_option maxRecDepth 100000
set_option maxHeartbeats 2000000
namespace Md
open PySem L2 Evl
section
variable {K : PySem.W.Frag} {σ : L2.St} {b h : Hp} {ta te : TE} {ts : TA} {t : TT} {vs : List Nat} {E : XK} {D : Ends} {d : PyData} {us : List V} {q : Addr} {r s : Rat}
end
end Md
set_option Elab.async false
set_option linter.all false
set_option maxRecDepth 100000
set_option maxHeartbeats 2000000
namespace Md
open PySem L2 Evl
def EucW (g i x y : Nat) : Prop := Nat.gcd x y = g ∧ (if i = 0 then y = 0 ∨ y < 2 ^ 1998 * g else y < x ∧ x * y * 2 ^ (i - 1) < 2 ^ 3996 * (g * g))
theorem eucW_turn {g i x y : Nat} (h : EucW g i x y) (h0 : 0 < y) : EucW g (i + 1) y (x % y) := by
  obtain ⟨h1, h2⟩ := h
  refine ⟨by rw [← h1, Nat.gcd_comm x y, Nat.gcd_rec y x, Nat.gcd_comm], ?_⟩
  have hm := Nat.mod_lt x h0
  rw [if_neg (by omega)]
  refine ⟨hm, ?_⟩
  by_cases hi : i = 0
  · rw [if_pos hi] at h2
    subst hi
    have h3 : y < 2 ^ 1998 * g := h2.resolve_left (by omega)
    show y * (x % y) * 2 ^ 0 < 2 ^ 3996 * (g * g)
    rw [Nat.pow_zero, Nat.mul_one, show (3996 : Nat) = 1998 + 1998 from rfl, Nat.pow_add]
    have := Nat.mul_lt_mul'' h3 (Nat.lt_trans hm h3)
    rwa [Nat.mul_mul_mul_comm] at this
  · rw [if_neg hi] at h2
    obtain ⟨h3, h4⟩ := h2
    obtain ⟨j, rfl⟩ : ∃ j, i = j + 1 := ⟨i - 1, by omega⟩
    show y * (x % y) * 2 ^ (j + 1) < 2 ^ 3996 * (g * g)
    refine Nat.lt_of_le_of_lt ?_ h4
    show y * (x % y) * 2 ^ (j + 1) ≤ x * y * 2 ^ j
    have h5 : x % y * 2 ≤ x := mod_twice (Nat.le_of_lt h3) h0
    calc y * (x % y) * 2 ^ (j + 1) = y * (x % y * 2) * 2 ^ j := by rw [Nat.pow_succ]; simp [Nat.mul_comm, Nat.mul_left_comm, Nat.mul_assoc]
      _ ≤ y * x * 2 ^ j := Nat.mul_le_mul_right _ (Nat.mul_le_mul_left _ h5)
      _ = x * y * 2 ^ j := by rw [Nat.mul_comm y x]
theorem eucW_end {g x y : Nat} (h : EucW g 4000 x y) : y = 0 := by
  obtain ⟨h1, h2⟩ := h
  rw [if_neg (by decide)] at h2
  obtain ⟨h3, h4⟩ := h2
  rcases Nat.eq_zero_or_pos y with z | z
  · exact z
  · exfalso
    have dx : g ≤ x := by rw [← h1]; exact Nat.le_of_dvd (by omega) (Nat.gcd_dvd_left x y)
    have dy : g ≤ y := by rw [← h1]; exact Nat.le_of_dvd z (Nat.gcd_dvd_right x y)
    have h5 : g * g ≤ x * y := Nat.mul_le_mul dx dy
    have h6 : g * g * 2 ^ (4000 - 1) ≤ x * y * 2 ^ (4000 - 1) := Nat.mul_le_mul_right _ h5
    have h7 : g * g * 2 ^ 3996 ≤ g * g * 2 ^ (4000 - 1) := Nat.mul_le_mul_left _ (Nat.pow_le_pow_right (by decide) (by decide))
    rw [Nat.mul_comm (2 ^ 3996)] at h4
    exact absurd (Nat.lt_of_lt_of_le h4 (Nat.le_trans h7 h6)) (Nat.lt_irrefl _)
theorem eucW_zero {g i x : Nat} (h : EucW g i x 0) : x = g := by
  have := h.1
  rwa [Nat.gcd_zero_right] at this
def spGcdW (K : PySem.W.Frag) : Sp := SpF K 2 (fun ds => ∃ a b : Int, ds = [.int a, .int b] ∧ (b.natAbs = 0 ∨ b.natAbs < 2 ^ 1998 * Nat.gcd a.natAbs b.natAbs)) (fun ds d => ∀ a b : Int, ds = [.int a, .int b] → d = .int ((Nat.gcd a.natAbs b.natAbs : Nat) : Int))
def spNumberW (K : PySem.W.Frag) : Sp := SpF K 2 (fun ds => ∃ n d : Int, ds = [.int n, .int d] ∧ d ≠ 0 ∧ n.natAbs < 2 ^ 8100 ∧ d.natAbs < 2 ^ 8100 ∧ d.natAbs < 2 ^ 1998 * Nat.gcd n.natAbs d.natAbs) (fun ds r => ∀ n d : Int, ds = [.int n, .int d] → r = nD (num n d))
theorem small_gcd {a b : Nat} (h : b < 2 ^ 1900) : b = 0 ∨ b < 2 ^ 1998 * Nat.gcd a b := by
  rcases Nat.eq_zero_or_pos b with z | z
  · exact .inl z
  · refine .inr ?_
    have h1 := Nat.gcd_pos_of_pos_right a z
    have h2 : 2 ^ 1998 * 1 ≤ 2 ^ 1998 * Nat.gcd a b := Nat.mul_le_mul_left _ h1
    have h3 : b < 2 ^ 1998 := Nat.lt_of_lt_of_le h (Nat.pow_le_pow_right (by decide) (by decide))
    rw [Nat.mul_one] at h2
    exact Nat.lt_of_lt_of_le h3 h2
theorem Has.imp {P : Program} {w : World} {K : PySem.W.Frag} {mg : Str → Option Value} {base : Heap} {k : Nat} {x : Str} {ps : List Str} {sp sp' : Sp} (H : Has P w K mg base k x ps sp) (h : ∀ vs h Q E, sp' vs h Q E → sp vs h Q E) : Has P w K mg base k x ps sp' := by
  obtain ⟨f, fd, F, h1, h2, h3⟩ := H
  exact ⟨f, fd, F.imp h, h1, h2, h3⟩
theorem numberW_weak {P : Program} {w : World} {K : PySem.W.Frag} {mg : Str → Option Value} {base : Heap} {k : Nat} {x : Str} {ps : List Str} (H : Has P w K mg base k x ps (spNumberW K)) : Has P w K mg base k x ps (spNumber K) :=
  H.imp fun vs h Q E q => by
    obtain ⟨b, ds, h1, h2, h3, ⟨x, y, e, h0, hx, hy⟩, h5⟩ := q
    exact ⟨b, ds, h1, h2, h3, ⟨x, y, e, h0, Nat.lt_of_lt_of_le hx (Nat.pow_le_pow_right (by decide) (by decide)), Nat.lt_of_lt_of_le hy (Nat.pow_le_pow_right (by decide) (by decide)), (small_gcd hy).resolve_left (by omega)⟩, h5⟩
section
variable {K : PySem.W.Frag} {σ : L2.St} {b h : Hp} {ts : TA} {E : XK} {r s : Rat}
end
end Md
set_option Elab.async false
set_option linter.all false
set_option maxRecDepth 100000
set_option maxHeartbeats 2000000
namespace Md
open PySem L2 Evl
structure PlV where
  g : Int × Int
  k : Option Bool
  bs : List BrC
def kdV : Option Bool → Str
  | none => "draw"
  | some true => "ours"
  | some false => "theirs"
def PlV.el (p : PlV) : List PyData := match p.k with
  | none => p.bs.map brC
  | some _ => p.bs.map fun q => PyData.int (q.2 : Int)
def PlV.D (p : PlV) : PyData := .tuple [nD p.g, .str (kdV p.k), .list p.el]
def gvD (G : List PlV) : PyData := .list (G.map PlV.D)
theorem el_len (p : PlV) : p.el.length = p.bs.length := by
  unfold PlV.el
  split <;> exact List.length_map _
def tkQ (o : Bool) (l : List Rat) : Rat := if o = true then hiQ (fun j => l.getD j 0) l.length else loQ (fun j => l.getD j 0) l.length
theorem getDq_mem {l : List Rat} {j : Nat} (h : j < l.length) : l.getD j 0 ∈ l := by
  rw [List.getD_eq_getElem?_getD, List.getElem?_eq_getElem h]
  exact List.getElem_mem h
theorem tk_mem {o : Bool} {l : List Rat} (h : 0 < l.length) : tkQ o l ∈ l := by
  unfold tkQ
  split
  · obtain ⟨j, h1, h2⟩ := hi_mem (f := fun j => l.getD j 0) h l.length (Nat.le_refl _)
    rw [h2]
    exact getDq_mem h1
  · obtain ⟨j, h1, h2⟩ := lo_mem (f := fun j => l.getD j 0) h l.length (Nat.le_refl _)
    rw [h2]
    exact getDq_mem h1
theorem mem_getD {l : List Rat} {y : Rat} (h : y ∈ l) : ∃ j, j < l.length ∧ l.getD j 0 = y := by
  obtain ⟨j, hj, rfl⟩ := List.mem_iff_getElem.mp h
  exact ⟨j, hj, by rw [List.getD_eq_getElem?_getD, List.getElem?_eq_getElem hj]; rfl⟩
theorem tk_hi {l : List Rat} {y : Rat} (h : y ∈ l) : y ≤ tkQ true l := by
  obtain ⟨j, hj, e⟩ := mem_getD h
  show y ≤ hiQ _ _
  have := hi_ge (f := fun j => l.getD j 0) hj
  rw [← e]
  exact this
theorem tk_lo {l : List Rat} {y : Rat} (h : y ∈ l) : tkQ false l ≤ y := by
  obtain ⟨j, hj, e⟩ := mem_getD h
  show loQ _ _ ≤ y
  have := lo_le (f := fun j => l.getD j 0) hj
  rw [← e]
  exact this
theorem tk_is {o : Bool} {l : List Rat} {m : Rat} (hm : m ∈ l) (h : ∀ y ∈ l, if o = true then y ≤ m else m ≤ y) : tkQ o l = m := by
  have h0 := h _ (tk_mem (o := o) (List.length_pos_of_mem hm))
  cases o with
  | true =>
    have h1 := tk_hi hm
    rw [if_pos rfl] at h0
    grind
  | false =>
    have h1 := tk_lo hm
    rw [if_neg (by decide)] at h0
    grind
def vW (p : PlV) (f : Nat → Rat) : Rat := match p.k with
  | none => wsum p.bs f
  | some o => tkQ o (p.bs.map fun q => f q.2)
structure WfV (w n : Nat) (p : PlV) : Prop where
  g : SmallN p.g
  l1 : 1 ≤ p.bs.length
  l6 : p.bs.length ≤ 6
  t : ∀ q ∈ p.bs, q.2 < n
  c : p.k = none → ∀ q ∈ p.bs, SmallN q.1 ∧ 0 ≤ q.1.1
  w : p.k = none → ∃ W : Nat, 0 < W ∧ W ≤ w ∧ ∀ q ∈ p.bs, q.1.2.natAbs ∣ W
  s : p.k = none → (p.bs.map fun q => qN q.1).sum = 1
structure WfVG (w : Nat) (G : List PlV) : Prop where
  l1 : 1 ≤ G.length
  l12 : G.length ≤ 12
  p : ∀ p ∈ G, WfV w G.length p
def vl (G : List PlV) (k : Nat) : PlV := G.getD k ⟨(0, 1), some true, []⟩
theorem vl_get {G : List PlV} {k : Nat} (h : k < G.length) : G[k]? = some (vl G k) := by
  unfold vl
  rw [List.getD_eq_getElem?_getD, List.getElem?_eq_getElem h]
  rfl
theorem vl_mem {G : List PlV} {k : Nat} (h : k < G.length) : vl G k ∈ G := List.mem_of_getElem? (vl_get h)
theorem vl_wf {w : Nat} {G : List PlV} (h : WfVG w G) {k : Nat} (hk : k < G.length) : WfV w G.length (vl G k) := h.p _ (vl_mem hk)
theorem qN_nonneg {p : Int × Int} (h : Red p) (h0 : 0 ≤ p.1) : 0 ≤ qN p := by
  rcases Int.lt_or_eq_of_le h0 with z | z
  · exact Rat.le_of_lt (q_pos h z)
  · unfold qN
    rw [← z, Rat.div_def]
    show (0 : Rat) ≤ ((0 : Int) : Rat) * _
    have : ((0 : Int) : Rat) = 0 := rfl
    rw [this, Rat.zero_mul]
    exact Rat.le_refl
theorem nb_vW {w n M B S : Nat} {p : PlV} {f : Nat → Rat} (hw : WfV w n p) (hS : p.k = none → ∀ q ∈ p.bs, q.1.2.natAbs ∣ S) (hf : ∀ q ∈ p.bs, NB M B (f q.2)) : NB (M * S) B (vW p f) := by
  unfold vW
  split
  · rename_i hk
    have hc := hw.c hk
    have b := part_bd (bs := p.bs) (f := f) (B := B) (fun q hq => qN_nonneg (red_small (hc q hq).1) (hc q hq).2) (fun q hq => ⟨(hf q hq).lo, (hf q hq).hi⟩) (by rw [wsum_one, hw.s hk]; exact Rat.le_refl)
    exact ⟨part_zt fun q hq => ⟨red_small (hc q hq).1, hS hk q hq, (hf q hq).zt⟩, b.1, b.2⟩
  · rename_i o hk
    obtain ⟨q, hq, e⟩ := List.mem_map.mp (tk_mem (o := o) (l := p.bs.map fun q => f q.2) (by rw [List.length_map]; exact hw.l1))
    rw [← e]
    exact (hf q hq).mono (Nat.dvd_mul_right _ _) (Nat.le_refl _)
def wG (G : List PlV) (d : Rat) : Nat → Nat → Rat
  | 0, _ => 0
  | t + 1, k => qN (vl G k).g + d * vW (vl G k) (wG G d t)
theorem disc_le {dn dd : Nat} (h1 : dn ≤ dd) (h2 : 1 ≤ dd) : 0 ≤ natR dn / natR dd ∧ natR dn / natR dd ≤ 1 ∧ Zt dd (natR dn / natR dd) := by
  have p := natR_pos (a := dd) h2
  have h := natR_le h1
  have h0 := natR_nonneg dn
  refine ⟨le_div' p (by grind), div_le' p (by grind), (dn : Int), ?_⟩
  have : natR dd ≠ 0 := by grind
  show natR dn / natR dd * natR dd = natR dn
  exact Rat.div_mul_cancel this
theorem nb_wG {w U S dn dd : Nat} {G : List PlV} (hW : WfVG w G) (hU : ∀ p ∈ G, p.g.2.natAbs ∣ U) (hS : ∀ p ∈ G, p.k = none → ∀ q ∈ p.bs, q.1.2.natAbs ∣ S) (h1 : dn ≤ dd) (h2 : 1 ≤ dd) :
    ∀ t k, k < G.length → NB (U * (S * dd) ^ t) (1000 * t) (wG G (natR dn / natR dd) t k)
  | 0, k, _ => nb_zero _ _
  | t + 1, k, hk => by
    have hw := vl_wf hW hk
    have hm := vl_mem hk
    have ih := nb_wG hW hU hS h1 h2 t
    have a := nb_vW (f := wG G (natR dn / natR dd) t) hw (hS _ hm) fun q hq => ih q.2 (hw.t q hq)
    obtain ⟨d0, d1, dz⟩ := disc_le h1 h2
    have g := q_small hw.g
    have eM : U * (S * dd) ^ (t + 1) = dd * (U * (S * dd) ^ t * S) := by
      rw [Nat.pow_succ]
      simp [Nat.mul_comm, Nat.mul_left_comm, Nat.mul_assoc]
    have eB : natR (1000 * (t + 1)) = natR (1000 * t) + 1000 := by
      rw [Nat.mul_add, natR_add]
      rfl
    have n0 := natR_nonneg (1000 * t)
    have lo := a.lo
    have hi := a.hi
    generalize hv : vW (vl G k) (wG G (natR dn / natR dd) t) = v at *
    have dv : -natR (1000 * t) ≤ natR dn / natR dd * v ∧ natR dn / natR dd * v ≤ natR (1000 * t) := by
      generalize natR dn / natR dd = d at *
      have u1 := Rat.mul_le_mul_of_nonneg_left hi d0
      have u2 := Rat.mul_le_mul_of_nonneg_left lo d0
      have u3 := Rat.mul_le_mul_of_nonneg_right d1 n0
      constructor <;> grind
    show NB _ _ (qN (vl G k).g + natR dn / natR dd * vW (vl G k) (wG G (natR dn / natR dd) t))
    rw [hv]
    refine ⟨Zt.add ((zt_den (red_small hw.g) (hU _ hm)).dvd (Nat.dvd_mul_right _ _)) (by rw [eM]; exact dz.mul a.zt), ?_, ?_⟩
    · rw [eB]; grind
    · rw [eB]; grind
def gainsV (G : List PlV) : List (Int × Int) := G.map (·.g)
def chp (p : PlV) : List (Int × Int) := match p.k with
  | none => p.bs.map (·.1)
  | some _ => []
def chancesV (G : List PlV) : List (Int × Int) := (G.map chp).flatten
theorem chv_mem {G : List PlV} {p : PlV} {q : BrC} (hp : p ∈ G) (hk : p.k = none) (hq : q ∈ p.bs) : q.1 ∈ chancesV G := List.mem_flatten.mpr ⟨_, List.mem_map.mpr ⟨p, hp, rfl⟩, by
  unfold chp
  rw [hk]
  exact List.mem_map.mpr ⟨q, hq, rfl⟩⟩
theorem mem_chv {G : List PlV} {c : Int × Int} (h : c ∈ chancesV G) : ∃ p ∈ G, p.k = none ∧ ∃ q ∈ p.bs, q.1 = c := by
  obtain ⟨l, hl, hc⟩ := List.mem_flatten.mp h
  obtain ⟨p, hp, rfl⟩ := List.mem_map.mp hl
  unfold chp at hc
  split at hc
  · rename_i hk
    obtain ⟨q, hq, rfl⟩ := List.mem_map.mp hc
    exact ⟨p, hp, hk, q, hq, rfl⟩
  · cases hc
theorem denV_le {w : Nat} (hw1 : 1 ≤ w) : ∀ {G : List PlV} {n : Nat}, (∀ p ∈ G, WfV w n p) → ∃ M : Nat, 0 < M ∧ M ≤ w ^ G.length ∧ ∀ c ∈ chancesV G, c.2.natAbs ∣ M
  | [], n, _ => ⟨1, by decide, by show 1 ≤ w ^ 0; rw [Nat.pow_zero]; exact Nat.le_refl 1, fun c h => by
    obtain ⟨p, hp, _⟩ := mem_chv h
    cases hp⟩
  | p :: G, n, h => by
    obtain ⟨M, h0, h1, h2⟩ := denV_le hw1 (G := G) (n := n) fun p hp => h p (List.mem_cons_of_mem _ hp)
    have hp := h p (List.mem_cons_self ..)
    obtain ⟨W, w0, w1, w2⟩ : ∃ W : Nat, 0 < W ∧ W ≤ w ∧ (p.k = none → ∀ q ∈ p.bs, q.1.2.natAbs ∣ W) := by
      by_cases hk : p.k = none
      · obtain ⟨W, a, b, c⟩ := hp.w hk
        exact ⟨W, a, b, fun _ => c⟩
      · exact ⟨1, by decide, hw1, fun z => absurd z hk⟩
    refine ⟨M * W, Nat.mul_pos h0 w0, ?_, fun c hc => ?_⟩
    · rw [List.length_cons, Nat.pow_succ]
      exact Nat.mul_le_mul h1 w1
    · obtain ⟨p', hp', hk, q, hq, rfl⟩ := mem_chv hc
      rcases List.mem_cons.mp hp' with rfl | hp'
      · exact Nat.dvd_trans (w2 hk q hq) (Nat.dvd_mul_left _ _)
      · exact Nat.dvd_trans (h2 _ (chv_mem hp' hk hq)) (Nat.dvd_mul_right _ _)
theorem scaleV_ok {w : Nat} (hw1 : 1 ≤ w) {G : List PlV} (h : WfVG w G) : 0 < denL (chancesV G) ∧ denL (chancesV G) ≤ w ^ G.length := by
  obtain ⟨M, h0, h1, h2⟩ := denV_le hw1 h.p
  refine ⟨denL_pos fun c hc => ?_, Nat.le_trans (Nat.le_of_dvd h0 (denL_to h2)) h1⟩
  obtain ⟨p, hp, hk, q, hq, rfl⟩ := mem_chv hc
  exact ((h.p p hp).c hk q hq).1.1
theorem num_cast (z : Int) : ((z : Rat)).num = z := rfl
theorem nb_abs {M B : Nat} {r : Rat} {z : Int} (h : NB M B r) (e : (z : Rat) = r * natR M) : z.natAbs ≤ B * M := by
  have hp := natR_nonneg M
  have u1 := Rat.mul_le_mul_of_nonneg_right h.lo hp
  have u2 := Rat.mul_le_mul_of_nonneg_right h.hi hp
  rw [← e] at u1 u2
  have v2 : z ≤ ((B : Nat) : Int) * ((M : Nat) : Int) := cast_le (by rw [Rat.intCast_mul]; exact u2)
  have v1 : -(((B : Nat) : Int) * ((M : Nat) : Int)) ≤ z := cast_le (by rw [Rat.intCast_neg, Rat.intCast_mul]; have : natR B * natR M = ((B : Int) : Rat) * ((M : Int) : Rat) := rfl; grind)
  have e3 : ((B * M : Nat) : Int) = ((B : Nat) : Int) * ((M : Nat) : Int) := Int.natCast_mul _ _
  rw [← e3] at v1 v2
  omega
end Md
set_option Elab.async false
set_option linter.all false
set_option maxRecDepth 100000
set_option maxHeartbeats 2000000
namespace Md
open PySem L2 Evl
section
variable {K : PySem.W.Frag} {σ : L2.St} {b h : Hp} {te tl tl1 ta tb : TE} {ts : TA} {E : XK} {D : Ends} {tz : TS} {d : PyData} {ds : List PyData}
end
section
variable {K : PySem.W.Frag} {σ : L2.St} {b h : Hp} {te tl tl1 ta tb : TE} {ts : TA} {E : XK} {G : List PlV} {p : PlV}
end
end Md
namespace Md
open PySem L2 Evl
theorem el_draw {p : PlV} (h : p.k = none) : p.el = p.bs.map brC := by unfold PlV.el; rw [h]
theorem el_side {p : PlV} (h : ¬ p.k = none) : p.el = p.bs.map fun q => PyData.int (q.2 : Int) := by
  unfold PlV.el
  split
  · rename_i e; exact absurd e h
  · rfl
end Md
namespace Md
open PySem L2 Evl
end Md
set_option Elab.async false
set_option linter.all false
set_option maxRecDepth 100000
set_option maxHeartbeats 2000000
namespace Md
open PySem L2 Evl
def onw (G : List PlV) (d : Rat) (f : Nat → Rat) (k : Nat) : Rat := qN (vl G k).g + d * vW (vl G k) f
section
variable {K : PySem.W.Frag} {σ : L2.St} {b h : Hp} {ts : TA} {E : XK}
end
theorem zt_den_dvd {M : Nat} {r : Rat} (h : Zt M r) : r.den ∣ M := by
  have := zt_dvd (canon_red r) (M := M) (by rw [q_canon]; exact h)
  have e : (canon r).2.natAbs = r.den := Int.natAbs_natCast _
  rwa [e] at this
theorem nb_big4 {M B : Nat} {r : Rat} (h : NB M B r) (hM : 0 < M) (h1 : M < 2 ^ 1998) (hB : B ≤ 2 ^ 1000) : Big 4000 (canon r) := by
  have h2 : NB M (2 ^ 1000) r := h.mono (Nat.dvd_refl _) hB
  refine h2.big hM (Nat.one_le_two_pow) ?_
  have : 2 ^ 1000 * M < 2 ^ 1000 * 2 ^ 1998 := Nat.mul_lt_mul_of_pos_left h1 (Nat.two_pow_pos _)
  rw [← Nat.pow_add] at this
  exact Nat.lt_of_lt_of_le this (Nat.pow_le_pow_right (by decide) (by decide))
theorem nb_den {M B : Nat} {r : Rat} (h : NB M B r) (hM : 0 < M) (h1 : M < 2 ^ 1998) : r.den < 2 ^ 1998 := Nat.lt_of_le_of_lt (Nat.le_of_dvd hM (zt_den_dvd h.zt)) h1
def ofP : Pl → PlV
  | .draw g bs => ⟨g, none, bs.map fun q => (q.1, q.2.toNat)⟩
  | .side g o ts => ⟨g, some o, ts.map fun t => ((0, 1), t.toNat)⟩
theorem ofP_D {many : Int} {p : Pl} (h : WfP many p) : (ofP p).D = p.D := by
  cases p with
  | draw g bs =>
    obtain ⟨_, _, _, h4, _⟩ := h
    show PyData.tuple [nD g, .str "draw", .list ((bs.map fun q => (q.1, q.2.toNat)).map brC)] = .tuple [nD g, .str "draw", .list (bs.map brD)]
    have e0 : (bs.map fun q => (q.1, q.2.toNat)).map brC = bs.map brD := by
      rw [List.map_map]
      refine List.map_congr_left fun q hq => ?_
      show PyData.tuple [nD q.1, .int ((q.2.toNat : Nat) : Int)] = .tuple [nD q.1, .int q.2]
      rw [Int.toNat_of_nonneg (h4 q hq).1]
    rw [e0]
  | side g o ts =>
    obtain ⟨_, _, _, h4⟩ := h
    show PyData.tuple [nD g, .str (kdV (some o)), .list ((ts.map fun t => ((0, 1), t.toNat)).map fun q : BrC => PyData.int (q.2 : Int))] = .tuple [nD g, .str (if o then "ours" else "theirs"), .list (ts.map PyData.int)]
    have e0 : ((ts.map fun t => ((0, 1), t.toNat)).map fun q : BrC => PyData.int (q.2 : Int)) = ts.map PyData.int := by
      rw [List.map_map]
      refine List.map_congr_left fun t ht => ?_
      show PyData.int ((t.toNat : Nat) : Int) = .int t
      rw [Int.toNat_of_nonneg (h4 t ht).1]
    rw [e0]
    cases o <;> rfl
theorem ofG_D {G : List Pl} (h : WfG G) : gvD (G.map ofP) = gameD G := by
  unfold gvD gameD
  congr 1
  rw [List.map_map]
  exact List.map_congr_left fun p hp => ofP_D (h.2.2 p hp)
theorem sum_cast (ws : List Int) (c : Rat) : (ws.map fun w : Int => (w : Rat) / c).sum = ((ws.sum : Int) : Rat) / c := by
  induction ws with
  | nil =>
    show (0 : Rat) = ((0 : Int) : Rat) / c
    have : ((0 : Int) : Rat) = 0 := rfl
    rw [this, Rat.div_def, Rat.zero_mul]
  | cons w ws ih =>
    rw [List.map_cons, List.sum_cons, List.sum_cons, ih, Rat.intCast_add, Rat.div_def, Rat.div_def, Rat.div_def]
    grind
theorem ofP_wf {n : Nat} {p : Pl} (h : WfP (n : Int) p) : WfV 30 n (ofP p) := by
  cases p with
  | draw g bs =>
    obtain ⟨h1, h2, h3, h4, ws, w1, w2, w3⟩ := h
    have hsum := sum_small w2
    have hpos := sum_pos w2
    have hs1 : 1 ≤ ws.sum := by omega
    have hc : ∀ q ∈ bs, ∃ w : Int, 1 ≤ w ∧ w ≤ 5 ∧ q.1 = num w ws.sum := fun q hq => by
      have : q.1 ∈ bs.map (·.1) := List.mem_map.mpr ⟨q, hq, rfl⟩
      rw [w3] at this
      obtain ⟨w, hw, e⟩ := List.mem_map.mp this
      exact ⟨w, (w2 w hw).1, (w2 w hw).2, e.symm⟩
    refine ⟨h1, by show 1 ≤ (bs.map _).length; rw [List.length_map]; exact h2, by show (bs.map _).length ≤ 6; rw [List.length_map]; exact h3, fun q hq => ?_, fun _ q hq => ?_, fun _ => ⟨ws.sum.natAbs, by omega, by omega, fun q hq => ?_⟩, fun _ => ?_⟩
    · obtain ⟨q', hq', rfl⟩ := List.mem_map.mp hq
      have := h4 q' hq'
      show q'.2.toNat < n
      omega
    · obtain ⟨q', hq', rfl⟩ := List.mem_map.mp hq
      obtain ⟨w, a, b, e⟩ := hc q' hq'
      show SmallN q'.1 ∧ 0 ≤ q'.1.1
      rw [e]
      refine ⟨num_small (by omega) (by omega) (by omega), ?_⟩
      rw [num_pos (by omega)]
      show 0 ≤ w / _
      exact Int.ediv_nonneg (by omega) (by omega)
    · obtain ⟨q', hq', rfl⟩ := List.mem_map.mp hq
      obtain ⟨w, a, b, e⟩ := hc q' hq'
      show q'.1.2.natAbs ∣ _
      rw [e]
      exact num_dvd (by omega)
    · show ((bs.map fun q => (q.1, q.2.toNat)).map fun q : BrC => qN q.1).sum = 1
      rw [List.map_map]
      have e1 : (bs.map ((fun q : BrC => qN q.1) ∘ fun q => (q.1, q.2.toNat))) = (bs.map (·.1)).map qN := by
        rw [List.map_map]
        rfl
      rw [e1, w3, List.map_map]
      have e2 : (ws.map (qN ∘ fun w => num w ws.sum)) = ws.map fun w : Int => (w : Rat) / ((ws.sum : Int) : Rat) := List.map_congr_left fun w _ => q_num (by omega)
      rw [e2, sum_cast]
      rw [Rat.div_def]
      exact Rat.mul_inv_cancel _ (cast_ne (by omega))
  | side g o ts =>
    obtain ⟨h1, h2, h3, h4⟩ := h
    refine ⟨h1, by show 1 ≤ (ts.map _).length; rw [List.length_map]; exact h2, by show (ts.map _).length ≤ 6; rw [List.length_map]; exact h3, fun q hq => ?_, (fun z => by cases z), (fun z => by cases z), (fun z => by cases z)⟩
    obtain ⟨t, ht, rfl⟩ := List.mem_map.mp hq
    have := h4 t ht
    show t.toNat < n
    omega
theorem ofG_wf {G : List Pl} (h : WfG G) : WfVG 30 (G.map ofP) := by
  refine ⟨by rw [List.length_map]; exact h.1, by rw [List.length_map]; exact h.2.1, fun p hp => ?_⟩
  obtain ⟨p, hp1, rfl⟩ := List.mem_map.mp hp
  rw [List.length_map]
  exact ofP_wf (h.2.2 p hp1)
theorem ofP_g (p : Pl) : (ofP p).g = p.gain := by cases p <;> rfl
end Md
namespace Md
open PySem L2 Evl
end Md
set_option Elab.async false
set_option linter.all false
set_option maxRecDepth 100000
set_option maxHeartbeats 2000000
namespace Md
open PySem L2 Evl
structure Dis (dn dd : Nat) : Prop where
  a : 1 ≤ dn
  b : dn < dd
  c : dd ≤ 1000001
  r : Red ((dn : Int), (dd : Int))
theorem Dis.q2 {dn dd : Nat} (h : Dis dn dd) : qN ((dd : Int), ((dd - dn : Nat) : Int)) = 1 / (1 - natR dn / natR dd) := by
  have hb := h.b
  have p1 := natR_pos (a := dd) (by omega)
  have p2 := natR_pos (a := dd - dn) (by omega)
  have e : natR dd = natR (dd - dn) + natR dn := by
    rw [← natR_add]
    congr 1
    omega
  show natR dd / natR (dd - dn) = _
  have h1 : 1 - natR dn / natR dd = natR (dd - dn) / natR dd := by
    rw [Rat.div_def, Rat.div_def]
    have := Rat.mul_inv_cancel (natR dd) (by grind)
    grind
  rw [h1]
  have a1 : natR dd ≠ 0 := by grind
  have a2 : natR (dd - dn) ≠ 0 := by grind
  generalize natR dd = x at *
  generalize natR (dd - dn) = y at *
  rw [Rat.div_def, Rat.div_def, Rat.div_def, Rat.inv_mul_rev]
  grind
theorem NB.mul {M N B C : Nat} {r s : Rat} (h : NB M B r) (g : NB N C s) : NB (M * N) (B * C) (r * s) := by
  refine ⟨h.zt.mul g.zt, ?_, ?_⟩
  · rw [natR_mul]
    have a1 := h.lo
    have a2 := h.hi
    have c1 := g.lo
    have c2 := g.hi
    have b0 := natR_nonneg B
    have c0 := natR_nonneg C
    generalize natR B = x at *
    generalize natR C = y at *
    rcases Rat.le_total (a := 0) (b := s) with z | z
    · have u1 := Rat.mul_le_mul_of_nonneg_right a1 z
      have u2 := Rat.mul_le_mul_of_nonneg_left c2 b0
      grind
    · have z' : 0 ≤ -s := by grind
      have u1 := Rat.mul_le_mul_of_nonneg_right a2 z'
      have u2 := Rat.mul_le_mul_of_nonneg_left (show -s ≤ y by grind) b0
      grind
  · rw [natR_mul]
    have a1 := h.lo
    have a2 := h.hi
    have c1 := g.lo
    have c2 := g.hi
    have b0 := natR_nonneg B
    have c0 := natR_nonneg C
    generalize natR B = x at *
    generalize natR C = y at *
    rcases Rat.le_total (a := 0) (b := s) with z | z
    · have u1 := Rat.mul_le_mul_of_nonneg_right a2 z
      have u2 := Rat.mul_le_mul_of_nonneg_left c2 b0
      grind
    · have z' : 0 ≤ -s := by grind
      have u1 := Rat.mul_le_mul_of_nonneg_right a1 z'
      have u2 := Rat.mul_le_mul_of_nonneg_left (show -s ≤ y by grind) b0
      grind
section
variable {K : PySem.W.Frag} {σ : L2.St} {b h : Hp} {ts tk : TA} {E : XK} {r s : Rat}
end
end Md
namespace Md
open PySem L2 Evl
end Md
set_option Elab.async false
set_option linter.all false
set_option maxRecDepth 100000
set_option maxHeartbeats 2000000
namespace Md
open PySem L2 Evl
def PoolAt (h : Hp) (q : Addr) : Prop := ∃ pl : List Int, h q = some (.lst (pl.map V.int)) ∧ 2 ≤ pl.length ∧ pl.length ≤ 100000
structure GrQ (q : Addr) (b h b' h' : Hp) : Prop where
  gb : Ex b b'
  gh : ∀ a o, a ≠ q → h a = some o → h' a = some o
  gi : Ex b' h'
  gf : ∀ a, b a = none → h a ≠ none → b' a = none
  pl : PoolAt h' q
theorem PoolAt.some {h : Hp} {q : Addr} (p : PoolAt h q) : h q ≠ none := by
  obtain ⟨pl, e, _⟩ := p
  rw [e]
  intro z
  cases z
theorem PoolAt.up {h h' : Hp} {q : Addr} (p : PoolAt h q) (e : Ex h h') : PoolAt h' q := by
  obtain ⟨pl, e1, e2⟩ := p
  exact ⟨pl, e _ _ e1, e2⟩
section
variable {q : Addr} {b h b1 h1 b2 h2 b' h' : Hp}
theorem Gr.toQ (g : Gr b h b' h') (p : PoolAt h q) : GrQ q b h b' h' := ⟨g.gb, fun a o _ e => g.gh a o e, g.gi, g.gf, p.up g.gh⟩
theorem GrQ.nq (g : GrQ q b h b' h') (p : PoolAt h q) (n : b q = none) : b' q = none := g.gf q n p.some
theorem GrQ.nn (g : GrQ q b h b1 h1) {a : Addr} (p : PoolAt h q) (z : h a ≠ none) : h1 a ≠ none := by
  by_cases e : a = q
  · rw [e]
    exact g.pl.some
  · cases e2 : h a with
    | none => exact absurd e2 z
    | some o =>
      rw [g.gh a o e e2]
      intro z
      cases z
theorem GrQ.trans (p : PoolAt h q) (x : GrQ q b h b1 h1) (y : GrQ q b1 h1 b2 h2) : GrQ q b h b2 h2 := ⟨x.gb.trans y.gb, fun a o n e => y.gh a o n (x.gh a o n e), y.gi, fun a z n => y.gf a (x.gf a z n) (x.nn p n), y.pl⟩
theorem GrQ.stay (e : Ex b h) (p : PoolAt h q) : GrQ q b h b h := (Gr.refl e).toQ p
theorem GrQ.back (e : Ex b b1) (g : GrQ q b h b2 h1) (e1 : Ex b1 h) (n : b1 q = none) : ∃ b3, GrQ q b1 h b3 h1 ∧ Ex b2 b3 ∧ ∀ a, b2 a = none → b1 a = none → b3 a = none := by
  have nq : ∀ {a : Addr} {o : HO}, b1 a = some o → a ≠ q := fun {a o} e z => by
    rw [z, n] at e
    cases e
  refine ⟨fun a => match b2 a with | some o => some o | none => b1 a, ⟨fun a o q1 => ?_, g.gh, fun a o q1 => ?_, fun a q1 n => ?_, g.pl⟩, fun a o q => ?_, fun a z1 z2 => by simp only [z1, z2]⟩
  · cases z : b2 a with
    | none => simpa [z] using q1
    | some u =>
      have h1 := g.gi a u z
      have h2 := g.gh a o (nq q1) (e1 a o q1)
      rw [h1] at h2
      simp [z, h2]
  · cases z : b2 a with
    | none =>
      simp only [z] at q1
      exact g.gh a o (nq q1) (e1 a o q1)
    | some u =>
      simp only [z] at q1
      rw [← q1]
      exact g.gi a u z
  · have z : b2 a = none := g.gf a (fresh_back e q1) n
    simp only [z]
    exact q1
  · simp only [q]
theorem GrQ.mut {p : Addr} {o : HO} (g : GrQ q b h b1 h1) (n : h p = none) (nb : b1 p = none) (np : p ≠ q) : GrQ q b h b1 (upd h1 p o) := by
  refine ⟨g.gb, fun a u na e => ?_, Ex.mut g.gi nb, g.gf, ?_⟩
  · have : a ≠ p := fun z => by rw [z, n] at e; cases e
    rw [upd_ne this]
    exact g.gh a u na e
  · obtain ⟨pl, e1, e2⟩ := g.pl
    exact ⟨pl, by rw [upd_ne (fun z => np z.symm)]; exact e1, e2⟩
theorem GrQ.hid {p : Addr} {o : HO} (g : GrQ q b h b1 h1) (n : h1 p = none) : GrQ q b h b1 (upd h1 p o) := by
  have np : p ≠ q := fun z => g.pl.some (by rw [← z]; exact n)
  refine ⟨g.gb, fun a u na e => ?_, g.gi.trans (Ex.new n), g.gf, ?_⟩
  · have h2 := g.gh a u na e
    have : a ≠ p := fun z => by rw [z, n] at h2; cases h2
    rw [upd_ne this]
    exact h2
  · obtain ⟨pl, e1, e2⟩ := g.pl
    exact ⟨pl, by rw [upd_ne (fun z => np z.symm)]; exact e1, e2⟩
theorem GrQ.tell {p : Addr} {o : HO} (g : GrQ q b h b1 h1) (n : h p = none) (nb : b1 p = none) (hp : h1 p = some o) : GrQ q b h (upd b1 p o) h1 := by
  refine ⟨g.gb.trans (Ex.new nb), g.gh, fun a u q1 => ?_, fun a q1 z => ?_, g.pl⟩
  · by_cases ha : a = p
    · subst ha
      rw [upd_same] at q1
      rw [hp]
      exact q1
    · rw [upd_ne ha] at q1
      exact g.gi a u q1
  · rw [upd_ne (fun ha => z (by rw [ha]; exact n))]
    exact g.gf a q1 z
theorem GrQ.gone (g : GrQ q b h b1 h1) (p : PoolAt h q) {a : Addr} (n : h1 a = none) : h a = none := by
  cases e : h a with
  | none => rfl
  | some o => exact absurd n (g.nn p (by rw [e]; intro z; cases z))
end
def EXQ (K : PySem.W.Frag) (q : Addr) (te : TE) (σ : L2.St) (b : Hp) (R : PyData → Prop) : Prop := ∀ h, Ex b h → PoolAt h q → ∀ Q : VK, (∀ v b' h' d, GrQ q b h b' h' → R d → Dt K b' v d → Q v h') → te σ h Q
def EAQ (K : PySem.W.Frag) (q : Addr) (ta : TA) (σ : L2.St) (b : Hp) (R : List PyData → Prop) : Prop := ∀ h, Ex b h → PoolAt h q → ∀ Q : List V → Hp → Prop, (∀ vs b' h' ds, GrQ q b h b' h' → R ds → DtA K b' vs ds → Q vs h') → ta σ h Q
def IntR (R : Int → Prop) : PyData → Prop := fun d => ∃ i, d = .int i ∧ R i
section
variable {K : PySem.W.Frag} {q : Addr} {σ : L2.St} {b b' h : Hp} {te ta tb : TE} {ts tr : TA} {R S T : PyData → Prop} {RI SI : Int → Prop} {d : PyData}
theorem EXQ.up (x : EXQ K q te σ b R) (e : Ex b b') (n : b' q = none) : EXQ K q te σ b' R := fun h e1 p _ k => x h (e.trans e1) p _ fun v b2 h2 d g r hv => by
  obtain ⟨b3, g3, e3, _⟩ := g.back e e1 n
  exact k v b3 h2 d g3 r (hv.up e3)
theorem EAQ.up {R : List PyData → Prop} (x : EAQ K q ts σ b R) (e : Ex b b') (n : b' q = none) : EAQ K q ts σ b' R := fun h e1 p _ k => x h (e.trans e1) p _ fun v b2 h2 d g r hv => by
  obtain ⟨b3, g3, e3, _⟩ := g.back e e1 n
  exact k v b3 h2 d g3 r (hv.up e3)
theorem EXQ.imp (x : EXQ K q te σ b R) (i : ∀ d, R d → S d) : EXQ K q te σ b S := fun h e p _ k => x h e p _ fun v b2 h2 d g r hv => k v b2 h2 d g (i d r) hv
theorem EX.toQ (x : EX K te σ b R) : EXQ K q te σ b R := fun h e p _ k => x h e _ fun v b2 h2 d g r hv => k v b2 h2 d (g.toQ p) r hv
theorem ED.toQ (x : ED K te σ b d) : EXQ K q te σ b (· = d) := fun h e p _ k => x h e _ fun v b2 h2 g hv => k v b2 h2 d (g.toQ p) rfl hv
theorem Ev.toQ {i : Int} (x : Ev te σ b (.int i)) : EXQ K q te σ b (IntR (· = i)) := (ED.toQ (K := K) (ed_int x)).imp fun d e => ⟨i, e, rfl⟩
end
section
variable {K : PySem.W.Frag} {q : Addr} {σ : L2.St} {b b' h : Hp} {te ta tb : TE} {ts tr : TA} {R S T : PyData → Prop} {RI SI : Int → Prop} {d : PyData} {E : XK}
end
end Md
namespace Md
open PySem L2 Evl
section
variable {K : PySem.W.Frag} {q : Addr} {σ : L2.St} {b b' h : Hp} {te ta tb : TE} {ts tr : TA} {R S T : PyData → Prop} {RI SI : Int → Prop} {d : PyData} {E : XK} {vs : List Nat}
end
end Md
namespace Md
open PySem L2 Evl
end Md
namespace Md
open PySem L2 Evl
end Md
namespace Md
open PySem L2 Evl
end Md
namespace Md
open PySem L2 Evl
section
variable {K : PySem.W.Frag} {σ : L2.St} {b h : Hp} {ts : TA} {D : Ends} {d1 d2 : PyData}
end
end Md
namespace Md
open PySem L2 Evl
section
variable {K : PySem.W.Frag} {q : Addr} {σ : L2.St} {b h : Hp} {ta : TE} {ts : TA} {E : XK} {r s : Rat}
end
end Md
namespace Md
open PySem L2 Evl
end Md
namespace Md
open PySem L2 Evl
end Md
set_option Elab.async false
set_option linter.all false
set_option maxRecDepth 100000
set_option maxHeartbeats 2000000
namespace Md
open PySem L2 Evl
section
variable {K : PySem.W.Frag} {σ : L2.St} {b h : Hp} {ts : TA} {E : XK} {n x t : Nat} {g l : Nat → Rat}
end
end Md
namespace Md
open PySem L2 Evl
section
variable {K : PySem.W.Frag} {q : Addr} {σ : L2.St} {b b' h : Hp} {te tl ta tb : TE} {ts tr : TA} {R S T : PyData → Prop} {RI SI : Int → Prop} {d : PyData} {E : XK} {vs : List Nat} {D : Ends} {tu tw : TS}
theorem GrQ.drop {b1 h1 : Hp} (g : GrQ q b h b1 h1) : GrQ q b h b h1 := ⟨Ex.refl b, g.gh, g.gb.trans g.gi, fun _ z _ => z, g.pl⟩
end
end Md
namespace Md
open PySem L2 Evl
end Md
set_option Elab.async false
set_option linter.all false
set_option maxRecDepth 100000
set_option maxHeartbeats 2000000
namespace Md
open PySem L2 Evl
section
variable {K : PySem.W.Frag} {q p : Addr} {σ : L2.St} {b h : Hp} {te ta tb t1 t2 t3 : TE} {ts : TA} {E : XK} {R : PyData → Prop} {d d1 d2 d3 : PyData} {ds : List PyData} {us : List V} {D : Ends} {tz : TS}
theorem EDh.up {b' : Hp} (x : EDh K te σ b h d) (e : Ex b b') (e2 : Ex b' h) : EDh K te σ b' h d := fun h1 e1 _ q => x h1 e1 _ fun v b2 h2 g hv => by
  obtain ⟨b3, g3, e3, _⟩ := g.back e (e2.trans e1)
  exact q v b3 h2 g3 (hv.up e3)
end
end Md
namespace Md
open PySem L2 Evl
end Md
set_option Elab.async false
set_option linter.all false
set_option maxRecDepth 100000
set_option maxHeartbeats 2000000
namespace Md
open PySem L2 Evl
theorem nice_kdV (k : Option Bool) : Nice 0 20 (.str (kdV k)) := by
  cases k with
  | none => exact nice_kind (.draw (0, 1) [])
  | some o => cases o with
    | true => exact nice_kind (.side (0, 1) true [])
    | false => exact nice_kind (.side (0, 1) false [])
theorem nice_pv {w n : Nat} {p : PlV} (h : WfV w n p) (hn : n ≤ 12) : Nice 4 2000 p.D := by
  have small : ∀ {c : Nat}, c < n → (((c : Nat) : Int)).natAbs < 10 ^ 18 := fun {c} hc => Nat.lt_trans (show (((c : Nat) : Int)).natAbs < 100 by rw [Int.natAbs_natCast]; omega) (by decide +kernel)
  have hl : Nice 3 616 (.list p.el) := by
    cases hk : p.k with
    | none =>
      rw [el_draw hk]
      refine (nice_list (k := 2) (L := 100) (n := 6) (fun d hd => ?_) (by rw [List.length_map]; exact h.l6)).mono (by decide) (by decide)
      obtain ⟨q, hq, rfl⟩ := List.mem_map.mp hd
      refine (nice_tup (k := 1) (L := 46) (n := 2) (fun d hd => ?_) (by show 2 ≤ 2; decide)).mono (by decide) (by decide)
      simp only [List.mem_cons, List.not_mem_nil, or_false] at hd
      rcases hd with rfl | rfl
      · exact nice_num (ok_small (h.c hk q hq).1)
      · exact (nice_int (small (h.t q hq))).mono (by decide) (by decide)
    | some o =>
      rw [el_side (by rw [hk]; intro z; cases z)]
      refine (nice_list (k := 0) (L := 19) (n := 6) (fun d hd => ?_) (by rw [List.length_map]; exact h.l6)).mono (by decide) (by decide)
      obtain ⟨q, hq, rfl⟩ := List.mem_map.mp hd
      exact nice_int (small (h.t q hq))
  refine (nice_tup (k := 3) (L := 616) (n := 3) (fun d hd => ?_) (by show 3 ≤ 3; decide)).mono (by decide) (by decide)
  simp only [List.mem_cons, List.not_mem_nil, or_false] at hd
  rcases hd with rfl | rfl | rfl
  · exact (nice_num (ok_small h.g)).mono (by decide) (by decide)
  · exact (nice_kdV p.k).mono (by decide) (by decide)
  · exact hl
theorem nice_gv {w : Nat} {G : List PlV} (h : WfVG w G) : Nice 5 25000 (gvD G) := by
  refine (nice_list (k := 4) (L := 2000) (n := 12) (fun d hd => ?_) (by rw [List.length_map]; exact h.l12)).mono (by decide) (by decide)
  obtain ⟨p, hp, rfl⟩ := List.mem_map.mp hd
  exact nice_pv (h.p p hp) h.l12
def rTupS (K : PySem.W.Frag) : List V → Hp → VK → Prop := fun xs H Q => ∃ p ys, xs = [V.ref p] ∧ ((SqL K H p ys ∧ ∀ l, H l = none → Q (.ref l) (upd H l (.tup ys))) ∨ (SqT K H p ys ∧ Q (.ref p) H))
section
variable {K : PySem.W.Frag} {q : Addr} {σ : L2.St} {b h : Hp} {te ta tb : TE} {ts : TA} {E : XK} {ds : List PyData} {D : Ends} {tu tz : TS} {g : TG} {RI : Int → Prop}
end
end Md
set_option Elab.async false
set_option linter.all false
set_option maxRecDepth 100000
set_option maxHeartbeats 2000000
namespace Md
open PySem L2 Evl
structure LaY (k : Nat) (d : PyData) : Prop where
  lay : d.canLay0 = true
  dep : d.depth ≤ k
theorem LaY.mono {k l : Nat} {d : PyData} (h : LaY k d) (hl : k ≤ l) : LaY l d := ⟨h.lay, Nat.le_trans h.dep hl⟩
theorem LaY.shaped {k : Nat} {d : PyData} (h : LaY k d) (hk : k ≤ 64) : SeqAt.shaped d = true := by
  unfold SeqAt.shaped
  rw [h.lay, decide_eq_true (Nat.le_trans h.dep hk)]
  rfl
structure RowB (n : Nat) (g l : Nat → Rat) : Prop where
  g : ∀ k, k < n → NB 42 2000000000000 (g k)
  l : ∀ k, k < n → NB 42 2000000000000 (l k)
theorem RowB.big {n : Nat} {g l : Nat → Rat} (h : RowB n g l) {k : Nat} (hk : k < n) : Big 62 (canon (g k)) ∧ Big 62 (canon (l k)) := ⟨(h.g k hk).big (by decide) (by decide) (by decide), (h.l k hk).big (by decide) (by decide) (by decide)⟩
def OwnS (K : PySem.W.Frag) (h b' : Hp) (p : Addr) (u : V) : Prop := (∃ a xs, u = .ref a ∧ h a = none ∧ a ≠ p ∧ b' a = some (.lst xs)) ∨ ∃ t xs, u = .ref t ∧ SqT K b' t xs
def OwnAt (G : List PlV) (h b' : Hp) (p : Addr) (us : List V) : Prop := ∀ j u, us[j]? = some u → (vl G j).k ≠ none → ∃ a xs, u = .ref a ∧ h a = none ∧ a ≠ p ∧ b' a = some (.lst xs)
theorem OwnAt.up {G : List PlV} {h b b' : Hp} {p : Addr} {us : List V} (x : OwnAt G h b p us) (e : Ex b b') : OwnAt G h b' p us := fun j u hj hk => by
  obtain ⟨a, xs, h1, h2, h3, h4⟩ := x j u hj hk
  exact ⟨a, xs, h1, h2, h3, e _ _ h4⟩
theorem OwnAt.of {G : List PlV} {h h0 b : Hp} {p : Addr} {us : List V} (x : OwnAt G h b p us) (e : Ex h0 h) : OwnAt G h0 b p us := fun j u hj hk => by
  obtain ⟨a, xs, h1, h2, h3, h4⟩ := x j u hj hk
  exact ⟨a, xs, h1, fresh_back e h2, h3, h4⟩
section
variable {K : PySem.W.Frag} {σ : L2.St} {b h : Hp} {ts : TA} {E : XK}
end
end Md
namespace Md
open PySem L2 Evl
section
variable {K : PySem.W.Frag} {σ : L2.St} {b h : Hp} {ts : TA} {E : XK}
end
end Md
namespace Md
open PySem L2 Evl
theorem pe_clearK {X : Cx} {K : PySem.W.Frag} {o : Expr} {to : TE} {apos cpos : Pos} (h : X.K = K) (ho : PE X o to) (hbase : attributeBase o "clear" X.env (eval o X.env) = eval o X.env := by rfl) (hline : (apos.endLine == cpos.line) = true := by rfl) :
    PE X (.Call (.Attribute o "clear" apos) [] [] cpos) (tBM0 K "list" rClear to) := h ▸ pe_bm0 PySem.F.plainAttrs_list PySem.F.slot_list_clear PySem.F.type_list_clear mt_clear ho hbase hline
end Md
namespace Md
open PySem L2 Evl
theorem OwnS.up {K : PySem.W.Frag} {h b b' : Hp} {p : Addr} {u : V} (x : OwnS K h b p u) (e : Ex b b') : OwnS K h b' p u := by
  rcases x with ⟨a, xs, rfl, n, np, k⟩ | ⟨t, xs, rfl, k⟩
  · exact Or.inl ⟨a, xs, rfl, n, np, e _ _ k⟩
  · exact Or.inr ⟨t, xs, rfl, ex_t e k⟩
end Md
namespace Md
open PySem L2 Evl
section
variable {K : PySem.W.Frag} {σ : L2.St} {b h : Hp} {ts : TA} {E : XK} {ta tb : TE} {q a t : Addr} {xs ys : List V} {o : HO}
end
end Md
set_option Elab.async false
set_option linter.all false
set_option maxRecDepth 100000
set_option maxHeartbeats 2000000
namespace Md
open PySem L2 Evl
section
variable {C : List PlC}
end
section
variable {K : PySem.W.Frag} {σ : L2.St} {b h : Hp} {ts : TA} {E : XK} {r s : Rat}
end
end Md
namespace Md
open PySem L2 Evl
section
variable {K : PySem.W.Frag} {σ : L2.St} {b h : Hp} {ts tk : TA} {E : XK} {C : List PlC}
end
end Md
set_option Elab.async false
set_option linter.all false
set_option maxRecDepth 100000
set_option maxHeartbeats 2000000
namespace Md
open PySem L2 Evl
structure WfM (C : List PlC) : Prop where
  l1 : 1 ≤ C.length
  q : ∀ x, x < C.length → ∀ q ∈ (plC C x).bs, 0 ≤ qN q.1 ∧ q.2 < C.length
  s : ∀ x, x < C.length → wsum (plC C x).bs (fun _ => 1) = 1
theorem meanM_le {C : List PlC} (h : WfM C) {k : Nat} (hk : k < C.length) {f : Nat → Rat} {c : Rat} (hf : ∀ j, j < C.length → f j ≤ c) : meanC C f k ≤ c := by
  have a : meanC C f k ≤ wsum (plC C k).bs (fun j => c * 1) := wsum_le fun q hq => ⟨(h.q k hk q hq).1, by
    have := hf q.2 (h.q k hk q hq).2
    grind⟩
  have b := wsum_mul (plC C k).bs c (fun _ => 1)
  have d := h.s k hk
  rw [b, d] at a
  grind
theorem meanM_mono {C : List PlC} (h : WfM C) {k : Nat} (hk : k < C.length) {f g : Nat → Rat} (hf : ∀ j, j < C.length → f j ≤ g j) : meanC C f k ≤ meanC C g k := wsum_le fun q hq => ⟨(h.q k hk q hq).1, hf q.2 (h.q k hk q hq).2⟩
theorem WfC.toM {C : List PlC} (h : WfC C) : WfM C := ⟨h.l1, fun x hx q hq => by
  have := (plC_wf h hx).q q hq
  exact ⟨qN_nonneg (red_small this.1) (Int.le_of_lt this.2.1), this.2.2⟩, fun x hx => mean_one h hx⟩
section
variable {C : List PlC} {β : Rat}
def IsWor (C : List PlC) (β : Rat) (e f : Nat → Rat) : Prop := ∀ x, x < C.length → f x = e x + β * meanC C f x
theorem sub_le (h : WfM C) (h0 : 0 ≤ β) (h1 : β < 1) {d : Nat → Rat} (hd : ∀ x, x < C.length → d x ≤ β * meanC C d x) : ∀ x, x < C.length → d x ≤ 0 := by
  have hn := h.l1
  obtain ⟨j, hj, e⟩ := hi_mem (f := d) (by omega : 0 < C.length) C.length (Nat.le_refl _)
  have hm : meanC C d j ≤ d j := meanM_le h hj fun i hi => by
    rw [← e]
    exact hi_ge hi
  have h2 := hd j hj
  have h3 : β * meanC C d j ≤ β * d j := Rat.mul_le_mul_of_nonneg_left hm h0
  have h4 : d j ≤ 0 := by
    rcases (Rat.le_total (a := d j) (b := 0)) with z | z
    · exact z
    · have h5 : 0 ≤ (1 - β) * d j := Rat.mul_nonneg (by grind) z
      have h6 : (1 - β) * d j ≤ 0 := by grind
      have h7 : (1 - β) * d j = 0 := Rat.le_antisymm h6 h5
      rcases Rat.mul_eq_zero.mp h7 with y | y
      · grind
      · grind
  intro x hx
  have : d x ≤ hiQ d C.length := hi_ge hx
  rw [e] at this
  exact Rat.le_trans this h4
theorem wor_ge (h : WfM C) (h0 : 0 ≤ β) (h1 : β < 1) {e f g : Nat → Rat} (hf : ∀ x, x < C.length → f x ≤ e x + β * meanC C f x) (hg : IsWor C β e g) : ∀ x, x < C.length → f x ≤ g x := by
  have := sub_le h h0 h1 (d := fun x => f x - g x) fun x hx => by
    have a := hf x hx
    have b := hg x hx
    rw [mean_sub C f g x]
    grind
  intro x hx
  have := this x hx
  grind
theorem wor_le (h : WfM C) (h0 : 0 ≤ β) (h1 : β < 1) {e f g : Nat → Rat} (hf : ∀ x, x < C.length → e x + β * meanC C f x ≤ f x) (hg : IsWor C β e g) : ∀ x, x < C.length → g x ≤ f x := by
  have := sub_le h h0 h1 (d := fun x => g x - f x) fun x hx => by
    have a := hf x hx
    have b := hg x hx
    rw [mean_sub C g f x]
    grind
  intro x hx
  have := this x hx
  grind
end
end Md
namespace Md
end Md
namespace Md
section
variable {C D : List PlC} {β : Rat} {e w v : Nat → Rat}
end
end Md
namespace Md
def tgV (G : List PlV) (c : Nat → Nat) (x : Nat) : Nat := ((vl G x).bs.getD (c x) ((1, 1), 0)).2
def chV (G : List PlV) (c : Nat → Nat) : List PlC := (List.range G.length).map fun x => if (vl G x).k = none then ⟨(vl G x).g, (vl G x).bs⟩ else ⟨(vl G x).g, [((1, 1), tgV G c x)]⟩
def OkC (G : List PlV) (c : Nat → Nat) : Prop := ∀ x, x < G.length → (vl G x).k ≠ none → c x < (vl G x).bs.length
section
variable {G : List PlV} {c : Nat → Nat} {n : Nat} {f : Nat → Rat}
theorem chV_len : (chV G c).length = G.length := by
  unfold chV
  rw [List.length_map, List.length_range]
theorem chV_at {x : Nat} (hx : x < G.length) : plC (chV G c) x = if (vl G x).k = none then ⟨(vl G x).g, (vl G x).bs⟩ else ⟨(vl G x).g, [((1, 1), tgV G c x)]⟩ := by
  have h1 := plC_get (C := chV G c) (k := x) (by rw [chV_len]; exact hx)
  unfold chV at h1
  rw [List.getElem?_map, List.getElem?_range hx] at h1
  exact (Option.some.inj h1).symm
theorem tgV_lt {w : Nat} (h : WfVG w G) (hc : OkC G c) {x : Nat} (hx : x < G.length) (hk : (vl G x).k ≠ none) : tgV G c x < G.length := by
  have hb := hc x hx hk
  unfold tgV
  rw [List.getD_eq_getElem?_getD, List.getElem?_eq_getElem hb]
  exact (vl_wf h hx).t _ (List.getElem_mem _)
theorem mean_draw {x : Nat} (hx : x < G.length) (hk : (vl G x).k = none) : meanC (chV G c) f x = wsum (vl G x).bs f := by
  unfold meanC
  rw [chV_at hx, if_pos hk]
theorem mean_side {x : Nat} (hx : x < G.length) (hk : (vl G x).k ≠ none) : meanC (chV G c) f x = f (tgV G c x) := by
  unfold meanC
  rw [chV_at hx, if_neg hk]
  exact wsum_ring _ _
theorem chV_wf {w : Nat} (h : WfVG w G) (hc : OkC G c) : WfM (chV G c) := by
  refine ⟨by rw [chV_len]; exact h.l1, fun x hx q hq => ?_, fun x hx => ?_⟩
  · rw [chV_len] at hx ⊢
    rw [chV_at hx] at hq
    by_cases hk : (vl G x).k = none
    · rw [if_pos hk] at hq
      have := (vl_wf h hx).c hk q hq
      exact ⟨qN_nonneg (red_small this.1) this.2, (vl_wf h hx).t q hq⟩
    · rw [if_neg hk] at hq
      rw [List.mem_singleton.mp hq]
      exact ⟨show (0 : Rat) ≤ qN (1, 1) by decide +kernel, tgV_lt h hc hx hk⟩
  · rw [chV_len] at hx
    by_cases hk : (vl G x).k = none
    · have := mean_draw (c := c) (f := fun _ => 1) hx hk
      unfold meanC at this
      rw [this, wsum_one]
      exact (vl_wf h hx).s hk
    · have := mean_side (c := c) (f := fun _ => 1) hx hk
      unfold meanC at this
      exact this
end
end Md
set_option Elab.async false
set_option linter.all false
set_option maxRecDepth 100000
set_option maxHeartbeats 2000000
namespace Md
open PySem L2 Evl
inductive Sl where
  | d (x : PyData)
  | o (ds : List PyData)
abbrev Gam := List (Option Sl)
abbrev DE := Gam → (PyData → Prop) → Prop
abbrev DN := Gam → (List PyData → Prop) → Prop
abbrev DT := Gam → (Bool → Prop) → Prop
abbrev DO := Gam → (Option Int → Prop) → Prop
abbrev DG := PyData → Gam → (Gam → Prop) → Prop
abbrev DGs := List PyData → Gam → (Gam → Prop) → Prop
structure DEnds where
  nx : Gam → Prop
  rt : PyData → Prop
  ro : List PyData → Prop
  bk : Gam → Prop := fun _ => False
  ct : Gam → Prop := fun _ => False
  rp : List Sl → Prop := fun _ => False
abbrev DS := DEnds → Gam → Prop
def gat : Gam → Nat → Option Sl
  | [], _ => none
  | a :: _, 0 => a
  | _ :: l, i + 1 => gat l i
theorem gat_set : ∀ (Γ : Gam) (i j : Nat) (s : Option Sl), gat (Γ.set i s) j = if i = j ∧ i < Γ.length then s else gat Γ j
  | [], i, j, s => by
    rw [if_neg (fun h => absurd h.2 (Nat.not_lt_zero _))]
    rfl
  | a :: l, 0, 0, s => by
    rw [if_pos ⟨rfl, Nat.zero_lt_succ _⟩]
    rfl
  | a :: l, 0, j + 1, s => by
    rw [if_neg (fun h => by have := h.1; omega)]
    rfl
  | a :: l, i + 1, 0, s => by
    rw [if_neg (fun h => by have := h.1; omega)]
    rfl
  | a :: l, i + 1, j + 1, s => by
    show gat (l.set i s) j = if i + 1 = j + 1 ∧ i + 1 < (a :: l).length then s else gat l j
    rw [gat_set l i j s]
    have e : (i + 1 = j + 1 ∧ i + 1 < (a :: l).length) ↔ (i = j ∧ i < l.length) := by
      rw [List.length_cons]
      omega
    simp only [e]
theorem gat_lt : ∀ {Γ : Gam} {i : Nat} {s : Sl}, gat Γ i = some s → i < Γ.length
  | [], _, _, h => by cases h
  | _ :: _, 0, _, _ => Nat.zero_lt_succ _
  | _ :: l, i + 1, _, h => Nat.succ_lt_succ (gat_lt (Γ := l) h)
def allD : Gam → Gam
  | [] => []
  | some (.o ds) :: l => some (.d (.list ds)) :: allD l
  | some (.d x) :: l => some (.d x) :: allD l
  | none :: l => none :: allD l
def unO : Option Sl → Option Sl
  | some (.o ds) => some (.d (.list ds))
  | s => s
theorem allD_gat : ∀ (Γ : Gam) (i : Nat), gat (allD Γ) i = unO (gat Γ i)
  | [], _ => rfl
  | some (.o ds) :: l, 0 => rfl
  | some (.d x) :: l, 0 => rfl
  | none :: l, 0 => rfl
  | some (.o ds) :: l, i + 1 => allD_gat l i
  | some (.d x) :: l, i + 1 => allD_gat l i
  | none :: l, i + 1 => allD_gat l i
def wipeG (Γ : Gam) : List Nat → Gam
  | [] => Γ
  | v :: vs => (wipeG Γ vs).set v none
theorem wipeG_len (Γ : Gam) : ∀ vs : List Nat, (wipeG Γ vs).length = Γ.length
  | [] => rfl
  | v :: vs => by unfold wipeG; rw [List.length_set, wipeG_len Γ vs]
theorem wipeG_some {Γ : Gam} {i : Nat} {s : Sl} : ∀ {vs : List Nat}, gat (wipeG Γ vs) i = some s → gat Γ i = some s ∧ i ∉ vs
  | [], h => ⟨h, by simp⟩
  | v :: vs, h => by
    unfold wipeG at h
    rw [gat_set] at h
    by_cases c : v = i ∧ v < (wipeG Γ vs).length
    · rw [if_pos c] at h
      cases h
    · rw [if_neg c] at h
      have l := gat_lt h
      obtain ⟨h1, h2⟩ := wipeG_some h
      refine ⟨h1, fun z => ?_⟩
      rcases List.mem_cons.mp z with z | z
      · exact c ⟨z.symm, by rw [← z]; exact l⟩
      · exact h2 z
section
variable {K : PySem.W.Frag}
structure RelD (K : PySem.W.Frag) (b : Hp) (Γ : Gam) (σ : L2.St) : Prop where
  len : σ.length = Γ.length
  d : ∀ i x, gat Γ i = some (.d x) → ∃ v, σ[i]? = some (some v) ∧ Dt K b v x
theorem RelD.up {b b' : Hp} {Γ : Gam} {σ : L2.St} (r : RelD K b Γ σ) (e : Ex b b') : RelD K b' Γ σ := ⟨r.len, fun i x h => by
  obtain ⟨v, h1, h2⟩ := r.d i x h
  exact ⟨v, h1, h2.up e⟩⟩
theorem RelD.set {b : Hp} {Γ : Gam} {σ : L2.St} (r : RelD K b Γ σ) {i : Nat} {v : V} {x : PyData} (h : Dt K b v x) : RelD K b (Γ.set i (some (.d x))) (σ.set i (some v)) := by
  refine ⟨by rw [List.length_set, List.length_set, r.len], fun j y e => ?_⟩
  rw [gat_set] at e
  by_cases c : i = j ∧ i < Γ.length
  · rw [if_pos c] at e
    obtain ⟨rfl, c⟩ := c
    cases e
    exact ⟨v, by rw [List.getElem?_set_self (by rw [r.len]; exact c)], h⟩
  · rw [if_neg c] at e
    have hj := gat_lt e
    have hij : i ≠ j := fun z => c ⟨z, by rw [z]; exact hj⟩
    rw [List.getElem?_set_ne hij]
    exact r.d j y e
theorem RelD.wipe {b : Hp} {Γ : Gam} {σ : L2.St} (r : RelD K b Γ σ) (vs : List Nat) : RelD K b (wipeG Γ vs) (L2.wipe σ vs) := by
  refine ⟨by rw [wipe_length, wipeG_len, r.len], fun j y e => ?_⟩
  obtain ⟨h1, h2⟩ := wipeG_some e
  rw [L2.wipe_out h2]
  exact r.d j y h1
end
end Md
namespace Md
open PySem L2 Evl
def EXA (K : PySem.W.Frag) (ta : TA) (σ : L2.St) (b : Hp) (P : List PyData → Prop) : Prop := ∀ h, Ex b h → ∀ Q : List V → Hp → Prop, (∀ vs b' h' ds, Gr b h b' h' → P ds → DtA K b' vs ds → Q vs h') → ta σ h Q
def ENX (K : PySem.W.Frag) (te : TE) (σ : L2.St) (b : Hp) (P : List PyData → Prop) : Prop := ∀ h, Ex b h → ∀ Q : VK, (∀ p us b' h' ds, h p = none → b' p = none → Gr b h b' h' → h' p = some (.lst us) → DtA K b' us ds → P ds → Q (.ref p) h') → te σ h Q
def ETX (tt : TT) (σ : L2.St) (b : Hp) (P : Bool → Prop) : Prop := ∀ h, Ex b h → ∀ Q : Bool → Hp → Prop, (∀ c h', Ex h h' → P c → Q c h') → tt σ h Q
def SimE (K : PySem.W.Frag) (te : TE) (de : DE) : Prop := ∀ σ Γ b, RelD K b Γ σ → ∀ P, de Γ P → EX K te σ b P
def SimA (K : PySem.W.Frag) (ta : TA) (da : DN) : Prop := ∀ σ Γ b, RelD K b Γ σ → ∀ P, da Γ P → EXA K ta σ b P
def SimN (K : PySem.W.Frag) (te : TE) (dn : DN) : Prop := ∀ σ Γ b, RelD K b Γ σ → ∀ P, dn Γ P → ENX K te σ b P
def SimT (K : PySem.W.Frag) (tt : TT) (dt : DT) : Prop := ∀ σ Γ b, RelD K b Γ σ → ∀ P, dt Γ P → ETX tt σ b P
def onI : PyData → (Int → Prop) → Prop
  | .int i, k => k i
  | _, _ => False
def onB : PyData → (Bool → Prop) → Prop
  | .bool i, k => k i
  | _, _ => False
def onL : PyData → (List PyData → Prop) → Prop
  | .list i, k => k i
  | _, _ => False
def onT : PyData → (List PyData → Prop) → Prop
  | .tuple i, k => k i
  | _, _ => False
theorem onI_is {x : PyData} {k : Int → Prop} (h : onI x k) : ∃ i, x = .int i ∧ k i := by
  cases x with
  | int i => exact ⟨i, rfl, h⟩
  | _ => cases h
theorem onB_is {x : PyData} {k : Bool → Prop} (h : onB x k) : ∃ i, x = .bool i ∧ k i := by
  cases x with
  | bool i => exact ⟨i, rfl, h⟩
  | _ => cases h
theorem onL_is {x : PyData} {k : List PyData → Prop} (h : onL x k) : ∃ i, x = .list i ∧ k i := by
  cases x with
  | list i => exact ⟨i, rfl, h⟩
  | _ => cases h
theorem onT_is {x : PyData} {k : List PyData → Prop} (h : onT x k) : ∃ i, x = .tuple i ∧ k i := by
  cases x with
  | tuple i => exact ⟨i, rfl, h⟩
  | _ => cases h
def dVar (i : Nat) : DE := fun Γ P => match gat Γ i with
  | some (.d x) => P x
  | _ => False
def dC (d : PyData) : DE := fun _ P => P d
def dTup (da : DN) : DE := fun Γ P => da Γ fun ds => ds.length ≤ 100000 ∧ P (.tuple ds)
def dLst (da : DN) : DN := fun Γ P => da Γ fun ds => ds.length ≤ 100000 ∧ P ds
def dOfN (dn : DN) : DE := fun Γ P => dn Γ fun ds => P (.list ds)
def dNil : DN := fun _ P => P []
def dCons (de : DE) (da : DN) : DN := fun Γ P => de Γ fun x => da Γ fun ds => P (x :: ds)
def dII (da db : DE) (g : Int → Int → (PyData → Prop) → Prop) : DE := fun Γ P => da Γ fun x => db Γ fun y => onI x fun i => onI y fun j => g i j P
def dAdd (da db : DE) : DE := dII da db fun i j P => P (.int (i + j))
def dSub (da db : DE) : DE := dII da db fun i j P => P (.int (i - j))
def dMul (da db : DE) : DE := dII da db fun i j P => CMul i j ∧ P (.int (i * j))
def dMulW (da db : DE) : DE := dII da db fun i j P => CMulW i j ∧ P (.int (i * j))
def dLt (da db : DE) : DE := dII da db fun i j P => P (.bool (decide (i < j)))
def dLe (da db : DE) : DE := dII da db fun i j P => P (.bool (decide (i ≤ j)))
def dGt (da db : DE) : DE := dII da db fun i j P => P (.bool (decide (j < i)))
def dGe (da db : DE) : DE := dII da db fun i j P => P (.bool (decide (j ≤ i)))
def dIxL (da db : DE) : DE := fun Γ P => da Γ fun x => db Γ fun y => onL x fun ds => onI y fun i => ∃ d, L2.atI ds i = some d ∧ P d
def dIxT (da db : DE) : DE := fun Γ P => da Γ fun x => db Γ fun y => onT x fun ds => onI y fun i => ∃ d, L2.atI ds i = some d ∧ P d
def dEqD (da db : DE) : DE := fun Γ P => da Γ fun x => db Γ fun y => SeqAt.shaped x = true ∧ SeqAt.shaped y = true ∧ P (.bool (PyData.eqv x y))
def dNeD (da db : DE) : DE := fun Γ P => da Γ fun x => db Γ fun y => SeqAt.shaped x = true ∧ SeqAt.shaped y = true ∧ P (.bool (!PyData.eqv x y))
def eqS : PyData → PyData → Option Bool
  | .int i, .int j => some (decide (i = j))
  | .str i, .str j => some (decide (i = j))
  | .bool i, .bool j => some (decide (i = j))
  | .none, .none => some true
  | .int _, .none => some false
  | .none, .int _ => some false
  | _, _ => none
def dEqS (da db : DE) : DE := fun Γ P => da Γ fun x => db Γ fun y => ∃ c, eqS x y = some c ∧ P (.bool c)
def dNeS (da db : DE) : DE := fun Γ P => da Γ fun x => db Γ fun y => ∃ c, eqS x y = some c ∧ P (.bool (!c))
def dIsN (da : DE) : DE := fun Γ P => da Γ fun x => P (.bool (isNo x))
def dNotN (da : DE) : DE := fun Γ P => da Γ fun x => P (.bool (!isNo x))
def dIf (dt : DT) (da db : DE) : DE := fun Γ P => dt Γ fun c => if c = true then da Γ P else db Γ P
def dTest (de : DE) : DT := fun Γ P => de Γ fun x => onB x P
def dNot (dt : DT) : DT := fun Γ P => dt Γ fun c => P (!c)
def dAnd (dt du : DT) : DT := fun Γ P => dt Γ fun c => if c = true then du Γ P else P false
def dOr (dt du : DT) : DT := fun Γ P => dt Γ fun c => if c = true then P true else du Γ P
def dYes : DT := fun _ P => P true
def dAndV (da db : DE) : DE := fun Γ P => da Γ fun x => onB x fun c => if c = true then db Γ P else P (.bool false)
def dOrV (da db : DE) : DE := fun Γ P => da Γ fun x => onB x fun c => if c = true then P (.bool true) else db Γ P
def dNotV (da : DE) : DE := fun Γ P => da Γ fun x => onB x fun c => P (.bool (!c))
def dPNone : DO := fun _ P => P none
def dPart (de : DE) : DO := fun Γ P => de Γ fun x => onI x fun i => P (some i)
def dSl (de : DE) (dl dh : DO) : DN := fun Γ P => de Γ fun x => dl Γ fun l => dh Γ fun u => onL x fun ds => P (cutD ds l u)
def dCat (da db : DE) : DN := fun Γ P => da Γ fun x => db Γ fun y => onL x fun ds => onL y fun es => ds.length + es.length ≤ 100000 ∧ P (ds ++ es)
def dRep (da db : DE) : DN := fun Γ P => da Γ fun x => db Γ fun y => onL x fun ds => onI y fun k => (0 ≤ k ∧ ds.length * k.toNat ≤ 100000 ∧ k < 2 ^ 63) ∧ P (List.replicate k.toNat ds).flatten
def onSq : PyData → (List PyData → Prop) → Prop
  | .list i, k => k i
  | .tuple i, k => k i
  | _, _ => False
def dLen (da : DE) : DE := fun Γ P => da Γ fun x => onSq x fun ds => P (.int (ds.length : Int))
def dListOf (da : DE) : DN := fun Γ P => da Γ fun x => onSq x P
def dInt1 (da : DE) : DE := fun Γ P => da Γ fun x => match x with
  | .int i => P (.int i)
  | .bool c => P (.int (if c then 1 else 0))
  | _ => False
def dAbs (da : DE) : DE := fun Γ P => da Γ fun x => onI x fun i => P (.int (i.natAbs : Int))
abbrev Con := List PyData → (PyData → Prop) → Prop
def spP (K : PySem.W.Frag) (R : Con) : Sp := fun vs h Q _ => ∃ (b : Hp) (ds : List PyData) (P : PyData → Prop), Ex b h ∧ DtA K b vs ds ∧ R ds P ∧ ∀ v b' h' x, Gr b h b' h' → P x → Dt K b' v x → Q v h'
abbrev ConN := List PyData → (List PyData → Prop) → Prop
def spN (K : PySem.W.Frag) (R : ConN) : Sp := fun vs h Q _ => ∃ (b : Hp) (ds : List PyData) (P : List PyData → Prop), Ex b h ∧ DtA K b vs ds ∧ R ds P ∧ ∀ p us b' h' xs, h p = none → b' p = none → Gr b h b' h' → h' p = some (.lst us) → DtA K b' us xs → P xs → Q (.ref p) h'
def dCall (R : Con) (da : DN) : DE := fun Γ P => da Γ fun ds => R ds P
def dCallN (R : ConN) (da : DN) : DN := fun Γ P => da Γ fun ds => R ds P
def dCallK (n m : Nat) (R : Con) (da dk : DN) : DE := fun Γ P => da Γ fun ds => dk Γ fun es => ds.length = n ∧ es.length = m ∧ R (ds ++ es) P
def dCallKN (n m : Nat) (R : ConN) (da dk : DN) : DN := fun Γ P => da Γ fun ds => dk Γ fun es => ds.length = n ∧ es.length = m ∧ R (ds ++ es) P
section
variable {K : PySem.W.Frag} {te ta tb : TE} {ts tk tr : TA} {da db de : DE} {dn dr dk : DN} {tt tu : TT} {dt du : DT} {E : XK} {R : Con} {RN : ConN}
theorem EXA.up {σ : L2.St} {b b' : Hp} {P : List PyData → Prop} (x : EXA K ts σ b P) (e : Ex b b') : EXA K ts σ b' P := fun h e1 _ q => x h (e.trans e1) _ fun v b2 h2 d g hp hv => by
  obtain ⟨b3, g3, e3, _⟩ := g.back e e1
  exact q v b3 h2 d g3 hp (hv.up e3)
theorem z_var {i : Nat} : SimE K (tVar i) (dVar i) := fun σ Γ b r P hp h e Q q => by
  unfold dVar at hp
  cases g : gat Γ i with
  | none =>
    rw [g] at hp
    cases hp
  | some s =>
    rw [g] at hp
    cases s with
    | o ds => cases hp
    | d x =>
      obtain ⟨v, hv, hd⟩ := r.d i x g
      exact ⟨v, hv, q v b h x (Gr.refl e) hp hd⟩
theorem z_c {v : V} {d : PyData} (hd : ∀ H, Dt K H v d) : SimE K (tC v) (dC d) := fun σ Γ b r P hp h e Q q => q v b h d (Gr.refl e) hp (hd b)
theorem z_i {i : Int} : SimE K (tC (.int i)) (dC (.int i)) := z_c fun _ => Dt.int i
theorem z_s {i : Str} : SimE K (tC (.str i)) (dC (.str i)) := z_c fun _ => Dt.str i
theorem z_b {i : Bool} : SimE K (tC (.bl i)) (dC (.bool i)) := z_c fun _ => Dt.bool i
theorem z_nil : SimA K tNil dNil := fun σ Γ b r P hp h e Q q => q [] b h [] (Gr.refl e) hp DtA.nil
theorem z_cons (x : SimE K te de) (y : SimA K tr dr) : SimA K (tCons te tr) (dCons de dr) := fun σ Γ b r P hp h e Q q => x σ Γ b r _ hp h e _ fun v b2 h2 d g2 hp2 hv =>
  y σ Γ b2 (r.up g2.gb) _ hp2 h2 g2.gi _ fun vs b3 h3 ds g3 hp3 hvs => q (v :: vs) b3 h3 (d :: ds) (g2.trans g3) hp3 (DtA.cons (hv.up g3.gb) hvs)
theorem z_tup (x : SimA K ts dn) : SimE K (tTup ts) (dTup dn) := fun σ Γ b r P hp h e Q q => x σ Γ b r _ hp h e _ fun vs b2 h2 ds g2 hp2 hvs =>
  ⟨sz_of (by rw [hvs.length]; exact hp2.1), fun p hpn => q (.ref p) _ _ (.tuple ds) (g2.trans (Gr.new g2.gi hpn)) hp2.2 (Dt.tuple (st_of upd_same) (hvs.up (Ex.new (none_of g2.gi hpn))))⟩
theorem z_lst (x : SimA K ts dn) : SimN K (tLst ts) (dLst dn) := fun σ Γ b r P hp h e Q q => x σ Γ b r _ hp h e _ fun vs b2 h2 ds g2 hp2 hvs =>
  ⟨sz_of (by rw [hvs.length]; exact hp2.1), fun p hpn => q p vs b2 _ ds (gone g2 hpn) (none_of g2.gi hpn) (g2.trans (Gr.hid g2.gi hpn)) upd_same hvs hp2.2⟩
theorem z_ofN (x : SimN K te dn) : SimE K te (dOfN dn) := fun σ Γ b r P hp h e Q q => x σ Γ b r _ hp h e _ fun p us b2 h2 ds np nb g2 hpu hv hp2 =>
  q (.ref p) _ h2 (.list ds) (g2.tell np nb hpu) hp2 (Dt.list upd_same (hv.up (Ex.new nb)))
theorem z_two {r2 : R2} {g : PyData → PyData → (PyData → Prop) → Prop} (x : SimE K ta da) (y : SimE K tb db)
    (hr : ∀ (b h : Hp) (v w : V) (d d' : PyData) (P : PyData → Prop) (Q : VK), Ex b h → Dt K b v d → Dt K b w d' → g d d' P → (∀ v b' h' d, Gr b h b' h' → P d → Dt K b' v d → Q v h') → r2 v w h Q) :
    SimE K (tOp r2 ta tb) (fun Γ P => da Γ fun x => db Γ fun y => g x y P) := fun σ Γ b r P hp h e Q q =>
  x σ Γ b r _ hp h e _ fun v b2 h2 d g2 hp2 hv => y σ Γ b2 (r.up g2.gb) _ hp2 h2 g2.gi _ fun w b3 h3 d' g3 hp3 hw =>
    hr b3 h3 v w d d' P Q g3.gi (hv.up g3.gb) hw hp3 fun v b4 h4 d4 g4 hp4 hv4 => q v b4 h4 d4 ((g2.trans g3).trans g4) hp4 hv4
theorem z_ixL (x : SimE K ta da) (y : SimE K tb db) : SimE K (tOp (rIxL K) ta tb) (dIxL da db) :=
  z_two x y fun b h v w d d' P Q e hv hw hp q => by
    obtain ⟨ds, rfl, hp⟩ := onL_is hp
    obtain ⟨i, rfl, hp⟩ := onI_is hp
    obtain ⟨z, hz, hp⟩ := hp
    obtain ⟨a, xs, rfl, k1, k2⟩ := hv.listI
    obtain ⟨u, hu, hd⟩ := k2.atI hz
    exact ⟨a, xs, i, u, rfl, hw.intI, sq_of (e _ _ k1), hu, q u b h z (Gr.refl e) hp hd⟩
theorem z_ixT (x : SimE K ta da) (y : SimE K tb db) : SimE K (tOp (rIxT K) ta tb) (dIxT da db) :=
  z_two x y fun b h v w d d' P Q e hv hw hp q => by
    obtain ⟨ds, rfl, hp⟩ := onT_is hp
    obtain ⟨i, rfl, hp⟩ := onI_is hp
    obtain ⟨z, hz, hp⟩ := hp
    obtain ⟨a, xs, rfl, k1, k2⟩ := hv.tupleI
    obtain ⟨u, hu, hd⟩ := k2.atI hz
    exact ⟨a, xs, i, u, rfl, hw.intI, ex_t e k1, hu, q u b h z (Gr.refl e) hp hd⟩
theorem eqS_V {b : Hp} {v w : V} {d d' : PyData} {c : Bool} (hv : Dt K b v d) (hw : Dt K b w d') (h : eqS d d' = some c) : L2.scal v w = true ∧ decide (v = w) = c := by
  cases hv <;> cases hw <;> first
    | (cases h; done)
    | (simp only [eqS, Option.some.injEq] at h
       subst h
       refine ⟨rfl, ?_⟩
       first | (simp only [decide_eq_decide, V.int.injEq, V.str.injEq, V.bl.injEq]; done) | rfl | simp)
theorem z_eqS (x : SimE K ta da) (y : SimE K tb db) : SimE K (tOp rEq ta tb) (dEqS da db) :=
  z_two x y fun b h v w d d' P Q e hv hw hp q => by
    obtain ⟨c, hc, hp⟩ := hp
    obtain ⟨h1, h2⟩ := eqS_V hv hw hc
    refine ⟨h1, ?_⟩
    rw [h2]
    exact q _ b h _ (Gr.refl e) hp (Dt.bool _)
end
end Md
namespace Md
open PySem L2 Evl
section
variable {K : PySem.W.Frag} {te ta tb : TE} {ts tk tr : TA} {da db de : DE} {dn dr dk : DN} {tt tu : TT} {dt du : DT} {E : XK} {R : Con} {RN : ConN} {tl th : TO} {dl dh : DO}
theorem z_if (z : SimT K tt dt) (x : SimE K ta da) (y : SimE K tb db) : SimE K (tIf tt ta tb) (dIf dt da db) := fun σ Γ b r P hp h e Q q => z σ Γ b r _ hp h e _ fun c h2 e2 hp2 => by
  have g2 : Gr b h b h2 := Gr.stay e e2
  cases c with
  | true => exact x σ Γ b r _ hp2 h2 g2.gi _ fun v b3 h3 d g3 hp3 hv => q v b3 h3 d (g2.trans g3) hp3 hv
  | false => exact y σ Γ b r _ hp2 h2 g2.gi _ fun v b3 h3 d g3 hp3 hv => q v b3 h3 d (g2.trans g3) hp3 hv
theorem z_test (x : SimE K te de) : SimT K (tTest te) (dTest de) := fun σ Γ b r P hp h e Q q => x σ Γ b r _ hp h e _ fun v b2 h2 d g2 hp2 hv => by
  obtain ⟨c, rfl, hc⟩ := onB_is hp2
  exact ⟨c, hv.boolI, q c h2 g2.gh hc⟩
theorem z_tB (x : SimE K te de) : SimT K (tB te) (dTest de) := fun σ Γ b r P hp h e Q q => x σ Γ b r _ hp h e _ fun v b2 h2 d g2 hp2 hv => by
  obtain ⟨c, rfl, hc⟩ := onB_is hp2
  exact ⟨c, hv.boolI, q c h2 g2.gh hc⟩
theorem z_not (x : SimT K tt dt) : SimT K (tNot tt) (dNot dt) := fun σ Γ b r P hp h e Q q => x σ Γ b r _ hp h e _ fun c h2 e2 hc => q _ h2 e2 hc
theorem z_or (x : SimT K tt dt) (y : SimT K tu du) : SimT K (tOr tt tu) (dOr dt du) := fun σ Γ b r P hp h e Q q => x σ Γ b r _ hp h e _ fun c h2 e2 hc => by
  cases c with
  | true => exact q true h2 e2 hc
  | false => exact y σ Γ b r _ hc h2 (e.trans e2) _ fun c h3 e3 hc => q c h3 (e2.trans e3) hc
theorem z_yes : SimT K tYes dYes := fun σ Γ b r P hp h e Q q => q true h (Ex.refl h) hp
theorem z_one {r1 : List V → Hp → VK → Prop} {g : PyData → (PyData → Prop) → Prop} (x : SimE K ta da)
    (hr : ∀ (b h : Hp) (v : V) (d : PyData) (P : PyData → Prop) (Q : VK), Ex b h → Dt K b v d → g d P → (∀ v b' h' d, Gr b h b' h' → P d → Dt K b' v d → Q v h') → r1 [v] h Q) :
    SimE K (tCB r1 (tCons ta tNil)) (fun Γ P => da Γ fun x => g x P) := fun σ Γ b r P hp h e Q q =>
  x σ Γ b r _ hp h e _ fun v b2 h2 d g2 hp2 hv => hr b2 h2 v d P Q g2.gi hv hp2 fun v b3 h3 d3 g3 hp3 hv3 => q v b3 h3 d3 (g2.trans g3) hp3 hv3
theorem z_oneN {r1 : List V → Hp → VK → Prop} {g : PyData → (List PyData → Prop) → Prop} (x : SimE K ta da)
    (hr : ∀ (b h : Hp) (v : V) (d : PyData) (P : List PyData → Prop) (Q : VK), Ex b h → Dt K b v d → g d P → (∀ p us ds, h p = none → DtA K b us ds → P ds → Q (.ref p) (upd h p (.lst us))) → r1 [v] h Q) :
    SimN K (tCB r1 (tCons ta tNil)) (fun Γ P => da Γ fun x => g x P) := fun σ Γ b r P hp h e Q q =>
  x σ Γ b r _ hp h e _ fun v b2 h2 d g2 hp2 hv => hr b2 h2 v d P Q g2.gi hv hp2 fun p us ds np hu hp3 =>
    q p us b2 _ ds (gone g2 np) (none_of g2.gi np) (g2.trans (Gr.hid g2.gi np)) upd_same hu hp3
theorem onSq_is {x : PyData} {k : List PyData → Prop} (h : onSq x k) : ∃ i, (x = .list i ∨ x = .tuple i) ∧ k i := by
  cases x with
  | list i => exact ⟨i, .inl rfl, h⟩
  | tuple i => exact ⟨i, .inr rfl, h⟩
  | _ => cases h
theorem Dt.seqI {b h : Hp} {v : V} {x : PyData} {ds : List PyData} (hv : Dt K b v x) (e : Ex b h) (hx : x = .list ds ∨ x = .tuple ds) : ∃ a xs, v = V.ref a ∧ (SqL K h a xs ∨ SqT K h a xs) ∧ DtA K b xs ds := by
  rcases hx with rfl | rfl
  · obtain ⟨a, xs, rfl, k1, k2⟩ := hv.listI
    exact ⟨a, xs, rfl, .inl (sq_of (e _ _ k1)), k2⟩
  · obtain ⟨a, xs, rfl, k1, k2⟩ := hv.tupleI
    exact ⟨a, xs, rfl, .inr (ex_t e k1), k2⟩
theorem z_len (x : SimE K ta da) : SimE K (tCB (rLenS K) (tCons ta tNil)) (dLen da) := z_one (da := da) x fun b h v d P Q e hv hp q => by
  obtain ⟨ds, hx, hp⟩ := onSq_is hp
  obtain ⟨a, xs, rfl, h1, h2⟩ := hv.seqI e hx
  refine ⟨a, xs, rfl, h1, ?_⟩
  rw [h2.length]
  exact q _ b h _ (Gr.refl e) hp (Dt.int _)
theorem z_list (x : SimE K ta da) : SimN K (tCB (rListS K) (tCons ta tNil)) (dListOf da) := z_oneN (da := da) x fun b h v d P Q e hv hp q => by
  obtain ⟨ds, hx, hp⟩ := onSq_is hp
  obtain ⟨a, xs, rfl, h1, h2⟩ := hv.seqI e hx
  exact ⟨a, xs, rfl, h1, fun l hl => q l xs ds hl h2 hp⟩
theorem z_int1 (x : SimE K ta da) : SimE K (tCB rInt1 (tCons ta tNil)) (dInt1 da) := z_one (da := da) x fun b h v d P Q e hv hp q => by
  cases d with
  | int i => exact .inl ⟨i, by rw [hv.intI], q _ b h _ (Gr.refl e) hp (Dt.int _)⟩
  | bool i => exact .inr ⟨i, by rw [hv.boolI], q _ b h _ (Gr.refl e) hp (Dt.int _)⟩
  | _ => cases hp
theorem z_abs (x : SimE K ta da) : SimE K (tCB rAbs (tCons ta tNil)) (dAbs da) := z_one (da := da) x fun b h v d P Q e hv hp q => by
  obtain ⟨i, rfl, hp⟩ := onI_is hp
  refine ⟨i, by rw [hv.intI], ?_⟩
  have e3 : (if i < 0 then -i else i) = (i.natAbs : Int) := by split <;> omega
  rw [e3]
  exact q _ b h _ (Gr.refl e) hp (Dt.int _)
def dSum (da : DE) : DE := fun Γ P => da Γ fun x => ∃ ns : List Int, x = .list (ns.map PyData.int) ∧ P (.int ns.sum)
def dMax (da : DE) : DE := fun Γ P => da Γ fun x => ∃ ns : List Int, x = .list (ns.map PyData.int) ∧ 0 < ns.length ∧ ∀ m, m ∈ ns → (∀ y, y ∈ ns → y ≤ m) → P (.int m)
def dMin (da : DE) : DE := fun Γ P => da Γ fun x => ∃ ns : List Int, x = .list (ns.map PyData.int) ∧ 0 < ns.length ∧ ∀ m, m ∈ ns → (∀ y, y ∈ ns → m ≤ y) → P (.int m)
def dAll (da : DE) : DE := fun Γ P => da Γ fun x => ∃ bs : List Bool, x = .list (bs.map PyData.bool) ∧ P (.bool (bs.all id))
def dAny (da : DE) : DE := fun Γ P => da Γ fun x => ∃ bs : List Bool, x = .list (bs.map PyData.bool) ∧ P (.bool (bs.any id))
def dRepr (da : DE) : DE := fun Γ P => da Γ fun x => (∃ ds, x = .list ds ∨ x = .tuple ds) ∧ x.showable = true ∧ x.hasDict = false ∧ x.depth ≤ 60 ∧ x.shown.length ≤ sizeLine ∧ P (.str x.shown)
def dIsi (T : String) (da : DE) : DE := fun Γ P => da Γ fun x => ∃ c, kitB (kindD x) T = some c ∧ P (.bool c)
def dTupOf (da : DE) : DE := fun Γ P => da Γ fun x => onL x fun ds => P (.tuple ds)
def dMax2 (da db : DE) : DE := dII da db fun i j P => P (.int (if j > i then j else i))
def dMin2 (da db : DE) : DE := dII da db fun i j P => P (.int (if j < i then j else i))
def dGcd (da db : DE) : DE := dII da db fun i j P => P (.int ((Nat.gcd i.natAbs j.natAbs : Nat) : Int))
def dLcm (da db : DE) : DE := dII da db fun i j P => (i.natAbs < 2 ^ 13000 ∧ j.natAbs < 2 ^ 13000) ∧ P (.int ((Nat.lcm i.natAbs j.natAbs : Nat) : Int))
def dFdiv (da db : DE) : DE := dII da db fun i j P => CDivW i j ∧ P (.int (i / j))
def dModI (da db : DE) : DE := dII da db fun i j P => 0 < j ∧ P (.int (i % j))
def dNeg (da : DE) : DE := fun Γ P => da Γ fun x => onI x fun i => P (.int (-i))
def dInD (da db : DE) : DE := fun Γ P => da Γ fun x => db Γ fun y => onL y fun ds => SeqAt.shaped x = true ∧ SeqAt.shaped (.list ds) = true ∧ P (.bool (ds.any fun z => PyData.eqv z x))
def dNiD (da db : DE) : DE := fun Γ P => da Γ fun x => db Γ fun y => onL y fun ds => SeqAt.shaped x = true ∧ SeqAt.shaped (.list ds) = true ∧ P (.bool (!ds.any fun z => PyData.eqv z x))
theorem dta_ints {b : Hp} : ∀ {ns : List Int} {us : List V}, DtA K b us (ns.map PyData.int) → us = ns.map V.int
  | [], _, h => by
    cases h
    rfl
  | n :: ns, _, h => by
    cases h with
    | cons h1 h2 =>
      rw [h1.intI, dta_ints h2]
      rfl
theorem dta_bools {b : Hp} : ∀ {ns : List Bool} {us : List V}, DtA K b us (ns.map PyData.bool) → us = ns.map V.bl
  | [], _, h => by
    cases h
    rfl
  | n :: ns, _, h => by
    cases h with
    | cons h1 h2 =>
      rw [h1.boolI, dta_bools h2]
      rfl
theorem z_sum (x : SimE K ta da) : SimE K (tCB (rSum K) (tCons ta tNil)) (dSum da) := z_one (da := da) x fun b h v d P Q e hv hp q => by
  obtain ⟨ns, rfl, hp⟩ := hp
  obtain ⟨a, xs, rfl, k1, k2⟩ := hv.listI
  obtain rfl := dta_ints k2
  exact ⟨a, ns, rfl, sq_of (e _ _ k1), q _ b h _ (Gr.refl e) hp (Dt.int _)⟩
theorem z_max (x : SimE K ta da) : SimE K (tCB (rMax K) (tCons ta tNil)) (dMax da) := z_one (da := da) x fun b h v d P Q e hv hp q => by
  obtain ⟨ns, rfl, h0, hp⟩ := hp
  obtain ⟨a, xs, rfl, k1, k2⟩ := hv.listI
  obtain rfl := dta_ints k2
  exact ⟨a, ns, rfl, sq_of (e _ _ k1), h0, fun m h1 h2 => q _ b h _ (Gr.refl e) (hp m h1 h2) (Dt.int _)⟩
theorem z_min (x : SimE K ta da) : SimE K (tCB (rMin K) (tCons ta tNil)) (dMin da) := z_one (da := da) x fun b h v d P Q e hv hp q => by
  obtain ⟨ns, rfl, h0, hp⟩ := hp
  obtain ⟨a, xs, rfl, k1, k2⟩ := hv.listI
  obtain rfl := dta_ints k2
  exact ⟨a, ns, rfl, sq_of (e _ _ k1), h0, fun m h1 h2 => q _ b h _ (Gr.refl e) (hp m h1 h2) (Dt.int _)⟩
theorem z_all (x : SimE K ta da) : SimE K (tCB (rAll K) (tCons ta tNil)) (dAll da) := z_one (da := da) x fun b h v d P Q e hv hp q => by
  obtain ⟨ns, rfl, hp⟩ := hp
  obtain ⟨a, xs, rfl, k1, k2⟩ := hv.listI
  obtain rfl := dta_bools k2
  exact ⟨a, ns, rfl, sq_of (e _ _ k1), q _ b h _ (Gr.refl e) hp (Dt.bool _)⟩
theorem z_any (x : SimE K ta da) : SimE K (tCB (rAny K) (tCons ta tNil)) (dAny da) := z_one (da := da) x fun b h v d P Q e hv hp q => by
  obtain ⟨ns, rfl, hp⟩ := hp
  obtain ⟨a, xs, rfl, k1, k2⟩ := hv.listI
  obtain rfl := dta_bools k2
  exact ⟨a, ns, rfl, sq_of (e _ _ k1), q _ b h _ (Gr.refl e) hp (Dt.bool _)⟩
theorem z_repr (x : SimE K ta da) : SimE K (tCB (rRepr K) (tCons ta tNil)) (dRepr da) := z_one (da := da) x fun b h v d P Q e hv hp q => by
  obtain ⟨⟨ds, hx⟩, h1, h2, h3, h4, hp⟩ := hp
  obtain ⟨a, xs, rfl, k1, k2⟩ := hv.seqI e hx
  exact ⟨a, _, rfl, Dt.dp _ _ (hv.up e), h1, h2, h3, h4, q _ b h _ (Gr.refl e) hp (Dt.str _)⟩
def rMin2 : List V → Hp → VK → Prop := fun xs H Q => ∃ i j, xs = [.int i, .int j] ∧ Q (.int (if j < i then j else i)) H
theorem z_call (x : SimA K ts dn) : SimE K (tCall (spP K R) [] E ts) (dCall R dn) := fun σ Γ b r P hp h e Q q => x σ Γ b r _ hp h e _ fun vs b2 h2 ds g2 hp2 hvs =>
  ⟨b2, ds, P, g2.gi, by rw [List.append_nil]; exact hvs, hp2, fun v b3 h3 d g3 hp3 hv => q v b3 h3 d (g2.trans g3) hp3 hv⟩
theorem z_callN (x : SimA K ts dn) : SimN K (tCall (spN K RN) [] E ts) (dCallN RN dn) := fun σ Γ b r P hp h e Q q => x σ Γ b r _ hp h e _ fun vs b2 h2 ds g2 hp2 hvs =>
  ⟨b2, ds, P, g2.gi, by rw [List.append_nil]; exact hvs, hp2, fun p us b3 h3 xs np nb g3 hpu hu hp3 => q p us b3 h3 xs (gone g2 np) nb (g2.trans g3) hpu hu hp3⟩
end
end Md
namespace Md
open PySem L2 Evl
section
variable {K : PySem.W.Frag} {te ta tb : TE} {ts tk tr : TA} {da db de : DE} {dn dr dk : DN} {tt tu : TT} {dt du : DT} {E : XK} {R : Con} {RN : ConN} {tl th : TO} {dl dh : DO}
def dPow (da db : DE) : DE := dII da db fun i j P => CPow i j ∧ P (.int (i ^ j.toNat))
def dIsB (da db : DE) : DE := fun Γ P => da Γ fun x => db Γ fun y => onB x fun i => onB y fun j => P (.bool (decide (i = j)))
def dNotB (da db : DE) : DE := fun Γ P => da Γ fun x => db Γ fun y => onB x fun i => onB y fun j => P (.bool (!decide (i = j)))
def cI (g : Int → Int → Bool) : PyData → PyData → (PyData → Prop) → Prop := fun x y P => onI x fun i => onI y fun j => P (.bool (g i j))
def dChain (g1 g2 : Int → Int → Bool) (da db dc : DE) : DE := fun Γ P => da Γ fun x => db Γ fun y => cI g1 x y fun c => onB c fun c => if c = true then dc Γ fun z => cI g2 y z P else P (.bool false)
end
structure Put (js : List Nat) (Γ : Gam) (σ : L2.St) (Γ' : Gam) (σ' : L2.St) : Prop where
  ls : σ'.length = σ.length
  lg : Γ'.length = Γ.length
  out : ∀ i, i ∉ js → σ'[i]? = σ[i]? ∧ gat Γ' i = gat Γ i
  ino : ∀ i ds, i ∈ js → gat Γ' i = some (.o ds) → False
theorem Put.refl {Γ : Gam} {σ : L2.St} : Put [] Γ σ Γ σ := ⟨rfl, rfl, fun _ _ => ⟨rfl, rfl⟩, fun i ds h => by cases h⟩
theorem Put.trans {js ks : List Nat} {Γ Γ1 Γ2 : Gam} {σ σ1 σ2 : L2.St} (x : Put js Γ σ Γ1 σ1) (y : Put ks Γ1 σ1 Γ2 σ2) : Put (js ++ ks) Γ σ Γ2 σ2 := by
  refine ⟨y.ls.trans x.ls, y.lg.trans x.lg, fun i h => ?_, fun i ds h e => ?_⟩
  · have h1 := x.out i fun z => h (List.mem_append_left _ z)
    have h2 := y.out i fun z => h (List.mem_append_right _ z)
    exact ⟨h2.1.trans h1.1, h2.2.trans h1.2⟩
  · by_cases k : i ∈ ks
    · exact y.ino i ds k e
    · rcases List.mem_append.mp h with h | h
      · rw [(y.out i k).2] at e
        exact x.ino i ds h e
      · exact k h
theorem Put.one {Γ : Gam} {σ : L2.St} {i : Nat} {v : V} {x : PyData} : Put [i] Γ σ (Γ.set i (some (.d x))) (σ.set i (some v)) := by
  refine ⟨List.length_set, List.length_set, fun j h => ?_, fun j ds h e => ?_⟩
  · have hij : i ≠ j := fun z => h (by rw [z]; exact List.mem_cons_self)
    exact ⟨List.getElem?_set_ne hij, by rw [gat_set, if_neg (fun z => hij z.1)]⟩
  · obtain rfl := List.mem_singleton.mp h
    rw [gat_set] at e
    by_cases c : j = j ∧ j < Γ.length
    · rw [if_pos c] at e
      cases e
    · rw [if_neg c] at e
      exact c ⟨rfl, gat_lt e⟩
theorem wipe_at {σ : L2.St} {i : Nat} : ∀ {vs : List Nat}, i ∈ vs → (L2.wipe σ vs)[i]? = if i < σ.length then some none else none
  | [], h => by cases h
  | v :: vs, h => by
    show ((L2.wipe σ vs).set v none)[i]? = _
    rw [List.getElem?_set, wipe_length]
    by_cases c : v = i
    · subst c
      rw [if_pos rfl]
    · rw [if_neg c]
      rcases List.mem_cons.mp h with h | h
      · exact absurd h.symm c
      · exact wipe_at h
theorem Put.wipe {js vs : List Nat} {Γ Γ' : Gam} {σ0 σ' : L2.St} (x : Put js Γ (L2.wipe σ0 vs) Γ' σ') (h : ∀ i ∈ js, i ∈ vs) : L2.wipe σ' vs = L2.wipe σ0 vs := by
  refine List.ext_getElem? fun i => ?_
  by_cases k : i ∈ vs
  · rw [wipe_at k, wipe_at k, x.ls, wipe_length]
  · rw [L2.wipe_out k, (x.out i fun z => k (h i z)).1]
def SimG (K : PySem.W.Frag) (g : TG) (dg : DG) (js : List Nat) : Prop := ∀ σ Γ b h v x, RelD K b Γ σ → Dt K b v x → Ex b h → ∀ P, dg x Γ P → ∀ Q : L2.St → Hp → Prop, (∀ σ' Γ', RelD K b Γ' σ' → Put js Γ σ Γ' σ' → P Γ' → Q σ' h) → g v σ h Q
def SimGs (K : PySem.W.Frag) (g : TGs) (dg : DGs) (js : List Nat) : Prop := ∀ σ Γ b h vs xs, RelD K b Γ σ → DtA K b vs xs → Ex b h → ∀ P, dg xs Γ P → ∀ Q : L2.St → Hp → Prop, (∀ σ' Γ', RelD K b Γ' σ' → Put js Γ σ Γ' σ' → P Γ' → Q σ' h) → g vs σ h Q
def dgN (i : Nat) : DG := fun x Γ P => P (Γ.set i (some (.d x)))
def dgNil : DGs := fun xs Γ P => xs = [] ∧ P Γ
def dgCons (g : DG) (gs : DGs) : DGs := fun xs Γ P => match xs with
  | x :: r => g x Γ fun Γ1 => gs r Γ1 P
  | [] => False
def dgT (n : Nat) (gs : DGs) : DG := fun x Γ P => onT x fun ds => ds.length = n ∧ gs ds Γ P
section
variable {K : PySem.W.Frag}
theorem g_name {i : Nat} : SimG K (gName i) (dgN i) [i] := fun σ Γ b h v x r hv e P hp Q q => q _ _ (r.set hv) Put.one hp
theorem g_nil : SimGs K gNil dgNil [] := fun σ Γ b h vs xs r hv e P hp Q q => by
  obtain ⟨rfl, hp⟩ := hp
  cases hv
  exact ⟨rfl, q σ Γ r Put.refl hp⟩
theorem g_cons {g : TG} {gs : TGs} {dg : DG} {dgs : DGs} {js ks : List Nat} (x : SimG K g dg js) (y : SimGs K gs dgs ks) : SimGs K (gCons g gs) (dgCons dg dgs) (js ++ ks) := fun σ Γ b h vs xs r hv e P hp Q q => by
  cases hv with
  | nil => cases hp
  | cons h1 h2 =>
    exact ⟨_, _, rfl, x σ Γ b h _ _ r h1 e _ hp _ fun σ1 Γ1 r1 p1 hp1 => y σ1 Γ1 b h _ _ r1 h2 e _ hp1 _ fun σ2 Γ2 r2 p2 hp2 => q σ2 Γ2 r2 (p1.trans p2) hp2⟩
theorem g_tup {n : Nat} {gs : TGs} {dgs : DGs} {js : List Nat} (x : SimGs K gs dgs js) : SimG K (gTup K n gs) (dgT n dgs) js := fun σ Γ b h v d r hv e P hp Q q => by
  obtain ⟨ds, rfl, hl, hp1⟩ := onT_is hp
  obtain ⟨a, xs, rfl, k1, k2⟩ := hv.tupleI
  exact ⟨a, xs, rfl, ex_t e k1, by rw [k2.length]; exact hl, x σ Γ b h _ _ r k2 e _ hp1 _ q⟩
end
def WalkD (K : PySem.W.Frag) (J : It) (xs : List PyData) (b1 : Hp) : Prop := ∃ (G : Hp → Prop) (Y : Nat → Hp → V → Hp → Prop), Walk J xs.length G Y ∧ (∀ h, Ex b1 h → G h) ∧
  ∀ i x b2 h2 v h3, xs[i]? = some x → Ex b1 b2 → Ex b2 h2 → Y i h2 v h3 → ∃ b3, Gr b2 h2 b3 h3 ∧ Dt K b3 v x
def SimI (K : PySem.W.Frag) (wi : TI) (di : DN) : Prop := ∀ σ Γ b, RelD K b Γ σ → ∀ P, di Γ P → ∀ h, Ex b h → ∀ Rr : It → Hp → Prop, (∀ J h1 b1 xs, Gr b h b1 h1 → P xs → WalkD K J xs b1 → Rr J h1) → wi σ h Rr
def rangeD (lo : Int) (n : Nat) : List PyData := (List.range n).map fun i : Nat => PyData.int (lo + (i : Int))
def zipD (xs ys : List PyData) : List PyData := List.zipWith (fun x y => .tuple [x, y]) xs ys
def enumD (xs : List PyData) : List PyData := zipD ((List.range xs.length).map fun i : Nat => PyData.int (i : Int)) xs
def diL (de : DE) : DN := fun Γ P => de Γ fun x => onL x P
def diT (de : DE) : DN := fun Γ P => de Γ fun x => onT x P
def diR1 (da : DN) : DN := fun Γ P => da Γ fun ds => match ds with
  | [x] => onI x fun n => -(2 ^ 62) ≤ n ∧ n < 2 ^ 62 ∧ P (rangeD 0 n.toNat)
  | _ => False
def diR2 (da : DN) : DN := fun Γ P => da Γ fun ds => match ds with
  | [x, y] => onI x fun m => onI y fun n => (-(2 ^ 62) ≤ m ∧ m < 2 ^ 62 ∧ -(2 ^ 62) ≤ n ∧ n < 2 ^ 62) ∧ P (rangeD m (n - m).toNat)
  | _ => False
def diZ (da : DN) : DN := fun Γ P => da Γ fun ds => match ds with
  | [x, y] => onL x fun xs => onL y fun ys => P (zipD xs ys)
  | _ => False
def diE (da : DN) : DN := fun Γ P => da Γ fun ds => match ds with
  | [x] => onL x fun xs => P (enumD xs)
  | _ => False
section
variable {K : PySem.W.Frag} {te ta tb : TE} {ts tk tr : TA} {da db de : DE} {dn dr dk : DN}
theorem i_list (x : SimE K te de) : SimI K (iList K te) (diL de) := fun σ Γ b r P hp h e Rr k => x σ Γ b r _ hp h e _ fun v b1 h1 d g1 hp1 hv => by
  obtain ⟨ds, rfl, hp2⟩ := onL_is hp1
  obtain ⟨a, xs, rfl, k1, k2⟩ := hv.listI
  refine ⟨a, rfl, ⟨xs, sq_of (g1.gi _ _ k1)⟩, k _ h1 b1 ds g1 hp2 ⟨fun h => SqL K h a xs, YAt xs, ?_, fun h e => sq_of (e _ _ k1), ?_⟩⟩
  · rw [← k2.length]
    exact walk_list
  · rintro i x b2 h2 v h3 hx e2 e3 ⟨rfl, hy⟩
    obtain ⟨d, hd, hv⟩ := k2.getV hy
    rw [hx] at hd
    cases hd
    exact ⟨b2, Gr.refl e3, hv.up e2⟩
theorem walkd_range {lo : Int} {n : Nat} {b1 : Hp} : WalkD K (Itr lo n) (rangeD lo n) b1 := by
  refine ⟨fun _ => True, YFn fun i => .int (lo + i), ?_, fun _ _ => trivial, ?_⟩
  · have e : (rangeD lo n).length = n := by unfold rangeD; rw [List.length_map, List.length_range]
    rw [e]
    exact walk_range
  · rintro i x b2 h2 v h3 hx e2 e3 ⟨rfl, rfl⟩
    unfold rangeD at hx
    rw [List.getElem?_map] at hx
    cases q : (List.range n)[i]? with
    | none =>
      rw [q] at hx
      cases hx
    | some j =>
      rw [q] at hx
      cases hx
      obtain ⟨hj, rfl⟩ := List.getElem?_eq_some_iff.mp q
      rw [List.getElem_range]
      exact ⟨b2, Gr.refl e3, Dt.int _⟩
theorem i_rng1 (x : SimA K ts dn) : SimI K (iRng1 ts) (diR1 dn) := fun σ Γ b r P hp h e Rr k => x σ Γ b r _ hp h e _ fun vs b1 h1 ds g1 hp1 hv => by
  match ds, hv, hp1 with
  | [d], .cons h1' .nil, hp1 =>
    obtain ⟨n, rfl, a1, a2, hp2⟩ := onI_is hp1
    exact ⟨n, by rw [h1'.intI], a1, a2, k _ h1 b1 _ g1 hp2 walkd_range⟩
end
end Md
namespace Md
open PySem L2 Evl
def dLc (di : DN) (dg : DG) (dt : DT) (de : DE) (vs : List Nat) : DN := fun Γ P => di Γ fun xs => xs.length ≤ 40000 ∧ ∃ J : Nat → List PyData → Prop, J 0 [] ∧
  (∀ i x acc, xs[i]? = some x → J i acc → dg x (wipeG Γ vs) fun Γ1 => dt Γ1 fun c => if c = true then de Γ1 fun d => J (i + 1) (acc ++ [d]) else J (i + 1) acc) ∧ ∀ acc, J xs.length acc → P acc
theorem z_lc {K : PySem.W.Frag} {wi : TI} {di : DN} {g : TG} {dg : DG} {tt : TT} {dt : DT} {te : TE} {de : DE} {vs js : List Nat} (hj : ∀ i ∈ js, i ∈ vs) (xi : SimI K wi di) (xg : SimG K g dg js) (xt : SimT K tt dt) (xe : SimE K te de) :
    SimN K (tLc wi g tt te vs) (dLc di dg dt de vs) := fun σ Γ b r P hp h e Q q => xi σ Γ b r _ hp h e _ fun J h1 b1 xs g1 hp1 w => by
  obtain ⟨hl, Jv, j0, jn, je⟩ := hp1
  obtain ⟨G, Y, w, hG, hY⟩ := w
  intro Dl hD
  refine lc_it w (fun i h' => ∃ b2 us acc, Gr b1 h1 b2 h' ∧ b2 Dl = none ∧ h' Dl = some (.lst us) ∧ DtA K b2 us acc ∧ acc.length ≤ i ∧ Jv i acc) ?_ (fun i h' _ p => ?_) ?_ ?_
  · exact ⟨b1, [], [], Gr.hid g1.gi hD, none_of g1.gi hD, upd_same, DtA.nil, Nat.le_refl _, j0⟩
  · obtain ⟨b2, us, acc, g2, _⟩ := p
    exact hG h' (g2.gb.trans g2.gi)
  · rintro i x h2 h3 hi ⟨b2, us, acc, g2, nb, hu, hA, hlen, hJ⟩ hy
    obtain ⟨b3, g3, hx⟩ := hY i xs[i] b2 h2 x h3 (List.getElem?_eq_getElem hi) g2.gb g2.gi hy
    have nb3 : b3 Dl = none := g3.gf Dl nb (by rw [hu]; intro z; cases z)
    have hu3 := g3.gh _ _ hu
    refine xg _ _ b3 h3 x xs[i] ((r.up (g1.gb.trans (g2.gb.trans g3.gb))).wipe vs) hx g3.gi _ (jn i xs[i] acc (List.getElem?_eq_getElem hi) hJ) _ fun σ1 Γ1 r1 p1 hp2 => ?_
    refine ⟨p1.wipe hj, xt σ1 Γ1 b3 r1 _ hp2 h3 g3.gi _ fun c h4 e4 hc => ?_⟩
    have g4 : Gr b3 h3 b3 h4 := Gr.stay g3.gi e4
    have hu4 : h4 Dl = some (.lst us) := e4 _ _ hu3
    cases c with
    | true =>
      show te σ1 h4 _
      refine xe σ1 Γ1 b3 r1 _ hc h4 g4.gi _ fun y b5 h5 d g5 hd hy5 => ⟨us, g5.gh _ _ hu4, sz_lt (by rw [hA.length]; omega), ?_⟩
      have nb5 : b5 Dl = none := g5.gf Dl nb3 (by rw [hu4]; intro z; cases z)
      exact ⟨b5, us ++ [y], acc ++ [d], ((g2.trans g3).trans (g4.trans g5)).mut hD nb5, nb5, upd_same, ((hA.up g3.gb).up g5.gb).append (DtA.one hy5), by rw [List.length_append]; exact Nat.succ_le_succ hlen, hd⟩
    | false =>
      exact ⟨b3, us, acc, (g2.trans g3).trans g4, nb3, hu4, hA.up g3.gb, Nat.le_succ_of_le hlen, hc⟩
  · rintro h' ⟨b2, us, acc, g2, nb, hu, hA, _, hJ⟩
    exact q Dl us b2 h' acc (gone g1 hD) nb (g1.trans g2) hu hA (je acc hJ)
structure Rel (K : PySem.W.Frag) (b0 h0 bf b h : Hp) (Γ : Gam) (σ : L2.St) : Prop where
  r : RelD K b Γ σ
  g : Gr b0 h0 b h
  f : Ex bf b
  o : ∀ i ds, gat Γ i = some (.o ds) → ∃ p us, σ[i]? = some (some (.ref p)) ∧ h p = some (.lst us) ∧ b p = none ∧ h0 p = none ∧ DtA K b us ds
  u : ∀ i j ds es p, i ≠ j → gat Γ i = some (.o ds) → gat Γ j = some (.o es) → σ[i]? = some (some (.ref p)) → σ[j]? = some (some (.ref p)) → False
structure Parts (K : PySem.W.Frag) (b h h0 : Hp) (us : List V) (sls : List Sl) : Prop where
  l : us.length = sls.length
  d : ∀ (i : Nat) (x : PyData), sls[i]? = some (Sl.d x) → ∃ v, us[i]? = some v ∧ Dt K b v x
  o : ∀ (i : Nat) (ds : List PyData), sls[i]? = some (Sl.o ds) → ∃ p ws, us[i]? = some (V.ref p) ∧ h p = some (.lst ws) ∧ b p = none ∧ h0 p = none ∧ DtA K b ws ds
  u : ∀ (i j : Nat) (ds es : List PyData) (p : Addr), i ≠ j → sls[i]? = some (Sl.o ds) → sls[j]? = some (Sl.o es) → us[i]? = some (V.ref p) → us[j]? = some (V.ref p) → False
structure Match (K : PySem.W.Frag) (b0 h0 bf : Hp) (D : Ends) (DD : DEnds) : Prop where
  nx : ∀ b h Γ σ, Rel K b0 h0 bf b h Γ σ → DD.nx Γ → D.nx σ h
  bk : ∀ b h Γ σ, Rel K b0 h0 bf b h Γ σ → DD.bk Γ → D.bk σ h
  ct : ∀ b h Γ σ, Rel K b0 h0 bf b h Γ σ → DD.ct Γ → D.ct σ h
  rt : ∀ b h v x, Gr b0 h0 b h → Dt K b v x → DD.rt x → D.rt v h
  ro : ∀ b h p us ds, Gr b0 h0 b h → b p = none → h0 p = none → h p = some (.lst us) → DtA K b us ds → DD.ro ds → D.rt (.ref p) h
  rp : ∀ b h t us sls, Gr b0 h0 b h → b t = none → h0 t = none → h t = some (.tup us) → Parts K b h h0 us sls → DD.rp sls → D.rt (.ref t) h
def SimS (K : PySem.W.Frag) (ts : TS) (ds : DS) : Prop := ∀ b0 h0 bf D DD, Match K b0 h0 bf D DD → ∀ b h Γ σ, Rel K b0 h0 bf b h Γ σ → ds DD Γ → ts D σ h
section
variable {K : PySem.W.Frag} {b0 h0 bf b h b' h' : Hp} {Γ Γ' : Gam} {σ σ' : L2.St}
theorem Rel.up (x : Rel K b0 h0 bf b h Γ σ) (g : Gr b h b' h') : Rel K b0 h0 bf b' h' Γ σ := ⟨x.r.up g.gb, x.g.trans g, x.f.trans g.gb, fun i ds e => by
  obtain ⟨p, us, h1, h2, h3, h4, h5⟩ := x.o i ds e
  exact ⟨p, us, h1, g.gh _ _ h2, g.gf p h3 (by rw [h2]; intro z; cases z), h4, h5.up g.gb⟩, x.u⟩
theorem Rel.floor {bf' : Hp} (x : Rel K b0 h0 bf b h Γ σ) (e : Ex bf' bf) : Rel K b0 h0 bf' b h Γ σ := ⟨x.r, x.g, e.trans x.f, x.o, x.u⟩
theorem Rel.put {js : List Nat} (x : Rel K b0 h0 bf b h Γ σ) (p : Put js Γ σ Γ' σ') (r : RelD K b Γ' σ') : Rel K b0 h0 bf b h Γ' σ' := by
  have out : ∀ {i ds}, gat Γ' i = some (.o ds) → i ∉ js := fun {i ds} e z => p.ino i ds z e
  refine ⟨r, x.g, x.f, fun i ds e => ?_, fun i j ds es q hij e1 e2 e3 e4 => ?_⟩
  · have o := p.out i (out e)
    obtain ⟨q, us, h1, h2⟩ := x.o i ds (o.2 ▸ e)
    exact ⟨q, us, o.1.trans h1, h2⟩
  · have o1 := p.out i (out e1)
    have o2 := p.out j (out e2)
    exact x.u i j ds es q hij (o1.2 ▸ e1) (o2.2 ▸ e2) (o1.1 ▸ e3) (o2.1 ▸ e4)
theorem Rel.own {i : Nat} {p : Addr} {us : List V} {ds : List PyData} (x : Rel K b0 h0 bf b h Γ σ) (g : Gr b h b' h') (np : h p = none) (nb : b' p = none) (hp : h' p = some (.lst us)) (hA : DtA K b' us ds) (hi : i < Γ.length) :
    Rel K b0 h0 bf b' h' (Γ.set i (some (.o ds))) (σ.set i (some (.ref p))) := by
  have y := x.up g
  have hs : i < σ.length := by rw [x.r.len]; exact hi
  have other : ∀ {j es}, j ≠ i → gat Γ j = some (.o es) → σ[j]? = some (some (.ref p)) → False := fun {j es} hj e e1 => by
    obtain ⟨q, vs, h1, h2, _⟩ := x.o j es e
    rw [e1] at h1
    cases h1
    rw [np] at h2
    cases h2
  refine ⟨⟨by rw [List.length_set, List.length_set, x.r.len], fun j z e => ?_⟩, y.g, y.f, fun j es e => ?_, fun j k es fs q hjk e1 e2 e3 e4 => ?_⟩
  · rw [gat_set] at e
    by_cases c : i = j ∧ i < Γ.length
    · rw [if_pos c] at e
      cases e
    · rw [if_neg c] at e
      rw [List.getElem?_set_ne (fun z => c ⟨z, hi⟩)]
      exact y.r.d j z e
  · rw [gat_set] at e
    by_cases c : i = j ∧ i < Γ.length
    · rw [if_pos c] at e
      cases e
      obtain ⟨rfl, _⟩ := c
      exact ⟨p, us, List.getElem?_set_self hs, hp, nb, gone x.g np, hA⟩
    · rw [if_neg c] at e
      rw [List.getElem?_set_ne (fun z => c ⟨z, hi⟩)]
      exact y.o j es e
  · rw [gat_set] at e1 e2
    by_cases c1 : i = j
    · subst c1
      have c2 : i ≠ k := hjk
      rw [if_neg (fun z => c2 z.1)] at e2
      rw [List.getElem?_set_self hs] at e3
      rw [List.getElem?_set_ne c2] at e4
      cases e3
      exact other (Ne.symm c2) e2 e4
    · rw [if_neg (fun z => c1 z.1)] at e1
      rw [List.getElem?_set_ne c1] at e3
      by_cases c2 : i = k
      · subst c2
        rw [List.getElem?_set_self hs] at e4
        cases e4
        exact other (Ne.symm c1) e1 e3
      · rw [if_neg (fun z => c2 z.1)] at e2
        rw [List.getElem?_set_ne c2] at e4
        exact x.u j k es fs q hjk e1 e2 e3 e4
theorem Rel.mut {i : Nat} {p : Addr} {us : List V} {ds es : List PyData} (x : Rel K b0 h0 bf b h Γ σ) (e : gat Γ i = some (.o ds)) (hs : σ[i]? = some (some (.ref p))) (hA : DtA K b us es) : Rel K b0 h0 bf b (upd h p (.lst us)) (Γ.set i (some (.o es))) σ := by
  obtain ⟨q, vs, h1, h2, h3, h4, h5⟩ := x.o i ds e
  rw [hs] at h1
  cases h1
  have hi := gat_lt e
  refine ⟨⟨by rw [List.length_set, x.r.len], fun j z e1 => ?_⟩, x.g.mut h4 h3, x.f, fun j fs e1 => ?_, fun j k fs gs q hjk e1 e2 e3 e4 => ?_⟩
  · rw [gat_set] at e1
    by_cases c : i = j ∧ i < Γ.length
    · rw [if_pos c] at e1
      cases e1
    · rw [if_neg c] at e1
      exact x.r.d j z e1
  · rw [gat_set] at e1
    by_cases c : i = j ∧ i < Γ.length
    · rw [if_pos c] at e1
      cases e1
      obtain ⟨rfl, _⟩ := c
      exact ⟨p, us, hs, upd_same, h3, h4, hA⟩
    · rw [if_neg c] at e1
      obtain ⟨q, ws, k1, k2, k3, k4, k5⟩ := x.o j fs e1
      refine ⟨q, ws, k1, ?_, k3, k4, k5⟩
      rw [upd_ne]
      · exact k2
      · intro z
        subst z
        exact x.u i j ds fs q (fun z => c ⟨z, hi⟩) e e1 hs k1
  · rw [gat_set] at e1 e2
    have s1 : ∃ fs, gat Γ j = some (.o fs) := by
      by_cases c : i = j
      · exact ⟨ds, c ▸ e⟩
      · rw [if_neg (fun z => c z.1)] at e1
        exact ⟨fs, e1⟩
    have s2 : ∃ fs, gat Γ k = some (.o fs) := by
      by_cases c : i = k
      · exact ⟨ds, c ▸ e⟩
      · rw [if_neg (fun z => c z.1)] at e2
        exact ⟨gs, e2⟩
    obtain ⟨f1, s1⟩ := s1
    obtain ⟨f2, s2⟩ := s2
    exact x.u j k f1 f2 q hjk s1 s2 e3 e4
theorem Rel.all (x : Rel K b0 h0 bf b h Γ σ) : ∃ b1, Ex b b1 ∧ Ex b1 h ∧ RelD K b1 (allD Γ) σ := by
  classical
  let B : Hp := fun a => if ∃ i ds, gat Γ i = some (.o ds) ∧ σ[i]? = some (some (.ref a)) then h a else b a
  have e1 : Ex b B := fun a o ha => by
    show (if _ then _ else _) = _
    by_cases c : ∃ i ds, gat Γ i = some (.o ds) ∧ σ[i]? = some (some (.ref a))
    · obtain ⟨i, ds, c1, c2⟩ := c
      obtain ⟨p, us, k1, k2, k3, _⟩ := x.o i ds c1
      rw [c2] at k1
      cases k1
      rw [ha] at k3
      cases k3
    · rw [if_neg c]
      exact ha
  have e2 : Ex B h := fun a o ha => by
    have ha : (if _ then _ else _) = _ := ha
    by_cases c : ∃ i ds, gat Γ i = some (.o ds) ∧ σ[i]? = some (some (.ref a))
    · rw [if_pos c] at ha
      exact ha
    · rw [if_neg c] at ha
      exact x.g.gi _ _ ha
  have la : ∀ Γ : Gam, (allD Γ).length = Γ.length := fun Γ => by
    induction Γ with
    | nil => rfl
    | cons s l ih =>
      match s with
      | none => exact congrArg Nat.succ ih
      | some (.d x) => exact congrArg Nat.succ ih
      | some (.o x) => exact congrArg Nat.succ ih
  refine ⟨B, e1, e2, ⟨by rw [la, x.r.len], fun i z e => ?_⟩⟩
  rw [allD_gat] at e
  cases q : gat Γ i with
  | none =>
    rw [q] at e
    cases e
  | some s =>
    cases s with
    | d y =>
      rw [q] at e
      cases e
      obtain ⟨v, k1, k2⟩ := x.r.d i _ q
      exact ⟨v, k1, k2.up e1⟩
    | o ds =>
      rw [q] at e
      cases e
      obtain ⟨p, us, k1, k2, k3, k4, k5⟩ := x.o i ds q
      refine ⟨.ref p, k1, Dt.list ?_ (k5.up e1)⟩
      show (if _ then _ else _) = _
      rw [if_pos ⟨i, ds, q, k1⟩]
      exact k2
theorem Rel.forget (x : Rel K b0 h0 bf b h Γ σ) (ws : List Nat) : Rel K b0 h0 bf b h (wipeG Γ ws) σ :=
  ⟨⟨by rw [wipeG_len, x.r.len], fun i y e => x.r.d i y (wipeG_some e).1⟩, x.g, x.f, fun i ds e => x.o i ds (wipeG_some e).1, fun i j ds es p hij e1 e2 => x.u i j ds es p hij (wipeG_some e1).1 (wipeG_some e2).1⟩
def tellG (i : Nat) (Γ : Gam) : Gam := match gat Γ i with
  | some (.o ds) => Γ.set i (some (.d (.list ds)))
  | _ => Γ
theorem Rel.tell (x : Rel K b0 h0 bf b h Γ σ) (i : Nat) : ∃ b1, Ex b b1 ∧ Rel K b0 h0 bf b1 h (tellG i Γ) σ := by
  unfold tellG
  cases q : gat Γ i with
  | none => exact ⟨b, Ex.refl b, x⟩
  | some s =>
    cases s with
    | d y => exact ⟨b, Ex.refl b, x⟩
    | o ds =>
      obtain ⟨p, us, k1, k2, k3, k4, k5⟩ := x.o i ds q
      have en : Ex b (upd b p (.lst us)) := Ex.new k3
      have hi := gat_lt q
      refine ⟨upd b p (.lst us), en, ⟨⟨by rw [List.length_set, x.r.len], fun j z e => ?_⟩, x.g.tell k4 k3 k2, x.f.trans en, fun j es e => ?_, fun j k es fs a hjk e1 e2 e3 e4 => ?_⟩⟩
      · rw [gat_set] at e
        by_cases c : i = j ∧ i < Γ.length
        · rw [if_pos c] at e
          cases e
          obtain ⟨rfl, _⟩ := c
          exact ⟨.ref p, k1, Dt.list upd_same (k5.up en)⟩
        · rw [if_neg c] at e
          obtain ⟨v, l1, l2⟩ := x.r.d j z e
          exact ⟨v, l1, l2.up en⟩
      · rw [gat_set] at e
        by_cases c : i = j ∧ i < Γ.length
        · rw [if_pos c] at e
          cases e
        · rw [if_neg c] at e
          obtain ⟨a, vs, l1, l2, l3, l4, l5⟩ := x.o j es e
          refine ⟨a, vs, l1, l2, ?_, l4, l5.up en⟩
          rw [upd_ne]
          · exact l3
          · intro z
            subst z
            exact x.u i j ds es a (fun z => c ⟨z, hi⟩) q e k1 l1
      · rw [gat_set] at e1 e2
        by_cases c1 : i = j ∧ i < Γ.length
        · rw [if_pos c1] at e1
          cases e1
        · rw [if_neg c1] at e1
          by_cases c2 : i = k ∧ i < Γ.length
          · rw [if_pos c2] at e2
            cases e2
          · rw [if_neg c2] at e2
            exact x.u j k es fs a hjk e1 e2 e3 e4
end
end Md
namespace Md
open PySem L2 Evl
def scD : PyData → Bool
  | .none => true
  | .bool _ => true
  | .int _ => true
  | .str _ => true
  | _ => false
theorem scD_dt {K : PySem.W.Frag} {b b' : Hp} {v : V} {x : PyData} (h : Dt K b v x) (s : scD x = true) : Dt K b' v x := by
  cases h with
  | none => exact Dt.none
  | bool i => exact Dt.bool i
  | int i => exact Dt.int i
  | str i => exact Dt.str i
  | list h1 h2 => cases s
  | tuple h1 h2 => cases s
def dNext : DS := fun DD Γ => DD.nx Γ
def dBreak : DS := fun DD Γ => DD.bk Γ
def dCont : DS := fun DD Γ => DD.ct Γ
def dSeq (t u : DS) : DS := fun DD Γ => t { DD with nx := u DD } Γ
def dCut (ws : List Nat) (t u : DS) : DS := fun DD Γ => ∃ Mid : Gam → Prop, t { DD with nx := fun Γ1 => Mid (wipeG Γ1 ws) } Γ ∧ ∀ Γ', Mid Γ' → u DD Γ'
def dAsg (de : DE) (dg : DG) : DS := fun DD Γ => de Γ fun x => dg x Γ DD.nx
def dAsgS (de : DE) (dg : DG) : DS := fun DD Γ => de (allD Γ) fun x => scD x = true ∧ dg x Γ DD.nx
def dAsgO (i : Nat) (dn : DN) : DS := fun DD Γ => dn Γ fun ds => i < Γ.length ∧ DD.nx (Γ.set i (some (.o ds)))
def dPar (i j : Nat) (da : DN) : DS := fun DD Γ => da Γ fun ds => match ds with
  | [x, y] => DD.nx ((Γ.set i (some (.d x))).set j (some (.d y)))
  | _ => False
def dAug (i : Nat) (f : Int → Int → Int) (de : DE) : DS := fun DD Γ => match gat Γ i with
  | some (.d (.int a)) => de (allD Γ) fun y => onI y fun c => DD.nx (Γ.set i (some (.d (.int (f a c)))))
  | _ => False
def dApp (i : Nat) (de : DE) : DS := fun DD Γ => match gat Γ i with
  | some (.o ds) => de Γ fun x => ds.length < 100000 ∧ DD.nx (Γ.set i (some (.o (ds ++ [x]))))
  | _ => False
def dAppS (i : Nat) (de : DE) : DS := fun DD Γ => match gat Γ i with
  | some (.o ds) => de (allD Γ) fun x => scD x = true ∧ ds.length < 100000 ∧ DD.nx (Γ.set i (some (.o (ds ++ [x]))))
  | _ => False
def dSet (i : Nat) (dj de : DE) : DS := fun DD Γ => match gat Γ i with
  | some (.o ds) => de Γ fun x => dj (allD Γ) fun k => onI k fun k => ∃ j, L2.ixN ds.length k = some j ∧ DD.nx (Γ.set i (some (.o (ds.set j x))))
  | _ => False
def dSetS (i : Nat) (dj de : DE) : DS := fun DD Γ => match gat Γ i with
  | some (.o ds) => de (allD Γ) fun x => scD x = true ∧ dj (allD Γ) fun k => onI k fun k => ∃ j, L2.ixN ds.length k = some j ∧ DD.nx (Γ.set i (some (.o (ds.set j x))))
  | _ => False
def dAugL (i : Nat) (f : Int → Int → Int) (dj de : DE) : DS := fun DD Γ => match gat Γ i with
  | some (.o ds) => dj (allD Γ) fun k => onI k fun k => ∃ (j : Nat) (a : Int), k = (j : Int) ∧ j < 100000 ∧ ds[j]? = some (.int a) ∧ de (allD Γ) fun y => onI y fun c => DD.nx (Γ.set i (some (.o (ds.set j (.int (f a c))))))
  | _ => False
def dIfS (dt : DT) (du dw : DS) : DS := fun DD Γ => dt (allD Γ) fun c => if c = true then du DD Γ else dw DD Γ
def dRet (de : DE) : DS := fun DD Γ => de Γ DD.rt
def dRetS (de : DE) : DS := fun DD Γ => de (allD Γ) fun x => scD x = true ∧ DD.rt x
def dRetN (dn : DN) : DS := fun DD Γ => dn Γ DD.ro
def dRetO (i : Nat) : DS := fun DD Γ => match gat Γ i with
  | some (.o ds) => DD.ro ds
  | _ => False
def dRetNone : DS := fun DD _ => DD.rt .none
def dTell (i : Nat) (t : DS) : DS := fun DD Γ => t DD (tellG i Γ)
def dFor (ws : List Nat) (di : DN) (dg : DG) (du : DS) : DS := fun DD Γ => di Γ fun xs => ∃ I : Nat → Gam → Prop, I 0 (wipeG Γ ws) ∧ (∀ i x Γ', xs[i]? = some x → I i Γ' → dg x Γ' fun Γ1 => du { DD with nx := fun Γ2 => I (i + 1) (wipeG Γ2 ws), ct := fun Γ2 => I (i + 1) (wipeG Γ2 ws), bk := DD.nx } Γ1) ∧ ∀ Γ', I xs.length Γ' → DD.nx Γ'
section
variable {K : PySem.W.Frag} {te ta tb tj : TE} {ts tk tr : TA} {da db de dj : DE} {dn dr dk di : DN} {tt : TT} {dt : DT} {g : TG} {dg : DG} {js : List Nat} {t u w : TS} {dt1 du dw : DS} {wi : TI}
theorem z_next : SimS K tNext dNext := fun b0 h0 bf D DD M b h Γ σ r p => M.nx b h Γ σ r p
theorem z_seq (x : SimS K t dt1) (y : SimS K u du) : SimS K (tSeq t u) (dSeq dt1 du) := fun b0 h0 bf D DD M b h Γ σ r p =>
  x b0 h0 bf { D with nx := u D } { DD with nx := du DD } ⟨fun b h Γ σ r p => y b0 h0 bf D DD M b h Γ σ r p, M.bk, M.ct, M.rt, M.ro, M.rp⟩ b h Γ σ r p
theorem z_asg (x : SimE K te de) (y : SimG K g dg js) : SimS K (tAsg te g) (dAsg de dg) := fun b0 h0 bf D DD M b h Γ σ r p =>
  x σ Γ b r.r _ p h r.g.gi _ fun v b2 h2 d g2 hp hv => y σ Γ b2 h2 v d (r.r.up g2.gb) hv g2.gi _ hp _ fun σ1 Γ1 r1 p1 hp1 => M.nx b2 h2 Γ1 σ1 ((r.up g2).put p1 r1) hp1
theorem z_asgO {i : Nat} (x : SimN K te dn) : SimS K (tAsg te (gName i)) (dAsgO i dn) := fun b0 h0 bf D DD M b h Γ σ r p =>
  x σ Γ b r.r _ p h r.g.gi _ fun q us b2 h2 ds nq nb g2 hq hA hp => M.nx b2 h2 _ _ (r.own g2 nq nb hq hA hp.1) hp.2
theorem z_app {i : Nat} (x : SimE K te de) : SimS K (tDrop (tBM K "list" rAppend (tVar i) (tCons te tNil))) (dApp i de) := fun b0 h0 bf D DD M b h Γ σ r p => by
  unfold dApp at p
  split at p
  next ds e =>
    obtain ⟨q, us, k1, k2, k3, k4, k5⟩ := r.o i ds e
    refine ⟨.ref q, k1, Or.inl ⟨rfl, us, sq_of k2⟩, x σ Γ b r.r _ p h r.g.gi _ fun v b2 h2 d g2 hp hv => ?_⟩
    exact ⟨q, us, v, rfl, rfl, g2.gh _ _ k2, sz_lt (by rw [k5.length]; exact hp.1), M.nx b2 _ _ _ ((r.up g2).mut e k1 ((k5.up g2.gb).append (DtA.one hv))) hp.2⟩
  next => cases p
theorem z_ifS (x : SimT K tt dt) (y : SimS K u du) (z : SimS K w dw) : SimS K (tIfS tt u w) (dIfS dt du dw) := fun b0 h0 bf D DD M b h Γ σ r p => by
  obtain ⟨b1, e1, e2, ra⟩ := r.all
  refine x σ _ b1 ra _ p h e2 _ fun c h2 e3 hp => ?_
  have g3 : Gr b h b h2 := Gr.stay r.g.gi e3
  cases c with
  | true => exact y b0 h0 bf D DD M b h2 Γ σ (r.up g3) hp
  | false => exact z b0 h0 bf D DD M b h2 Γ σ (r.up g3) hp
theorem z_ret (x : SimE K te de) : SimS K (tRet te) (dRet de) := fun b0 h0 bf D DD M b h Γ σ r p => x σ Γ b r.r _ p h r.g.gi _ fun v b2 h2 d g2 hp hv => M.rt b2 h2 v d (r.g.trans g2) hv hp
theorem z_retN (x : SimN K te dn) : SimS K (tRet te) (dRetN dn) := fun b0 h0 bf D DD M b h Γ σ r p => x σ Γ b r.r _ p h r.g.gi _ fun q us b2 h2 ds nq nb g2 hq hA hp => M.ro b2 h2 q us ds (r.g.trans g2) nb (gone r.g nq) hq hA hp
theorem z_retO {i : Nat} : SimS K (tRet (tVar i)) (dRetO i) := fun b0 h0 bf D DD M b h Γ σ r p => by
  unfold dRetO at p
  split at p
  next ds e =>
    obtain ⟨q, us, k1, k2, k3, k4, k5⟩ := r.o i ds e
    exact ⟨.ref q, k1, M.ro b h q us ds r.g k3 k4 k2 k5 p⟩
  next => cases p
theorem for_core {ws : List Nat} {J : It} {xs : List PyData} {b1 h1 b0 h0 bf : Hp} {D : Ends} {DD : DEnds} (M : Match K b0 h0 bf D DD) (w : WalkD K J xs b1) (xg : SimG K g dg js) (xu : SimS K u du) {b : Hp} {Γ : Gam} {σ : L2.St} (fl : Ex bf b1) (r : Rel K b0 h0 b1 b h1 Γ σ)
    (I : Nat → Gam → Prop) (i0 : I 0 Γ) (is : ∀ i x Γ', xs[i]? = some x → I i Γ' → dg x Γ' fun Γ1 => du { DD with nx := fun Γ2 => I (i + 1) (wipeG Γ2 ws), ct := fun Γ2 => I (i + 1) (wipeG Γ2 ws), bk := DD.nx } Γ1) (ie : ∀ Γ', I xs.length Γ' → DD.nx Γ') :
    ∃ W : Nat → Nat → L2.St → Hp → Prop, (∃ m, W 0 m σ h1) ∧ ∀ i m σ H, W i m σ H → (J.stop i H ∧ D.nx σ H) ∨ (J.go i H ∧ ∃ N : L2.St → Hp → Prop, (∀ σ' H', N σ' H' → ∃ m', m' < m ∧ W (i + 1) m' σ' H') ∧ ∀ x H', J.yld i H x H' → g x σ H' fun σ2 H2 => u { D with nx := N, ct := N, bk := D.nx } σ2 H2) := by
  obtain ⟨G, Y, w, hG, hY⟩ := w
  refine for_it w (fun i σ' h' => ∃ b' Γ', Rel K b0 h0 b1 b' h' Γ' σ' ∧ I i Γ') ⟨b, Γ, r, i0⟩ (fun i σ' h' _ p => ?_) (fun i x σ' h2 h3 hi p hy => ?_) (fun σ' h' p => ?_)
  · obtain ⟨b', Γ', r', _⟩ := p
    exact hG h' (r'.f.trans r'.g.gi)
  · obtain ⟨b2, Γ2, r2, hI⟩ := p
    obtain ⟨b3, g3, hx⟩ := hY i xs[i] b2 h2 x h3 (List.getElem?_eq_getElem hi) r2.f r2.g.gi hy
    have r3 := r2.up g3
    refine xg _ _ b3 h3 x xs[i] r3.r hx g3.gi _ (is i xs[i] Γ2 (List.getElem?_eq_getElem hi) hI) _ fun σ1 Γ1 q1 p1 hp1 => ?_
    exact xu b0 h0 b1 { D with nx := fun σ' h' => ∃ b' Γ', Rel K b0 h0 b1 b' h' Γ' σ' ∧ I (i + 1) Γ', ct := fun σ' h' => ∃ b' Γ', Rel K b0 h0 b1 b' h' Γ' σ' ∧ I (i + 1) Γ', bk := D.nx } { DD with nx := fun Γ2 => I (i + 1) (wipeG Γ2 ws), ct := fun Γ2 => I (i + 1) (wipeG Γ2 ws), bk := DD.nx }
      ⟨fun b h Γ σ r p => ⟨b, _, r.forget ws, p⟩, fun b h Γ σ r p => M.nx b h Γ σ (r.floor fl) p, fun b h Γ σ r p => ⟨b, _, r.forget ws, p⟩, M.rt, M.ro, M.rp⟩ b3 h3 Γ1 σ1 (r3.put p1 q1) hp1
  · obtain ⟨b', Γ', r', hI⟩ := p
    exact M.nx b' h' Γ' σ' (r'.floor fl) (ie Γ' hI)
theorem z_for {ws : List Nat} (xi : SimI K wi di) (xg : SimG K g dg js) (xu : SimS K u du) : SimS K (tFor wi g u) (dFor ws di dg du) := fun b0 h0 bf D DD M b h Γ σ r p =>
  xi σ Γ b r.r _ p h r.g.gi _ fun J h1 b1 xs g1 hp1 w => by
    obtain ⟨I, i0, is, ie⟩ := hp1
    have r1 := r.up g1
    exact for_core M w xg xu r1.f (Rel.forget ⟨r1.r, r1.g, Ex.refl b1, r1.o, r1.u⟩ ws) I i0 is ie
end
def startG (n : Nat) (ds : List PyData) : Gam := ds.map (fun x => some (.d x)) ++ List.replicate (n - ds.length) none
theorem startG_gat : ∀ {ds : List PyData} {n i : Nat} {x : PyData}, gat (startG n ds) i = some (.d x) → ds[i]? = some x := fun {ds n i x} h => by
  induction ds generalizing i n with
  | nil =>
    have : ∀ m i, gat (List.replicate m none) i = none := fun m => by
      induction m with
      | zero => exact fun i => rfl
      | succ m ih => exact fun i => match i with
        | 0 => rfl
        | i + 1 => ih i
    have h : gat (List.replicate (n - 0) none) i = _ := h
    rw [this] at h
    cases h
  | cons d ds ih =>
    cases i with
    | zero =>
      have h : some (Sl.d d) = some (.d x) := h
      cases h
      rfl
    | succ i =>
      have h : gat (startG (n - 1) ds) i = some (.d x) := by
        have e : startG n (d :: ds) = some (.d d) :: startG (n - 1) ds := by
          unfold startG
          rw [List.map_cons, List.cons_append, List.length_cons]
          congr 3
          omega
        rw [e] at h
        exact h
      exact ih h
theorem startG_no : ∀ {ds : List PyData} {n i : Nat} {es : List PyData}, gat (startG n ds) i = some (.o es) → False := fun {ds n i es} h => by
  induction ds generalizing i n with
  | nil =>
    have : ∀ m i, gat (List.replicate m none) i = none := fun m => by
      induction m with
      | zero => exact fun i => rfl
      | succ m ih => exact fun i => match i with
        | 0 => rfl
        | i + 1 => ih i
    have h : gat (List.replicate (n - 0) none) i = _ := h
    rw [this] at h
    cases h
  | cons d ds ih =>
    cases i with
    | zero =>
      have h : some (Sl.d d) = some (.o es) := h
      cases h
    | succ i =>
      have h : gat (startG (n - 1) ds) i = some (.o es) := by
        have e : startG n (d :: ds) = some (.d d) :: startG (n - 1) ds := by
          unfold startG
          rw [List.map_cons, List.cons_append, List.length_cons]
          congr 3
          omega
        rw [e] at h
        exact h
      exact ih h
end Md
namespace Md
open PySem L2 Evl
section
variable {K : PySem.W.Frag} {b h : Hp} {vs : List V} {ds : List PyData} {t : TS} {dd : DS} {N : List Str} {Q : VK}
theorem start_relD (hA : DtA K b vs ds) (hl : ds.length ≤ N.length) : RelD K b (startG N.length ds) (L2.start N vs) := by
  refine ⟨?_, fun i x e => ?_⟩
  · unfold L2.start startG
    simp only [List.length_append, List.length_map, List.length_replicate, hA.length]
  · have hx := startG_gat e
    obtain ⟨v, hv, hd⟩ := hA.get hx
    refine ⟨v, ?_, hd⟩
    unfold L2.start
    rw [List.getElem?_append_left (by rw [List.length_map]; exact (List.getElem?_eq_some_iff.mp hv).1), List.getElem?_map, hv]
    rfl
theorem start_rel (eb : Ex b h) (hA : DtA K b vs ds) (hl : ds.length ≤ N.length) : Rel K b h b b h (startG N.length ds) (L2.start N vs) :=
  ⟨start_relD hA hl, Gr.refl eb, Ex.refl b, fun i es e => (startG_no e).elim, fun i j ds es p _ e => (startG_no e).elim⟩
theorem sim_N {Γ : Gam} (S : SimS K t dd) (eb : Ex b h) (hA : DtA K b vs ds) (hl : ds.length ≤ N.length) (hΓ : startG N.length ds = Γ) {P : List PyData → Prop} (p : dd { nx := fun _ => False, rt := fun _ => False, ro := P } Γ)
    (kQ : ∀ p us b' h' xs, h p = none → b' p = none → Gr b h b' h' → h' p = some (.lst us) → DtA K b' us xs → P xs → Q (.ref p) h') : t { nx := fun _ H' => Q .non H', rt := Q } (L2.start N vs) h := by
  subst hΓ
  refine S b h b _ _ ⟨fun b1 h1 Γ σ r p => ?_, fun b1 h1 Γ σ r p => ?_, fun b1 h1 Γ σ r p => ?_, fun b1 h1 v x g hv p => ?_, fun b1 h1 q us es g nb n0 hq hA p => ?_, fun b1 h1 t us sls g nb n0 ht hP p => ?_⟩ b h _ _ (start_rel eb hA hl) p
  · exact p.elim
  · exact p
  · exact p
  · exact p.elim
  · exact kQ q us b1 h1 es n0 nb g hq hA p
  · exact p.elim
end
def con1 (f : PyData → (PyData → Prop) → Prop) : Con := fun ds P => match ds with
  | [a] => f a P
  | _ => False
def con2 (f : PyData → PyData → (PyData → Prop) → Prop) : Con := fun ds P => match ds with
  | [a, b] => f a b P
  | _ => False
def con3 (f : PyData → PyData → PyData → (PyData → Prop) → Prop) : Con := fun ds P => match ds with
  | [a, b, c] => f a b c P
  | _ => False
def con5 (f : PyData → PyData → PyData → PyData → PyData → (PyData → Prop) → Prop) : Con := fun ds P => match ds with
  | [a, b, c, d, e] => f a b c d e P
  | _ => False
def conN1 (f : PyData → (List PyData → Prop) → Prop) : ConN := fun ds P => match ds with
  | [a] => f a P
  | _ => False
def conN2 (f : PyData → PyData → (List PyData → Prop) → Prop) : ConN := fun ds P => match ds with
  | [a, b] => f a b P
  | _ => False
def conN3 (f : PyData → PyData → PyData → (List PyData → Prop) → Prop) : ConN := fun ds P => match ds with
  | [a, b, c] => f a b c P
  | _ => False
theorem con1_is {f ds P} (h : con1 f ds P) : ∃ a, ds = [a] ∧ f a P := by
  match ds, h with
  | [a], h => exact ⟨a, rfl, h⟩
theorem con2_is {f ds P} (h : con2 f ds P) : ∃ a b, ds = [a, b] ∧ f a b P := by
  match ds, h with
  | [a, b], h => exact ⟨a, b, rfl, h⟩
theorem conN1_is {f ds P} (h : conN1 f ds P) : ∃ a, ds = [a] ∧ f a P := by
  match ds, h with
  | [a], h => exact ⟨a, rfl, h⟩
theorem conN2_is {f ds P} (h : conN2 f ds P) : ∃ a b, ds = [a, b] ∧ f a b P := by
  match ds, h with
  | [a, b], h => exact ⟨a, b, rfl, h⟩
theorem lc_map {α : Type} (L : List α) (enc : α → PyData) (r : α → PyData) {dg : DG} {de : DE} {vs : List Nat} {Γ : Gam} {P : List PyData → Prop} (hl : L.length ≤ 40000)
    (h : ∀ a ∈ L, ∀ k : PyData → Prop, k (r a) → dg (enc a) (wipeG Γ vs) fun Γ1 => de Γ1 k) (hp : P (L.map r)) :
    (L.map enc).length ≤ 40000 ∧ ∃ J : Nat → List PyData → Prop, J 0 [] ∧ (∀ i x acc, (L.map enc)[i]? = some x → J i acc → dg x (wipeG Γ vs) fun Γ1 => dYes Γ1 fun c => if c = true then de Γ1 fun d => J (i + 1) (acc ++ [d]) else J (i + 1) acc) ∧ ∀ acc, J (L.map enc).length acc → P acc := by
  refine ⟨by rw [List.length_map]; exact hl, fun i acc => acc = (L.take i).map r, rfl, fun i x acc hx hacc => ?_, fun acc hacc => ?_⟩
  · rw [List.getElem?_map] at hx
    cases q : L[i]? with
    | none =>
      rw [q] at hx
      cases hx
    | some a =>
      rw [q] at hx
      cases hx
      refine h a (List.mem_of_getElem? q) _ ?_
      show acc ++ [r a] = (L.take (i + 1)).map r
      rw [hacc, List.take_succ, q, List.map_append]
      rfl
  · rw [hacc, List.length_map, List.take_length]
    exact hp
end Md
set_option Elab.async false
set_option linter.all false
set_option maxRecDepth 100000
set_option maxHeartbeats 2000000
namespace Md
open PySem L2 Evl
section
variable {X : Cx} {K : PySem.W.Frag} {te ta tb : TE} {ts tk tr : TA} {da db de : DE} {dn dr dk : DN} {o e : Expr} {to : TE}
def dIndex (da db : DE) : DE := fun Γ P => da Γ fun x => onL x fun ds => db Γ fun y => SeqAt.shaped (.list ds) = true ∧ SeqAt.shaped y = true ∧ ∃ (j : Nat) (z : PyData), ds[j]? = some z ∧ PyData.eqv z y = true ∧ (∀ (m : Nat) (z' : PyData), m < j → ds[m]? = some z' → PyData.eqv z' y = false) ∧ P (.int (j : Int))
def dTru (da : DE) : DT := fun Γ P => da Γ fun x => onSq x fun ds => P (!ds.isEmpty)
end
end Md
namespace Md
open PySem L2 Evl
section
variable {P : Program} {w : World} {K : PySem.W.Frag} {mg : Str → Option Value} {base : Heap} {k : Nat} {x : Str} {ps : List Str} {sp sp' : Sp}
theorem Has.to (h : Has P w K mg base k x ps sp) (i : ∀ vs H Q E, sp' vs H Q E → sp vs H Q E) : Has P w K mg base k x ps sp' := by
  obtain ⟨f, fd, F, a, b, c⟩ := h
  exact ⟨f, fd, ⟨fun vs H Q E x => F.len vs H Q E (i vs H Q E x), fun A outer s H args us vs Q E r1 r2 r3 r4 r5 => F.run A outer s H args us vs Q E r1 r2 r3 r4 (i vs H Q E r5)⟩, a, b, c⟩
theorem sim_law {t : TS} {dd : DS} {b h : Hp} {Γ : Gam} {σ : L2.St} {Q : VK} (S : SimS K t dd) (hr : RelD K b Γ σ) (eb : Ex b h) (ho : ∀ i ds, gat Γ i = some (.o ds) → False)
    (p : dd { nx := fun _ => False, rt := fun x => x = .bool true, ro := fun _ => False } Γ) (kQ : ∀ H', Q (.bl true) H') : t { nx := fun _ H' => Q .non H', rt := Q } σ h := by
  refine S b h b _ { nx := fun _ => False, rt := fun x => x = .bool true, ro := fun _ => False } ⟨fun b1 h1 Γ σ r p => p.elim, fun b1 h1 Γ σ r p => p, fun b1 h1 Γ σ r p => p, fun b1 h1 v x g hv p => ?_, fun b1 h1 q us es g nb n0 hq hA p => p.elim, fun b1 h1 t us sls g nb n0 ht hP p => p.elim⟩ b h Γ σ ⟨hr, Gr.refl eb, Ex.refl b, fun i es e => (ho i es e).elim, fun i j ds es p _ e => (ho i ds e).elim⟩ p
  subst p
  rw [hv.boolI]
  exact kQ h1
theorem sim_law2 {t : TS} {b h : Hp} {Γ : Gam} {σ : L2.St} {Q : VK} (hr : RelD K b Γ σ) (eb : Ex b h) (ho : ∀ i ds, gat Γ i = some (.o ds) → False) (kQ : ∀ H', Q (.bl true) H')
    (p : ∃ dd, SimS K t dd ∧ dd { nx := fun _ => False, rt := fun x => x = .bool true, ro := fun _ => False } Γ) : t { nx := fun _ H' => Q .non H', rt := Q } σ h := by
  obtain ⟨dd, S, p⟩ := p
  exact sim_law S hr eb ho p kQ
end
end Md
namespace Md
open PySem L2 Evl
section
variable {k : List PyData → Prop}
theorem onI_i {i : Int} {k : Int → Prop} : onI (.int i) k = k i := rfl
theorem onB_b {i : Bool} {k : Bool → Prop} : onB (.bool i) k = k i := rfl
theorem onL_l {l : List PyData} : onL (.list l) k = k l := rfl
theorem onT_t {l : List PyData} : onT (.tuple l) k = k l := rfl
theorem onSq_l {l : List PyData} : onSq (.list l) k = k l := rfl
theorem onSq_t {l : List PyData} : onSq (.tuple l) k = k l := rfl
theorem onT_nD {p : Int × Int} : onT (nD p) k = k [.int p.1, .int p.2] := rfl
theorem onT_nQ {r : Rat} : onT (nQ r) k = k [.int r.num, .int (r.den : Int)] := rfl
theorem onSq_nD {p : Int × Int} : onSq (nD p) k = k [.int p.1, .int p.2] := rfl
theorem onSq_nQ {r : Rat} : onSq (nQ r) k = k [.int r.num, .int (r.den : Int)] := rfl
theorem onL_nums {l : List (Int × Int)} : onL (numsD l) k = k (l.map nD) := rfl
theorem onSq_nums {l : List (Int × Int)} : onSq (numsD l) k = k (l.map nD) := rfl
theorem onL_gv {G : List PlV} : onL (gvD G) k = k (G.map PlV.D) := rfl
theorem onSq_gv {G : List PlV} : onSq (gvD G) k = k (G.map PlV.D) := rfl
theorem onL_listQ {n : Nat} {f : Nat → Rat} : onL (listQ n f) k = k ((List.range n).map fun i => nQ (f i)) := rfl
theorem onSq_listQ {n : Nat} {f : Nat → Rat} : onSq (listQ n f) k = k ((List.range n).map fun i => nQ (f i)) := rfl
theorem onL_nats {l : List Nat} : onL (natsD l) k = k (l.map fun x : Nat => PyData.int (x : Int)) := rfl
theorem onSq_nats {l : List Nat} : onSq (natsD l) k = k (l.map fun x : Nat => PyData.int (x : Int)) := rfl
theorem onL_ints {l : List Int} : onL (intsD l) k = k (l.map PyData.int) := rfl
theorem onSq_ints {l : List Int} : onSq (intsD l) k = k (l.map PyData.int) := rfl
theorem onL_rats {l : List Rat} : onL (ratsD l) k = k (l.map nQ) := rfl
theorem onT_D {p : PlV} : onT p.D k = k [nD p.g, .str (kdV p.k), .list p.el] := rfl
theorem scD_i {i : Int} : scD (.int i) = true := rfl
theorem scD_b {i : Bool} : scD (.bool i) = true := rfl
theorem scD_s {i : Str} : scD (.str i) = true := rfl
theorem scD_n : scD .none = true := rfl
theorem isNo_n : isNo .none = true := rfl
theorem isNo_i {i : Int} : isNo (.int i) = false := rfl
theorem isNo_l {l : List PyData} : isNo (.list l) = false := rfl
theorem isNo_t {l : List PyData} : isNo (.tuple l) = false := rfl
theorem eqS_i {i j : Int} : eqS (.int i) (.int j) = some (decide (i = j)) := rfl
theorem eqS_s {i j : Str} : eqS (.str i) (.str j) = some (decide (i = j)) := rfl
theorem eqS_n : eqS .none .none = some true := rfl
theorem eqS_in {i : Int} : eqS (.int i) .none = some false := rfl
end
section
variable {α : Type} {di : DN} {dg : DG} {dt : DT} {de : DE} {du : DS} {DD : DEnds} {vs : List Nat} {Γ : Gam} {P : List PyData → Prop}
theorem dlc_map (L : List α) (enc : α → PyData) (r : α → PyData) (hi : ∀ k : List PyData → Prop, k (L.map enc) → di Γ k) (hl : L.length ≤ 40000)
    (h : ∀ a ∈ L, ∀ k : PyData → Prop, k (r a) → dg (enc a) (wipeG Γ vs) fun Γ1 => de Γ1 k) (hp : P (L.map r)) : dLc di dg dYes de vs Γ P := hi _ (lc_map L enc r hl h hp)
theorem dfor_inv {ws : List Nat} (L : List α) (enc : α → PyData) (hi : ∀ k : List PyData → Prop, k (L.map enc) → di Γ k) (I : Nat → Gam → Prop) (h0 : I 0 (wipeG Γ ws))
    (hs : ∀ i a Γ', L[i]? = some a → I i Γ' → dg (enc a) Γ' fun Γ1 => du { DD with nx := fun Γ2 => I (i + 1) (wipeG Γ2 ws), ct := fun Γ2 => I (i + 1) (wipeG Γ2 ws), bk := DD.nx } Γ1) (he : ∀ Γ', I L.length Γ' → DD.nx Γ') : dFor ws di dg du DD Γ := by
  refine hi _ ⟨I, h0, fun i x Γ' hx hI => ?_, fun Γ' hI => he Γ' (by rw [List.length_map] at hI; exact hI)⟩
  rw [List.getElem?_map] at hx
  cases q : L[i]? with
  | none =>
    rw [q] at hx
    cases hx
  | some a =>
    rw [q] at hx
    cases hx
    exact hs i a Γ' q hI
end
end Md
namespace Md
open PySem L2 Evl
end Md
set_option Elab.async false
set_option linter.all false
set_option maxRecDepth 100000
set_option maxHeartbeats 2000000
namespace Md
open PySem L2 Evl
section
variable {K : PySem.W.Frag} {vs : List V} {h : Hp} {Q : VK} {E : XK}
end
def wS (G : List PlV) (d : Rat) (s : Nat → Rat) : Nat → Nat → Rat
  | 0, k => s k
  | t + 1, k => qN (vl G k).g + d * vW (vl G k) (wS G d s t)
theorem nb_wS {w U S dn dd B0 : Nat} {G : List PlV} {s : Nat → Rat} (hW : WfVG w G) (hU : ∀ p ∈ G, p.g.2.natAbs ∣ U) (hS : ∀ p ∈ G, p.k = none → ∀ q ∈ p.bs, q.1.2.natAbs ∣ S) (h1 : dn ≤ dd) (h2 : 1 ≤ dd) (h0 : ∀ k, k < G.length → NB U B0 (s k)) :
    ∀ t k, k < G.length → NB (U * (S * dd) ^ t) (B0 + 1000 * t) (wS G (natR dn / natR dd) s t k)
  | 0, k, hk => by
    rw [Nat.pow_zero, Nat.mul_one, Nat.mul_zero, Nat.add_zero]
    exact h0 k hk
  | t + 1, k, hk => by
    have hw := vl_wf hW hk
    have hm := vl_mem hk
    have ih := nb_wS hW hU hS h1 h2 h0 t
    have a := nb_vW (f := wS G (natR dn / natR dd) s t) hw (hS _ hm) fun q hq => ih q.2 (hw.t q hq)
    obtain ⟨d0, d1, dz⟩ := disc_le h1 h2
    have g := q_small hw.g
    have eM : U * (S * dd) ^ (t + 1) = dd * (U * (S * dd) ^ t * S) := by
      rw [Nat.pow_succ]
      simp [Nat.mul_comm, Nat.mul_left_comm, Nat.mul_assoc]
    have eB : natR (B0 + 1000 * (t + 1)) = natR (B0 + 1000 * t) + 1000 := by
      rw [Nat.mul_add, ← Nat.add_assoc, natR_add]
      rfl
    have n0 := natR_nonneg (B0 + 1000 * t)
    have lo := a.lo
    have hi := a.hi
    generalize hv : vW (vl G k) (wS G (natR dn / natR dd) s t) = v at *
    have dv : -natR (B0 + 1000 * t) ≤ natR dn / natR dd * v ∧ natR dn / natR dd * v ≤ natR (B0 + 1000 * t) := by
      generalize natR dn / natR dd = d at *
      have u1 := Rat.mul_le_mul_of_nonneg_left hi d0
      have u2 := Rat.mul_le_mul_of_nonneg_left lo d0
      have u3 := Rat.mul_le_mul_of_nonneg_right d1 n0
      constructor <;> grind
    show NB _ _ (qN (vl G k).g + natR dn / natR dd * vW (vl G k) (wS G (natR dn / natR dd) s t))
    rw [hv]
    refine ⟨Zt.add ((zt_den (red_small hw.g) (hU _ hm)).dvd (Nat.dvd_mul_right _ _)) (by rw [eM]; exact dz.mul a.zt), ?_, ?_⟩
    · rw [eB]; grind
    · rw [eB]; grind
def szS (G : List PlV) (d : Rat) (s : Nat → Rat) (M : Nat → Nat) (t k : Nat) : Int := (wS G d s t k * natR (M t)).num
theorem szS_cast {G : List PlV} {d : Rat} {s : Nat → Rat} {M : Nat → Nat} {t k : Nat} (h : Zt (M t) (wS G d s t k)) : ((szS G d s M t k : Int) : Rat) = wS G d s t k * natR (M t) := by
  obtain ⟨z, hz⟩ := h
  unfold szS
  have hz' : wS G d s t k * natR (M t) = (z : Rat) := hz
  rw [hz', num_cast]
def unitS (G : List PlV) (s : Nat → Rat) : Nat := denL (gainsV G ++ (List.range G.length).map fun k => canon (s k))
end Md
namespace Md
open PySem L2 Evl
section
variable {P : PyData → Prop}
end
end Md
namespace Md
open PySem L2 Evl
structure StepW (G : List PlV) (w dn dd t B0 : Nat) (s : Nat → Rat) : Prop where
  w1 : 1 ≤ w
  w9 : w ≤ 999
  W : WfVG w G
  dl : dn ≤ dd
  d1 : 1 ≤ dd
  db : dd < 2 ^ 3000
  T : t ≤ 1000
  M : unitS G s * (denL (chancesV G) * dd) ^ t < 2 ^ 3000
  B : B0 ≤ 2 ^ 900
  sb : ∀ k, k < G.length → -natR B0 ≤ s k ∧ s k ≤ natR B0
section
variable {G : List PlV} {w dn dd t B0 : Nat} {s : Nat → Rat} (x : StepW G w dn dd t B0 s)
include x
theorem StepW.S : 0 < denL (chancesV G) ∧ denL (chancesV G) < 2 ^ 3000 := by
  have h := scaleV_ok x.w1 x.W
  exact ⟨h.1, Nat.lt_of_le_of_lt h.2 (Nat.lt_of_le_of_lt (Nat.pow_le_pow_left x.w9 _) (Nat.lt_of_le_of_lt (Nat.pow_le_pow_right (by decide) x.W.l12) (Nat.lt_of_lt_of_le (by decide : 999 ^ 12 < 2 ^ 120) (Nat.pow_le_pow_right (by decide) (by decide)))))⟩
theorem StepW.up : ∀ p ∈ gainsV G ++ (List.range G.length).map (fun k => canon (s k)), 1 ≤ p.2 := fun p hp => by
  rcases List.mem_append.mp hp with h | h
  · obtain ⟨q, hq, rfl⟩ := List.mem_map.mp h
    exact (x.W.p q hq).g.1
  · obtain ⟨k, _, rfl⟩ := List.mem_map.mp h
    exact (canon_red _).1
theorem StepW.mono {i : Nat} (h : i ≤ t) : unitS G s * (denL (chancesV G) * dd) ^ i < 2 ^ 3000 := Nat.lt_of_le_of_lt (Nat.mul_le_mul_left _ (Nat.pow_le_pow_right (Nat.mul_pos x.S.1 x.d1) h)) x.M
theorem StepW.U : 0 < unitS G s ∧ unitS G s < 2 ^ 3000 := by
  refine ⟨denL_pos x.up, ?_⟩
  have := x.mono (Nat.zero_le t)
  rwa [Nat.pow_zero, Nat.mul_one] at this
theorem StepW.gU : ∀ p ∈ G, p.g.2.natAbs ∣ unitS G s := fun p hp => denL_dvd (List.mem_append_left _ (List.mem_map.mpr ⟨p, hp, rfl⟩))
theorem StepW.sU {k : Nat} (hk : k < G.length) : (canon (s k)).2.natAbs ∣ unitS G s := denL_dvd (List.mem_append_right _ (List.mem_map.mpr ⟨k, List.mem_range.mpr hk, rfl⟩))
theorem StepW.cS : ∀ p ∈ G, p.k = none → ∀ q ∈ p.bs, q.1.2.natAbs ∣ denL (chancesV G) := fun p hp hk q hq => denL_dvd (chv_mem hp hk hq)
theorem StepW.nb0 {k : Nat} (hk : k < G.length) : NB (unitS G s) B0 (s k) := by
  have h := zt_den (canon_red (s k)) (x.sU hk)
  rw [q_canon] at h
  exact ⟨h, (x.sb k hk).1, (x.sb k hk).2⟩
theorem StepW.nb (i : Nat) {k : Nat} (hk : k < G.length) : NB (unitS G s * (denL (chancesV G) * dd) ^ i) (B0 + 1000 * i) (wS G (natR dn / natR dd) s i k) := nb_wS x.W x.gU x.cS x.dl x.d1 (fun k hk => x.nb0 hk) i k hk
theorem StepW.sz (i : Nat) {k : Nat} (hk : k < G.length) : ((szS G (natR dn / natR dd) s (fun i => unitS G s * (denL (chancesV G) * dd) ^ i) i k : Int) : Rat) = wS G (natR dn / natR dd) s i k * natR (unitS G s * (denL (chancesV G) * dd) ^ i) :=
  szS_cast (M := fun i => unitS G s * (denL (chancesV G) * dd) ^ i) (x.nb i hk).zt
end
end Md
namespace Md
open PySem L2 Evl
theorem natR_11 : natR 1 / natR 1 = 1 := by
  rw [natR_one]
  decide +kernel
def kWF : ConN := conN3 fun x y z P => ∃ (G : List PlV) (w t B0 : Nat) (s : Nat → Rat), x = gvD G ∧ y = listQ G.length s ∧ z = .int (t : Int) ∧ 1 ≤ w ∧ w ≤ 999 ∧ WfVG w G ∧ t ≤ 1000 ∧ unitS G s * denL (chancesV G) ^ t < 2 ^ 3000 ∧ B0 ≤ 2 ^ 900 ∧
  (∀ k, k < G.length → -natR B0 ≤ s k ∧ s k ≤ natR B0) ∧ P ((List.range G.length).map fun k => nQ (wS G 1 s t k))
theorem kWF_i {G : List PlV} {w t B0 : Nat} {s : Nat → Rat} {P : List PyData → Prop} (h1 : 1 ≤ w) (h2 : w ≤ 999) (h3 : WfVG w G) (h4 : t ≤ 1000) (h5 : unitS G s * denL (chancesV G) ^ t < 2 ^ 3000) (h6 : B0 ≤ 2 ^ 900)
    (h7 : ∀ k, k < G.length → -natR B0 ≤ s k ∧ s k ≤ natR B0) (p : P ((List.range G.length).map fun k => nQ (wS G 1 s t k))) : kWF [gvD G, listQ G.length s, .int (t : Int)] P := ⟨G, w, t, B0, s, rfl, rfl, rfl, h1, h2, h3, h4, h5, h6, h7, p⟩
end Md
set_option Elab.async false
set_option linter.all false
set_option maxRecDepth 100000
set_option maxHeartbeats 2000000
namespace Md
open PySem L2 Evl
def Ok (r : Rat) : Prop := Big 4000 (canon r) ∧ r.den < 2 ^ 1998
theorem nb_ok {M B : Nat} {r : Rat} (h : NB M B r) (hM : 0 < M) (h1 : M < 2 ^ 1998) (hB : B ≤ 2 ^ 1000) : Ok r := ⟨nb_big4 h hM h1 hB, nb_den h hM h1⟩
section
variable {K : PySem.W.Frag} {vs : List V} {h : Hp} {Q : VK} {E : XK}
end
section
variable {P : PyData → Prop}
end
structure Beh (p : PlV) (w n M B S : Nat) (f : Nat → Rat) : Prop where
  W : WfV w n p
  c : p.k = none → ∀ q ∈ p.bs, q.1.2.natAbs ∣ S
  M0 : 0 < M
  S0 : 0 < S
  MS : M * S < 2 ^ 1998
  Bl : B ≤ 2 ^ 900
  hf : ∀ q ∈ p.bs, NB M B (f q.2)
theorem Beh.nb {p : PlV} {w n M B S : Nat} {f : Nat → Rat} (x : Beh p w n M B S f) : NB (M * S) B (vW p f) := nb_vW x.W x.c x.hf
theorem Beh.ok {p : PlV} {w n M B S : Nat} {f : Nat → Rat} (x : Beh p w n M B S f) : Ok (vW p f) := nb_ok x.nb (Nat.mul_pos x.M0 x.S0) x.MS (Nat.le_trans x.Bl (Nat.pow_le_pow_right (by decide) (by decide)))
theorem Beh.part {p : PlV} {w n M B S : Nat} {f : Nat → Rat} (x : Beh p w n M B S f) (hk : p.k = none) (j : Nat) : NB (M * S) B ((p.bs.map fun q => qN q.1 * f q.2).take j).sum := by
  rw [← List.map_take]
  have hcc := x.W.c hk
  have hp0 : ∀ q ∈ p.bs, 0 ≤ qN q.1 := fun q hq => qN_nonneg (red_small (hcc q hq).1) (hcc q hq).2
  have h1 := (wsum_take hp0 j).2
  have h2 : wsum p.bs (fun _ => 1) = 1 := by rw [wsum_one]; exact x.W.s hk
  rw [h2] at h1
  have bb := part_bd (bs := p.bs.take j) (f := f) (B := B) (fun q hq => hp0 q (List.mem_of_mem_take hq)) (fun q hq => ⟨(x.hf q (List.mem_of_mem_take hq)).lo, (x.hf q (List.mem_of_mem_take hq)).hi⟩) h1
  exact ⟨part_zt fun q hq => ⟨red_small (hcc q (List.mem_of_mem_take hq)).1, x.c hk q (List.mem_of_mem_take hq), (x.hf q (List.mem_of_mem_take hq)).zt⟩, bb.1, bb.2⟩
theorem kd_eq (k : Option Bool) : decide (kdV k = ("draw" : Str)) = decide (k = none) := by
  cases k with
  | none => rfl
  | some o => cases o <;> rfl
theorem onT_br {q : BrC} {k : List PyData → Prop} : onT (brC q) k = k [nD q.1, .int (q.2 : Int)] := rfl
theorem eqS_b {i j : Bool} : eqS (.bool i) (.bool j) = some (decide (i = j)) := rfl
theorem atI_zero {α : Type} {a : α} {l : List α} : L2.atI (a :: l) 0 = some a := by
  show L2.atI (a :: l) ((0 : Nat) : Int) = _
  exact atI_nat rfl
theorem cutD_take {xs : List PyData} {a : Nat} (h : a ≤ xs.length) : cutD xs none (some (a : Int)) = xs.take a := by
  unfold cutD
  rw [HT.sIx_none, sIx_of _ h, List.drop_zero, Nat.sub_zero]
structure StpOk (G : List PlV) (w M B S : Nat) (f : Nat → Rat) : Prop where
  W : WfVG w G
  gd : ∀ p ∈ G, p.g.2.natAbs ∣ M
  cS : ∀ p ∈ G, p.k = none → ∀ q ∈ p.bs, q.1.2.natAbs ∣ S
  M0 : 0 < M
  S0 : 0 < S
  MS : M * S < 2 ^ 1998
  Bl : B + 1000 ≤ 2 ^ 900
  hf : ∀ k, k < G.length → NB M B (f k)
def st1 (G : List PlV) (f : Nat → Rat) (k : Nat) : Rat := qN (vl G k).g + vW (vl G k) f
theorem StpOk.beh {G : List PlV} {w M B S : Nat} {f : Nat → Rat} (x : StpOk G w M B S f) {k : Nat} (hk : k < G.length) : Beh (vl G k) w G.length M B S f := ⟨vl_wf x.W hk, x.cS _ (vl_mem hk), x.M0, x.S0, x.MS, by have := x.Bl; omega, fun q hq => x.hf q.2 ((vl_wf x.W hk).t q hq)⟩
theorem StpOk.nb {G : List PlV} {w M B S : Nat} {f : Nat → Rat} (x : StpOk G w M B S f) {k : Nat} (hk : k < G.length) : NB (M * S) (B + 1000) (st1 G f k) := by
  have a := (x.beh hk).nb
  have hw := vl_wf x.W hk
  have g := q_small hw.g
  have e : natR (B + 1000) = natR B + 1000 := by rw [natR_add]; rfl
  have lo := a.lo
  have hi := a.hi
  refine ⟨Zt.add ((zt_den (red_small hw.g) (x.gd _ (vl_mem hk))).dvd (Nat.dvd_mul_right _ _)) a.zt, ?_, ?_⟩
  · show _ ≤ qN (vl G k).g + vW (vl G k) f
    rw [e]; grind
  · show qN (vl G k).g + vW (vl G k) f ≤ _
    rw [e]; grind
theorem StpOk.ok {G : List PlV} {w M B S : Nat} {f : Nat → Rat} (x : StpOk G w M B S f) {k : Nat} (hk : k < G.length) : Ok (st1 G f k) := nb_ok (x.nb hk) (Nat.mul_pos x.M0 x.S0) x.MS (Nat.le_trans x.Bl (Nat.pow_le_pow_right (by decide) (by decide)))
theorem fol_stp {G : List PlV} {w U S t : Nat} (hW : WfVG w G) (hg : ∀ p ∈ G, p.g.2.natAbs ∣ U) (hS : ∀ p ∈ G, p.k = none → ∀ q ∈ p.bs, q.1.2.natAbs ∣ S) (hU : 0 < U) (hS0 : 0 < S) (hM : U * S ^ (t + 1) < 2 ^ 1998) (ht : t ≤ 1000) : StpOk G w (U * S ^ t) (1000 * t) S (wG G 1 t) := by
  refine ⟨hW, fun p hp => Nat.dvd_trans (hg p hp) (Nat.dvd_mul_right _ _), hS, Nat.mul_pos hU (Nat.pow_pos hS0), hS0, by rw [Nat.mul_assoc, ← Nat.pow_succ]; exact hM, ?_, fun k hk => ?_⟩
  · have h5 : 1000 * t + 1000 ≤ 2 ^ 20 := Nat.le_trans (by omega : 1000 * t + 1000 ≤ 1001000) (by decide)
    exact Nat.le_trans h5 (Nat.pow_le_pow_right (by decide) (by decide))
  · have h := nb_wG (dn := 1) (dd := 1) hW hg hS (Nat.le_refl 1) (Nat.le_refl 1) t k hk
    rw [natR_11, Nat.mul_one] at h
    exact h
theorem g30_den {G : List PlV} (h : WfVG 30 G) {n : Nat} (hn : G.length ≤ n) : 0 < denL (chancesV G) ∧ denL (chancesV G) ≤ 30 ^ n := by
  have s := scaleV_ok (by decide) h
  exact ⟨s.1, Nat.le_trans s.2 (Nat.pow_le_pow_right (by decide) hn)⟩
end Md
set_option Elab.async false
set_option linter.all false
set_option maxRecDepth 100000
set_option maxHeartbeats 2000000
namespace Md
open PySem L2 Evl
structure StartOk (n : Nat) (s : Nat → Rat) : Prop where
  nb : ∀ k, k < n → NB 12 20 (s k)
theorem unitS_dvd {G : List PlV} {s : Nat → Rat} {M : Nat} (hg : ∀ p ∈ G, p.g.2.natAbs ∣ M) (hs : ∀ k, k < G.length → Zt M (s k)) : unitS G s ∣ M := denL_to fun c hc => by
  rcases List.mem_append.mp hc with h | h
  · obtain ⟨p, hp, rfl⟩ := List.mem_map.mp h
    exact hg p hp
  · obtain ⟨k, hk, rfl⟩ := List.mem_map.mp h
    exact zt_dvd (canon_red _) (by rw [q_canon]; exact hs k (List.mem_range.mp hk))
theorem g30_size2 {G : List PlV} (h : WfVG 30 G) {t U : Nat} (hU : U ≤ 2 ^ 20) (hn : G.length ≤ 7) (ht : t ≤ 40) : U * denL (chancesV G) ^ t < 2 ^ 1500 := by
  have s := (g30_den h hn).2
  have s2 : denL (chancesV G) ≤ 2 ^ 35 := Nat.le_trans s (by decide)
  have e1 : denL (chancesV G) ^ t ≤ (2 ^ 35) ^ t := Nat.pow_le_pow_left s2 t
  rw [← Nat.pow_mul] at e1
  have e2 : 2 ^ (35 * t) ≤ 2 ^ 1400 := Nat.pow_le_pow_right (by decide) (by omega)
  have e3 : U * denL (chancesV G) ^ t ≤ 2 ^ 20 * 2 ^ 1400 := Nat.mul_le_mul hU (Nat.le_trans e1 e2)
  rw [← Nat.pow_add] at e3
  exact Nat.lt_of_le_of_lt e3 (Nat.pow_lt_pow_right (by decide) (by decide))
theorem stpS {G : List PlV} {w U S t B0 : Nat} {s : Nat → Rat} (hW : WfVG w G) (hg : ∀ p ∈ G, p.g.2.natAbs ∣ U) (hS : ∀ p ∈ G, p.k = none → ∀ q ∈ p.bs, q.1.2.natAbs ∣ S) (hU : 0 < U) (hS0 : 0 < S) (hM : U * S ^ (t + 1) < 2 ^ 1998) (ht : t ≤ 1000) (hB : B0 ≤ 2 ^ 800) (h0 : ∀ k, k < G.length → NB U B0 (s k)) :
    StpOk G w (U * S ^ t) (B0 + 1000 * t) S (wS G 1 s t) := by
  refine ⟨hW, fun p hp => Nat.dvd_trans (hg p hp) (Nat.dvd_mul_right _ _), hS, Nat.mul_pos hU (Nat.pow_pos hS0), hS0, by rw [Nat.mul_assoc, ← Nat.pow_succ]; exact hM, ?_, fun k hk => ?_⟩
  · have h5 : 1000 * t + 1000 ≤ 2 ^ 800 := Nat.le_trans (by omega : 1000 * t + 1000 ≤ 1001000) (Nat.le_trans (by decide : 1001000 ≤ 2 ^ 20) (Nat.pow_le_pow_right (by decide) (by decide)))
    have h6 : 2 ^ 800 + 2 ^ 800 ≤ 2 ^ 900 := by
      have : (2 : Nat) ^ 801 = 2 ^ 800 + 2 ^ 800 := by rw [Nat.pow_succ]; omega
      rw [← this]
      exact Nat.pow_le_pow_right (by decide) (by decide)
    omega
  · have h := nb_wS (dn := 1) (dd := 1) hW hg hS (Nat.le_refl 1) (Nat.le_refl 1) h0 t k hk
    rw [natR_11, Nat.mul_one] at h
    exact h
end Md
namespace Md
open PySem L2 Evl
end Md
namespace Md
open PySem L2 Evl
theorem nb_big3 {M B : Nat} {r : Rat} (h : NB M B r) (hM : 0 < M) (h1 : M < 2 ^ 1998) (hB : B ≤ 2 ^ 1000) : Big 3000 (canon r) := by
  have h2 : NB M (2 ^ 1000) r := h.mono (Nat.dvd_refl _) hB
  refine h2.big hM (Nat.one_le_two_pow) ?_
  have : 2 ^ 1000 * M < 2 ^ 1000 * 2 ^ 1998 := Nat.mul_lt_mul_of_pos_left h1 (Nat.two_pow_pos _)
  rw [← Nat.pow_add] at this
  exact Nat.lt_of_lt_of_le this (Nat.pow_le_pow_right (by decide) (by decide))
structure Wor (G : List PlV) (w U T : Nat) : Prop where
  w1 : 1 ≤ w
  w9 : w ≤ 999
  W : WfVG w G
  g : ∀ p ∈ G, p.g.2.natAbs ∣ U
  U0 : 0 < U
  Tl : T ≤ 100
  sz : U * denL (chancesV G) ^ (T + 1) < 2 ^ 1998
theorem Wor.cS {G : List PlV} {w U T : Nat} (x : Wor G w U T) : ∀ p ∈ G, p.k = none → ∀ q ∈ p.bs, q.1.2.natAbs ∣ denL (chancesV G) := fun p hp hk q hq => denL_dvd (chv_mem hp hk hq)
theorem Wor.S0 {G : List PlV} {w U T : Nat} (x : Wor G w U T) : 0 < denL (chancesV G) := (scaleV_ok x.w1 x.W).1
theorem Wor.le {G : List PlV} {w U T : Nat} (x : Wor G w U T) {j : Nat} (h : j ≤ T + 1) : U * denL (chancesV G) ^ j < 2 ^ 1998 := Nat.lt_of_le_of_lt (Nat.mul_le_mul_left U (Nat.pow_le_pow_right x.S0 h)) x.sz
theorem Wor.stp {G : List PlV} {w U T : Nat} (x : Wor G w U T) {j : Nat} (h : j ≤ T) : StpOk G w (U * denL (chancesV G) ^ j) (1000 * j) (denL (chancesV G)) (wG G 1 j) := fol_stp x.W x.g x.cS x.U0 x.S0 (x.le (by omega)) (by have := x.Tl; omega)
theorem Wor.nb {G : List PlV} {w U T : Nat} (x : Wor G w U T) {j k : Nat} (h : j ≤ T + 1) (hk : k < G.length) : NB (U * denL (chancesV G) ^ j) (1000 * j) (wG G 1 j k) := by
  have h := nb_wG (dn := 1) (dd := 1) x.W x.g x.cS (Nat.le_refl 1) (Nat.le_refl 1) j k hk
  rw [natR_11, Nat.mul_one] at h
  exact h
theorem Wor.b20 {G : List PlV} {w U T : Nat} (x : Wor G w U T) {j : Nat} (h : j ≤ T + 1) : 1000 * j ≤ 2 ^ 20 := by
  have := x.Tl
  exact Nat.le_trans (by omega : 1000 * j ≤ 101000) (by decide)
theorem Wor.ok {G : List PlV} {w U T : Nat} (x : Wor G w U T) {j k : Nat} (h : j ≤ T + 1) (hk : k < G.length) : Ok (wG G 1 j k) := nb_ok (x.nb h hk) (Nat.mul_pos x.U0 (Nat.pow_pos x.S0)) (x.le h) (Nat.le_trans (x.b20 h) (Nat.pow_le_pow_right (by decide) (by decide)))
theorem Wor.big {G : List PlV} {w U T : Nat} (x : Wor G w U T) {j k : Nat} (h : j ≤ T + 1) (hk : k < G.length) : Big 3000 (canon (wG G 1 j k)) := nb_big3 (x.nb h hk) (Nat.mul_pos x.U0 (Nat.pow_pos x.S0)) (x.le h) (Nat.le_trans (x.b20 h) (Nat.pow_le_pow_right (by decide) (by decide)))
theorem Wor.den {G : List PlV} {w U T : Nat} (x : Wor G w U T) {j : Nat} (h : j ≤ T + 1) : denL (gainsV G) * denL (chancesV G) ^ j < 2 ^ 3000 := by
  have d : denL (gainsV G) ∣ U := denL_to fun c hc => by
    obtain ⟨p, hp, rfl⟩ := List.mem_map.mp hc
    exact x.g p hp
  exact Nat.lt_of_le_of_lt (Nat.mul_le_mul_right _ (Nat.le_of_dvd x.U0 d)) (Nat.lt_of_lt_of_le (x.le h) (Nat.pow_le_pow_right (by decide) (by decide)))
theorem Wor.wf {G : List PlV} {w U T : Nat} (x : Wor G w U T) {j : Nat} {P : List PyData → Prop} (h : j ≤ T) (p : P ((List.range G.length).map fun k => nQ (wG G 1 (j + 1) k))) : kWF [gvD G, listQ G.length (wG G 1 j), .int 1] P := by
  have d : unitS G (wG G 1 j) ∣ U * denL (chancesV G) ^ j := unitS_dvd (fun p hp => Nat.dvd_trans (x.g p hp) (Nat.dvd_mul_right _ _)) fun k hk => (x.nb (by omega) hk).zt
  have e1 := Nat.mul_le_mul_right (denL (chancesV G) ^ 1) (Nat.le_of_dvd (Nat.mul_pos x.U0 (Nat.pow_pos x.S0)) d)
  rw [Nat.mul_assoc, ← Nat.pow_add] at e1
  have e2 : (List.range G.length).map (fun k => nQ (wS G 1 (wG G 1 j) 1 k)) = (List.range G.length).map fun k => nQ (wG G 1 (j + 1) k) := List.map_congr_left fun k hk => by rfl
  refine kWF_i (t := 1) (B0 := 1000 * j) x.w1 x.w9 x.W (by decide) (Nat.lt_of_le_of_lt e1 (Nat.lt_of_lt_of_le (x.le (by omega)) (Nat.pow_le_pow_right (by decide) (by decide)))) (Nat.le_trans (x.b20 (by omega)) (Nat.pow_le_pow_right (by decide) (by decide))) (fun k hk => ⟨(x.nb (by omega) hk).lo, (x.nb (by omega) hk).hi⟩) ?_
  rw [e2]
  exact p
end Md
set_option Elab.async false
set_option linter.all false
set_option maxRecDepth 100000
set_option maxHeartbeats 2000000
namespace Md
open PySem L2 Evl
section
variable {K : PySem.W.Frag} {vs : List V} {h : Hp} {Q : VK} {E : XK}
end
end Md
namespace Md
open PySem L2 Evl
end Md
namespace Md
open PySem L2 Evl
end Md
set_option Elab.async false
set_option linter.all false
set_option maxRecDepth 100000
set_option maxHeartbeats 2000000
namespace Md
open PySem L2 Evl
section
variable {K : PySem.W.Frag} {vs : List V} {h : Hp} {Q : VK} {E : XK}
end
end Md
namespace Md
open PySem L2 Evl
theorem HasK.to {P : Program} {w : World} {K : PySem.W.Frag} {mg : Str → Option Value} {base : Heap} {k : Nat} {x : Str} {ps ks : List Str} {n m : Nat} {sp sp' : Sp} (h : HasK P w K mg base k x ps ks n m sp) (i : ∀ vs H Q E, sp' vs H Q E → sp vs H Q E) : HasK P w K mg base k x ps ks n m sp' := by
  obtain ⟨f, fd, F, a, b, c⟩ := h
  exact ⟨f, fd, ⟨fun vs H Q E x => F.len vs H Q E (i vs H Q E x), fun A outer s H args us vs Q E r1 r2 r3 r4 r5 => F.run A outer s H args us vs Q E r1 r2 r3 r4 (i vs H Q E r5)⟩, a, b, c⟩
end Md
set_option Elab.async false
set_option linter.all false
set_option maxRecDepth 100000
set_option maxHeartbeats 2000000
namespace Md
open PySem L2 Evl
section
variable {w n : Nat} {p : PlV}
end
def tnV (p : PlV) : PlV := ⟨(-p.g.1, p.g.2), p.k.map not, p.bs⟩
section
variable {w : Nat} {G : List PlV} (hW : WfVG w G)
include hW
theorem tn_wf : WfVG w (G.map tnV) := by
  refine ⟨by rw [List.length_map]; exact hW.l1, by rw [List.length_map]; exact hW.l12, fun p hp => ?_⟩
  obtain ⟨q, hq, rfl⟩ := List.mem_map.mp hp
  have h := hW.p q hq
  have hn : ∀ {k : Option Bool}, k.map not = none → k = none := fun {k} e => by
    cases k with
    | none => rfl
    | some o => cases e
  obtain ⟨g1, g2, g3, g4⟩ := h.g
  refine ⟨?_, h.l1, h.l6, by rw [List.length_map]; exact h.t, fun e => h.c (hn e), fun e => h.w (hn e), fun e => h.s (hn e)⟩
  refine ⟨g1, g2, ?_, ?_⟩
  · show (-q.g.1).natAbs < _
    rw [Int.natAbs_neg]
    exact g3
  · show Nat.gcd (-q.g.1).natAbs _ = _
    rw [Int.natAbs_neg]
    exact g4
end
end Md
namespace Md
open PySem L2 Evl
def dKix (f : Str → Option Str) (da : DE) : DE := fun Γ P => da Γ fun x => ∃ z y, x = .str z ∧ f z = some y ∧ P (.str y)
end Md
namespace Md
open PySem L2 Evl
theorem own_cons (a : Str) (b : Nat) (l : List (Str × Nat)) : List.map (fun x => x.snd) ((a, b) :: l) = b :: List.map (fun x => x.snd) l := rfl
theorem own_nil : List.map (fun x : Str × Nat => x.snd) [] = [] := rfl
end Md
namespace Md
open PySem L2 Evl
end Md
namespace Md
open PySem L2 Evl
theorem atI_one {α : Type} {a b : α} {l : List α} : L2.atI (a :: b :: l) 1 = some b := by
  show L2.atI (a :: b :: l) ((1 : Nat) : Int) = _
  exact atI_nat rfl
end Md
namespace Md
open PySem L2 Evl
end Md
namespace Md
open PySem L2 Evl
end Md
namespace Md
open PySem L2 Evl
structure Sta (G : List PlV) (s : Nat → Rat) : Prop where
  W : WfVG 30 G
  n7 : G.length ≤ 7
  g : ∀ p ∈ G, p.g.2.natAbs ∣ 60
  s : ∀ k, k < G.length → NB 60 100 (s k)
section
variable {G : List PlV} {s : Nat → Rat} (x : Sta G s)
include x
theorem Sta.stp {j : Nat} (h : j ≤ 30) : StpOk G 30 (60 * denL (chancesV G) ^ j) (100 + 1000 * j) (denL (chancesV G)) (wS G 1 s j) :=
  stpS x.W x.g (fun p hp hk q hq => denL_dvd (chv_mem hp hk hq)) (by decide) (g30_den x.W x.n7).1 (Nat.lt_of_lt_of_le (g30_size2 x.W (by decide) x.n7 (by omega)) (Nat.pow_le_pow_right (by decide) (by decide))) (by omega) (Nat.le_trans (by decide : 100 ≤ 2 ^ 7) (Nat.pow_le_pow_right (by decide) (by decide))) x.s
theorem Sta.nb {j k : Nat} (h : j ≤ 30) (hk : k < G.length) : NB (60 * denL (chancesV G) ^ j) 40000 (wS G 1 s j k) := ((x.stp h).hf k hk).mono (Nat.dvd_refl _) (by omega)
theorem Sta.m {j : Nat} (h : j ≤ 30) : 0 < 60 * denL (chancesV G) ^ j ∧ 60 * denL (chancesV G) ^ j < 2 ^ 1998 := ⟨(x.stp h).M0, Nat.lt_of_lt_of_le (g30_size2 x.W (by decide) x.n7 (by omega)) (Nat.pow_le_pow_right (by decide) (by decide))⟩
theorem Sta.okB {j B : Nat} {r : Rat} (h : j ≤ 30) (hB : B ≤ 2 ^ 20) (z : NB (60 * denL (chancesV G) ^ j) B r) : Ok r := nb_ok z (x.m h).1 (x.m h).2 (Nat.le_trans hB (Nat.pow_le_pow_right (by decide) (by decide)))
theorem Sta.ok {j k : Nat} (h : j ≤ 30) (hk : k < G.length) : Ok (wS G 1 s j k) := x.okB h (by decide) (x.nb h hk)
theorem Sta.wf {t : Nat} {P : List PyData → Prop} (h : t ≤ 30) (p : P ((List.range G.length).map fun k => nQ (wS G 1 s t k))) : kWF [gvD G, listQ G.length s, .int (t : Int)] P := by
  have d : unitS G s ∣ 60 := unitS_dvd x.g fun k hk => (x.s k hk).zt
  have e1 := Nat.mul_le_mul_right (denL (chancesV G) ^ t) (Nat.le_of_dvd (by decide) d)
  exact kWF_i (B0 := 100) (by decide) (by decide) x.W (by omega) (Nat.lt_of_le_of_lt e1 (Nat.lt_of_lt_of_le (x.m h).2 (Nat.pow_le_pow_right (by decide) (by decide)))) (Nat.le_trans (by decide : 100 ≤ 2 ^ 7) (Nat.pow_le_pow_right (by decide) (by decide))) (fun k hk => ⟨(x.s k hk).lo, (x.s k hk).hi⟩) p
theorem Sta.turn : Sta (G.map tnV) (fun j => -s j) := by
  refine ⟨tn_wf x.W, by rw [List.length_map]; exact x.n7, fun p hp => ?_, fun k hk => ?_⟩
  · obtain ⟨q, hq, rfl⟩ := List.mem_map.mp hp
    exact x.g q hq
  · rw [List.length_map] at hk
    exact nb_neg (x.s k hk)
end
end Md
namespace Md
open PySem L2 Evl
end Md
set_option Elab.async false
set_option linter.all false
set_option maxRecDepth 100000
set_option maxHeartbeats 2000000
namespace Md
open PySem L2 Evl
structure IsMat (C : List PlC) (β : Rat) (a : Nat → Nat → Int) (c : Nat → Rat) : Prop where
  pos : ∀ x, x < C.length → 0 < c x
  row : ∀ (t : Nat → Rat) x, x < C.length → sumR C.length (fun y => qa a x y * t y) = c x * (t x - β * meanC C t x)
theorem sumR_low {n m : Nat} {f : Nat → Rat} (h : m ≤ n) (h0 : ∀ y, m ≤ y → y < n → f y = 0) : sumR n f = sumR m f := by
  obtain ⟨k, rfl⟩ : ∃ k, n = m + k := ⟨n - m, by omega⟩
  clear h
  induction k with
  | zero => rfl
  | succ k ih =>
    rw [← Nat.add_assoc, sumR_succ, ih fun y h1 h2 => h0 y h1 (by omega), h0 (m + k) (by omega) (by omega), Rat.add_zero]
theorem meanM_nonneg {C : List PlC} (h : WfM C) {k : Nat} (hk : k < C.length) {f : Nat → Rat} (hf : ∀ j, j < C.length → 0 ≤ f j) : 0 ≤ meanC C f k := by
  have a := meanM_mono h hk (f := fun _ => 0) (g := f) hf
  have b := wsum_mul (plC C k).bs 0 (fun _ => 1)
  have d : meanC C (fun _ => 0) k = 0 := by
    show wsum (plC C k).bs (fun _ => 0) = 0
    have h0 : (fun _ : Nat => (0 : Rat)) = fun j => 0 * (fun _ : Nat => (1 : Rat)) j := by
      funext _
      show (0 : Rat) = 0 * 1
      rw [Rat.zero_mul]
    rw [h0, b, Rat.zero_mul]
  rw [d] at a
  exact a
theorem piv_pos {C : List PlC} {β : Rat} {a : Nat → Nat → Int} {c : Nat → Rat} (hC : WfM C) (h0 : 0 ≤ β) (h1 : β < 1) (A : IsMat C β a c) {k : Nat} {T : Nat → Nat → Int} {d : Int} (h : Elim C.length a k T d) (hk : k < C.length) : 0 < T k k := by
  by_cases z : 0 < T k k
  · exact z
  exfalso
  have z : T k k ≤ 0 := by omega
  obtain ⟨p1, p2⟩ := elim_pivot h hk
  let w : Nat → Rat := fun j => if j = k then (d : Rat) else -qa T j k
  let t : Nat → Rat := fun y => if y < k + 1 then w y else 0
  have hs : ∀ x, sumR C.length (fun y => qa a x y * t y) = sumR (k + 1) (fun j => qa a x j * w j) := fun x => by
    rw [sumR_low (m := k + 1) (by omega) fun y h2 h3 => by
      show qa a x y * (if y < k + 1 then w y else 0) = 0
      rw [if_neg (by omega), Rat.mul_zero]]
    refine sumR_congr fun j hj => ?_
    show qa a x j * (if j < k + 1 then w j else 0) = _
    rw [if_pos hj]
  have hz : qa T k k ≤ 0 := by
    have := le_cast z
    exact this
  have ht : ∀ x, x ≤ k → t x ≤ β * meanC C t x := fun x hx => by
    have e := A.row t x (by omega)
    rw [hs x] at e
    have cp := A.pos x (by omega)
    have hv : c x * (t x - β * meanC C t x) ≤ 0 := by
      rw [← e]
      rcases Nat.lt_or_ge x k with q | q
      · rw [p1 x q]
        exact Rat.le_refl
      · have : x = k := by omega
        subst this
        rw [p2]
        exact hz
    by_cases q : t x ≤ β * meanC C t x
    · exact q
    · have : 0 < t x - β * meanC C t x := by grind
      have := Rat.mul_pos cp this
      grind
  let u : Nat → Rat := fun y => if 0 ≤ t y then t y else 0
  have ut : ∀ y, t y ≤ u y := fun y => by
    show t y ≤ if 0 ≤ t y then t y else 0
    split <;> grind
  have u0 : ∀ y, 0 ≤ u y := fun y => by
    show 0 ≤ if 0 ≤ t y then t y else 0
    split <;> grind
  have hu : ∀ x, x < C.length → u x ≤ β * meanC C u x := fun x hx => by
    have m0 : 0 ≤ β * meanC C u x := Rat.mul_nonneg h0 (meanM_nonneg hC hx fun j _ => u0 j)
    show (if 0 ≤ t x then t x else 0) ≤ _
    split
    · rcases Nat.lt_or_ge k x with q | q
      · have : t x = 0 := by
          show (if x < k + 1 then w x else 0) = 0
          rw [if_neg (by omega)]
        rw [this]
        exact m0
      · have a1 := ht x q
        have a2 : meanC C t x ≤ meanC C u x := meanM_mono hC hx fun j _ => ut j
        have a3 := Rat.mul_le_mul_of_nonneg_left a2 h0
        exact Rat.le_trans a1 a3
    · exact m0
  have hend := sub_le hC h0 h1 hu k hk
  have tk : t k = (d : Rat) := by
    show (if k < k + 1 then (if k = k then (d : Rat) else -qa T k k) else 0) = _
    rw [if_pos (by omega), if_pos rfl]
  have dp : (0 : Rat) < (d : Rat) := cast_pos h.pos
  have := ut k
  rw [tk] at this
  grind
theorem end_wor {C : List PlC} {β : Rat} {a : Nat → Nat → Int} {c e : Nat → Rat} {U : Rat} (A : IsMat C β a c) (hU : 0 < U) {T : Nat → Nat → Int} {d : Int} (h : Elim C.length a C.length T d) (hc : ∀ x, x < C.length → qa a x C.length = c x * e x * U) : IsWor C β e (fun j => qa T j C.length / ((d : Rat) * U)) := fun x hx => by
  have e1 := elim_end h x hx
  have d0 : (d : Rat) ≠ 0 := cast_ne (by have := h.pos; omega)
  have U0 : U ≠ 0 := by grind
  have e2 : sumR C.length (fun j => qa a x j * (qa T j C.length / (d : Rat))) = U * sumR C.length (fun j => qa a x j * (qa T j C.length / ((d : Rat) * U))) := by
    rw [← sumR_mul]
    exact sumR_congr fun j _ => by grind
  rw [e2, A.row _ x hx, hc x hx] at e1
  have cp := A.pos x hx
  have c0 : c x ≠ 0 := by grind
  have : c x * U ≠ 0 := fun z => by
    rcases Rat.mul_eq_zero.mp z with y | y
    · exact c0 y
    · exact U0 y
  show qa T x C.length / ((d : Rat) * U) = e x + β * meanC C (fun j => qa T j C.length / ((d : Rat) * U)) x
  generalize meanC C (fun j => qa T j C.length / ((d : Rat) * U)) x = m at *
  generalize qa T x C.length / ((d : Rat) * U) = v at *
  have e3 : (c x * U) * (v - β * m - e x) = 0 := by grind
  rcases Rat.mul_eq_zero.mp e3 with y | y
  · exact absurd y this
  · grind
end Md
namespace Md
open PySem L2 Evl
structure SolOk (n : Nat) (a : Nat → Nat → Int) (cs : Nat → Rat) (U : Nat) : Prop where
  n12 : n ≤ 12
  U0 : 0 < U
  eU : U = denL ((List.range n).map fun r => canon (cs r))
  col : ∀ r, r < n → a r n = (canon (cs r)).1 * ((U : Int) / (canon (cs r)).2)
  Ub : U < 2 ^ 1000
  cb : ∀ r, r < n → (canon (cs r)).1.natAbs < 2 ^ 1000 ∧ (canon (cs r)).2.natAbs < 2 ^ 1000
  ab : ∀ r l, r < n → l < n → (a r l).natAbs ≤ 2 ^ 540
  cb2 : ∀ r, r < n → (a r n).natAbs ≤ 2 ^ 1000
  piv : ∀ k T d, k < n → Elim n a k T d → 0 < T k k
theorem SolOk.bnd {n : Nat} {a : Nat → Nat → Int} {cs : Nat → Rat} {U : Nat} (x : SolOk n a cs U) {k : Nat} {T : Nat → Nat → Int} {d : Int} (hk : k ≤ n) (h : Elim n a k T d) : d.natAbs < 2 ^ 6600 ∧ ∀ j l, j < n → l ≤ n → (T j l).natAbs < 2 ^ 20000 := by
  have hd := elim_d h x.n12 hk (B := 2 ^ 540) Nat.one_le_two_pow x.ab
  have hp := h.pos
  have hd2 : d.natAbs ≤ (12 * 2 ^ 540) ^ 12 := by
    generalize (12 * 2 ^ 540) ^ 12 = z at hd ⊢
    omega
  refine ⟨Nat.lt_of_le_of_lt hd2 (by decide +kernel : (12 * 2 ^ 540) ^ 12 < 2 ^ 6600), fun j l hj hl => ?_⟩
  have := elim_bd h x.n12 hk (B := 2 ^ 1000) (Nat.one_le_two_pow) (fun r l hr hl => by
    rcases Nat.lt_or_ge l n with z | z
    · exact Nat.le_trans (x.ab r l hr z) (Nat.pow_le_pow_right (by decide) (by decide))
    · have : l = n := by omega
      subst this
      exact x.cb2 r hr) hj hl
  exact Nat.lt_of_le_of_lt this (by decide +kernel)
def matD (n : Nat) (a : Nat → Nat → Int) : PyData := .list ((List.range n).map fun r => .list ((List.range n).map fun l => PyData.int (a r l)))
end Md
namespace Md
open PySem L2 Evl
theorem onL_tab {n : Nat} {T : Nat → Nat → Int} {k : List PyData → Prop} : onL (tabD n T) k = k ((List.range n).map (rowD n T)) := rfl
theorem onL_row {n : Nat} {T : Nat → Nat → Int} {j : Nat} {k : List PyData → Prop} : onL (rowD n T j) k = k ((List.range (n + 1)).map fun l => PyData.int (T j l)) := rfl
theorem onL_mat {n : Nat} {a : Nat → Nat → Int} {k : List PyData → Prop} : onL (matD n a) k = k ((List.range n).map fun r => PyData.list ((List.range n).map fun l => PyData.int (a r l))) := rfl
end Md
namespace Md
open PySem L2 Evl
def colZ (bs : List BrC) (S : Int) (y : Nat) : Int := (bs.map fun q => if q.2 = y then q.1.1 * (S / q.1.2) else 0).sum
def rowA (bs : List BrC) (S dn dd : Int) (x y : Nat) : Int := (if y = x then S * dd else 0) - dn * colZ bs S y
structure RowOk (C : List PlC) (x S dn dd : Nat) : Prop where
  xl : x < C.length
  n12 : C.length ≤ 12
  b6 : (plC C x).bs.length ≤ 6
  t : ∀ q ∈ (plC C x).bs, q.2 < C.length
  c : ∀ q ∈ (plC C x).bs, SmallN q.1
  Sb : S ≤ 1000
  db : dd ≤ 2 ^ 512
  dl : dn ≤ dd
end Md
namespace Md
open PySem L2 Evl
end Md
namespace Md
open PySem L2 Evl
end Md
namespace Md
open PySem L2 Evl
theorem colZ_nil (S : Int) (y : Nat) : colZ [] S y = 0 := rfl
theorem colZ_cons (q : BrC) (bs : List BrC) (S : Int) (y : Nat) : colZ (q :: bs) S y = (if q.2 = y then q.1.1 * (S / q.1.2) else 0) + colZ bs S y := by
  unfold colZ
  rw [List.map_cons, List.sum_cons]
theorem col_sum {n S : Nat} (t : Nat → Rat) : ∀ {bs : List BrC}, (∀ q ∈ bs, q.2 < n ∧ Red q.1 ∧ q.1.2.natAbs ∣ S) → sumR n (fun y => ((colZ bs S y : Int) : Rat) * t y) = natR S * wsum bs t
  | [], _ => by
    rw [wsum_nil, Rat.mul_zero]
    exact sumR_zeros fun y _ => by
      rw [colZ_nil]
      exact Rat.zero_mul _
  | q :: bs, h => by
    obtain ⟨h1, h2, h3⟩ := h q List.mem_cons_self
    have ih := col_sum (n := n) (S := S) t (bs := bs) fun r hr => h r (List.mem_cons_of_mem _ hr)
    have e : sumR n (fun y => ((colZ (q :: bs) S y : Int) : Rat) * t y) = sumR n (fun y => (if q.2 = y then ((q.1.1 * ((S : Int) / q.1.2) : Int) : Rat) * t y else 0)) + sumR n (fun y => ((colZ bs S y : Int) : Rat) * t y) := by
      rw [← sumR_add]
      refine sumR_congr fun y _ => ?_
      rw [colZ_cons, Rat.intCast_add]
      split
      · grind
      · rw [Rat.intCast_zero]
        grind
    rw [e, ih, sumR_only h1 (fun y _ hy => if_neg fun z => hy z.symm), if_pos rfl, whole_q h2 h3, wsum_cons]
    show qN q.1 * natR S * t q.2 + natR S * wsum bs t = natR S * (qN q.1 * t q.2 + wsum bs t)
    clear e ih
    grind
theorem mat_is {C : List PlC} {dn dd : Nat} {Sx : Nat → Nat} (hd : 1 ≤ dd) (hS : ∀ x, x < C.length → 0 < Sx x ∧ ∀ q ∈ (plC C x).bs, q.2 < C.length ∧ Red q.1 ∧ q.1.2.natAbs ∣ Sx x) {a : Nat → Nat → Int} (ha : ∀ x y, x < C.length → y < C.length → a x y = rowA (plC C x).bs (Sx x) dn dd x y) :
    IsMat C (natR dn / natR dd) a fun x => natR (Sx x) * natR dd := by
  have d0 : (0 : Rat) < natR dd := cast_pos (by omega)
  refine ⟨fun x hx => Rat.mul_pos (cast_pos (by have := (hS x hx).1; omega)) d0, fun t x hx => ?_⟩
  have h2 := (hS x hx).2
  have e : sumR C.length (fun y => qa a x y * t y) = sumR C.length (fun y => if y = x then natR (Sx x) * natR dd * t y else 0) + (-natR dn) * sumR C.length (fun y => ((colZ (plC C x).bs (Sx x) y : Int) : Rat) * t y) := by
    rw [← sumR_mul, ← sumR_add]
    refine sumR_congr fun y hy => ?_
    unfold qa
    rw [ha x y hx hy]
    unfold rowA
    rw [Rat.intCast_sub, Rat.intCast_mul]
    have e1 : ((dn : Int) : Rat) = natR dn := rfl
    rw [e1]
    split
    · rw [Rat.intCast_mul]
      have e2 : (((Sx x : Nat) : Int) : Rat) = natR (Sx x) := rfl
      have e3 : ((dd : Int) : Rat) = natR dd := rfl
      rw [e2, e3]
      grind
    · rw [Rat.intCast_zero]
      grind
  rw [e, col_sum t h2, sumR_only hx (fun y _ hy => if_neg hy), if_pos rfl]
  show _ = natR (Sx x) * natR dd * (t x - natR dn / natR dd * wsum (plC C x).bs t)
  generalize wsum (plC C x).bs t = m
  grind
end Md
namespace Md
open PySem L2 Evl
section
variable {K : PySem.W.Frag} {vs : List V} {h : Hp} {Q : VK} {E : XK}
end
end Md
namespace Md
open PySem L2 Evl
def scD2 (C : List PlC) (x : Nat) : Nat := denL ((plC C x).bs.map (·.1))
structure FilOk (C : List PlC) (dn dd M0 : Nat) : Prop where
  n12 : C.length ≤ 12
  M : WfM C
  b6 : ∀ x, x < C.length → (plC C x).bs.length ≤ 6
  c : ∀ x, x < C.length → ∀ q ∈ (plC C x).bs, SmallN q.1
  g : ∀ x, x < C.length → SmallN (plC C x).g ∧ (plC C x).g.2.natAbs ∣ M0
  S : ∀ x, x < C.length → scD2 C x ≤ 1000
  dl : dn < dd
  db : dd ≤ 2 ^ 512
  m0 : 0 < M0
  mb : M0 < 2 ^ 200
  red : Red ((dn : Int), (dd : Int))
def csF (C : List PlC) (dd : Nat) (x : Nat) : Rat := gainC C x * natR (scD2 C x * dd)
def unF (C : List PlC) (dd : Nat) : Nat := denL ((List.range C.length).map fun r => canon (csF C dd r))
def aF (C : List PlC) (dn dd : Nat) (x y : Nat) : Int := if y < C.length then rowA (plC C x).bs (scD2 C x) dn dd x y else (canon (csF C dd x)).1 * ((unF C dd : Int) / (canon (csF C dd x)).2)
section
variable {C : List PlC} {dn dd M0 : Nat} (x : FilOk C dn dd M0)
include x
theorem FilOk.S0 {k : Nat} (hk : k < C.length) : 0 < scD2 C k := denL_pos fun c hc => by
  obtain ⟨q, hq, rfl⟩ := List.mem_map.mp hc
  exact (x.c k hk q hq).1
theorem FilOk.Sd {k : Nat} (hk : k < C.length) : ∀ q ∈ (plC C k).bs, q.2 < C.length ∧ Red q.1 ∧ q.1.2.natAbs ∣ scD2 C k := fun q hq => ⟨(x.M.q k hk q hq).2, red_small (x.c k hk q hq), denL_dvd (List.mem_map.mpr ⟨q, hq, rfl⟩)⟩
theorem FilOk.csn {k : Nat} (hk : k < C.length) : NB M0 (2 ^ 550) (csF C dd k) := by
  have g := x.g k hk
  have b := q_small g.1
  have n1 : NB M0 1000 (gainC C k) := ⟨zt_den (red_small g.1) g.2, b.1, b.2⟩
  have n2 : NB 1 (scD2 C k * dd) (natR (scD2 C k * dd)) := ⟨⟨(scD2 C k * dd : Nat), by show natR (scD2 C k * dd) * natR 1 = natR (scD2 C k * dd); rw [natR_one, Rat.mul_one]⟩, by have := natR_nonneg (scD2 C k * dd); grind, Rat.le_refl⟩
  have n3 := nb_mul n1 n2
  rw [Nat.mul_one] at n3
  refine n3.mono (Nat.dvd_refl _) ?_
  have h1 : scD2 C k * dd ≤ 1000 * 2 ^ 512 := Nat.mul_le_mul (x.S k hk) x.db
  exact Nat.le_trans (Nat.mul_le_mul_left 1000 h1) (by decide +kernel)
theorem FilOk.cb {k : Nat} (hk : k < C.length) : Big 800 (canon (csF C dd k)) := (x.csn hk).big x.m0 Nat.one_le_two_pow (by
  have := x.mb
  have h : 2 ^ 550 * M0 < 2 ^ 550 * 2 ^ 200 := Nat.mul_lt_mul_of_pos_left this (Nat.two_pow_pos _)
  rw [← Nat.pow_add] at h
  exact Nat.lt_of_lt_of_le h (Nat.pow_le_pow_right (by decide) (by decide)))
theorem FilOk.U : 0 < unF C dd ∧ unF C dd < 2 ^ 200 := by
  refine ⟨denL_pos fun c hc => ?_, Nat.lt_of_le_of_lt (Nat.le_of_dvd x.m0 (denL_to fun c hc => ?_)) x.mb⟩
  · obtain ⟨r, _, rfl⟩ := List.mem_map.mp hc
    exact (canon_red _).1
  · obtain ⟨r, hr, rfl⟩ := List.mem_map.mp hc
    exact zt_dvd (canon_red _) (by rw [q_canon]; exact (x.csn (List.mem_range.mp hr)).zt)
theorem FilOk.U2 : unF C dd ≤ M0 := by
  refine Nat.le_of_dvd x.m0 (denL_to fun c hc => ?_)
  obtain ⟨r, hr, rfl⟩ := List.mem_map.mp hc
  exact zt_dvd (canon_red _) (by rw [q_canon]; exact (x.csn (List.mem_range.mp hr)).zt)
theorem FilOk.mat : IsMat C (natR dn / natR dd) (aF C dn dd) fun k => natR (scD2 C k) * natR dd :=
  mat_is (Sx := scD2 C) (by have := x.dl; omega) (fun k hk => ⟨x.S0 hk, x.Sd hk⟩) fun k y hk hy => if_pos hy
theorem FilOk.beta : 0 ≤ natR dn / natR dd ∧ natR dn / natR dd < 1 := by
  have d0 : (0 : Rat) < natR dd := cast_pos (by have := x.dl; omega)
  have h : natR dn < natR dd := Rat.intCast_lt_intCast.mpr (by have := x.dl; omega)
  refine ⟨le_div' d0 (by rw [Rat.zero_mul]; exact natR_nonneg dn), ?_⟩
  exact (Rat.div_lt_iff d0).mpr (by rw [Rat.one_mul]; exact h)
end
end Md
namespace Md
open PySem L2 Evl
theorem colZ_bd {bs : List BrC} {S : Nat} (h : ∀ q ∈ bs, SmallN q.1) (hS : S ≤ 1000) (y : Nat) : (colZ bs S y).natAbs ≤ bs.length * 1000000 := by
  induction bs with
  | nil => exact Nat.le_of_eq rfl
  | cons q bs ih =>
    have i := ih fun r hr => h r (List.mem_cons_of_mem _ hr)
    have sq := h q List.mem_cons_self
    rw [colZ_cons, List.length_cons]
    have g1 := sq.2.2.1
    have g2 : ((S : Int) / q.1.2).natAbs ≤ 1000 := Nat.le_trans (Int.natAbs_ediv_le_natAbs _ _) (by rw [Int.natAbs_natCast]; exact hS)
    have g3 : (q.1.1 * ((S : Int) / q.1.2)).natAbs ≤ 1000 * 1000 := by
      rw [Int.natAbs_mul]
      exact Nat.mul_le_mul (Nat.le_of_lt g1) g2
    have g4 : (if q.2 = y then q.1.1 * ((S : Int) / q.1.2) else 0).natAbs ≤ 1000000 := by
      split
      · exact g3
      · exact Nat.zero_le _
    omega
theorem row_bd {bs : List BrC} {S dn dd : Nat} (h : ∀ q ∈ bs, SmallN q.1) (h6 : bs.length ≤ 6) (hS : S ≤ 1000) (h1 : dn ≤ dd) (x y : Nat) : (rowA bs S dn dd x y).natAbs ≤ 7000000 * dd := by
  unfold rowA
  have b1 := colZ_bd h hS y
  have b2 : (colZ bs S y).natAbs ≤ 6000000 := by omega
  have b3 : ((dn : Int) * colZ bs S y).natAbs ≤ dd * 6000000 := by
    rw [Int.natAbs_mul, Int.natAbs_natCast]
    exact Nat.mul_le_mul h1 b2
  have b4 : (if y = x then (S : Int) * (dd : Int) else 0).natAbs ≤ 1000 * dd := by
    split
    · rw [Int.natAbs_mul, Int.natAbs_natCast, Int.natAbs_natCast]
      exact Nat.mul_le_mul_right _ hS
    · exact Nat.zero_le _
  omega
theorem row_bd2 {dd : Nat} (h : dd ≤ 2 ^ 512) : 7000000 * dd ≤ 2 ^ 540 := Nat.le_trans (Nat.mul_le_mul_left _ h) (by decide +kernel)
section
variable {C : List PlC} {dn dd M0 : Nat} (x : FilOk C dn dd M0)
include x
theorem FilOk.sol : SolOk C.length (aF C dn dd) (csF C dd) (unF C dd) := by
  have hU := x.U
  have up : ∀ {z : Nat}, z < 2 ^ 800 → z < 2 ^ 1000 := fun h => Nat.lt_of_lt_of_le h (Nat.pow_le_pow_right (by decide) (by decide))
  refine ⟨x.n12, hU.1, rfl, fun r _ => if_neg (Nat.lt_irrefl _), Nat.lt_of_lt_of_le hU.2 (Nat.pow_le_pow_right (by decide) (by decide)), fun r hr => ⟨up (x.cb hr).1, up (x.cb hr).2⟩, fun r l hr hl => ?_, fun r hr => ?_, fun k T d hk h => piv_pos x.M x.beta.1 x.beta.2 x.mat h hk⟩
  · have e : aF C dn dd r l = rowA (plC C r).bs (scD2 C r) dn dd r l := if_pos hl
    rw [e]
    exact Nat.le_trans (row_bd (x.c r hr) (x.b6 r hr) (x.S r hr) (Nat.le_of_lt x.dl) r l) (row_bd2 x.db)
  · have e : aF C dn dd r C.length = (canon (csF C dd r)).1 * ((unF C dd : Int) / (canon (csF C dd r)).2) := if_neg (Nat.lt_irrefl _)
    rw [e, Int.natAbs_mul]
    have g1 := (x.cb hr).1
    have g2 : ((unF C dd : Int) / (canon (csF C dd r)).2).natAbs ≤ 2 ^ 200 := Nat.le_trans (Int.natAbs_ediv_le_natAbs _ _) (by rw [Int.natAbs_natCast]; exact Nat.le_of_lt hU.2)
    have g3 := Nat.mul_le_mul (Nat.le_of_lt g1) g2
    rw [← Nat.pow_add] at g3
    exact Nat.le_trans g3 (Nat.pow_le_pow_right (by decide) (by decide))
theorem FilOk.fin {T : Nat → Nat → Int} {d : Int} (h : Elim C.length (aF C dn dd) C.length T d) :
    IsWor C (natR dn / natR dd) (gainC C) (fun j => qa T j C.length / ((d : Rat) * natR (unF C dd))) ∧ ∃ M, 0 < M ∧ M ≤ (2 ^ 27 * dd) ^ 12 * M0 ∧ ∀ j, j < C.length → NB M (1000 * dd) (qa T j C.length / ((d : Rat) * natR (unF C dd))) := by
  have hU := x.U
  have U0 : (0 : Rat) < natR (unF C dd) := cast_pos (by omega)
  have hw : IsWor C (natR dn / natR dd) (gainC C) (fun j => qa T j C.length / ((d : Rat) * natR (unF C dd))) := end_wor x.mat U0 h fun k hk => by
    unfold qa
    have e : aF C dn dd k C.length = (canon (csF C dd k)).1 * ((unF C dd : Int) / (canon (csF C dd k)).2) := if_neg (Nat.lt_irrefl _)
    have dv : (canon (csF C dd k)).2.natAbs ∣ unF C dd := denL_dvd (List.mem_map.mpr ⟨k, List.mem_range.mpr hk, rfl⟩)
    rw [e, whole_q (canon_red _) dv, q_canon]
    show csF C dd k * natR (unF C dd) = _
    unfold csF
    rw [natR_mul]
    grind
  refine ⟨hw, d.natAbs * unF C dd, Nat.mul_pos (by have := h.pos; omega) hU.1, ?_, fun j hj => ?_⟩
  · have hb := elim_d h x.n12 (Nat.le_refl _) (B := 7000000 * dd) (by have := x.dl; omega) fun r l hr hl => by
      have e : aF C dn dd r l = rowA (plC C r).bs (scD2 C r) dn dd r l := if_pos hl
      rw [e]
      exact row_bd (x.c r hr) (x.b6 r hr) (x.S r hr) (Nat.le_of_lt x.dl) r l
    have hb2 : d.natAbs ≤ (12 * (7000000 * dd)) ^ 12 := Int.ofNat_le.mp (by
      rw [Int.natAbs_of_nonneg (Int.le_of_lt h.pos)]
      exact hb)
    have hb3 : (12 * (7000000 * dd)) ^ 12 ≤ (2 ^ 27 * dd) ^ 12 := Nat.pow_le_pow_left (by omega) 12
    exact Nat.mul_le_mul (Nat.le_trans hb2 hb3) x.U2
  · have d0 : (0 : Rat) < (d : Rat) := cast_pos h.pos
    have eM : natR (d.natAbs * unF C dd) = (d : Rat) * natR (unF C dd) := by
      rw [natR_mul]
      have : natR d.natAbs = (d : Rat) := by
        show ((d.natAbs : Nat) : Int) = (d : Rat)
        congr 1
        have := h.pos
        omega
      rw [this]
    have D0 : (d : Rat) * natR (unF C dd) ≠ 0 := by
      have := Rat.mul_pos d0 U0
      grind
    have dd0 : (0 : Rat) < natR dd := cast_pos (by have := x.dl; omega)
    have key : natR dn + 1 ≤ natR dd := by
      have : natR (dn + 1) ≤ natR dd := natR_le x.dl
      rwa [natR_add, natR_one] at this
    have mc : ∀ (c : Rat) k, k < C.length → meanC C (fun _ => c) k = c := fun c k hk => by
      have b := wsum_mul (plC C k).bs c (fun _ => 1)
      have s := x.M.s k hk
      rw [s, Rat.mul_one] at b
      exact b
    have e1000 : natR (1000 * dd) = 1000 * natR dd := by rw [natR_mul]; rfl
    have bd : natR dn / natR dd * (1000 * natR dd) = 1000 * natR dn := by grind
    refine ⟨⟨T j C.length, ?_⟩, ?_, ?_⟩
    · show _ * natR (d.natAbs * unF C dd) = qa T j C.length
      rw [eM]
      grind
    · rw [e1000]
      have := wor_ge x.M x.beta.1 x.beta.2 (f := fun _ => -(1000 * natR dd)) (fun k hk => by
        have b := (q_small (x.g k hk).1).1
        rw [mc _ k hk]
        show -(1000 * natR dd) ≤ qN (plC C k).g + natR dn / natR dd * -(1000 * natR dd)
        grind) hw j hj
      exact this
    · rw [e1000]
      have := wor_le x.M x.beta.1 x.beta.2 (f := fun _ => 1000 * natR dd) (fun k hk => by
        have b := (q_small (x.g k hk).1).2
        rw [mc _ k hk]
        show qN (plC C k).g + natR dn / natR dd * (1000 * natR dd) ≤ 1000 * natR dd
        grind) hw j hj
      exact this
end
end Md
namespace Md
open PySem L2 Evl
end Md
namespace Md
open PySem L2 Evl
theorem nb_nat (m : Nat) : NB 1 m (natR m) := ⟨⟨(m : Nat), by show natR m * natR 1 = natR m; rw [natR_one, Rat.mul_one]⟩, by have := natR_nonneg m; grind, Rat.le_refl⟩
end Md
namespace Md
open PySem L2 Evl
def pcP (p : PlV) (o : Bool) (i : Nat) : PlV := if p.k = some o then ⟨p.g, none, [((1, 1), (p.bs.getD i ((1, 1), 0)).2)]⟩ else p
def putV (G : List PlV) (o : Bool) (c : Nat → Nat) : List PlV := (List.range G.length).map fun k => pcP (vl G k) o (c k)
def Says (G : List PlV) (o : Bool) (c : Nat → Nat) (ch : Nat → PyData) : Prop := ∀ k, k < G.length → (vl G k).k = some o → ch k = .int (c k : Int) ∧ c k < (vl G k).bs.length
end Md
namespace Md
open PySem L2 Evl
end Md
namespace Md
open PySem L2 Evl
theorem one_small : SmallN (1, 1) := ⟨by decide, by decide, by decide, by decide⟩
theorem chV_fil {G : List PlV} {c : Nat → Nat} {w dn dd M0 : Nat} (hW : WfVG w G) (hw : w ≤ 999) (hc : OkC G c) (hg : ∀ p ∈ G, p.g.2.natAbs ∣ M0) (h1 : dn < dd) (h2 : dd ≤ 2 ^ 512) (h3 : 0 < M0) (h4 : M0 < 2 ^ 200) (h5 : Red ((dn : Int), (dd : Int))) : FilOk (chV G c) dn dd M0 := by
  have hl : (chV G c).length = G.length := chV_len
  refine ⟨by rw [hl]; exact hW.l12, chV_wf hW hc, fun x hx => ?_, fun x hx q hq => ?_, fun x hx => ?_, fun x hx => ?_, h1, h2, h3, h4, h5⟩ <;> rw [hl] at hx <;> have hp := vl_wf hW hx
  · rw [chV_at hx]
    split
    · exact hp.l6
    · exact (by decide : 1 ≤ 6)
  · rw [chV_at hx] at hq
    by_cases hk : (vl G x).k = none
    · rw [if_pos hk] at hq
      exact (hp.c hk q hq).1
    · rw [if_neg hk] at hq
      rw [List.mem_singleton.mp hq]
      exact one_small
  · rw [chV_at hx]
    split
    · exact ⟨hp.g, hg _ (vl_mem hx)⟩
    · exact ⟨hp.g, hg _ (vl_mem hx)⟩
  · unfold scD2
    rw [chV_at hx]
    by_cases hk : (vl G x).k = none
    · rw [if_pos hk]
      obtain ⟨W, w0, w1, w2⟩ := hp.w hk
      have d : denL ((vl G x).bs.map (·.1)) ∣ W := denL_to fun e he => by
        obtain ⟨q, hq, rfl⟩ := List.mem_map.mp he
        exact w2 q hq
      have := Nat.le_of_dvd w0 d
      show denL ((vl G x).bs.map (·.1)) ≤ 1000
      omega
    · rw [if_neg hk]
      exact (by decide : denL [((1 : Int), (1 : Int))] ≤ 1000)
theorem chV_gain {G : List PlV} {c : Nat → Nat} {x : Nat} (hx : x < G.length) : gainC (chV G c) x = qN (vl G x).g := by
  unfold gainC
  rw [chV_at hx]
  split <;> rfl
end Md
namespace Md
open PySem L2 Evl
structure GamOk (G : List PlV) (w dn dd M0 : Nat) : Prop where
  W : WfVG w G
  w9 : w ≤ 999
  g : ∀ p ∈ G, p.g.2.natAbs ∣ M0
  dl : dn < dd
  db : dd ≤ 2 ^ 512
  m0 : 0 < M0
  mb : M0 < 2 ^ 200
  red : Red ((dn : Int), (dd : Int))
def gnV (G : List PlV) (k : Nat) : Rat := qN (vl G k).g
structure WorOf (G : List PlV) (dn dd M0 : Nat) (c : Nat → Nat) (v : Nat → Rat) : Prop where
  eq : IsWor (chV G c) (natR dn / natR dd) (gnV G) v
  nb : ∃ M, 0 < M ∧ M ≤ (2 ^ 27 * dd) ^ 12 * M0 ∧ ∀ j, j < G.length → NB M (1000 * dd) (v j)
theorem wor_gain {G : List PlV} {c : Nat → Nat} {β : Rat} {v : Nat → Rat} (h : IsWor (chV G c) β (gainC (chV G c)) v) : IsWor (chV G c) β (gnV G) v := fun x hx => by
  rw [h x hx, chV_gain (by rw [chV_len] at hx; exact hx)]
  rfl
end Md
namespace Md
open PySem L2 Evl
end Md
set_option Elab.async false
set_option linter.all false
set_option maxRecDepth 100000
set_option maxHeartbeats 2000000
namespace Md
open PySem L2 Evl
def tgB (p : PlV) (i : Nat) : Nat := (p.bs.getD i ((1, 1), 0)).2
section
variable {w n : Nat} {p : PlV} {o : Bool} {f : Nat → Rat}
theorem tgB_lt (hw : WfV w n p) {i : Nat} (h : i < p.bs.length) : tgB p i < n := by
  unfold tgB
  rw [List.getD_eq_getElem?_getD, List.getElem?_eq_getElem h]
  exact hw.t _ (List.getElem_mem _)
end
section
variable {w : Nat} {G : List PlV} {o : Bool} {f : Nat → Rat} {c d : Nat → Nat}
theorem tgV_B {x : Nat} : tgV G c x = tgB (vl G x) (c x) := rfl
end
section
variable {G : List PlV} {o : Bool} {c d : Nat → Nat}
end
end Md
namespace Md
open PySem L2 Evl
section
variable {w : Nat} {G : List PlV} {β : Rat}
end
end Md
namespace Md
open PySem L2 Evl
theorem GamOk.mb2 {G : List PlV} {w dn dd M0 : Nat} (x : GamOk G w dn dd M0) : 1000 * dd * ((2 ^ 27 * dd) ^ 12 * M0) < 2 ^ 7200 := by
  have h1 : 2 ^ 27 * dd ≤ 2 ^ 27 * 2 ^ 512 := Nat.mul_le_mul_left _ x.db
  have h2 : (2 ^ 27 * dd) ^ 12 ≤ (2 ^ 27 * 2 ^ 512) ^ 12 := Nat.pow_le_pow_left h1 12
  have h3 : (2 ^ 27 * dd) ^ 12 * M0 ≤ (2 ^ 27 * 2 ^ 512) ^ 12 * 2 ^ 200 := Nat.mul_le_mul h2 (Nat.le_of_lt x.mb)
  have h4 : 1000 * dd ≤ 1000 * 2 ^ 512 := Nat.mul_le_mul_left _ x.db
  exact Nat.lt_of_le_of_lt (Nat.mul_le_mul h4 h3) (by decide +kernel)
theorem WorOf.big {G : List PlV} {w dn dd M0 : Nat} {c : Nat → Nat} {v : Nat → Rat} (y : WorOf G dn dd M0 c v) (x : GamOk G w dn dd M0) {j : Nat} (hj : j < G.length) : Big 8000 (canon (v j)) := by
  obtain ⟨M, m0, mb, h⟩ := y.nb
  have hd := x.dl
  refine ((h j hj).big m0 (by omega) (Nat.lt_of_le_of_lt (Nat.mul_le_mul_left _ mb) x.mb2)).mono (by decide)
theorem GamOk.beta {G : List PlV} {w dn dd M0 : Nat} (x : GamOk G w dn dd M0) (h : 0 < dn) : 0 < natR dn / natR dd ∧ natR dn / natR dd < 1 := by
  have d0 : (0 : Rat) < natR dd := cast_pos (by have := x.dl; omega)
  have n0 : (0 : Rat) < natR dn := cast_pos (by omega)
  have hl : natR dn < natR dd := Rat.intCast_lt_intCast.mpr (by have := x.dl; omega)
  refine ⟨(Rat.lt_div_iff d0).mpr (by rw [Rat.zero_mul]; exact n0), ?_⟩
  exact (Rat.div_lt_iff d0).mpr (by rw [Rat.one_mul]; exact hl)
end Md
namespace Md
open PySem L2 Evl
theorem FilOk.ex {C : List PlC} {dn dd M0 : Nat} (x : FilOk C dn dd M0) : ∃ v, IsWor C (natR dn / natR dd) (gainC C) v := by
  have key : ∀ k, k ≤ C.length → ∃ T d, Elim C.length (aF C dn dd) k T d := fun k => by
    induction k with
    | zero => exact fun _ => ⟨_, 1, elim_start _ _⟩
    | succ k ih =>
      intro hk
      obtain ⟨T, d, h⟩ := ih (by omega)
      exact ⟨_, _, (elim_step h (by omega) (x.sol.piv k T d (by omega) h)).1⟩
  obtain ⟨T, d, h⟩ := key C.length (Nat.le_refl _)
  exact ⟨_, (x.fin h).1⟩
section
variable {G : List PlV} {w dn dd M0 : Nat} {c : Nat → Nat} {v : Nat → Rat}
theorem GamOk.ex (x : GamOk G w dn dd M0) (hc : OkC G c) : ∃ v, IsWor (chV G c) (natR dn / natR dd) (gnV G) v := by
  obtain ⟨v, hv⟩ := (chV_fil x.W x.w9 hc x.g x.dl x.db x.m0 x.mb x.red).ex
  exact ⟨v, wor_gain hv⟩
end
end Md
set_option Elab.async false
set_option linter.all false
set_option maxRecDepth 100000
set_option maxHeartbeats 2000000
namespace Md
open PySem L2 Evl
def Itz3 (K : PySem.W.Frag) (a b c : Addr) : It :=
  ⟨fun i H => ∃ (xs ys zs : List V) (x y z : V), (SqL K H a xs ∧ SqL K H b ys ∧ SqL K H c zs) ∧ xs[i]? = some x ∧ ys[i]? = some y ∧ zs[i]? = some z,
   fun i H v H' => ∃ T x y z, (v = .ref T ∧ H T = none) ∧ H' = upd H T (.tup [x, y, z]) ∧ (∀ xs, SqL K H a xs → xs[i]? = some x) ∧ (∀ ys, SqL K H b ys → ys[i]? = some y) ∧ ∀ zs, SqL K H c zs → zs[i]? = some z,
   fun i H => ∃ xs ys zs : List V, (SqL K H a xs ∧ SqL K H b ys ∧ SqL K H c zs) ∧ (i ≤ xs.length ∧ i ≤ ys.length ∧ i ≤ zs.length) ∧ (i = xs.length ∨ i = ys.length ∨ i = zs.length)⟩
end Md
namespace Md
open PySem PySem.Spec PyProof.Rows L2 Evl
def iZip3 (K : PySem.W.Frag) (ts : TA) : TI := fun σ h R => ts σ h fun vs h1 => ∃ a b c xs ys zs, vs = [.ref a, .ref b, .ref c] ∧ (SqL K h1 a xs ∧ SqL K h1 b ys ∧ SqL K h1 c zs) ∧ R (Itz3 K a b c) h1
def zipD3 (xs ys zs : List PyData) : List PyData := List.zipWith (fun x p => .tuple [x, p.1, p.2]) xs (ys.zip zs)
def diZ3 (da : DN) : DN := fun Γ P => da Γ fun ds => match ds with
  | [x, y, z] => onL x fun xs => onL y fun ys => onL z fun zs => P (zipD3 xs ys zs)
  | _ => False
end Md
set_option Elab.async false
set_option linter.all false
set_option maxRecDepth 100000
set_option maxHeartbeats 2000000
namespace Md
open PySem L2 Evl
theorem Beh.b3 {p : PlV} {w n M B S : Nat} {f : Nat → Rat} (x : Beh p w n M B S f) {q : BrC} (hq : q ∈ p.bs) : Big 3000 (canon (f q.2)) := nb_big3 (x.hf q hq) x.M0 (Nat.lt_of_le_of_lt (Nat.le_mul_of_pos_right _ x.S0) x.MS) (Nat.le_trans x.Bl (Nat.pow_le_pow_right (by decide) (by decide)))
structure OnwOk (G : List PlV) (w dn dd U S M B n : Nat) (f : Nat → Rat) : Prop where
  W : WfVG w G
  d1 : 1 ≤ dn
  d2 : dn ≤ dd
  d3 : dd < 2 ^ 1000
  red : Red ((dn : Int), (dd : Int))
  gU : ∀ p ∈ G, p.g.2.natAbs ∣ U
  cS : ∀ p ∈ G, p.k = none → ∀ q ∈ p.bs, q.1.2.natAbs ∣ S
  UM : U ∣ M
  M0 : 0 < M
  S0 : 0 < S
  MS : M * (S * dd) < 2 ^ 1998
  Bl : B ≤ 2 ^ 800
  hf : ∀ k, k < G.length → NB M B (f k)
section
variable {G : List PlV} {w dn dd U S M B n : Nat} {f : Nat → Rat} (x : OnwOk G w dn dd U S M B n f)
include x
theorem OnwOk.ms : M * S < 2 ^ 1998 := Nat.lt_of_le_of_lt (Nat.mul_le_mul_left _ (Nat.le_mul_of_pos_right _ (by have := x.d1; have := x.d2; omega))) x.MS
theorem OnwOk.beh {p : PlV} (hp : p ∈ G) : Beh p w G.length M B S f := ⟨x.W.p p hp, x.cS p hp, x.M0, x.S0, x.ms, Nat.le_trans x.Bl (Nat.pow_le_pow_right (by decide) (by decide)), fun q hq => x.hf _ ((x.W.p p hp).t q hq)⟩
theorem OnwOk.nbt {k : Nat} (hk : k < G.length) : NB (M * S * dd) B (natR dn / natR dd * vW (vl G k) f) := by
  have hm := vl_mem hk
  have a := (x.beh hm).nb
  have d := disc_le x.d2 (by have := x.d1; have := x.d2; omega)
  have b : NB dd 1 (natR dn / natR dd) := ⟨d.2.2, by have := d.1; rw [natR_one]; grind, by have := d.2.1; rw [natR_one]; exact this⟩
  have c := nb_mul a b
  rw [Nat.mul_one, Rat.mul_comm] at c
  exact c
theorem OnwOk.nbg {k : Nat} (hk : k < G.length) : NB (M * S * dd) 1000 (qN (vl G k).g) := by
  have hm := vl_mem hk
  have hg := (x.W.p _ hm).g
  have b := q_small hg
  have n1 : NB U 1000 (qN (vl G k).g) := ⟨zt_den (red_small hg) (x.gU _ hm), b.1, b.2⟩
  exact n1.mono (Nat.dvd_trans x.UM (Nat.dvd_trans (Nat.dvd_mul_right _ _) (Nat.dvd_mul_right _ _))) (Nat.le_refl _)
theorem OnwOk.nbo {k : Nat} (hk : k < G.length) : NB (M * S * dd) (1000 + B) (onw G (natR dn / natR dd) f k) := nb_add (x.nbg hk) (x.nbt hk)
theorem OnwOk.pos : 0 < M * S * dd := Nat.mul_pos (Nat.mul_pos x.M0 x.S0) (by have := x.d1; have := x.d2; omega)
theorem OnwOk.lt : M * S * dd < 2 ^ 1998 := by
  rw [Nat.mul_assoc]
  exact x.MS
theorem OnwOk.le1 : 1000 + B ≤ 2 ^ 1000 := by
  have h1 : (1000 : Nat) ≤ 2 ^ 800 := Nat.le_trans (by decide : 1000 ≤ 2 ^ 10) (Nat.pow_le_pow_right (by decide) (by decide))
  have h2 := x.Bl
  have h3 : 2 ^ 800 + 2 ^ 800 = 2 ^ 801 := by rw [← Nat.two_mul, ← Nat.pow_succ']
  have h4 : (2 : Nat) ^ 801 ≤ 2 ^ 1000 := Nat.pow_le_pow_right (by decide) (by decide)
  exact Nat.le_trans (Nat.le_trans (Nat.add_le_add h1 h2) (Nat.le_of_eq h3)) h4
theorem OnwOk.ok {k : Nat} (hk : k < G.length) : Ok (onw G (natR dn / natR dd) f k) := nb_ok (x.nbo hk) x.pos x.lt x.le1
end
section
variable {K : PySem.W.Frag} {vs : List V} {h : Hp} {Q : VK} {E : XK}
end
end Md
namespace Md
open PySem L2 Evl
def dPar3 (i j l : Nat) (da : DN) : DS := fun DD Γ => da Γ fun ds => match ds with
  | [x, y, z] => DD.nx (((Γ.set i (some (.d x))).set j (some (.d y))).set l (some (.d z)))
  | _ => False
def dPar3O (i j l : Nat) : DS := fun DD Γ => i < Γ.length ∧ j < Γ.length ∧ l < Γ.length ∧ DD.nx (((Γ.set i (some (.o []))).set j (some (.o []))).set l (some (.o [])))
end Md
namespace Md
open PySem L2 Evl
def ShG (G : List PlV) : Prop := ∀ p ∈ G, p.g.2.natAbs ∣ 6 ∧ p.g.1.natAbs ≤ 9
def gG (G : List PlV) (h : Nat → Rat) : List PlV := (List.range G.length).map fun k => ⟨canon (h k), (vl G k).k, (vl G k).bs⟩
section
variable {G : List PlV} {h : Nat → Rat} {w : Nat}
theorem gG_len : (gG G h).length = G.length := by
  unfold gG
  rw [List.length_map, List.length_range]
theorem gG_wf (hW : WfVG w G) (hs : ∀ k, k < G.length → SmallN (canon (h k))) : WfVG w (gG G h) := by
  refine ⟨by rw [gG_len]; exact hW.l1, by rw [gG_len]; exact hW.l12, fun p hp => ?_⟩
  rw [gG_len]
  obtain ⟨k, hk, rfl⟩ := List.mem_map.mp hp
  have hk := List.mem_range.mp hk
  have x := vl_wf hW hk
  exact ⟨hs k hk, x.l1, x.l6, x.t, x.c, x.w, x.s⟩
end
theorem nb_small {r : Rat} {M B : Nat} (h : NB M B r) (hM : 0 < M) (h1 : M < 1000) (h2 : B * M < 1000) : SmallN (canon r) := by
  have hd := Nat.le_of_dvd hM (zt_den_dvd h.zt)
  obtain ⟨z, hz⟩ := h.zt
  have hn : r.num.natAbs ≤ z.natAbs := by
    have e : r * natR M = (z : Rat) := hz
    have dz := zt_den_dvd h.zt
    obtain ⟨q, hq⟩ := dz
    have e2 : z = r.num * (q : Int) := by
      have e3 : (z : Rat) = ((r.num * (q : Int) : Int) : Rat) := by
        have e0 : (r.num : Rat) / natR r.den = r := q_canon r
        have d0 : (0 : Rat) < natR r.den := cast_pos (by have := r.den_pos; omega)
        have e4 : r * natR r.den = (r.num : Rat) := by grind
        rw [← e, hq, natR_mul, ← Rat.mul_assoc, e4, Rat.intCast_mul]
        rfl
      exact Rat.intCast_inj.mp e3
    rw [e2, Int.natAbs_mul, Int.natAbs_natCast]
    have q0 : 0 < q := Nat.pos_of_ne_zero fun z => by rw [z, Nat.mul_zero] at hq; omega
    exact Nat.le_mul_of_pos_right _ q0
  have hz2 := nb_abs h hz.symm
  have hden : 0 < r.den := r.den_pos
  refine ⟨?_, ?_, ?_, ?_⟩
  · show (1 : Int) ≤ (r.den : Int)
    omega
  · show (r.den : Int) < 1000
    omega
  · show r.num.natAbs < 1000
    omega
  · exact (canon_red r).2
end Md
namespace Md
open PySem L2 Evl
section
variable {g m : Int × Int}
end
end Md
namespace Md
open PySem L2 Evl
def pD (G : List PlV) (h : Nat → Rat) (k : Nat) : PyData := .tuple [nQ (h k), .str (kdV (vl G k).k), .list (vl G k).el]
theorem gG_den {G : List PlV} {h : Nat → Rat} {M : Nat} (hd : ∀ k, k < G.length → (canon (h k)).2.natAbs ∣ M) : ∀ p ∈ gG G h, p.g.2.natAbs ∣ M := fun p hp => by
  obtain ⟨k, hk, rfl⟩ := List.mem_map.mp hp
  exact hd k (List.mem_range.mp hk)
end Md
namespace Md
open PySem L2 Evl
end Md
set_option Elab.async false
set_option linter.all false
set_option maxRecDepth 100000
set_option maxHeartbeats 2000000
namespace Md
open PySem L2 Evl
def dRevL (de : DE) : DN := fun Γ P => de Γ fun x => onL x fun ds => P ds.reverse
end Md
set_option Elab.async false
set_option linter.all false
set_option maxRecDepth 100000
set_option maxHeartbeats 2000000
namespace Md
open PySem L2 Evl
abbrev ConT := List PyData → (List Sl → Prop) → Prop
section
variable {K : PySem.W.Frag} {te : TE} {de : DE} {ts : TA} {dn : DN} {E : XK} {R : ConT}
def dRetT2 (de : DE) (i : Nat) : DS := fun DD Γ => match gat Γ i with
  | some (.o ds) => de Γ fun x => DD.rp [.d x, .o ds]
  | _ => False
def dAsgT2 (R : ConT) (da : DN) (i j : Nat) : DS := fun DD Γ => da Γ fun ds => R ds fun sls => ∃ x es, sls = [.d x, .o es] ∧ i < Γ.length ∧ j < Γ.length ∧ DD.nx ((Γ.set i (some (.d x))).set j (some (.o es)))
def dAsgOB (i : Nat) (dn : DN) : DS := fun DD Γ => dn (allD Γ) fun ds => (∀ d ∈ ds, scD d = true) ∧ i < Γ.length ∧ DD.nx (Γ.set i (some (.o ds)))
theorem dta_sc {b b' : Hp} : ∀ {ds : List PyData} {us : List V}, DtA K b us ds → (∀ d ∈ ds, scD d = true) → DtA K b' us ds := by
  intro ds
  induction ds with
  | nil =>
    intro us h _
    cases h
    exact DtA.nil
  | cons d ds ih =>
    intro us h hs
    cases h with
    | cons h1 h2 => exact DtA.cons (scD_dt h1 (hs d List.mem_cons_self)) (ih h2 fun e he => hs e (List.mem_cons_of_mem _ he))
end
section
variable {K : PySem.W.Frag} {N : List Str} {t : TS} {dd : DS} {b h : Hp} {vs : List V} {ds : List PyData} {Q : VK} {R : ConT} {R' : Con} {E : XK}
end
end Md
namespace Md
open PySem L2 Evl
end Md
namespace Md
end Md
set_option Elab.async false
set_option linter.all false
set_option maxRecDepth 100000
set_option maxHeartbeats 2000000
namespace Md
open PySem L2 Evl
section
variable {G : List PlV} {w : Nat} {β : Rat}
end
end Md
namespace Md
open PySem L2 Evl
section
variable {K : PySem.W.Frag} {vs : List V} {h : Hp} {Q : VK} {E : XK}
end
end Md
namespace Md
open PySem L2 Evl
end Md
set_option Elab.async false
set_option linter.all false
set_option maxRecDepth 100000
set_option maxHeartbeats 2000000
namespace Md
def ev : List Int → Rat → Rat
  | [], _ => 0
  | c :: l, x => (c : Rat) + x * ev l x
def l1 : List Int → Nat
  | [] => 0
  | c :: l => c.natAbs + l1 l
def addP : List Int → List Int → List Int
  | [], m => m
  | c :: l, [] => c :: l
  | c :: l, d :: m => (c + d) :: addP l m
def mulC (a : Int) (l : List Int) : List Int := l.map fun c => a * c
def mulP : List Int → List Int → List Int
  | [], _ => []
  | c :: l, m => addP (mulC c m) (0 :: mulP l m)
theorem ev_add : ∀ (l m : List Int) (x : Rat), ev (addP l m) x = ev l x + ev m x
  | [], m, x => by
    show ev m x = 0 + ev m x
    grind
  | c :: l, [], x => by
    show ev (c :: l) x = ev (c :: l) x + 0
    grind
  | c :: l, d :: m, x => by
    show (((c + d : Int)) : Rat) + x * ev (addP l m) x = ((c : Rat) + x * ev l x) + ((d : Rat) + x * ev m x)
    rw [ev_add l m x, Rat.intCast_add]
    grind
theorem l1_add : ∀ (l m : List Int), l1 (addP l m) ≤ l1 l + l1 m
  | [], m => by
    show l1 m ≤ 0 + l1 m
    omega
  | c :: l, [] => by
    show l1 (c :: l) ≤ l1 (c :: l) + 0
    omega
  | c :: l, d :: m => by
    have := l1_add l m
    show (c + d).natAbs + l1 (addP l m) ≤ (c.natAbs + l1 l) + (d.natAbs + l1 m)
    omega
theorem ev_mulC (a : Int) : ∀ (l : List Int) (x : Rat), ev (mulC a l) x = (a : Rat) * ev l x
  | [], x => by
    show (0 : Rat) = (a : Rat) * 0
    grind
  | c :: l, x => by
    show ((a * c : Int) : Rat) + x * ev (mulC a l) x = (a : Rat) * ((c : Rat) + x * ev l x)
    rw [ev_mulC a l x, Rat.intCast_mul]
    grind
theorem l1_mulC (a : Int) : ∀ (l : List Int), l1 (mulC a l) = a.natAbs * l1 l
  | [] => rfl
  | c :: l => by
    show (a * c).natAbs + l1 (mulC a l) = a.natAbs * (c.natAbs + l1 l)
    rw [l1_mulC a l, Int.natAbs_mul, Nat.mul_add]
theorem ev_mul : ∀ (l m : List Int) (x : Rat), ev (mulP l m) x = ev l x * ev m x
  | [], m, x => by
    show (0 : Rat) = 0 * ev m x
    grind
  | c :: l, m, x => by
    show ev (addP (mulC c m) (0 :: mulP l m)) x = ((c : Rat) + x * ev l x) * ev m x
    rw [ev_add, ev_mulC]
    show (c : Rat) * ev m x + (((0 : Int) : Rat) + x * ev (mulP l m) x) = _
    rw [ev_mul l m x]
    have : ((0 : Int) : Rat) = 0 := rfl
    rw [this]
    grind
theorem l1_mul : ∀ (l m : List Int), l1 (mulP l m) ≤ l1 l * l1 m
  | [], m => Nat.zero_le _
  | c :: l, m => by
    have a := l1_add (mulC c m) (0 :: mulP l m)
    have b := l1_mul l m
    have e : l1 (0 :: mulP l m) = l1 (mulP l m) := by
      show (0 : Int).natAbs + _ = _
      simp
    rw [e, l1_mulC] at a
    show l1 (addP (mulC c m) (0 :: mulP l m)) ≤ (c.natAbs + l1 l) * l1 m
    rw [Nat.add_mul]
    omega
def PolyE (B : Nat) (F : Nat → Rat) : Prop := ∃ l : List Int, l1 l ≤ B ∧ ∀ p, F p = ev l (natR p)
theorem PolyE.congr {B : Nat} {F G : Nat → Rat} (h : PolyE B F) (e : ∀ p, G p = F p) : PolyE B G := by
  obtain ⟨l, a, b⟩ := h
  exact ⟨l, a, fun p => (e p).trans (b p)⟩
theorem PolyE.mono {B B' : Nat} {F : Nat → Rat} (h : PolyE B F) (e : B ≤ B') : PolyE B' F := by
  obtain ⟨l, a, b⟩ := h
  exact ⟨l, Nat.le_trans a e, b⟩
theorem PolyE.add {A B : Nat} {F G : Nat → Rat} (h : PolyE A F) (g : PolyE B G) : PolyE (A + B) fun p => F p + G p := by
  obtain ⟨l, a, b⟩ := h
  obtain ⟨m, c, d⟩ := g
  exact ⟨addP l m, Nat.le_trans (l1_add l m) (Nat.add_le_add a c), fun p => by
    show F p + G p = _
    rw [ev_add, b p, d p]⟩
theorem PolyE.mul {A B : Nat} {F G : Nat → Rat} (h : PolyE A F) (g : PolyE B G) : PolyE (A * B) fun p => F p * G p := by
  obtain ⟨l, a, b⟩ := h
  obtain ⟨m, c, d⟩ := g
  exact ⟨mulP l m, Nat.le_trans (l1_mul l m) (Nat.mul_le_mul a c), fun p => by
    show F p * G p = _
    rw [ev_mul, b p, d p]⟩
theorem PolyE.cst (z : Int) : PolyE z.natAbs fun _ => (z : Rat) := ⟨[z], Nat.le_of_eq (by simp [l1]), fun p => by
  show _ = (z : Rat) + natR p * 0
  grind⟩
theorem PolyE.sgn (n : Nat) : PolyE 1 fun _ => Md.sgn n := by
  unfold Md.sgn
  split
  · exact PolyE.cst 1
  · exact PolyE.cst (-1)
theorem PolyE.sum {B : Nat} {F : Nat → Nat → Rat} : ∀ n, (∀ i, i < n → PolyE B fun p => F p i) → PolyE (n * B) fun p => sumR n (F p)
  | 0, _ => ⟨[], Nat.zero_le _, fun p => rfl⟩
  | n + 1, h => by
    have a := PolyE.sum n fun i hi => h i (by omega)
    have b := a.add (h n (by omega))
    refine (b.mono (by rw [Nat.add_mul, Nat.one_mul]; exact Nat.le_refl _)).congr fun p => sumR_succ _ _
theorem PolyE.det {B : Nat} : ∀ (k : Nat) {c : Nat → Nat → Nat → Rat}, (∀ col r, col < k → r < k → PolyE B fun p => c p col r) → PolyE (fbN B k) fun p => Fd k (c p)
  | 0, _, _ => PolyE.cst 1
  | k + 1, c, h => by
    have a : PolyE ((k + 1) * (B * fbN B k)) fun p => sumR (k + 1) fun i => Md.sgn (i + k) * (c p k i * Fd k (fun col r => c p col (sk i r))) := PolyE.sum (k + 1) fun i hi => by
      have b := PolyE.det k (c := fun p col r => c p col (sk i r)) fun col r h1 h2 => h col (sk i r) (by omega) (sk_lt h2)
      have d := (h k i (by omega) hi).mul b
      exact ((PolyE.sgn (i + k)).mul d).mono (by rw [Nat.one_mul]; exact Nat.le_refl _)
    exact a
end Md
set_option Elab.async false
set_option linter.all false
set_option maxRecDepth 100000
set_option maxHeartbeats 2000000
namespace Md
theorem fill_ex {C : List PlC} (hW : WfC C) {L : List Nat} (hn : L.Nodup) (hL : ∀ x ∈ L, x < C.length) (hO : Out C L) (e kn : Nat → Rat) (hk : ∀ x ∈ L, kn x = 0) : ∃ f, IsFill C L e kn f := by
  let kr : Nat → Rat := fun r => (e (L.getD r 0) + meanC C kn (L.getD r 0)) * ((scaleC C (L.getD r 0) : Int) : Rat)
  let U := denL ((List.range L.length).map fun r => canon (kr r))
  have hU : 0 < U := denL_pos fun c hc => by
    obtain ⟨r, _, rfl⟩ := List.mem_map.mp hc
    exact (canon_red _).1
  obtain ⟨T, d, hE⟩ := elim_exists hW hn hL hO kr U L.length (Nat.le_refl _)
  exact ⟨_, fill_of hW hn hL hk hU (fun r hr => denL_dvd (List.mem_map.mpr ⟨r, List.mem_range.mpr hr, rfl⟩)) hE⟩
section
variable {C : List PlC} (h : WfC C)
include h
theorem lead_mean {x : Nat} (hx : x ∈ headsL C) {L : List Nat} (e : reachL C x = x :: L) (G : IsGrp C x L) : ∃ u, IsFill C L (leadC C) (fun _ => 0) u ∧ leadC C x + meanC C u x = 0 := by
  obtain ⟨s, m, _, hm, hf⟩ := (lead_ok h).grp x hx L e
  obtain ⟨s1, t, h1, h2, h3⟩ := hm.ex
  have hxl := G.lt x List.mem_cons_self
  have ht := (steps_nn h G h2).2 x hxl
  have hT : 1 + meanC C t x ≠ 0 := by grind
  refine ⟨fun y => s1 y - m * t y, ⟨fun y hy => ?_, fun y hy => ?_⟩, ?_⟩
  · rw [mean_sub, mean_mulC, hf y (List.mem_cons_of_mem x hy)]
    have a := h1.eq y hy
    have b := h2.eq y hy
    grind
  · show s1 y - m * t y = 0
    rw [h1.out y hy, h2.out y hy]
    grind
  · rw [mean_sub, mean_mulC, hf x List.mem_cons_self]
    have : m * (1 + meanC C t x) = s x + meanC C s1 x := by
      rw [h3]
      grind
    grind
open Classical in
theorem behind_ex : ∃ k : Nat → Rat, ∀ x, x < C.length → k x = meanC C k x - meanC C (leadC C) x := by
  have hu : ∀ x, ∃ u : Nat → Rat, x ∈ headsL C → ∀ L, reachL C x = x :: L → IsFill C L (leadC C) (fun _ => 0) u ∧ leadC C x + meanC C u x = 0 := fun x => by
    by_cases hx : x ∈ headsL C
    · obtain ⟨L, e, G⟩ := head_grp h hx
      obtain ⟨u, h1, h2⟩ := lead_mean h hx e G
      refine ⟨u, fun _ L' e' => ?_⟩
      rw [e] at e'
      have : L = L' := (List.cons.inj e').2
      subst this
      exact ⟨h1, h2⟩
    · exact ⟨fun _ => 0, fun z => absurd z hx⟩
  let u : Nat → Nat → Rat := fun x => (hu x).choose
  have us : ∀ x, x ∈ headsL C → ∀ L, reachL C x = x :: L → IsFill C L (leadC C) (fun _ => 0) (u x) ∧ leadC C x + meanC C (u x) x = 0 := fun x => (hu x).choose_spec
  have uniq : ∀ {x z y}, x ∈ headsL C → z ∈ headsL C → y ∈ reachL C x → y ∈ reachL C z → x = z := fun {x z y} hx hz h1 h2 => by
    obtain ⟨L, e, G⟩ := head_grp h hx
    obtain ⟨M, e', G'⟩ := head_grp h hz
    rw [e] at h1
    rw [e'] at h2
    have a := G.al y h1
    have b := G'.al y h2
    rw [a] at b
    exact (List.cons.inj b).1
  let kn : Nat → Rat := fun y => if q : ∃ x, x ∈ headsL C ∧ y ∈ reachL C x then u q.choose y else 0
  have kn_at : ∀ {x y}, x ∈ headsL C → y ∈ reachL C x → kn y = u x y := fun {x y} hx hy => by
    have q : ∃ x, x ∈ headsL C ∧ y ∈ reachL C x := ⟨x, hx, hy⟩
    show (if q : ∃ x, x ∈ headsL C ∧ y ∈ reachL C x then u q.choose y else 0) = _
    rw [dif_pos q]
    have := uniq q.choose_spec.1 hx q.choose_spec.2 hy
    rw [this]
  have kn0 : ∀ y ∈ passL C, kn y = 0 := fun y hy => by
    show (if q : ∃ x, x ∈ headsL C ∧ y ∈ reachL C x then u q.choose y else 0) = 0
    rw [dif_neg]
    rintro ⟨x, hx, hm⟩
    exact (mem_pass.mp hy).2 x hx hm
  obtain ⟨f, hf⟩ := fill_ex h pass_nodup pass_lt (out_pass h) (leadC C) kn kn0
  have fg : ∀ {x y}, x ∈ headsL C → y ∈ reachL C x → f y = u x y := fun {x y} hx hy => by
    obtain ⟨L, e, G⟩ := head_grp h hx
    rw [hf.out y (by rw [e] at hy; exact pass_out h hx e hy), kn_at hx hy]
  have key : ∀ x, x < C.length → f x = leadC C x + meanC C f x := fun y hy => by
    rcases pass_or hy with hp | ⟨x, hx, hm⟩
    · exact hf.eq y hp
    · obtain ⟨L, e, G⟩ := head_grp h hx
      obtain ⟨a1, a2⟩ := us x hx L e
      have hm2 := hm
      rw [e] at hm2
      have em : meanC C f y = meanC C (u x) y := mean_congr h fun q hq => fg hx (by rw [e]; exact grp_closed h G hm2 hq)
      rw [fg hx hm, em]
      rcases List.mem_cons.mp hm2 with rfl | hL
      · rw [a1.out y (List.nodup_cons.mp G.nd).1]
        exact a2.symm
      · exact a1.eq y hL
  refine ⟨fun y => leadC C y - f y, fun x hx => ?_⟩
  rw [mean_sub]
  have := key x hx
  grind
end
section
variable {C : List PlC}
theorem wor_bd (hM : WfM C) {β c R : Rat} (h0 : 0 ≤ β) (h1 : β < 1) (hR : R * (1 - β) = c) {e f : Nat → Rat} (he : ∀ x, x < C.length → -c ≤ e x ∧ e x ≤ c) (hf : IsWor C β e f) : ∀ x, x < C.length → -R ≤ f x ∧ f x ≤ R := by
  have mc : ∀ (c : Rat) k, k < C.length → meanC C (fun _ => c) k = c := fun c k hk => by
    have b := wsum_mul (plC C k).bs c (fun _ => 1)
    have s := hM.s k hk
    rw [s, Rat.mul_one] at b
    exact b
  intro x hx
  refine ⟨wor_ge hM h0 h1 (f := fun _ => -R) (fun k hk => ?_) hf x hx, wor_le hM h0 h1 (f := fun _ => R) (fun k hk => ?_) hf x hx⟩
  · rw [mc _ k hk]
    have := he k hk
    grind
  · rw [mc _ k hk]
    have := he k hk
    grind
theorem near_one (h : WfC C) : ∃ K : Rat, 0 ≤ K ∧ ∀ p : Nat, 2 ≤ p → ∀ w : Nat → Rat, IsWor C (natR (p - 1) / natR p) (gainC C) w → ∀ x, x < C.length → -(K / natR p) ≤ w x - (natR p * longC C x + leadC C x) ∧ w x - (natR p * longC C x + leadC C x) ≤ K / natR p := by
  obtain ⟨k, hk⟩ := behind_ex h
  have hM := WfC.toM h
  obtain ⟨K0, K00, hK0⟩ : ∃ K0 : Rat, 0 ≤ K0 ∧ ∀ x, x < C.length → -K0 ≤ k x ∧ k x ≤ K0 := by
    refine ⟨hiQ (fun x => if 0 ≤ k x then k x else -k x) C.length, ?_, fun x hx => ?_⟩
    · have h1 : 0 < C.length := by have := h.l1; omega
      have a := hi_ge (f := fun x => if 0 ≤ k x then k x else -k x) h1
      have b : 0 ≤ (if 0 ≤ k 0 then k 0 else -k 0) := by split <;> grind
      exact Rat.le_trans b a
    · have a := hi_ge (f := fun x => if 0 ≤ k x then k x else -k x) hx
      have a : (if 0 ≤ k x then k x else -k x) ≤ _ := a
      split at a <;> constructor <;> grind
  refine ⟨2 * K0, by grind, fun p hp w hw x hx => ?_⟩
  have p0 : (0 : Rat) < natR p := natR_pos (by omega)
  have pn : natR p ≠ 0 := by grind
  have e1 : natR (p - 1) + 1 = natR p := by
    have := natR_add (p - 1) 1
    rw [natR_one, show p - 1 + 1 = p by omega] at this
    exact this.symm
  have β0 : 0 ≤ natR (p - 1) / natR p := le_div' p0 (by rw [Rat.zero_mul]; exact natR_nonneg _)
  have β1 : natR (p - 1) / natR p < 1 := (Rat.div_lt_iff p0).mpr (by rw [Rat.one_mul]; grind)
  obtain ⟨ε, hε⟩ : ∃ ε : Rat, ε = 1 / natR p := ⟨_, rfl⟩
  have ε1 : ε * natR p = 1 := by rw [hε]; grind
  have ε0 : 0 ≤ ε := by
    rw [hε]
    exact le_div' p0 (by rw [Rat.zero_mul]; decide +kernel)
  have eβ : natR (p - 1) / natR p = 1 - ε := by
    rw [hε]
    grind
  have hu : IsWor C (natR (p - 1) / natR p) (fun y => -(ε * ε * meanC C k y)) (fun y => w y - (natR p * longC C y + leadC C y) - ε * k y) := fun y hy => by
    have a := hw y hy
    have b := long_mean h (long_ok h) hy
    have c := lead_eq h (long_ok h) (lead_ok h) hy
    have d := hk y hy
    have m1 : meanC C (fun y => w y - (natR p * longC C y + leadC C y) - ε * k y) y = meanC C w y - (natR p * meanC C (longC C) y + meanC C (leadC C) y) - ε * meanC C k y := by
      rw [mean_sub, mean_sub, mean_mulC]
      have : meanC C (fun y => natR p * longC C y + leadC C y) y = natR p * meanC C (longC C) y + meanC C (leadC C) y := by
        rw [← mean_mulC]
        exact wsum_add _ _ _
      rw [this]
    rw [m1, eβ]
    rw [eβ] at a
    show w y - (natR p * longC C y + leadC C y) - ε * k y = -(ε * ε * meanC C k y) + (1 - ε) * (meanC C w y - (natR p * meanC C (longC C) y + meanC C (leadC C) y) - ε * meanC C k y)
    generalize meanC C w y = mw at *
    generalize meanC C (longC C) y = mg at *
    generalize meanC C (leadC C) y = mh at *
    generalize meanC C k y = mk at *
    generalize gainC C y = gg at *
    generalize natR p = P at *
    grind
  have bd := wor_bd hM (c := ε * ε * K0) (R := ε * K0) β0 β1 (by rw [eβ]; grind) (e := fun y => -(ε * ε * meanC C k y)) (fun y hy => by
    have m1 : meanC C k y ≤ K0 := meanM_le hM hy fun j hj => (hK0 j hj).2
    have m2 : -K0 ≤ meanC C k y := by
      have := meanM_le hM hy (f := fun j => (-1) * k j) (c := K0) fun j hj => by
        have := (hK0 j hj).1
        grind
      rw [mean_mulC] at this
      grind
    have ε2 : 0 ≤ ε * ε := Rat.mul_nonneg ε0 ε0
    have a1 := Rat.mul_le_mul_of_nonneg_left m1 ε2
    have a2 := Rat.mul_le_mul_of_nonneg_left m2 ε2
    constructor <;> grind) hu x hx
  have kx := hK0 x hx
  have b1 := Rat.mul_le_mul_of_nonneg_left kx.1 ε0
  have b2 := Rat.mul_le_mul_of_nonneg_left kx.2 ε0
  have eK : 2 * K0 / natR p = 2 * (ε * K0) := by
    rw [hε]
    grind
  rw [eK]
  constructor <;> grind
end
end Md
set_option Elab.async false
set_option linter.all false
set_option maxRecDepth 100000
set_option maxHeartbeats 2000000
namespace Md
section
variable {C : List PlC} {dn dd M0 : Nat}
def gzP (C : List PlC) (M0 : Nat) (x : Nat) : Int := (plC C x).g.1 * ((M0 : Int) / (plC C x).g.2)
def aP (C : List PlC) (M0 p x y : Nat) : Int := if y < C.length then rowA (plC C x).bs (scD2 C x) ((p : Int) - 1) p x y else (p : Int) * ((scD2 C x : Int) * gzP C M0 x)
theorem mat_p (x : FilOk C dn dd M0) {p : Nat} (hp : 1 ≤ p) : IsMat C (natR (p - 1) / natR p) (aP C M0 p) fun k => natR (scD2 C k) * natR p :=
  mat_is (Sx := scD2 C) hp (fun k hk => ⟨x.S0 hk, x.Sd hk⟩) fun k y hk hy => by
    have e : aP C M0 p k y = rowA (plC C k).bs (scD2 C k) ((p : Int) - 1) p k y := if_pos hy
    have e2 : (((p - 1 : Nat)) : Int) = (p : Int) - 1 := by omega
    rw [e, e2]
theorem beta_p {p : Nat} (hp : 2 ≤ p) : 0 < natR (p - 1) / natR p ∧ natR (p - 1) / natR p < 1 := by
  have p0 : (0 : Rat) < natR p := natR_pos (by omega)
  have n0 : (0 : Rat) < natR (p - 1) := natR_pos (by omega)
  refine ⟨(Rat.lt_div_iff p0).mpr (by rw [Rat.zero_mul]; exact n0), (Rat.div_lt_iff p0).mpr ?_⟩
  rw [Rat.one_mul]
  exact Rat.intCast_lt_intCast.mpr (by omega)
theorem elim_p (x : FilOk C dn dd M0) {p : Nat} (hp : 2 ≤ p) : ∃ T d, Elim C.length (aP C M0 p) C.length T d := by
  have key : ∀ k, k ≤ C.length → ∃ T d, Elim C.length (aP C M0 p) k T d := fun k => by
    induction k with
    | zero => exact fun _ => ⟨_, 1, elim_start _ _⟩
    | succ k ih =>
      intro hk
      obtain ⟨T, d, h⟩ := ih (by omega)
      exact ⟨_, _, (elim_step h (by omega) (piv_pos x.M (Rat.le_of_lt (beta_p hp).1) (beta_p hp).2 (mat_p x (by omega)) h (by omega))).1⟩
  exact key _ (Nat.le_refl _)
theorem arch (r : Rat) (n : Nat) : ∃ p : Nat, n ≤ p ∧ 1 ≤ p ∧ r < natR p := by
  refine ⟨n + r.num.natAbs + 1, by omega, by omega, ?_⟩
  have a : r ≤ natR r.num.natAbs := by
    have e : (r.num : Rat) / natR r.den = r := q_canon r
    have d0 : (0 : Rat) < natR r.den := natR_pos r.den_pos
    have h1 : (r.num : Rat) ≤ natR r.num.natAbs := Rat.intCast_le_intCast.mpr (by omega)
    have h2 : (1 : Rat) ≤ natR r.den := by
      have : natR 1 ≤ natR r.den := natR_le r.den_pos
      rwa [natR_one] at this
    have h3 := Rat.mul_le_mul_of_nonneg_left h2 (natR_nonneg r.num.natAbs)
    rw [Rat.mul_one] at h3
    have h4 : (r.num : Rat) / natR r.den ≤ natR r.num.natAbs := Md.div_le' d0 (Rat.le_trans h1 h3)
    rw [e] at h4
    exact h4
  have b : natR (n + r.num.natAbs + 1) = natR n + natR r.num.natAbs + 1 := by rw [natR_add, natR_add, natR_one]
  have c := natR_nonneg n
  rw [b]
  grind
end
end Md
set_option Elab.async false
set_option linter.all false
set_option maxRecDepth 100000
set_option maxHeartbeats 2000000
namespace Md
open PySem L2 Evl
def nxQ (p : PlV) (f : Nat → Rat) (i : Nat) : Rat := if p.k = none then vW p f else f (tgB p i)
def shQ (G : List PlV) (g : Nat → Rat) (q : Nat × Nat) : Rat := nxQ (vl G q.1) g q.2 - g q.1
def boQ (G : List PlV) (g h : Nat → Rat) (q : Nat × Nat) : Rat := gnV G q.1 + nxQ (vl G q.1) h q.2 - (g q.1 + h q.1)
def ctP (G : List PlV) (o : Bool) (c : Nat → Nat) (x : Nat) : List (Nat × Nat) := if (vl G x).k = none then [(x, 0)] else if (vl G x).k = some o then [(x, c x)] else (List.range (vl G x).bs.length).map fun i => (x, i)
def ctL (G : List PlV) (o : Bool) (c : Nat → Nat) : List (Nat × Nat) := (List.range G.length).flatMap (ctP G o c)
def wnL (G : List PlV) (c : Nat → Nat) (g h : Nat → Rat) : List (Rat × Rat) := ((ctL G true c).map fun q => (shQ G g q, boQ G g h q)) ++ (ctL G false c).map fun q => (-shQ G g q, -boQ G g h q)
structure RightC (G : List PlV) (c : Nat → Nat) (g h : Nat → Rat) : Prop where
  ok : OkC G c
  s : ∀ s ∈ wnL G c g h, 0 ≤ s.1 ∧ 0 ≤ s.2
section
variable {G : List PlV} {c : Nat → Nat} {g h : Nat → Rat} {w : Nat}
theorem mem_ct {o : Bool} {q : Nat × Nat} : q ∈ ctL G o c ↔ q.1 < G.length ∧ q ∈ ctP G o c q.1 := by
  unfold ctL
  rw [List.mem_flatMap]
  constructor
  · rintro ⟨x, hx, hm⟩
    have e : q.1 = x := by
      unfold ctP at hm
      split at hm
      · rw [List.mem_singleton.mp hm]
      · split at hm
        · rw [List.mem_singleton.mp hm]
        · obtain ⟨i, _, rfl⟩ := List.mem_map.mp hm
          rfl
    rw [e]
    exact ⟨List.mem_range.mp hx, hm⟩
  · rintro ⟨hx, hm⟩
    exact ⟨q.1, List.mem_range.mpr hx, hm⟩
theorem ct_draw {o : Bool} {x : Nat} (hx : x < G.length) (hk : (vl G x).k = none) : (x, 0) ∈ ctL G o c := mem_ct.mpr ⟨hx, by
  unfold ctP
  rw [if_pos hk]
  exact List.mem_singleton.mpr rfl⟩
theorem ct_own {o : Bool} {x : Nat} (hx : x < G.length) (hk : (vl G x).k = some o) : (x, c x) ∈ ctL G o c := mem_ct.mpr ⟨hx, by
  unfold ctP
  rw [if_neg (by rw [hk]; intro z; cases z), if_pos hk]
  exact List.mem_singleton.mpr rfl⟩
theorem ct_all {o p : Bool} {x i : Nat} (hx : x < G.length) (hk : (vl G x).k = some p) (hop : p ≠ o) (hi : i < (vl G x).bs.length) : (x, i) ∈ ctL G o c := mem_ct.mpr ⟨hx, by
  unfold ctP
  rw [if_neg (by rw [hk]; intro z; cases z), if_neg (by rw [hk]; intro z; exact hop (Option.some.inj z))]
  exact List.mem_map.mpr ⟨i, List.mem_range.mpr hi, rfl⟩⟩
theorem nxQ_draw {x i : Nat} {f : Nat → Rat} (hk : (vl G x).k = none) : nxQ (vl G x) f i = vW (vl G x) f := if_pos hk
theorem nxQ_side {x i : Nat} {f : Nat → Rat} (hk : (vl G x).k ≠ none) : nxQ (vl G x) f i = f (tgB (vl G x) i) := if_neg hk
end
structure RigOk (G : List PlV) (M0 : Nat) : Prop where
  W : WfVG 360 G
  g : ∀ p ∈ G, p.g.2.natAbs ∣ M0
  m0 : 0 < M0
  mb : M0 ≤ 2 ^ 17
  pos : ∀ p ∈ G, p.k = none → ∀ q ∈ p.bs, 0 < q.1.1
section
variable {G : List PlV} {M0 N : Nat} {c : Nat → Nat} {v : Nat → Rat}
theorem RigOk.wfc (x : RigOk G M0) (hc : OkC G c) : WfC (chV G c) := by
  have hl : (chV G c).length = G.length := chV_len
  refine ⟨by rw [hl]; exact x.W.l1, by rw [hl]; exact x.W.l12, fun p hp => ?_⟩
  rw [hl]
  unfold chV at hp
  obtain ⟨k, hk, rfl⟩ := List.mem_map.mp hp
  have hk := List.mem_range.mp hk
  have hw := vl_wf x.W hk
  split
  · rename_i hd
    exact ⟨hw.g, hw.l1, hw.l6, fun q hq => ⟨(hw.c hd q hq).1, x.pos _ (vl_mem hk) hd q hq, hw.t q hq⟩, hw.w hd, hw.s hd⟩
  · rename_i hd
    exact wf_sure_one hw.g (tgV_lt x.W hc hk hd)
theorem RigOk.ex (x : RigOk G M0) (hc : OkC G c) {p : Nat} (hp : 2 ≤ p) : ∃ v, IsWor (chV G c) (natR (p - 1) / natR p) (gainC (chV G c)) v := by
  have y := chV_fil x.W (by decide) hc x.g (dn := 1) (dd := 2) (by decide) (by decide) x.m0 (Nat.lt_of_le_of_lt x.mb (by decide +kernel)) ⟨by decide, by decide⟩
  obtain ⟨T, d, hE⟩ := elim_p y hp
  have U0 : (0 : Rat) < natR M0 := natR_pos x.m0
  refine ⟨_, end_wor (mat_p y (by omega)) U0 hE fun k hk => ?_⟩
  have e : aP (chV G c) M0 p k (chV G c).length = (p : Int) * ((scD2 (chV G c) k : Int) * gzP (chV G c) M0 k) := if_neg (Nat.lt_irrefl _)
  unfold qa
  rw [e, Rat.intCast_mul, Rat.intCast_mul]
  have g := (y.g k hk)
  have e2 : ((gzP (chV G c) M0 k : Int) : Rat) = qN (plC (chV G c) k).g * natR M0 := by
    unfold gzP
    exact whole_q (red_small g.1) g.2
  rw [e2]
  have e3 : ((p : Int) : Rat) = natR p := rfl
  have e4 : ((scD2 (chV G c) k : Int) : Rat) = natR (scD2 (chV G c) k) := rfl
  rw [e3, e4]
  show natR p * (natR (scD2 (chV G c) k) * (qN (plC (chV G c) k).g * natR M0)) = natR (scD2 (chV G c) k) * natR p * qN (plC (chV G c) k).g * natR M0
  grind
theorem RigOk.own (x : RigOk G M0) (hc : OkC G c) {o : Bool} {q : Nat × Nat} (hx : q.1 < G.length) (hq : (vl G q.1).k = none ∨ (vl G q.1).k ≠ none ∧ q.2 = c q.1) : shQ G (longC (chV G c)) q = 0 ∧ boQ G (longC (chV G c)) (leadC (chV G c)) q = 0 := by
  have hwf := x.wfc hc
  have hl : (chV G c).length = G.length := chV_len
  have a := long_mean hwf (long_ok hwf) (x := q.1) (by omega)
  have b := lead_eq hwf (long_ok hwf) (lead_ok hwf) (x := q.1) (by omega)
  rw [chV_gain hx] at b
  have e : ∀ f : Nat → Rat, meanC (chV G c) f q.1 = nxQ (vl G q.1) f q.2 := fun f => by
    rcases hq with hk | ⟨hk, e⟩
    · rw [mean_draw hx hk, nxQ_draw hk]
      unfold vW
      rw [hk]
    · rw [mean_side hx hk, nxQ_side hk, tgV_B, e]
  rw [e] at a b
  unfold shQ boQ gnV
  constructor <;> grind
end
end Md
set_option Elab.async false
set_option linter.all false
set_option maxRecDepth 100000
set_option maxHeartbeats 2000000
namespace Md
open PySem L2 Evl
section
variable {X : Cx} {K : PySem.W.Frag} {te : TE} {ts : TA} {de : DE} {e : Expr}
def dExt (i : Nat) (de : DE) : DS := fun DD Γ => match gat Γ i with
  | some (.o ds) => de Γ fun x => onL x fun es => ds.length + es.length ≤ 100000 ∧ DD.nx (Γ.set i (some (.o (ds ++ es))))
  | _ => False
end
theorem canon_num_pos {s : Rat} (h0 : 0 < s) : 0 < (canon s).1 := by
  have h1 : 0 ≤ (canon s).1 := Rat.num_nonneg.mpr (Rat.le_of_lt h0)
  have h2 : (canon s).1 ≠ 0 := fun z => by
    have a := q_canon s
    unfold qN at a
    rw [z, Rat.div_def] at a
    have : ((0 : Int) : Rat) = 0 := rfl
    rw [this, Rat.zero_mul] at a
    rw [← a] at h0
    exact absurd h0 (by decide)
  omega
section
variable {K : PySem.W.Frag} {vs : List V} {h : Hp} {Q : VK} {E : XK}
end
structure RwOk (G : List PlV) (w M B : Nat) (g h : Nat → Rat) : Prop where
  W : WfVG w G
  w9 : w ≤ 999
  M0 : 0 < M
  MS : M < 2 ^ 1900
  B1 : 1000 ≤ B
  B9 : B ≤ 2 ^ 900
  gd : ∀ p ∈ G, p.g.2.natAbs ∣ M
  g : ∀ x, x < G.length → NB M B (g x)
  h : ∀ x, x < G.length → NB M B (h x)
section
variable {G : List PlV} {w M B : Nat} {g h : Nat → Rat} {k : Nat}
theorem RwOk.beh (x : RwOk G w M B g h) (hk : k < G.length) : ∃ S, 0 < S ∧ S ≤ 999 ∧ Beh (vl G k) w G.length M B S g ∧ Beh (vl G k) w G.length M B S h := by
  have hw := vl_wf x.W hk
  have key : ∃ S, 0 < S ∧ S ≤ 999 ∧ ((vl G k).k = none → ∀ q ∈ (vl G k).bs, q.1.2.natAbs ∣ S) := by
    by_cases hd : (vl G k).k = none
    · obtain ⟨W, h1, h2, h3⟩ := hw.w hd
      exact ⟨W, h1, Nat.le_trans h2 x.w9, fun _ => h3⟩
    · exact ⟨1, by decide, by decide, fun z => absurd z hd⟩
  obtain ⟨S, s0, s1, hS⟩ := key
  have hms : M * S < 2 ^ 1998 := by
    have := Nat.mul_lt_mul_of_lt_of_le x.MS (Nat.le_trans s1 (by decide : 999 ≤ 2 ^ 10)) (by decide)
    rw [← Nat.pow_add] at this
    exact Nat.lt_of_lt_of_le this (Nat.pow_le_pow_right (by decide) (by decide))
  exact ⟨S, s0, s1, ⟨hw, hS, x.M0, s0, hms, x.B9, fun q hq => x.g _ (hw.t q hq)⟩, ⟨hw, hS, x.M0, s0, hms, x.B9, fun q hq => x.h _ (hw.t q hq)⟩⟩
theorem RwOk.gn (x : RwOk G w M B g h) (hk : k < G.length) : NB M 1000 (gnV G k) := by
  have hm := vl_mem hk
  have hg := (x.W.p _ hm).g
  have c := q_small hg
  exact ⟨zt_den (red_small hg) (x.gd _ hm), c.1, c.2⟩
theorem RwOk.big {r : Rat} {M B S A : Nat} (x : RwOk G w M B g h) (s0 : 0 < S) (s1 : S ≤ 999) (ha : A ≤ 4) (hr : NB (M * S) (A * B) r) : Big 2900 (canon r) := by
  have hms : M * S < 2 ^ 1910 := by
    have := Nat.mul_lt_mul_of_lt_of_le x.MS (Nat.le_trans s1 (by decide : 999 ≤ 2 ^ 10)) (by decide)
    rwa [← Nat.pow_add] at this
  have b : A * B ≤ 2 ^ 902 := by
    have := Nat.mul_le_mul ha x.B9
    exact Nat.le_trans this (by decide +kernel)
  exact nb_big (hr.mono (Nat.dvd_refl _) (Nat.le_max_left _ 1)) (Nat.mul_pos x.M0 s0) (Nat.le_max_right _ 1) (i := 902) (Nat.max_le.mpr ⟨b, Nat.one_le_two_pow⟩) hms (by decide)
theorem RwOk.nx (x : RwOk G w M B g h) {q : Nat × Nat} (hx : q.1 < G.length) (hq : (vl G q.1).k ≠ none → q.2 < (vl G q.1).bs.length) : ∃ S, 0 < S ∧ S ≤ 999 ∧ NB (M * S) B (nxQ (vl G q.1) g q.2) ∧ NB (M * S) B (nxQ (vl G q.1) h q.2) := by
  obtain ⟨S, s0, s1, b1, b2⟩ := x.beh hx
  refine ⟨S, s0, s1, ?_⟩
  by_cases hd : (vl G q.1).k = none
  · rw [nxQ_draw hd, nxQ_draw hd]
    exact ⟨b1.nb, b2.nb⟩
  · rw [nxQ_side hd, nxQ_side hd]
    have ht := tgB_lt (vl_wf x.W hx) (hq hd)
    exact ⟨(x.g _ ht).mono (Nat.dvd_mul_right _ _) (Nat.le_refl _), (x.h _ ht).mono (Nat.dvd_mul_right _ _) (Nat.le_refl _)⟩
theorem RwOk.sl (x : RwOk G w M B g h) {q : Nat × Nat} (hx : q.1 < G.length) (hq : (vl G q.1).k ≠ none → q.2 < (vl G q.1).bs.length) :
    Big 2900 (canon (nxQ (vl G q.1) g q.2)) ∧ Big 2900 (canon (nxQ (vl G q.1) h q.2)) ∧ Big 2900 (canon (gnV G q.1 + nxQ (vl G q.1) h q.2)) ∧ Big 2900 (canon (g q.1 + h q.1)) ∧ Big 2900 (canon (shQ G g q)) ∧ Big 2900 (canon (boQ G g h q)) := by
  obtain ⟨S, s0, s1, n1, n2⟩ := x.nx hx hq
  have b1 := x.B1
  have gS := (x.g _ hx).mono (Nat.dvd_mul_right M S) (Nat.le_refl _)
  have hS := (x.h _ hx).mono (Nat.dvd_mul_right M S) (Nat.le_refl _)
  have eS := (x.gn hx).mono (Nat.dvd_mul_right M S) b1
  have e1 := nb_add eS n2
  have e2 := nb_add gS hS
  refine ⟨x.big s0 s1 (A := 1) (by decide) (by rw [Nat.one_mul]; exact n1), x.big s0 s1 (A := 1) (by decide) (by rw [Nat.one_mul]; exact n2), x.big s0 s1 (A := 2) (by decide) (by rw [Nat.two_mul]; exact e1), x.big s0 s1 (A := 2) (by decide) (by rw [Nat.two_mul]; exact e2), x.big s0 s1 (A := 2) (by decide) (by rw [Nat.two_mul]; exact nb_sub n1 gS), x.big s0 s1 (A := 4) (by decide) ?_⟩
  have e3 := nb_sub e1 e2
  rw [show 4 * B = B + B + (B + B) by omega]
  exact e3
end
def rwD (n : Nat) (g h : Nat → Rat) : PyData := .tuple [listQ n g, listQ n h]
def stC (G : List PlV) (o : Bool) (c : Nat → Nat) (k : Nat) : PyData := if (vl G k).k = some o then .int (c k : Int) else .none
end Md
set_option Elab.async false
set_option linter.all false
set_option maxRecDepth 100000
set_option maxHeartbeats 2000000
namespace Md
open PySem L2 Evl
theorem lead_exists2 {C : List PlC} (h : WfC C) : ∃ f Z0 Z, (0 < Z0 ∧ Z0 ≤ 4320 ^ (2 * C.length) ∧ Z0 ∣ Z ∧ ∀ y, y < C.length → NB (denL (gainsC C) * Z0) 1000 (longC C y)) ∧ LeadOk C (longC C) f ∧ 0 < Z ∧ Z ≤ 4320 ^ (5 * C.length) ∧ ∀ y, y < C.length → NB (denL (gainsC C) * Z) (4000 * 4320 ^ (C.length + 1)) (f y) := by
  obtain ⟨Z0, z0, z1, hg⟩ := long_nb h
  obtain ⟨kn, W, inv⟩ := lead_ginv h z0 z1 hg _ (Nat.le_refl _)
  obtain ⟨ip, ig⟩ := ginv_pass inv
  have hsz := size_all h
  have h12 := h.l12
  have hpl := nodup_len (pass_nodup (C := C)) pass_lt
  have hW2 : W ≤ 4320 ^ (3 * C.length) := Nat.le_trans inv.z1 (Nat.pow_le_pow_right (by decide) (by omega))
  obtain ⟨f, D, hF, d0, d1, d2, _⟩ := fill_dataS h pass_nodup (by omega) pass_lt (out_pass h) (e := fun y => gainC C y - longC C y) (kn := kn) (M := denL (gainsC C) * Z0 * W) (B := 4000 * 4320 ^ (C.length - (passL C).length)) (Nat.mul_pos (Nat.mul_pos (unit_lt h).1 z0) inv.z0) (Nat.mul_pos (by decide) (Nat.pow_pos (by decide))) (sz_last h z1 hW2)
    (fun y hy => (ahead_nb h hg y (pass_lt y hy)).mono (Nat.dvd_mul_right _ _) (Nat.le_trans (by decide : 2000 ≤ 4000 * 1) (Nat.mul_le_mul_left 4000 (Nat.pow_pos (by decide))))) (fun y _ => inv.nb y) ip
  obtain ⟨c1, c2, c3, c4⟩ := lead_last h z0 z1 inv d0 d1.1 hF d2
  exact ⟨f, Z0, _, ⟨z0, z1, Nat.dvd_trans (Nat.dvd_mul_right Z0 W) (Nat.dvd_mul_right _ _), hg⟩, c1, c2, c3, c4⟩
theorem both_sizes {C : List PlC} (h : WfC C) : ∃ M1 M, 0 < M1 ∧ 0 < M ∧ M1 ∣ M ∧ M1 < 2 ^ 432 ∧ M < 2 ^ 846 ∧ (∀ y, y < C.length → NB M1 1000 (longC C y)) ∧ ∀ y, y < C.length → NB M (2 ^ 169) (leadC C y) := by
  obtain ⟨f, Z0, Z, ⟨z0, z1, dz, hg⟩, a, b, c, d⟩ := lead_exists2 h
  have h12 := h.l12
  refine ⟨_, _, Nat.mul_pos (unit_lt h).1 z0, Nat.mul_pos (unit_lt h).1 b, Nat.mul_dvd_mul_left _ dz, unit_lt13 (j := 0) h (Nat.le_trans z1 (pow288 (k := 2 * C.length) (a := 24) (by omega))), unit_lt13 (j := 0) h (Nat.le_trans c (pow288' (k := 5 * C.length) (by omega))), hg, fun y hy => ?_⟩
  rw [lead_unique h (lead_ok h) a y hy]
  refine (d y hy).mono (Nat.dvd_refl _) ?_
  have : 4320 ^ (C.length + 1) ≤ 4320 ^ 13 := Nat.pow_le_pow_right (by decide) (by omega)
  exact Nat.le_trans (Nat.mul_le_mul_left 4000 this) (by decide +kernel)
section
variable {G : List PlV} {M0 : Nat} {c : Nat → Nat}
theorem RigOk.gdv (x : RigOk G M0) {N : Nat} : ∀ p ∈ G, p.g.2.natAbs ∣ N * M0 := fun p hp => Nat.dvd_trans (x.g p hp) (Nat.dvd_mul_left _ _)
theorem RigOk.sizes (x : RigOk G M0) (hc : OkC G c) : ∃ M1 M, 0 < M1 ∧ 0 < M ∧ M1 < 2 ^ 432 ∧ M < 2 ^ 863 ∧ (∀ p ∈ G, p.g.2.natAbs ∣ M) ∧ (∀ k, k < G.length → NB M1 1000 (longC (chV G c) k)) ∧ (∀ k, k < G.length → NB M 1000 (longC (chV G c) k)) ∧ ∀ k, k < G.length → NB M (2 ^ 169) (leadC (chV G c) k) := by
  have hwf := x.wfc hc
  have hl : (chV G c).length = G.length := chV_len
  obtain ⟨M1, M, a0, b0, dv, a1, b1, a2, b2⟩ := both_sizes hwf
  rw [hl] at a2 b2
  refine ⟨M1, M * M0, a0, Nat.mul_pos b0 x.m0, a1, ?_, x.gdv, a2, fun k hk => (a2 k hk).mono (Nat.dvd_trans dv (Nat.dvd_mul_right _ _)) (Nat.le_refl _), fun k hk => (b2 k hk).mono (Nat.dvd_mul_right _ _) (Nat.le_refl _)⟩
  have m2 := Nat.mul_lt_mul_of_lt_of_le b1 x.mb (Nat.two_pow_pos 17)
  rw [← Nat.pow_add] at m2
  exact m2
theorem RigOk.rw (x : RigOk G M0) (hc : OkC G c) : ∃ M, RwOk G 360 M (2 ^ 169) (longC (chV G c)) (leadC (chV G c)) := by
  obtain ⟨M1, M, _, m0, _, m2, gd, _, g2, h2⟩ := x.sizes hc
  exact ⟨M, x.W, by decide, m0, Nat.lt_of_lt_of_le m2 (Nat.pow_le_pow_right (by decide) (by decide)), by decide +kernel, Nat.pow_le_pow_right (by decide) (by decide), gd, fun k hk => (g2 k hk).mono (Nat.dvd_refl _) (by decide +kernel), h2⟩
end
end Md
namespace Md
open PySem L2 Evl
section
variable {G : List PlV} {o : Bool} {c : Nat → Nat} {w : Nat}
end
end Md
namespace Md
open PySem L2 Evl
section
variable {G : List PlV} {c : Nat → Nat} {g h : Nat → Rat} {w M B : Nat}
end
end Md
set_option Elab.async false
set_option linter.all false
set_option maxRecDepth 100000
set_option maxHeartbeats 2000000
namespace Md
open PySem L2 Evl
theorem WfV.monoW {w v n : Nat} {p : PlV} (h : WfV w n p) (hw : w ≤ v) : WfV v n p := ⟨h.g, h.l1, h.l6, h.t, h.c, fun hk => by
  obtain ⟨W, a, b, c⟩ := h.w hk
  exact ⟨W, a, Nat.le_trans b hw, c⟩, h.s⟩
theorem WfVG.monoW {w v : Nat} {G : List PlV} (h : WfVG w G) (hw : w ≤ v) : WfVG v G := ⟨h.l1, h.l12, fun p hp => (h.p p hp).monoW hw⟩
theorem ofP_pos {many : Int} {p : Pl} (h : WfP many p) : (ofP p).k = none → ∀ q ∈ (ofP p).bs, 0 < q.1.1 := fun hk q hq => by
  cases p with
  | side g o ts => cases hk
  | draw g bs =>
    obtain ⟨h1, h2, h3, h4, ws, w1, w2, w3⟩ := h
    have hpos := sum_pos w2
    obtain ⟨q', hq', rfl⟩ := List.mem_map.mp hq
    have hm : q'.1 ∈ bs.map (·.1) := List.mem_map.mpr ⟨q', hq', rfl⟩
    rw [w3] at hm
    obtain ⟨w, hw, e⟩ := List.mem_map.mp hm
    have hw2 := w2 w hw
    show 0 < q'.1.1
    rw [← e, num_canon (by omega)]
    have a : (0 : Rat) < (w : Rat) / ((ws.sum : Int) : Rat) := by
      have d0 : (0 : Rat) < ((ws.sum : Int) : Rat) := cast_pos (by omega)
      have n0 : (0 : Rat) < (w : Rat) := cast_pos (by omega)
      exact (Rat.lt_div_iff d0).mpr (by rw [Rat.zero_mul]; exact n0)
    exact canon_num_pos a
def PosG (G : List PlV) : Prop := ∀ p ∈ G, p.k = none → ∀ q ∈ p.bs, 0 < q.1.1
theorem rig_of {G : List PlV} {w : Nat} (h : WfVG w G) (hw : w ≤ 360) (hs : ShG G) (hp : PosG G) : RigOk G 6 := ⟨h.monoW hw, fun p hp => (hs p hp).1, by decide, by decide, hp⟩
section
variable {C : List PlC} {g k : Nat → Rat}
theorem abs_bd (f : Nat → Rat) (n : Nat) : ∃ H : Rat, 0 ≤ H ∧ ∀ x, x < n → -H ≤ f x ∧ f x ≤ H := by
  induction n with
  | zero => exact ⟨0, Rat.le_refl, fun x hx => absurd hx (Nat.not_lt_zero _)⟩
  | succ n ih =>
    obtain ⟨H, h0, h1⟩ := ih
    rcases Rat.le_total (a := 0) (b := f n) with q | q
    · refine ⟨H + f n, by grind, fun x hx => ?_⟩
      rcases Nat.lt_or_ge x n with z | z
      · have := h1 x z
        grind
      · have : x = n := by omega
        subst this
        grind
    · refine ⟨H - f n, by grind, fun x hx => ?_⟩
      rcases Nat.lt_or_ge x n with z | z
      · have := h1 x z
        grind
      · have : x = n := by omega
        subst this
        grind
theorem arch_le {a c : Rat} (n : Nat) (h : ∀ p : Nat, n ≤ p → 1 ≤ p → natR p * a ≤ c) : a ≤ 0 := by
  refine Classical.byContradiction fun hn => ?_
  have ha : 0 < a := by grind
  obtain ⟨p, q1, q2, q3⟩ := arch (c / a) n
  have := (Rat.div_lt_iff ha).mp q3
  have := h p q1 q2
  grind
theorem alg_sub {P ε gy mg ky mk gg H : Rat} (e : ε * P = 1) (a2 : gy + ky ≤ gg + mk) (a4 : (P - 1) * gy ≤ (P - 1) * mg) (a5 : ε * mk ≤ ε * H) : P * gy + ky - H ≤ gg + (1 - ε) * (P * mg + mk - H) := by
  have h : (1 - ε) * (P * mg + mk - H) = P * mg - (ε * P) * mg + mk - ε * mk - H + ε * H := by grind
  rw [h, e]
  grind
theorem alg_sup {P ε gy mg ky mk gg H : Rat} (e : ε * P = 1) (a2 : gg + mk ≤ gy + ky) (a4 : (P - 1) * mg ≤ (P - 1) * gy) (a5 : ε * -H ≤ ε * mk) : gg + (1 - ε) * (P * mg + mk - -H) ≤ P * gy + ky - -H := by
  have h : (1 - ε) * (P * mg + mk - -H) = P * mg - (ε * P) * mg + mk - ε * mk + H - ε * H := by grind
  rw [h, e]
  grind
theorem sub_long (h : WfC C) (hex : ∀ p, 2 ≤ p → ∃ w, IsWor C (natR (p - 1) / natR p) (gainC C) w) (h1 : ∀ x, x < C.length → g x ≤ meanC C g x) (h2 : ∀ x, x < C.length → g x + k x ≤ gainC C x + meanC C k x) : ∀ x, x < C.length → g x ≤ longC C x := fun x hx => by
  have hM := WfC.toM h
  obtain ⟨K, K0, hK⟩ := near_one h
  obtain ⟨H, H0, hH⟩ := abs_bd k C.length
  have key : ∀ p : Nat, 2 ≤ p → 1 ≤ p → natR p * (g x - longC C x) ≤ leadC C x - k x + H + K := fun p hp _ => by
    obtain ⟨w, hw⟩ := hex p hp
    have p0 : (0 : Rat) < natR p := natR_pos (by omega)
    have pn : natR p ≠ 0 := by grind
    have e1 : natR (p - 1) + 1 = natR p := by
      have := natR_add (p - 1) 1
      rw [natR_one, show p - 1 + 1 = p by omega] at this
      exact this.symm
    obtain ⟨b0, b1⟩ := beta_p hp
    obtain ⟨ε, hε⟩ : ∃ ε : Rat, ε = 1 / natR p := ⟨_, rfl⟩
    have ε1 : ε * natR p = 1 := by rw [hε]; grind
    have ε0 : 0 ≤ ε := by
      rw [hε]
      exact le_div' p0 (by rw [Rat.zero_mul]; decide +kernel)
    have eβ : natR (p - 1) / natR p = 1 - ε := by
      rw [hε]
      grind
    have ew : ∀ y, meanC C (fun y => natR p * g y + k y - H) y = natR p * meanC C g y + meanC C k y - meanC C (fun _ => H) y := fun y => by
      rw [mean_sub]
      have : meanC C (fun y => natR p * g y + k y) y = natR p * meanC C g y + meanC C k y := by
        rw [← mean_mulC]
        exact wsum_add _ _ _
      rw [this]
    have mc : ∀ y, y < C.length → meanC C (fun _ => H) y = H := fun y hy => by
      have b := wsum_mul (plC C y).bs H (fun _ => 1)
      have s := hM.s y hy
      rw [s, Rat.mul_one] at b
      exact b
    have hw2 := wor_ge hM (Rat.le_of_lt b0) b1 (f := fun y => natR p * g y + k y - H) (fun y hy => by
      rw [ew, mc y hy, eβ]
      have a1 := h1 y hy
      have a2 := h2 y hy
      have a3 : meanC C k y ≤ H := meanM_le hM hy fun j hj => (hH j hj).2
      have p1 : (0 : Rat) ≤ natR (p - 1) := natR_nonneg _
      have a4 := Rat.mul_le_mul_of_nonneg_left a1 p1
      have a5 := Rat.mul_le_mul_of_nonneg_left a3 ε0
      have e2 : natR (p - 1) = natR p - 1 := by grind
      rw [e2] at a4
      exact alg_sub ε1 a2 a4 a5) hw x hx
    have hw3 := (hK p hp w hw x hx).2
    have small : K / natR p ≤ K := by
      have p1 : (1 : Rat) ≤ natR p := by
        have : natR 1 ≤ natR p := natR_le (by omega)
        rwa [natR_one] at this
      refine Md.div_le' p0 ?_
      have := Rat.mul_le_mul_of_nonneg_left p1 K0
      rwa [Rat.mul_one] at this
    grind
  have := arch_le 2 key
  grind
theorem sup_long (h : WfC C) (hex : ∀ p, 2 ≤ p → ∃ w, IsWor C (natR (p - 1) / natR p) (gainC C) w) (h1 : ∀ x, x < C.length → meanC C g x ≤ g x) (h2 : ∀ x, x < C.length → gainC C x + meanC C k x ≤ g x + k x) : ∀ x, x < C.length → longC C x ≤ g x := fun x hx => by
  have hM := WfC.toM h
  obtain ⟨K, K0, hK⟩ := near_one h
  obtain ⟨H, H0, hH⟩ := abs_bd k C.length
  have key : ∀ p : Nat, 2 ≤ p → 1 ≤ p → natR p * (longC C x - g x) ≤ k x - leadC C x + H + K := fun p hp _ => by
    obtain ⟨w, hw⟩ := hex p hp
    have p0 : (0 : Rat) < natR p := natR_pos (by omega)
    have pn : natR p ≠ 0 := by grind
    have e1 : natR (p - 1) + 1 = natR p := by
      have := natR_add (p - 1) 1
      rw [natR_one, show p - 1 + 1 = p by omega] at this
      exact this.symm
    obtain ⟨b0, b1⟩ := beta_p hp
    obtain ⟨ε, hε⟩ : ∃ ε : Rat, ε = 1 / natR p := ⟨_, rfl⟩
    have ε1 : ε * natR p = 1 := by rw [hε]; grind
    have ε0 : 0 ≤ ε := by
      rw [hε]
      exact le_div' p0 (by rw [Rat.zero_mul]; decide +kernel)
    have eβ : natR (p - 1) / natR p = 1 - ε := by
      rw [hε]
      grind
    have ew : ∀ y, meanC C (fun y => natR p * g y + k y - (-H)) y = natR p * meanC C g y + meanC C k y - meanC C (fun _ => -H) y := fun y => by
      rw [mean_sub]
      have : meanC C (fun y => natR p * g y + k y) y = natR p * meanC C g y + meanC C k y := by
        rw [← mean_mulC]
        exact wsum_add _ _ _
      rw [this]
    have mc : ∀ y, y < C.length → meanC C (fun _ => -H) y = -H := fun y hy => by
      have b := wsum_mul (plC C y).bs (-H) (fun _ => 1)
      have s := hM.s y hy
      rw [s, Rat.mul_one] at b
      exact b
    have hw2 := wor_le hM (Rat.le_of_lt b0) b1 (f := fun y => natR p * g y + k y - (-H)) (fun y hy => by
      rw [ew, mc y hy, eβ]
      have a1 := h1 y hy
      have a2 := h2 y hy
      have a3 : -H ≤ meanC C k y := by
        have := meanM_le hM hy (f := fun j => (-1) * k j) (c := H) fun j hj => by
          have := (hH j hj).1
          grind
        rw [mean_mulC] at this
        grind
      have p1 : (0 : Rat) ≤ natR (p - 1) := natR_nonneg _
      have a4 := Rat.mul_le_mul_of_nonneg_left a1 p1
      have a5 := Rat.mul_le_mul_of_nonneg_left a3 ε0
      have e2 : natR (p - 1) = natR p - 1 := by grind
      rw [e2] at a4
      exact alg_sup ε1 a2 a4 a5) hw x hx
    have hw3 := (hK p hp w hw x hx).1
    have small : K / natR p ≤ K := by
      have p1 : (1 : Rat) ≤ natR p := by
        have : natR 1 ≤ natR p := natR_le (by omega)
        rwa [natR_one] at this
      refine Md.div_le' p0 ?_
      have := Rat.mul_le_mul_of_nonneg_left p1 K0
      rwa [Rat.mul_one] at this
    grind
  have := arch_le 2 key
  grind
end
section
variable {G : List PlV} {c d : Nat → Nat} {g h g' h' : Nat → Rat} {M0 : Nat}
theorem RightC.low (r : RightC G c g h) {q : Nat × Nat} (hq : q ∈ ctL G true c) : 0 ≤ shQ G g q ∧ 0 ≤ boQ G g h q := r.s _ (List.mem_append_left _ (List.mem_map.mpr ⟨q, hq, rfl⟩))
theorem RightC.upp (r : RightC G c g h) {q : Nat × Nat} (hq : q ∈ ctL G false c) : shQ G g q ≤ 0 ∧ boQ G g h q ≤ 0 := by
  obtain ⟨a, b⟩ := r.s _ (List.mem_append_right _ (List.mem_map.mpr ⟨q, hq, rfl⟩))
  have a : 0 ≤ -shQ G g q := a
  have b : 0 ≤ -boQ G g h q := b
  constructor <;> grind
theorem mean_nx {e : Nat → Nat} {f : Nat → Rat} {x : Nat} (hx : x < G.length) : meanC (chV G e) f x = nxQ (vl G x) f (e x) := by
  by_cases hk : (vl G x).k = none
  · rw [mean_draw hx hk, nxQ_draw hk]
    unfold vW
    rw [hk]
  · rw [mean_side hx hk, nxQ_side hk, tgV_B]
theorem nx_any {f : Nat → Rat} {x i j : Nat} (hk : (vl G x).k = none) : nxQ (vl G x) f i = nxQ (vl G x) f j := by rw [nxQ_draw hk, nxQ_draw hk]
end
end Md
set_option Elab.async false
set_option linter.all false
set_option maxRecDepth 100000
set_option maxHeartbeats 2000000
namespace Md
open PySem L2 Evl
def SgnOk (G : List PlV) (o : Bool) (c : Nat → Nat) (g h : Nat → Rat) : Prop := ∀ q ∈ ctL G o c, if o = true then 0 ≤ shQ G g q ∧ 0 ≤ boQ G g h q else shQ G g q ≤ 0 ∧ boQ G g h q ≤ 0
instance {G : List PlV} {o : Bool} {c : Nat → Nat} {g h : Nat → Rat} : Decidable (SgnOk G o c g h) := by
  unfold SgnOk
  exact inferInstance
def kSum (o : Bool) : Con := con3 fun x y z P => ∃ (n p : Nat) (t : Int) (g h : Nat → Rat), x = rwD n g h ∧ y = .int (p : Int) ∧ z = .int t ∧ p < n ∧ n ≤ 12 ∧ t.natAbs < 2 ^ 20 ∧ Big 2900 (canon (g p)) ∧ (∀ k, k < n → Big 2900 (canon (h k))) ∧ Big 2900 (canon ((t : Rat) * g p)) ∧ Big 2900 (canon ((t : Rat) * g p + h p)) ∧ P (nQ ((t : Rat) * g p + h p - tkQ o ((List.range n).map h)))
theorem kSum_i {o : Bool} {n p : Nat} {t : Int} {g h : Nat → Rat} {P : PyData → Prop} (h1 : p < n) (h12 : n ≤ 12) (h2 : t.natAbs < 2 ^ 20) (h3 : Big 2900 (canon (g p))) (h4 : ∀ k, k < n → Big 2900 (canon (h k))) (h5 : Big 2900 (canon ((t : Rat) * g p))) (h6 : Big 2900 (canon ((t : Rat) * g p + h p))) (q : P (nQ ((t : Rat) * g p + h p - tkQ o ((List.range n).map h)))) : kSum o [rwD n g h, .int (p : Int), .int t] P := ⟨n, p, t, g, h, rfl, rfl, rfl, h1, h12, h2, h3, h4, h5, h6, q⟩
end Md
set_option Elab.async false
set_option linter.all false
set_option maxRecDepth 100000
set_option maxHeartbeats 2000000
namespace Md
open PySem L2 Evl
end Md
namespace Md
open PySem L2 Evl
end Md
set_option Elab.async false
set_option linter.all false
set_option maxRecDepth 100000
set_option maxHeartbeats 2000000
namespace Md
open PySem L2 Evl
structure LowC (G : List PlV) (c : Nat → Nat) (g h : Nat → Rat) : Prop where
  ok : OkC G c
  s : ∀ q ∈ ctL G true c, 0 ≤ shQ G g q ∧ 0 ≤ boQ G g h q
structure UppC (G : List PlV) (c : Nat → Nat) (g h : Nat → Rat) : Prop where
  ok : OkC G c
  s : ∀ q ∈ ctL G false c, shQ G g q ≤ 0 ∧ boQ G g h q ≤ 0
section
variable {G : List PlV} {c d : Nat → Nat} {g h g' h' : Nat → Rat} {M0 : Nat}
theorem RightC.toLow (r : RightC G c g h) : LowC G c g h := ⟨r.ok, fun _ hq => r.low hq⟩
theorem RightC.toUpp (r : RightC G c g h) : UppC G c g h := ⟨r.ok, fun _ hq => r.upp hq⟩
end
structure Alike (G H : List PlV) : Prop where
  l : H.length = G.length
  k : ∀ x, x < G.length → (vl H x).k = (vl G x).k ∧ (vl H x).bs = (vl G x).bs
section
variable {G H : List PlV} {c : Nat → Nat} {g h : Nat → Rat} {o : Bool}
theorem Alike.nx (a : Alike G H) {x i : Nat} (hx : x < G.length) (f : Nat → Rat) : nxQ (vl H x) f i = nxQ (vl G x) f i := by
  obtain ⟨e1, e2⟩ := a.k x hx
  unfold nxQ vW tgB
  rw [e1, e2]
theorem Alike.ctP (a : Alike G H) {x : Nat} (hx : x < G.length) : ctP H o c x = ctP G o c x := by
  obtain ⟨e1, e2⟩ := a.k x hx
  unfold Md.ctP
  rw [e1, e2]
theorem Alike.ct (a : Alike G H) : ctL H o c = ctL G o c := by
  unfold ctL
  rw [a.l]
  have : ∀ l : List Nat, (∀ x ∈ l, x < G.length) → l.flatMap (Md.ctP H o c) = l.flatMap (Md.ctP G o c) := fun l => by
    induction l with
    | nil => exact fun _ => rfl
    | cons x l ih =>
      intro hl
      rw [List.flatMap_cons, List.flatMap_cons, a.ctP (hl x List.mem_cons_self), ih fun y hy => hl y (List.mem_cons_of_mem _ hy)]
  exact this _ fun x hx => List.mem_range.mp hx
theorem Alike.ok (a : Alike G H) (hc : OkC G c) : OkC H c := fun x hx hk => by
  rw [a.l] at hx
  obtain ⟨e1, e2⟩ := a.k x hx
  rw [e2]
  exact hc x hx (by rw [← e1]; exact hk)
theorem Alike.sh (a : Alike G H) {q : Nat × Nat} (hq : q.1 < G.length) : shQ H g q = shQ G g q := by
  unfold shQ
  rw [a.nx hq]
end
section
variable {G H : List PlV} {c d : Nat → Nat} {g h g' h' : Nat → Rat} {M0 M1 : Nat}
end
end Md
namespace Md
open PySem L2 Evl
structure Swap (G H : List PlV) : Prop where
  l : H.length = G.length
  k : ∀ x, x < G.length → (vl H x).k = (vl G x).k.map (!·) ∧ (vl H x).bs = (vl G x).bs
section
variable {G H : List PlV} {c d : Nat → Nat} {g h g' h' : Nat → Rat} {o : Bool} {M0 M1 : Nat}
theorem Swap.none (a : Swap G H) {x : Nat} (hx : x < G.length) : (vl H x).k = none ↔ (vl G x).k = none := by
  rw [(a.k x hx).1]
  cases (vl G x).k <;> simp
theorem Swap.some (a : Swap G H) {x : Nat} (hx : x < G.length) : (vl H x).k = some (!o) ↔ (vl G x).k = some o := by
  rw [(a.k x hx).1]
  cases (vl G x).k with
  | none => simp
  | some p => cases p <;> cases o <;> simp
theorem Swap.nx (a : Swap G H) {x i : Nat} (hx : x < G.length) (f : Nat → Rat) : nxQ (vl H x) (fun y => -f y) i = -nxQ (vl G x) f i := by
  have e2 := (a.k x hx).2
  by_cases hk : (vl G x).k = Option.none
  · have hk2 := (a.none hx).mpr hk
    rw [nxQ_draw hk, nxQ_draw hk2]
    unfold vW
    rw [hk, hk2]
    show wsum _ _ = -wsum _ _
    rw [e2]
    have := wsum_mul (vl G x).bs (-1) f
    have e : wsum (vl G x).bs (fun y => -f y) = wsum (vl G x).bs (fun j => -1 * f j) := wsum_congr fun q _ => by grind
    rw [e, this]
    grind
  · have hk2 : (vl H x).k ≠ Option.none := fun z => hk ((a.none hx).mp z)
    rw [nxQ_side hk, nxQ_side hk2]
    unfold tgB
    rw [e2]
theorem Swap.ct (a : Swap G H) {q : Nat × Nat} : q ∈ ctL H (!o) c ↔ q ∈ ctL G o c := by
  rw [mem_ct, mem_ct, a.l]
  refine ⟨fun ⟨hx, hm⟩ => ⟨hx, ?_⟩, fun ⟨hx, hm⟩ => ⟨hx, ?_⟩⟩
  all_goals
    have e2 := (a.k q.1 hx).2
    have n := a.none hx
    have s := a.some (o := o) hx
    unfold ctP at hm ⊢
    by_cases hk : (vl G q.1).k = Option.none
    · have hk2 := n.mpr hk
      simp only [hk, hk2, if_true] at hm ⊢
      exact hm
    · have hk2 : ¬ (vl H q.1).k = Option.none := fun z => hk (n.mp z)
      by_cases ho : (vl G q.1).k = Option.some o
      · have ho2 := s.mpr ho
        rw [if_neg hk, if_pos ho] at *
        rw [if_neg hk2, if_pos ho2] at *
        exact hm
      · have ho2 : ¬ (vl H q.1).k = Option.some (!o) := fun z => ho (s.mp z)
        rw [if_neg hk, if_neg ho] at *
        rw [if_neg hk2, if_neg ho2] at *
        first
          | exact hm
          | (rw [e2] at hm; exact hm)
          | (rw [e2]; exact hm)
theorem Swap.ok (a : Swap G H) (hc : OkC G c) : OkC H c := fun x hx hk => by
  rw [a.l] at hx
  rw [(a.k x hx).2]
  exact hc x hx fun z => hk ((a.none hx).mpr z)
theorem Swap.sh (a : Swap G H) {q : Nat × Nat} (hq : q.1 < G.length) : shQ H (fun y => -g y) q = -shQ G g q := by
  unfold shQ
  rw [a.nx hq]
  grind
end
section
variable {G H : List PlV} {c d : Nat → Nat} {g h g' h' : Nat → Rat} {M0 M1 : Nat}
end
end Md
set_option Elab.async false
set_option linter.all false
set_option maxRecDepth 100000
set_option maxHeartbeats 2000000
namespace Md
open PySem L2 Evl
end Md
namespace Md
open PySem L2 Evl
end Md
namespace Md
open PySem L2 Evl
def weQ (G : List PlV) (S : List Nat) (t : Rat) (k : Nat) : Rat := if k ∈ S then gnV G k + t else gnV G k
end Md
set_option Elab.async false
set_option linter.all false
set_option maxRecDepth 100000
set_option maxHeartbeats 2000000
namespace Md
open PySem L2 Evl
def dSorted (da : DE) : DN := fun Γ P => da Γ fun x => ∃ ns : List Int, x = .list (ns.map PyData.int) ∧ ∀ ns' : List Int, ns'.Perm ns → ns'.Pairwise (· ≤ ·) → P (ns'.map PyData.int)
end Md
namespace Md
open PySem L2 Evl
def dForL (ws : List Nat) (i : Nat) (dg : DG) (du : DS) : DS := fun DD Γ => match gat Γ i with
  | some (.o ds) => ∃ I : Nat → Gam → Prop, I 0 (wipeG Γ ws) ∧ (∀ k x Γ', ds[k]? = some x → I k Γ' → dg x Γ' fun Γ1 => du { DD with nx := fun Γ2 => I (k + 1) (wipeG Γ2 ws), ct := fun Γ2 => I (k + 1) (wipeG Γ2 ws), bk := DD.nx } Γ1) ∧ ∀ Γ', I ds.length Γ' → DD.nx Γ'
  | _ => False
end Md
namespace Md
open PySem L2 Evl
inductive RchG (G : List PlV) (x : Nat) : Nat → Prop
  | refl : RchG G x x
  | step {y : Nat} {q : BrC} (h : RchG G x y) (hq : q ∈ (vl G y).bs) : RchG G x q.2
section
variable {G : List PlV} {w x y : Nat}
structure FndG (G : List PlV) (x : Nat) (l : List Nat) : Prop where
  nd : l.Nodup
  r : ∀ y ∈ l, RchG G x y
  m : x ∈ l
theorem FndG.add {l : List Nat} (f : FndG G x l) {y : Nat} (hy : y ∈ l) {q : BrC} (hq : q ∈ (vl G y).bs) : FndG G x (if q.2 ∈ l then l else l ++ [q.2]) := by
  split
  · exact f
  · rename_i h
    refine ⟨List.nodup_append.mpr ⟨f.nd, by simp, fun a ha b hb => ?_⟩, fun z hz => ?_, List.mem_append_left _ f.m⟩
    · rw [List.mem_singleton.mp hb]
      intro e
      rw [e] at ha
      exact h ha
    · rcases List.mem_append.mp hz with hz | hz
      · exact f.r z hz
      · rw [List.mem_singleton.mp hz]
        exact .step (f.r y hy) hq
end
end Md
namespace Md
open PySem L2 Evl
def alF (G : List PlV) (o : Bool) : Nat → List (List PyData)
  | 0 => [[]]
  | i + 1 => if (vl G i).k = some o then (alF G o i).flatMap fun row => (List.range (vl G i).bs.length).map fun b : Nat => row ++ [.int (b : Int)] else (alF G o i).map fun row => row ++ [.none]
theorem al_row {G : List PlV} {o : Bool} : ∀ {i : Nat} {row : List PyData}, row ∈ alF G o i → row.length = i
  | 0, row, h => by
    rw [List.mem_singleton.mp h]
    rfl
  | i + 1, row, h => by
    unfold alF at h
    split at h
    · obtain ⟨r, hr, h⟩ := List.mem_flatMap.mp h
      obtain ⟨b, _, rfl⟩ := List.mem_map.mp h
      rw [List.length_append, al_row hr]
      rfl
    · obtain ⟨r, hr, rfl⟩ := List.mem_map.mp h
      rw [List.length_append, al_row hr]
      rfl
end Md
namespace Md
open PySem L2 Evl
end Md
set_option Elab.async false
set_option linter.all false
set_option maxRecDepth 100000
set_option maxHeartbeats 2000000
namespace Md
open PySem L2 Evl
mutual
def nol : PyData → Bool
  | .none => true
  | .bool _ => true
  | .int _ => true
  | .str _ => true
  | .tuple ds => nolA ds
  | _ => false
def nolA : List PyData → Bool
  | [] => true
  | d :: ds => nol d && nolA ds
end
section
variable {K : PySem.W.Frag} {b0 h0 bf b h b' h' b1 b2 h2 : Hp} {Γ Γ' : Gam} {σ σ' : L2.St}
end
def dAsgX (de : DE) (dg : DG) : DS := fun DD Γ => de (allD Γ) fun x => nol x = true ∧ dg x Γ DD.nx
def dAsgXN (i : Nat) (dn : DN) : DS := fun DD Γ => dn (allD Γ) fun ds => nolA ds = true ∧ DD.nx (Γ.set i (some (.d (.list ds))))
def dAsgXO (i : Nat) (dn : DN) : DS := fun DD Γ => dn (allD Γ) fun ds => nolA ds = true ∧ i < Γ.length ∧ DD.nx (Γ.set i (some (.o ds)))
def dAppX (i : Nat) (de : DE) : DS := fun DD Γ => match gat Γ i with
  | some (.o ds) => de (allD Γ) fun x => nol x = true ∧ ds.length < 100000 ∧ DD.nx (Γ.set i (some (.o (ds ++ [x]))))
  | _ => False
def dAppXN (i : Nat) (dn : DN) : DS := fun DD Γ => match gat Γ i with
  | some (.o ds) => dn (allD Γ) fun es => nolA es = true ∧ ds.length < 100000 ∧ DD.nx (Γ.set i (some (.o (ds ++ [.list es]))))
  | _ => False
def dSetX (i : Nat) (dj de : DE) : DS := fun DD Γ => match gat Γ i with
  | some (.o ds) => de (allD Γ) fun x => nol x = true ∧ dj (allD Γ) fun k => onI k fun k => ∃ j, L2.ixN ds.length k = some j ∧ DD.nx (Γ.set i (some (.o (ds.set j x))))
  | _ => False
def dSetXN (i : Nat) (dj : DE) (dn : DN) : DS := fun DD Γ => match gat Γ i with
  | some (.o ds) => dn (allD Γ) fun es => nolA es = true ∧ dj (allD Γ) fun k => onI k fun k => ∃ j, L2.ixN ds.length k = some j ∧ DD.nx (Γ.set i (some (.o (ds.set j (.list es)))))
  | _ => False
def dAsgIx (m i : Nat) (dj : DE) : DS := fun DD Γ => match gat Γ i with
  | some (.o ds) => dj (allD Γ) fun k => onI k fun k => ∃ x, L2.atI ds k = some x ∧ m < Γ.length ∧ DD.nx (Γ.set m (some (.d x)))
  | _ => False
def dSetIx (i : Nat) (dj dl : DE) : DS := fun DD Γ => match gat Γ i with
  | some (.o ds) => dl (allD Γ) fun l => onI l fun l => ∃ x, L2.atI ds l = some x ∧ dj (allD Γ) fun k => onI k fun k => ∃ j, L2.ixN ds.length k = some j ∧ DD.nx (Γ.set i (some (.o (ds.set j x))))
  | _ => False
def dRetX (de : DE) : DS := fun DD Γ => de (allD Γ) fun x => nol x = true ∧ DD.rt x
def dRetXN (dn : DN) : DS := fun DD Γ => dn (allD Γ) fun ds => nolA ds = true ∧ DD.ro ds
section
variable {K : PySem.W.Frag} {te ta tb tj tl : TE} {ts tk tr : TA} {da db de dj dl : DE} {dn dr dk di : DN} {tt : TT} {dt : DT} {g : TG} {dg : DG} {js : List Nat} {t u w : TS} {dt1 du dw : DS} {wi : TI}
end
end Md
namespace Md
open PySem L2 Evl
section
variable {X : Cx} {K : PySem.W.Frag} {pos : Pos}
end
def dgL (n : Nat) (gs : DGs) : DG := fun x Γ P => onL x fun ds => ds.length = n ∧ gs ds Γ P
end Md
set_option Elab.async false
set_option linter.all false
set_option maxRecDepth 100000
set_option maxHeartbeats 2000000
namespace Md
open PySem L2 Evl
def KerR (n : Nat) (f : Nat → Nat → Rat) (z : Nat → Rat) : Prop := ∀ i, i < n → sumR (n + 1) (fun j => f i j * z j) = 0
def SolR (n : Nat) (f : Nat → Nat → Rat) (x : Nat → Rat) : Prop := ∀ i, i < n → sumR n (fun j => f i j * x j) = f i n
def RSz (B E V n : Nat) (r : Nat → Rat) : Prop := ∃ d : Nat, 0 < d ∧ d ≤ B ∧ (∀ j, j < n → NB 1 B (r j * natR d)) ∧ NB E V (r n * natR d)
def gjA (f : Nat → Nat → Rat) (c p : Nat) : Nat → Nat → Rat := fun i => if i = c then fun j => 1 / f p c * f p j else if i = p then f c else f i
def gjE (f : Nat → Nat → Rat) (c m : Nat) : Nat → Nat → Rat := fun i => if i < m ∧ i ≠ c then fun j => f i j - f i c * f c j else f i
theorem nb_up {M B d : Nat} {r : Rat} (h : NB M B (r * natR d)) (hd : 0 < d) : NB (M * d) B r := by
  obtain ⟨z, hz⟩ := h.zt
  have d1 : (1 : Rat) ≤ natR d := by
    have := natR_le (show 1 ≤ d from hd)
    rwa [natR_one] at this
  have lo := h.lo
  have hi := h.hi
  have B0 := natR_nonneg B
  refine ⟨⟨z, ?_⟩, ?_, ?_⟩
  · rw [← hz]
    have e : (((M * d : Nat) : Int) : Rat) = natR M * natR d := natR_mul M d
    rw [e]
    show _ = r * natR d * natR M
    grind
  · refine Classical.byContradiction fun hn => ?_
    have q : r < -natR B := by grind
    have d0 : (0 : Rat) ≤ natR d := natR_nonneg d
    have a := Rat.mul_le_mul_of_nonneg_right (Rat.le_of_lt q) d0
    have r0 : r ≤ 0 := by grind
    have b := Rat.mul_le_mul_of_nonneg_left (show (0:Rat) ≤ natR d - 1 by grind) (show (0:Rat) ≤ -r by grind)
    grind
  · refine Classical.byContradiction fun hn => ?_
    have q : natR B < r := by grind
    have r0 : 0 ≤ r := by grind
    have b := Rat.mul_le_mul_of_nonneg_left (show (0:Rat) ≤ natR d - 1 by grind) r0
    grind
theorem RSz.up {B E V n B' V' : Nat} {r : Nat → Rat} (x : RSz B E V n r) (h1 : B ≤ B') (h2 : V ≤ V') : RSz B' E V' n r := by
  obtain ⟨d, d0, d1, h, k⟩ := x
  exact ⟨d, d0, Nat.le_trans d1 h1, fun j hj => (h j hj).mono (Nat.dvd_refl _) h1, k.mono (Nat.dvd_refl _) h2⟩
theorem RSz.nb {B E V n : Nat} {r : Nat → Rat} (x : RSz B E V n r) (hV : B ≤ V) : ∃ d, 0 < d ∧ d ≤ B ∧ ∀ j, j < n + 1 → NB (E * d) V (r j) := by
  obtain ⟨d, d0, d1, h, k⟩ := x
  refine ⟨d, d0, d1, fun j hj => ?_⟩
  rcases Nat.lt_or_ge j n with q | q
  · exact (nb_up (h j q) d0).mono (by rw [Nat.one_mul]; exact Nat.dvd_mul_left _ _) hV
  · have e : j = n := by omega
    subst e
    exact nb_up k d0
theorem nb_int_of {B : Nat} {r : Rat} (h : NB 1 B r) : ∃ z : Int, r = (z : Rat) ∧ z.natAbs ≤ B := by
  obtain ⟨z, hz⟩ := h.zt
  have e : r = (z : Rat) := by
    rw [← hz]
    show r = r * natR 1
    rw [natR_one, Rat.mul_one]
  refine ⟨z, e, ?_⟩
  have := nb_abs h (z := z) (by rw [natR_one, Rat.mul_one]; exact e.symm)
  omega
theorem RSz.scale {B E V n c : Nat} {r : Nat → Rat} (x : RSz B E V n r) (hc : c < n) (h0 : r c ≠ 0) : RSz B E V n fun j => 1 / r c * r j := by
  obtain ⟨d, d0, d1, h, k⟩ := x
  obtain ⟨z, hz, hb⟩ := nb_int_of (h c hc)
  have dp : natR d ≠ 0 := by have := natR_pos d0; grind
  have z0 : z ≠ 0 := fun e => by
    rw [e] at hz
    have hz : r c * natR d = 0 := hz
    rcases Rat.mul_eq_zero.mp hz with q | q
    · exact h0 q
    · exact dp q
  have es : natR z.natAbs = (z : Rat) ∨ natR z.natAbs = -(z : Rat) := by
    have e : natR z.natAbs = ((z.natAbs : Int) : Rat) := rfl
    rw [e]
    rcases Int.natAbs_eq z with q | q
    · exact Or.inl (by rw [← q])
    · refine Or.inr ?_
      rw [← Rat.intCast_neg]
      congr 1
      omega
  have key : ∀ j, 1 / r c * r j * natR z.natAbs = r j * natR d ∨ 1 / r c * r j * natR z.natAbs = -(r j * natR d) := fun j => by
    rcases es with e | e
    · refine Or.inl ?_
      rw [e, ← hz]
      grind
    · refine Or.inr ?_
      rw [e, ← hz]
      grind
  have g : ∀ {M B : Nat} {j : Nat}, NB M B (r j * natR d) → NB M B (1 / r c * r j * natR z.natAbs) := fun {M B j} hh => by
    rcases key j with e | e
    · rw [e]; exact hh
    · rw [e]; exact nb_neg hh
  exact ⟨z.natAbs, by omega, hb, fun j hj => g (h j hj), g k⟩
theorem RSz.elim {B E V n c : Nat} {q s : Nat → Rat} (x : RSz B E V n q) (y : RSz B E V n s) (hc : c < n) : RSz (2 * (B * B)) E (2 * (B * V)) n fun j => q j - q c * s j := by
  obtain ⟨d, d0, d1, h, k⟩ := x
  obtain ⟨e, e0, e1, h', k'⟩ := y
  have B0 : 0 < B := by omega
  refine ⟨d * e, Nat.mul_pos d0 e0, Nat.le_trans (Nat.mul_le_mul d1 e1) (by omega), fun j hj => ?_, ?_⟩
  · have a := nb_mul (h j hj) ((nb_nat e).mono (Nat.dvd_refl _) e1)
    have b := nb_mul (h c hc) (h' j hj)
    have t := nb_sub a b
    have ee : (q j - q c * s j) * natR (d * e) = q j * natR d * natR e - q c * natR d * (s j * natR e) := by
      rw [natR_mul]
      grind
    rw [ee]
    exact t.mono (Nat.dvd_refl _) (by omega)
  · have a := nb_mul k ((nb_nat e).mono (Nat.dvd_refl _) e1)
    have b := nb_mul (h c hc) k'
    rw [Nat.mul_one] at a
    rw [Nat.one_mul] at b
    have t := nb_sub a b
    have ee : (q n - q c * s n) * natR (d * e) = q n * natR d * natR e - q c * natR d * (s n * natR e) := by
      rw [natR_mul]
      grind
    rw [ee]
    exact t.mono (Nat.dvd_refl _) (by rw [Nat.mul_comm V B]; omega)
def bG (B : Nat) : Nat → Nat
  | 0 => B
  | c + 1 => 2 * (bG B c * bG B c)
def vG (B V : Nat) : Nat → Nat
  | 0 => V
  | c + 1 => 2 * (bG B c * vG B V c)
structure GjI (n B E V : Nat) (f0 f : Nat → Nat → Rat) (c : Nat) : Prop where
  ker : ∀ z, KerR n f z → KerR n f0 z
  un : ∀ i j, i < n → j < c → f i j = if i = j then 1 else 0
  sz : ∀ i, i < n → RSz (bG B c) E (vG B V c) n (f i)
theorem GjI.step {n B E V c p : Nat} {f0 f : Nat → Nat → Rat} (x : GjI n B E V f0 f c) (hc : c < n) (h1 : c ≤ p) (hp : p < n) (h0 : f p c ≠ 0) : GjI n B E V f0 (gjE (gjA f c p) c n) (c + 1) := by
  have hB : ∀ c, bG B c ≤ bG B (c + 1) := fun c => by
    show _ ≤ 2 * (bG B c * bG B c)
    rcases Nat.eq_zero_or_pos (bG B c) with q | q
    · rw [q]; exact Nat.zero_le _
    · have := Nat.le_mul_of_pos_left (bG B c) q
      omega
  have B1 : 0 < bG B c := by
    obtain ⟨d, d0, d1, _⟩ := x.sz c hc
    omega
  have hV : vG B V c ≤ vG B V (c + 1) := by
    show _ ≤ 2 * (bG B c * vG B V c)
    have := Nat.le_mul_of_pos_left (vG B V c) B1
    omega
  have eA : ∀ i, i < n → RSz (bG B c) E (vG B V c) n (gjA f c p i) := fun i hi => by
    unfold gjA
    split
    · exact (x.sz p hp).scale hc h0
    · split
      · exact x.sz c hc
      · exact x.sz i hi
  have ec : gjA f c p c = fun j => 1 / f p c * f p j := if_pos rfl
  have eu : ∀ i j, i < n → j < c → gjA f c p i j = if i = j then 1 else 0 := fun i j hi hj => by
    unfold gjA
    split
    · rename_i e
      show 1 / f p c * f p j = _
      rw [x.un p j hp hj, if_neg (by omega), if_neg (by omega), Rat.mul_zero]
    · split
      · rename_i e1 e2
        rw [x.un c j hc hj, if_neg (by omega), if_neg (by omega)]
      · exact x.un i j hi hj
  have e1 : gjA f c p c c = 1 := by
    rw [ec]
    show 1 / f p c * f p c = 1
    grind
  refine ⟨fun z hz => x.ker z fun i hi => ?_, fun i j hi hj => ?_, fun i hi => ?_⟩
  · -- the row c
    have kc : sumR (n + 1) (fun j => gjA f c p c j * z j) = 0 := by
      have := hz c hc
      unfold gjE at this
      rwa [if_neg (fun h => h.2 rfl)] at this
    have ki : ∀ i, i < n → i ≠ c → sumR (n + 1) (fun j => gjA f c p i j * z j) = 0 := fun i hi hic => by
      have a := hz i hi
      unfold gjE at a
      rw [if_pos ⟨hi, hic⟩] at a
      have e : sumR (n + 1) (fun j => (gjA f c p i j - gjA f c p i c * gjA f c p c j) * z j) = sumR (n + 1) (fun j => gjA f c p i j * z j) + -gjA f c p i c * sumR (n + 1) (fun j => gjA f c p c j * z j) := by
        rw [← sumR_mul, ← sumR_add]
        exact sumR_congr fun j _ => by grind
      rw [e, kc] at a
      grind
    have kp : sumR (n + 1) (fun j => f p j * z j) = 0 := by
      rw [ec] at kc
      have e : sumR (n + 1) (fun j => 1 / f p c * f p j * z j) = 1 / f p c * sumR (n + 1) (fun j => f p j * z j) := by
        rw [← sumR_mul]
        exact sumR_congr fun j _ => by grind
      rw [e] at kc
      rcases Rat.mul_eq_zero.mp kc with q | q
      · exfalso
        have : f p c * (1 / f p c) = 1 := by grind
        rw [q, Rat.mul_zero] at this
        exact absurd this (by decide)
      · exact q
    by_cases q : i = p
    · rw [q]; exact kp
    · by_cases q2 : i = c
      · rw [q2]
        have a := ki p hp (fun e => q (by omega))
        unfold gjA at a
        rw [if_neg (fun e => q (by omega)), if_pos rfl] at a
        exact a
      · have a := ki i hi q2
        unfold gjA at a
        rw [if_neg q2, if_neg q] at a
        exact a
  · unfold gjE
    split
    · rename_i h
      show gjA f c p i j - gjA f c p i c * gjA f c p c j = _
      rcases Nat.lt_or_ge j c with q | q
      · rw [eu c j hc q, if_neg (by omega), eu i j hi q]
        grind
      · have e : j = c := by omega
        rw [e, e1, if_neg h.2]
        grind
    · rename_i h
      have e : i = c := Classical.byContradiction fun q => h ⟨hi, q⟩
      subst e
      rcases Nat.lt_or_ge j i with q | q
      · exact eu i j hi q
      · have e : j = i := by omega
        rw [e, e1, if_pos rfl]
  · unfold gjE
    split
    · exact (eA i hi).elim (eA c hc) hc
    · exact (eA i hi).up (hB c) hV
theorem GjI.fin {n B E V : Nat} {f0 f : Nat → Nat → Rat} (x : GjI n B E V f0 f n) : SolR n f0 fun j => f j n := fun i hi => by
  have h := x.ker (fun j => if j < n then f j n else -1) (fun i hi => ?_) i hi
  · rw [sumR_succ] at h
    have ew : (fun j => if j < n then f j n else -1) n = (-1 : Rat) := if_neg (Nat.lt_irrefl n)
    rw [ew] at h
    have e : sumR n (fun j => f0 i j * if j < n then f j n else -1) = sumR n fun j => f0 i j * f j n := sumR_congr fun j hj => by rw [if_pos hj]
    rw [e] at h
    show sumR n (fun j => f0 i j * f j n) = _
    grind
  · rw [sumR_succ]
    have ew : (fun j => if j < n then f j n else -1) n = (-1 : Rat) := if_neg (Nat.lt_irrefl n)
    rw [ew]
    have e : sumR n (fun j => f i j * if j < n then f j n else -1) = sumR n fun j => if j = i then f i n else 0 := sumR_congr fun j hj => by
      rw [if_pos hj, x.un i j hi hj]
      by_cases q : i = j
      · subst q
        rw [if_pos rfl, if_pos rfl, Rat.one_mul]
      · rw [if_neg q, if_neg (fun e => q e.symm), Rat.zero_mul]
    rw [e, sumR_one _ hi]
    grind
end Md
namespace Md
open PySem L2 Evl
theorem dfor_rng {Γ : Gam} {DD : DEnds} {di : DN} {dg : DG} {du : DS} {ws : List Nat} (n : Nat) (enc : Nat → PyData) (hi : ∀ k : List PyData → Prop, k ((List.range n).map enc) → di Γ k) (I : Nat → Gam → Prop) (h0 : I 0 (wipeG Γ ws))
    (hs : ∀ i Γ', i < n → I i Γ' → dg (enc i) Γ' fun Γ1 => du { DD with nx := fun Γ2 => I (i + 1) (wipeG Γ2 ws), ct := fun Γ2 => I (i + 1) (wipeG Γ2 ws), bk := DD.nx } Γ1) (he : ∀ Γ', I n Γ' → DD.nx Γ') : dFor ws di dg du DD Γ :=
  dfor_inv (List.range n) enc hi I h0 (fun i a Γ' ha hI => by
    have hl := (List.getElem?_eq_some_iff.mp ha).1
    rw [List.length_range] at hl
    rw [List.getElem?_range hl] at ha
    cases ha
    exact hs i Γ' hl hI) fun Γ' h => he Γ' (by rwa [List.length_range] at h)
structure GjOk (n B E V : Nat) : Prop where
  n12 : n ≤ 12
  B1 : 1 ≤ B
  BV : B ≤ V
  E0 : 0 < E
  Eb : E ≤ 2 ^ 200
  bb : bG B n ≤ 2 ^ 895
  vb : vG B V n ≤ 2 ^ 1000
theorem bG_pos {B : Nat} (h : 1 ≤ B) : ∀ c, 1 ≤ bG B c
  | 0 => h
  | c + 1 => by
    have := bG_pos h c
    show 1 ≤ 2 * (bG B c * bG B c)
    have := Nat.mul_le_mul this this
    omega
theorem bG_succ {B : Nat} (h : 1 ≤ B) (c : Nat) : bG B c ≤ bG B (c + 1) := by
  have := Nat.le_mul_of_pos_left (bG B c) (bG_pos h c)
  show _ ≤ 2 * (bG B c * bG B c)
  omega
theorem vG_succ {B V : Nat} (h : 1 ≤ B) (c : Nat) : vG B V c ≤ vG B V (c + 1) := by
  have := Nat.le_mul_of_pos_left (vG B V c) (bG_pos h c)
  show _ ≤ 2 * (bG B c * vG B V c)
  omega
theorem bG_mono {B : Nat} (h : 1 ≤ B) {c : Nat} : ∀ {n : Nat}, c ≤ n → bG B c ≤ bG B n
  | 0, hc => by rw [Nat.le_zero.mp hc]; exact Nat.le_refl _
  | n + 1, hc => by
    rcases Nat.lt_or_ge n c with q | q
    · rw [show c = n + 1 by omega]; exact Nat.le_refl _
    · exact Nat.le_trans (bG_mono h q) (bG_succ h n)
theorem vG_mono {B V : Nat} (h : 1 ≤ B) {c : Nat} : ∀ {n : Nat}, c ≤ n → vG B V c ≤ vG B V n
  | 0, hc => by rw [Nat.le_zero.mp hc]; exact Nat.le_refl _
  | n + 1, hc => by
    rcases Nat.lt_or_ge n c with q | q
    · rw [show c = n + 1 by omega]; exact Nat.le_refl _
    · exact Nat.le_trans (vG_mono h q) (vG_succ h n)
theorem bG_le_vG {B V : Nat} (h : B ≤ V) : ∀ c, bG B c ≤ vG B V c
  | 0 => h
  | c + 1 => Nat.mul_le_mul_left 2 (Nat.mul_le_mul_left _ (bG_le_vG h c))
section
variable {n B E V c : Nat} {r q s : Nat → Rat}
theorem GjOk.ok (x : GjOk n B E V) (hc : c ≤ n) (h : RSz (bG B c) E (vG B V c) n r) {j : Nat} (hj : j < n + 1) : Ok (r j) := by
  obtain ⟨d, d0, d1, hn⟩ := h.nb (bG_le_vG x.BV c)
  have d2 := Nat.le_trans d1 (Nat.le_trans (bG_mono x.B1 hc) x.bb)
  refine nb_ok (hn j hj) (Nat.mul_pos x.E0 d0) (Nat.lt_of_le_of_lt (Nat.mul_le_mul x.Eb d2) ?_) (Nat.le_trans (vG_mono x.B1 hc) x.vb)
  rw [← Nat.pow_add]
  exact Nat.pow_lt_pow_right (by decide) (by decide)
theorem RSz.numB (h : RSz B E V n r) {j : Nat} (hj : j < n) : (r j).num.natAbs ≤ B := by
  obtain ⟨d, d0, d1, hn, _⟩ := h
  obtain ⟨z, hz, hb⟩ := nb_int_of (hn j hj)
  have dz : (0 : Rat) < natR d := natR_pos d0
  have e : r j = (z : Rat) / ((d : Int) : Rat) := by
    have e2 : ((d : Int) : Rat) = natR d := rfl
    rw [e2, ← hz]
    grind
  have c := num_canon (n := z) (d := (d : Int)) (by omega)
  rw [← e] at c
  have g := congrArg (·.1) c
  have g : (num z (d : Int)).1 = (r j).num := g
  rw [← g, num_pos (by omega)]
  show (z / ((Nat.gcd z.natAbs (d : Int).natAbs : Nat) : Int)).natAbs ≤ B
  rw [Int.natAbs_ediv_of_dvd (cast_dvd (Nat.gcd_dvd_left _ _))]
  exact Nat.le_trans (Nat.div_le_self _ _) hb
end
end Md
namespace Md
open PySem L2 Evl
end Md
namespace Md
open PySem L2 Evl
end Md
namespace Md
open PySem L2 Evl
end Md
namespace Md
open PySem L2 Evl
end Md
namespace Md
open PySem L2 Evl
theorem onL_chD {C : List PlC} {k : List PyData → Prop} : onL (chD C) k = k (C.map PlC.D) := rfl
theorem onT_C {p : PlC} {k : List PyData → Prop} : onT p.D k = k [nD p.g, .str "draw", .list (p.bs.map brC)] := rfl
theorem atI_two {α : Type} {a b c : α} {l : List α} : L2.atI (a :: b :: c :: l) 2 = some c := by
  show L2.atI (a :: b :: c :: l) ((2 : Nat) : Int) = _
  exact atI_nat rfl
end Md
set_option Elab.async false
set_option linter.all false
set_option maxRecDepth 100000
set_option maxHeartbeats 2000000
namespace Md
open PySem L2 Evl
def indN (k : Nat) : Nat → Rat := fun z => if z = k then 1 else 0
section
variable {C : List PlC} {x : Nat} {L : List Nat}
end
end Md
namespace Md
open PySem L2 Evl
structure LcOk (C : List PlC) (D : Nat) : Prop where
  W : WfC C
  l5 : C.length ≤ 5
  D0 : 0 < D
  Db : D ≤ 2 ^ 26
  dv : ∀ p ∈ C, ∀ q ∈ p.bs, q.1.2.natAbs ∣ D
section
variable {C : List PlC} {D : Nat}
theorem LcOk.sc (x : LcOk C D) {k : Nat} (hk : k < C.length) : scaleC C k ∣ D := denL_to fun c hc => by
  obtain ⟨q, hq, rfl⟩ := List.mem_map.mp hc
  exact x.dv _ (List.mem_of_getElem? (plC_get hk)) q hq
theorem LcOk.mean (x : LcOk C D) {k : Nat} (hk : k < C.length) {f : Nat → Rat} {M B : Nat} (hf : ∀ y, y < C.length → NB M B (f y)) : NB (M * D) B (meanC C f k) := (nb_mean x.W hk hf).mono (Nat.mul_dvd_mul_left _ (x.sc hk)) (Nat.le_refl _)
theorem nb_ind {k y : Nat} : NB 1 1 (indN k y) := by
  unfold indN
  split
  · exact nb_one (Nat.le_refl _)
  · exact nb_zero _ _
theorem nb_01 {p : Prop} [Decidable p] : NB 1 1 (if p then (1 : Rat) else 0) := by
  split
  · exact nb_one (Nat.le_refl _)
  · exact nb_zero _ _
theorem LcOk.long (x : LcOk C D) : ∃ E, 0 < E ∧ E ≤ 2 ^ 200 ∧ ∀ y, y < C.length → NB E 1000 (longC C y) := by
  obtain ⟨Z, z0, z1, hn⟩ := long_nb x.W
  obtain ⟨U, u0, u1, hu⟩ := unit_le x.W.p
  have d1 : denL (gainsC C) ∣ U := denL_to hu
  refine ⟨U * Z, Nat.mul_pos u0 z0, ?_, fun y hy => (hn y hy).mono (Nat.mul_dvd_mul_right d1 _) (Nat.le_refl _)⟩
  have a : 999 ^ C.length ≤ 999 ^ 5 := Nat.pow_le_pow_right (by decide) x.l5
  have b : 4320 ^ (2 * C.length) ≤ 4320 ^ 10 := Nat.pow_le_pow_right (by decide) (by have := x.l5; omega)
  exact Nat.le_trans (Nat.mul_le_mul (Nat.le_trans u1 a) (Nat.le_trans z1 b)) (by decide +kernel)
end
noncomputable section
end
end Md
namespace Md
open PySem L2 Evl
def rsC (C : List PlC) (l : List Nat) (k a t b : Nat) : Rat := if b < l.length then (if l.getD b 0 = k then 1 else 0) - (if b < a then meanC C (indN k) (l.getD b 0) else if b = a then wsum ((plC C (l.getD b 0)).bs.take t) (indN k) else 0) else 0
section
variable {C : List PlC} {D : Nat} {l : List Nat} {k a t b : Nat}
theorem LcOk.part (x : LcOk C D) {y : Nat} (hy : y < C.length) {f : Nat → Rat} {M B : Nat} (hf : ∀ y, y < C.length → NB M B (f y)) (t : Nat) : NB (M * D) B (wsum ((plC C y).bs.take t) f) := by
  have hm := List.mem_of_getElem? (plC_get hy)
  exact (nb_part (x.W.p _ hm) (fun q hq => hf _ ((x.W.p _ hm).q q hq).2.2) t).mono (Nat.mul_dvd_mul_left _ (x.sc hy)) (Nat.le_refl _)
theorem LcOk.rs (x : LcOk C D) (hl : ∀ y ∈ l, y < C.length) : NB D 2 (rsC C l k a t b) := by
  unfold rsC
  split
  · rename_i hb
    have hy := hl _ (getD_mem hb)
    have a1 := (nb_01 (p := l.getD b 0 = k)).mono (Nat.one_dvd D) (Nat.le_refl 1)
    refine nb_sub (A := 1) (B := 1) a1 ?_
    split
    · have := x.mean hy (f := indN k) fun y _ => nb_ind
      rwa [Nat.one_mul] at this
    · split
      · have := x.part hy (f := indN k) (fun y _ => nb_ind) t
        rwa [Nat.one_mul] at this
      · exact nb_zero _ _
  · exact nb_zero _ _
end
end Md
namespace Md
open PySem L2 Evl
section
variable {C : List PlC} {x : Nat} {L : List Nat}
end
end Md
namespace Md
open PySem L2 Evl
section
variable {C : List PlC} {D : Nat} {g : Nat → Rat} {l : List Nat} {k t b : Nat}
end
end Md
namespace Md
open PySem L2 Evl
theorem onSq_chD {C : List PlC} {k : List PyData → Prop} : onSq (chD C) k = k (C.map PlC.D) := rfl
end Md
namespace Md
open PySem L2 Evl
end Md
set_option Elab.async false
set_option linter.all false
set_option maxRecDepth 100000
set_option maxHeartbeats 2000000
namespace Md
open PySem L2 Evl
section
variable {G : List PlV} {c d e : Nat → Nat} {g h : Nat → Rat} {M0 : Nat}
theorem LowC.chain (x : RigOk G M0) (r : LowC G c g h) (he : OkC G e) (hd : ∀ y, y < G.length → (vl G y).k = some true → e y = c y) : ∀ y, y < G.length → g y ≤ longC (chV G e) y := by
  have hl : (chV G e).length = G.length := chV_len
  have ll : ∀ y, y < G.length → 0 ≤ shQ G g (y, e y) ∧ 0 ≤ boQ G g h (y, e y) := fun y hy => by
    cases q : (vl G y).k with
    | none =>
      have := r.s _ (ct_draw hy q)
      unfold shQ boQ at this ⊢
      show 0 ≤ nxQ (vl G y) g (e y) - g y ∧ 0 ≤ gnV G y + nxQ (vl G y) h (e y) - (g y + h y)
      rw [nx_any (f := g) (j := 0) q, nx_any (f := h) (j := 0) q]
      exact this
    | some o =>
      cases o with
      | true =>
        rw [hd y hy q]
        exact r.s _ (ct_own hy q)
      | false => exact r.s _ (ct_all hy q (by decide) (he y hy (by rw [q]; intro z; cases z)))
  have A := sub_long (g := g) (k := h) (x.wfc he) (fun p hp => x.ex he hp) (fun y hy => by
    rw [hl] at hy
    rw [mean_nx hy]
    have := (ll y hy).1
    unfold shQ at this
    grind) (fun y hy => by
    rw [hl] at hy
    rw [mean_nx hy, chV_gain hy]
    have := (ll y hy).2
    unfold boQ gnV at this
    grind)
  exact fun y hy => A y (by rw [hl]; exact hy)
theorem UppC.chain (x : RigOk G M0) (r : UppC G c g h) (he : OkC G e) (hd : ∀ y, y < G.length → (vl G y).k = some false → e y = c y) : ∀ y, y < G.length → longC (chV G e) y ≤ g y := by
  have hl : (chV G e).length = G.length := chV_len
  have uu : ∀ y, y < G.length → shQ G g (y, e y) ≤ 0 ∧ boQ G g h (y, e y) ≤ 0 := fun y hy => by
    cases q : (vl G y).k with
    | none =>
      have := r.s _ (ct_draw hy q)
      unfold shQ boQ at this ⊢
      show nxQ (vl G y) g (e y) - g y ≤ 0 ∧ gnV G y + nxQ (vl G y) h (e y) - (g y + h y) ≤ 0
      rw [nx_any (f := g) (j := 0) q, nx_any (f := h) (j := 0) q]
      exact this
    | some o =>
      cases o with
      | false =>
        rw [hd y hy q]
        exact r.s _ (ct_own hy q)
      | true => exact r.s _ (ct_all hy q (by decide) (he y hy (by rw [q]; intro z; cases z)))
  have B := sup_long (g := g) (k := h) (x.wfc he) (fun p hp => x.ex he hp) (fun y hy => by
    rw [hl] at hy
    rw [mean_nx hy]
    have := (uu y hy).1
    unfold shQ at this
    grind) (fun y hy => by
    rw [hl] at hy
    rw [mean_nx hy, chV_gain hy]
    have := (uu y hy).2
    unfold boQ gnV at this
    grind)
  exact fun y hy => B y (by rw [hl]; exact hy)
end
def cR (row : List PyData) (k : Nat) : Nat := match row.getD k .none with
  | .int z => z.toNat
  | _ => 0
section
variable {G : List PlV} {o : Bool}
theorem al_at : ∀ {i : Nat} {row : List PyData}, row ∈ alF G o i → ∀ k, k < i → if (vl G k).k = some o then row.getD k .none = .int (cR row k : Int) ∧ cR row k < (vl G k).bs.length else row.getD k .none = .none
  | 0, row, h, k, hk => absurd hk (Nat.not_lt_zero _)
  | i + 1, row, h, k, hk => by
    unfold alF at h
    split at h
    · rename_i hi
      obtain ⟨r, hr, h⟩ := List.mem_flatMap.mp h
      obtain ⟨b, hb, rfl⟩ := List.mem_map.mp h
      have hb := List.mem_range.mp hb
      have hl := al_row hr
      rcases Nat.lt_or_ge k i with q | q
      · have ih := al_at hr k q
        have e : (r ++ [PyData.int (b : Int)]).getD k .none = r.getD k .none := by
          rw [List.getD_eq_getElem?_getD, List.getD_eq_getElem?_getD, List.getElem?_append_left (by omega)]
        have e2 : cR (r ++ [PyData.int (b : Int)]) k = cR r k := by unfold cR; rw [e]
        rw [e, e2]
        exact ih
      · have ek : k = i := by omega
        subst ek
        have e : (r ++ [PyData.int (b : Int)]).getD k .none = .int (b : Int) := by
          rw [List.getD_eq_getElem?_getD, List.getElem?_append_right (by omega), hl, Nat.sub_self]
          rfl
        have e2 : cR (r ++ [PyData.int (b : Int)]) k = b := by unfold cR; rw [e]; rfl
        rw [if_pos hi, e, e2]
        exact ⟨rfl, hb⟩
    · rename_i hi
      obtain ⟨r, hr, rfl⟩ := List.mem_map.mp h
      have hl := al_row hr
      rcases Nat.lt_or_ge k i with q | q
      · have ih := al_at hr k q
        have e : (r ++ [PyData.none]).getD k .none = r.getD k .none := by
          rw [List.getD_eq_getElem?_getD, List.getD_eq_getElem?_getD, List.getElem?_append_left (by omega)]
        have e2 : cR (r ++ [PyData.none]) k = cR r k := by unfold cR; rw [e]
        rw [e, e2]
        exact ih
      · have ek : k = i := by omega
        subst ek
        rw [if_neg hi, List.getD_eq_getElem?_getD, List.getElem?_append_right (by omega), hl, Nat.sub_self]
        rfl
theorem al_says {row : List PyData} (h : row ∈ alF G o G.length) : Says G o (cR row) fun k => row.getD k .none := fun k hk e => by
  have := al_at h k hk
  rw [if_pos e] at this
  exact this
theorem al_has {c : Nat → Nat} : ∀ {i : Nat}, (∀ k, k < i → (vl G k).k = some o → c k < (vl G k).bs.length) → ((List.range i).map (stC G o c)) ∈ alF G o i
  | 0, _ => List.mem_singleton.mpr rfl
  | i + 1, h => by
    have ih := al_has (i := i) fun k hk => h k (by omega)
    rw [List.range_succ, List.map_append]
    unfold alF
    split
    · rename_i hi
      refine List.mem_flatMap.mpr ⟨_, ih, List.mem_map.mpr ⟨c i, List.mem_range.mpr (h i (Nat.lt_succ_self i) hi), ?_⟩⟩
      rw [List.map_cons, List.map_nil]
      unfold stC
      rw [if_pos hi]
    · rename_i hi
      refine List.mem_map.mpr ⟨_, ih, ?_⟩
      rw [List.map_cons, List.map_nil]
      unfold stC
      rw [if_neg hi]
theorem cR_st {c : Nat → Nat} {n k : Nat} (hk : k < n) (e : (vl G k).k = some o) : cR ((List.range n).map (stC G o c)) k = c k := by
  unfold cR
  rw [List.getD_eq_getElem?_getD, List.getElem?_map, List.getElem?_range hk]
  show (match stC G o c k with | .int z => z.toNat | _ => 0) = c k
  unfold stC
  rw [if_pos e]
  rfl
theorem put_len {c : Nat → Nat} : (putV G o c).length = G.length := by
  unfold putV
  rw [List.length_map, List.length_range]
end
def dR (G : List PlV) (r s : List PyData) (k : Nat) : Nat := if (vl G k).k = some true then cR r k else cR s k
section
variable {G : List PlV} {r s : List PyData}
theorem dR_ok (hr : r ∈ alF G true G.length) (hs : s ∈ alF G false G.length) : OkC G (dR G r s) := fun k hk hn => by
  unfold dR
  cases q : (vl G k).k with
  | none => exact absurd q hn
  | some o =>
    cases o with
    | true =>
      rw [if_pos rfl]
      exact (al_says hr k hk q).2
    | false =>
      rw [if_neg (by intro z; cases z)]
      exact (al_says hs k hk q).2
end
noncomputable def mnV (G : List PlV) (r : List PyData) (k : Nat) : Rat := tkQ false ((alF G false G.length).map fun s => longC (chV G (dR G r s)) k)
section
variable {G : List PlV} {c : Nat → Nat} {g h : Nat → Rat} {M0 : Nat}
theorem al_pos {o : Bool} : ∀ {i : Nat}, (∀ k, k < i → 1 ≤ (vl G k).bs.length) → 0 < (alF G o i).length
  | 0, _ => Nat.zero_lt_succ _
  | i + 1, h => by
    have ih := al_pos (o := o) (i := i) fun k hk => h k (by omega)
    obtain ⟨r, hr⟩ := List.exists_mem_of_length_pos ih
    have hb := h i (Nat.lt_succ_self i)
    unfold alF
    split
    · exact List.length_pos_of_mem (List.mem_flatMap.mpr ⟨r, hr, List.mem_map.mpr ⟨0, List.mem_range.mpr hb, rfl⟩⟩)
    · rw [List.length_map]
      exact ih
theorem wf_pos {w : Nat} (hW : WfVG w G) : ∀ k, k < G.length → 1 ≤ (vl G k).bs.length := fun k hk => (vl_wf hW hk).l1
theorem val_pairs (x : RigOk G M0) (r : RightC G c g h) {k : Nat} (hk : k < G.length) : tkQ true ((alF G true G.length).map fun a => mnV G a k) = g k := by
  have so : ((List.range G.length).map (stC G true c)) ∈ alF G true G.length := al_has fun k hk e => r.ok k hk (by rw [e]; intro z; cases z)
  have st : ((List.range G.length).map (stC G false c)) ∈ alF G false G.length := al_has fun k hk e => r.ok k hk (by rw [e]; intro z; cases z)
  have up : ∀ a ∈ alF G true G.length, mnV G a k ≤ g k := fun a ha => by
    unfold mnV
    have h1 := tk_lo (List.mem_map.mpr ⟨_, st, rfl⟩ : longC (chV G (dR G a ((List.range G.length).map (stC G false c)))) k ∈ (alF G false G.length).map fun s => longC (chV G (dR G a s)) k)
    have h2 := r.toUpp.chain x (dR_ok ha st) (fun y hy e => by
      unfold dR
      rw [if_neg (by rw [e]; intro z; cases z), cR_st hy e]) k hk
    exact Rat.le_trans h1 h2
  have lo : g k ≤ mnV G ((List.range G.length).map (stC G true c)) k := by
    unfold mnV
    have hm := tk_mem (o := false) (l := (alF G false G.length).map fun s => longC (chV G (dR G ((List.range G.length).map (stC G true c)) s)) k) (by rw [List.length_map]; exact al_pos (wf_pos x.W))
    obtain ⟨s, hs, e⟩ := List.mem_map.mp hm
    rw [← e]
    exact r.toLow.chain x (dR_ok so hs) (fun y hy e => by
      unfold dR
      rw [if_pos e, cR_st hy e]) k hk
  refine tk_is (List.mem_map.mpr ⟨_, so, Rat.le_antisymm (up _ so) lo⟩) fun y hy => ?_
  rw [if_pos rfl]
  obtain ⟨a, ha, rfl⟩ := List.mem_map.mp hy
  exact up a ha
structure LvOk (G : List PlV) (M0 D : Nat) : Prop where
  R : RigOk G M0
  l5 : G.length ≤ 5
  D0 : 0 < D
  Db : D ≤ 2 ^ 26
  dv : ∀ p ∈ G, p.k = none → ∀ q ∈ p.bs, q.1.2.natAbs ∣ D
  al : ∀ o i, i ≤ G.length → (alF G o i).length ≤ 1000
theorem LvOk.lc {D : Nat} (x : LvOk G M0 D) {d : Nat → Nat} (hd : OkC G d) : LcOk (chV G d) D := by
  refine ⟨x.R.wfc hd, by rw [chV_len]; exact x.l5, x.D0, x.Db, fun p hp q hq => ?_⟩
  unfold chV at hp
  obtain ⟨k, hk, rfl⟩ := List.mem_map.mp hp
  split at hq
  · rename_i hn
    exact x.dv _ (vl_mem (List.mem_range.mp hk)) hn q hq
  · rw [List.mem_singleton.mp hq]
    exact Nat.one_dvd _
theorem LvOk.ok {D : Nat} (x : LvOk G M0 D) {d : Nat → Nat} (hd : OkC G d) {k : Nat} (hk : k < G.length) : Ok (longC (chV G d) k) := by
  obtain ⟨E, E0, E2, hE⟩ := (x.lc hd).long
  exact nb_ok (hE k (by rw [chV_len]; exact hk)) E0 (Nat.lt_of_le_of_lt E2 (Nat.pow_lt_pow_right (by decide) (by decide))) (by decide +kernel)
end
noncomputable def lwV (G : List PlV) (k : Nat) : Rat := tkQ true ((alF G true G.length).map fun a => mnV G a k)
theorem lwV_is {G : List PlV} {M0 : Nat} {c : Nat → Nat} {g h : Nat → Rat} (x : RigOk G M0) (r : RightC G c g h) {k : Nat} (hk : k < G.length) : g k = lwV G k := (val_pairs x r hk).symm
end Md
namespace Md
open PySem L2 Evl
end Md
set_option Elab.async false
set_option linter.all false
set_option maxRecDepth 100000
set_option maxHeartbeats 2000000
namespace Md
open PySem L2 Evl
theorem mem_vl {G : List PlV} {p : PlV} (h : p ∈ G) : ∃ x, x < G.length ∧ p = vl G x := by
  obtain ⟨x, hx, e⟩ := List.mem_iff_getElem.mp h
  refine ⟨x, hx, ?_⟩
  have := vl_get hx
  rw [List.getElem?_eq_getElem hx, e] at this
  exact Option.some.inj this
def prL (G : List PlV) : Nat → Nat
  | 0 => 1
  | i + 1 => prL G i * (if (vl G i).k = none then 1 else (vl G i).bs.length)
structure CutG (G H : List PlV) : Prop where
  l : H.length = G.length
  g : ∀ x, x < G.length → (vl H x).g = (vl G x).g
  k : ∀ x, x < G.length → (vl H x).k = (vl G x).k
  d : ∀ x, x < G.length → (vl G x).k = none → (vl H x).bs = (vl G x).bs
  b : ∀ x, x < G.length → (vl H x).bs <+: (vl G x).bs ∧ 1 ≤ (vl H x).bs.length
section
variable {G H : List PlV} {w : Nat}
theorem al_le {o : Bool} : ∀ {i : Nat}, (∀ k, k < i → 1 ≤ (vl G k).bs.length) → (alF G o i).length ≤ prL G i
  | 0, _ => Nat.le_refl _
  | i + 1, h => by
    have ih := al_le (o := o) (i := i) fun k hk => h k (by omega)
    have hb := h i (Nat.lt_succ_self i)
    unfold alF
    split
    · rename_i e
      have lf : ∀ l : List (List PyData), (l.flatMap fun row => (List.range (vl G i).bs.length).map fun b : Nat => row ++ [PyData.int (b : Int)]).length = l.length * (vl G i).bs.length := fun l => by
        induction l with
        | nil => rw [List.flatMap_nil, List.length_nil, Nat.zero_mul]
        | cons r l ih => rw [List.flatMap_cons, List.length_append, List.length_map, List.length_range, ih, List.length_cons, Nat.add_mul, Nat.one_mul, Nat.add_comm]
      rw [lf]
      show _ ≤ prL G i * (if (vl G i).k = none then 1 else _)
      rw [if_neg (by rw [e]; intro z; cases z)]
      exact Nat.mul_le_mul_right _ ih
    · rw [List.length_map]
      refine Nat.le_trans ih (Nat.le_mul_of_pos_right _ ?_)
      split
      · exact Nat.one_pos
      · exact hb
theorem pr_mono (hb : ∀ k, k < n → 1 ≤ (vl G k).bs.length) : ∀ {i j : Nat}, i ≤ j → j ≤ n → prL G i ≤ prL G j := fun {i j} h hj => by
  induction j with
  | zero => rw [Nat.le_zero.mp h]; exact Nat.le_refl _
  | succ j ih =>
    rcases Nat.lt_or_ge j i with q | q
    · rw [show i = j + 1 by omega]; exact Nat.le_refl _
    · refine Nat.le_trans (ih q (by omega)) (Nat.le_mul_of_pos_right _ ?_)
      split
      · exact Nat.one_pos
      · exact hb j (by omega)
theorem CutG.refl (hW : WfVG w G) : CutG G G := ⟨rfl, fun _ _ => rfl, fun _ _ => rfl, fun _ _ _ => rfl, fun x hx => ⟨List.prefix_refl _, (vl_wf hW hx).l1⟩⟩
theorem CutG.wf (c : CutG G H) (hW : WfVG w G) : WfVG w H := by
  refine ⟨by rw [c.l]; exact hW.l1, by rw [c.l]; exact hW.l12, fun p hp => ?_⟩
  obtain ⟨x, hx, rfl⟩ := mem_vl hp
  rw [c.l] at hx ⊢
  have v := vl_wf hW hx
  have hb := c.b x hx
  have hs := hb.1.subset
  refine ⟨by rw [c.g x hx]; exact v.g, hb.2, Nat.le_trans hb.1.length_le v.l6, fun q hq => v.t q (hs hq), fun hk q hq => ?_, fun hk => ?_, fun hk => ?_⟩
  · rw [c.k x hx] at hk
    exact v.c hk q (hs hq)
  · rw [c.k x hx] at hk
    rw [c.d x hx hk]
    exact v.w hk
  · rw [c.k x hx] at hk
    rw [c.d x hx hk]
    exact v.s hk
theorem CutG.sh (c : CutG G H) (h : ShG G) : ShG H := fun p hp => by
  obtain ⟨x, hx, rfl⟩ := mem_vl hp
  rw [c.l] at hx
  rw [c.g x hx]
  exact h _ (vl_mem hx)
theorem CutG.pos (c : CutG G H) (h : PosG G) : PosG H := fun p hp hk q hq => by
  obtain ⟨x, hx, rfl⟩ := mem_vl hp
  rw [c.l] at hx
  rw [c.k x hx] at hk
  exact h _ (vl_mem hx) hk q ((c.b x hx).1.subset hq)
def cutP (p : PlV) : PlV := ⟨p.g, p.k, p.bs.take (p.bs.length - 1)⟩
theorem vl_set {x y : Nat} {p : PlV} (hx : x < H.length) : vl (H.set x p) y = if y = x then p else vl H y := by
  unfold vl
  rw [List.getD_eq_getElem?_getD, List.getElem?_set]
  by_cases c : x = y
  · subst c
    rw [if_pos rfl, if_pos hx, if_pos rfl]
    rfl
  · rw [if_neg c, if_neg fun e => c e.symm, List.getD_eq_getElem?_getD]
theorem CutG.step (c : CutG G H) {x : Nat} (hx : x < G.length) (hk : (vl H x).k ≠ none) (h2 : 2 ≤ (vl H x).bs.length) : CutG G (H.set x (cutP (vl H x))) := by
  have hxl : x < H.length := by rw [c.l]; exact hx
  refine ⟨by rw [List.length_set, c.l], fun y hy => ?_, fun y hy => ?_, fun y hy e => ?_, fun y hy => ?_⟩ <;> rw [vl_set hxl]
  · split
    · rename_i e
      rw [e]
      exact c.g x hx
    · exact c.g y hy
  · split
    · rename_i e
      rw [e]
      exact c.k x hx
    · exact c.k y hy
  · split
    · rename_i e2
      rw [e2] at e
      exact absurd ((c.k x hx).trans e) hk
    · exact c.d y hy e
  · split
    · rename_i e
      rw [e]
      have b := c.b x hx
      refine ⟨(List.take_prefix _ _).trans b.1, ?_⟩
      show 1 ≤ ((vl H x).bs.take _).length
      rw [List.length_take]
      omega
    · exact c.b y hy
end
theorem CutG.lv {G H : List PlV} {m : Nat} (c : CutG G H) (hW : WfVG 30 G) (hS : ShG G) (hp : PosG G) (h5 : G.length ≤ 5) (hm : prL H G.length ≤ m) (h9 : m ≤ 1000) : LvOk H 6 (denL (chancesV H)) := by
  have hH := c.wf hW
  have hl := c.l
  have g := g30_den hH (n := 5) (by omega)
  refine ⟨rig_of hH (by decide) (c.sh hS) (c.pos hp), by omega, g.1, Nat.le_trans g.2 (by decide), fun p hp hk q hq => denL_dvd (chv_mem hp hk hq), fun o i hi => ?_⟩
  have hb := wf_pos hH
  rw [hl] at hi hb
  exact Nat.le_trans (al_le fun k hk => hb k (by omega)) (Nat.le_trans (pr_mono hb hi (Nat.le_refl _)) (Nat.le_trans hm h9))
end Md
namespace Md
open PySem L2 Evl
section
variable {G H : List PlV} {w : Nat}
end
end Md
namespace Md
open PySem L2 Evl
section
variable {H : List PlV}
end
end Md
set_option Elab.async false
set_option linter.all false
set_option maxRecDepth 100000
set_option maxHeartbeats 2000000
namespace Md
open PySem L2 Evl
def gaQ (G : List PlV) (x : Nat) (t : Rat) (k : Nat) : Rat := if k = x then t else gnV G k
def AnsQ (G : List PlV) (a : Nat) (r : Rat) : Prop := ∃ c g h M, RightC G c g h ∧ RwOk G 360 M (2 ^ 620) g h ∧ M < 2 ^ 1740 ∧ (∀ k, k < G.length → NB M 1000 (g k)) ∧ r = g a
theorem gG_rig {G : List PlV} {e : Nat → Rat} {M0 : Nat} (x : WfVG 360 G) (hs : ∀ k, k < G.length → SmallN (canon (e k))) (hd : ∀ k, k < G.length → (canon (e k)).2.natAbs ∣ M0) (m0 : 0 < M0) (mb : M0 ≤ 2 ^ 17) (hp : PosG G) : RigOk (gG G e) M0 := by
  refine ⟨gG_wf x hs, gG_den hd, m0, mb, fun p hp2 hk q hq => ?_⟩
  obtain ⟨k, hk2, rfl⟩ := List.mem_map.mp hp2
  exact hp _ (vl_mem (List.mem_range.mp hk2)) hk q hq
end Md
namespace Md
open PySem L2 Evl
theorem nb_frac {a b : Int} {M B : Nat} (hb : 0 < b) (hd : b.natAbs ∣ M) (ha : a.natAbs ≤ B) : NB M B ((a : Rat) / (b : Rat)) := by
  have b0 : (b : Rat) ≠ 0 := cast_ne (by omega)
  have eb : natR b.natAbs = (b : Rat) := by
    show ((b.natAbs : Int) : Rat) = _
    congr 1
    omega
  have h : NB 1 B ((a : Rat) / (b : Rat) * natR b.natAbs) := by
    rw [eb, Rat.div_mul_cancel b0]
    exact nb_int ha
  exact (nb_up h (by omega)).mono (by rw [Nat.one_mul]; exact hd) (Nat.le_refl _)
section
variable {G H : List PlV} {w M0 M1 D : Nat} {e : Nat → Rat}
end
end Md
namespace Md
open PySem L2 Evl
end Md
namespace Md
open PySem L2 Evl
theorem AnsQ.is {G : List PlV} {M0 a : Nat} {r : Rat} (x : RigOk G M0) (ha : a < G.length) (h : AnsQ G a r) : r = lwV G a := by
  obtain ⟨c, g, h', M, r1, _, _, _, rfl⟩ := h
  exact lwV_is x r1 ha
end Md
set_option Elab.async false
set_option linter.all false
set_option maxRecDepth 100000
set_option maxHeartbeats 2000000
namespace Md
open PySem L2 Evl
section
variable {G : List PlV} {w dn dd M0 : Nat}
end
end Md
namespace Md
open PySem L2 Evl
section
variable {G : List PlV} {w : Nat}
end
end Md
namespace Md
open PySem L2 Evl
section
variable {G : List PlV} {M0 : Nat}
end
end Md
namespace Md
open PySem L2 Evl
section
variable {G : List PlV} {c : Nat → Nat} {g h v : Nat → Rat} {w : Nat} {β P H L : Rat}
end
end Md
namespace Md
open PySem L2 Evl
end Md
set_option Elab.async false
set_option linter.all false
set_option maxRecDepth 100000
set_option maxHeartbeats 2000000
namespace Md
open PySem L2 Evl
def ValF (G : List PlV) (x a : Nat) (f : Rat → Rat) (t : Rat) : Prop := RigOk (gG G (gaQ G x t)) 6 ∧ ∀ r, AnsQ (gG G (gaQ G x t)) a r → r = f t
def kMri : Con := con5 fun u v z1 z2 y P => ∃ (G : List PlV) (x a : Nat) (s t : Rat) (w : Nat) (f : Rat → Rat), u = gvD G ∧ v = .int (x : Int) ∧ z1 = nQ s ∧ z2 = nQ t ∧ y = .int (a : Int) ∧ WfVG w G ∧ a < G.length ∧ s ≠ t ∧ ValF G x a f s ∧ ValF G x a f t ∧ Big 1000 (canon s) ∧ Big 1000 (canon t) ∧ Big 1000 (canon (s - t)) ∧ Big 1000 (canon (t - s)) ∧ Big 1000 (canon (f s)) ∧ Big 1000 (canon (f t)) ∧ Big 3000 (canon (f s - f t)) ∧ Big 3000 (canon (f t - f s)) ∧ P (nQ ((f t - f s) / (t - s)))
theorem kMri_i {G : List PlV} {x a : Nat} {s t : Rat} {w : Nat} {f : Rat → Rat} {P : PyData → Prop} (h1 : WfVG w G) (h2 : a < G.length) (h3 : s ≠ t) (h4 : ValF G x a f s) (h5 : ValF G x a f t) (b1 : Big 1000 (canon s)) (b2 : Big 1000 (canon t)) (b3 : Big 1000 (canon (s - t))) (b4 : Big 1000 (canon (t - s))) (b5 : Big 1000 (canon (f s))) (b6 : Big 1000 (canon (f t))) (b7 : Big 3000 (canon (f s - f t))) (b8 : Big 3000 (canon (f t - f s))) (p : P (nQ ((f t - f s) / (t - s)))) : kMri [gvD G, .int (x : Int), nQ s, nQ t, .int (a : Int)] P := ⟨G, x, a, s, t, w, f, rfl, rfl, rfl, rfl, rfl, h1, h2, h3, h4, h5, b1, b2, b3, b4, b5, b6, b7, b8, p⟩
structure RiOk (G : List PlV) (x a : Nat) (f : Rat → Rat) (s t : Rat) : Prop where
  lt : s < t
  vs : ValF G x a f s
  vt : ValF G x a f t
  b1 : Big 1000 (canon s)
  b2 : Big 1000 (canon t)
  b3 : Big 1000 (canon (s - t))
  b4 : Big 1000 (canon (t - s))
  b5 : Big 1000 (canon (f s))
  b6 : Big 1000 (canon (f t))
  b7 : Big 3000 (canon (f s - f t))
  b8 : Big 3000 (canon (f t - f s))
  b9 : Big 8000 (canon ((f t - f s) / (t - s)))
theorem RiOk.up {G : List PlV} {x a w : Nat} {f : Rat → Rat} {s t : Rat} {P : PyData → Prop} (r : RiOk G x a f s t) (hW : WfVG w G) (ha : a < G.length) (p : P (nQ ((f t - f s) / (t - s)))) : kMri [gvD G, .int (x : Int), nQ s, nQ t, .int (a : Int)] P := kMri_i hW ha (by have := r.lt; grind) r.vs r.vt r.b1 r.b2 r.b3 r.b4 r.b5 r.b6 r.b7 r.b8 p
theorem RiOk.dn {G : List PlV} {x a w : Nat} {f : Rat → Rat} {s t : Rat} {P : PyData → Prop} (r : RiOk G x a f s t) (hW : WfVG w G) (ha : a < G.length) (p : P (nQ ((f t - f s) / (t - s)))) : kMri [gvD G, .int (x : Int), nQ t, nQ s, .int (a : Int)] P := by
  have h := r.lt
  refine kMri_i hW ha (by grind) r.vt r.vs r.b2 r.b1 r.b4 r.b3 r.b6 r.b5 r.b8 r.b7 ?_
  have e : (f s - f t) / (s - t) = (f t - f s) / (t - s) := by
    have n1 : t - s ≠ 0 := by grind
    have n2 : s - t ≠ 0 := by grind
    have : (f s - f t) = ((f t - f s) / (t - s)) * (s - t) := by grind
    rw [this, Rat.div_def, Rat.mul_assoc, Rat.mul_inv_cancel _ n2, Rat.mul_one]
  rw [e]
  exact p
def wq (z : Int) : Rat := (z : Rat)
structure PriOk (G : List PlV) (x a : Nat) (f : Rat → Rat) : Prop where
  v : ∀ z : Int, -999 ≤ z → z ≤ 999 → ValF G x a f (wq z)
  mono : ∀ y z : Int, -999 ≤ y → y ≤ z → z ≤ 999 → f (wq y) ≤ f (wq z)
  b : ∀ z : Int, -999 ≤ z → z ≤ 999 → Big 3000 (canon (f (wq z)))
end Md
namespace Md
open PySem L2 Evl
noncomputable section
end
section
variable {G : List PlV} {x a : Nat}
end
end Md
namespace Md
end Md
namespace Md
open PySem L2 Evl
end Md
namespace Md
open PySem L2 Evl
end Md
namespace Md
open PySem L2 Evl
structure SidG (G H : List PlV) : Prop where
  l : H.length = G.length
  p : ∀ x, x < G.length → (vl H x).g = (vl G x).g ∧ (vl H x).bs = (vl G x).bs ∧ ((vl H x).k = none ↔ (vl G x).k = none)
section
variable {G H : List PlV} {w : Nat}
theorem SidG.refl : SidG G G := ⟨rfl, fun _ _ => ⟨rfl, rfl, Iff.rfl⟩⟩
theorem SidG.wf (s : SidG G H) (hW : WfVG w G) : WfVG w H := by
  refine ⟨by rw [s.l]; exact hW.l1, by rw [s.l]; exact hW.l12, fun p hp => ?_⟩
  obtain ⟨x, hx, rfl⟩ := mem_vl hp
  rw [s.l] at hx ⊢
  obtain ⟨e1, e2, e3⟩ := s.p x hx
  have v := vl_wf hW hx
  exact ⟨by rw [e1]; exact v.g, by rw [e2]; exact v.l1, by rw [e2]; exact v.l6, by rw [e2]; exact v.t, fun hk => by rw [e2]; exact v.c (e3.mp hk), fun hk => by rw [e2]; exact v.w (e3.mp hk), fun hk => by rw [e2]; exact v.s (e3.mp hk)⟩
theorem SidG.sh (s : SidG G H) (h : ShG G) : ShG H := fun p hp => by
  obtain ⟨x, hx, rfl⟩ := mem_vl hp
  rw [s.l] at hx
  rw [(s.p x hx).1]
  exact h _ (vl_mem hx)
theorem SidG.pos (s : SidG G H) (h : PosG G) : PosG H := fun p hp hk q hq => by
  obtain ⟨x, hx, rfl⟩ := mem_vl hp
  rw [s.l] at hx
  obtain ⟨_, e2, e3⟩ := s.p x hx
  rw [e2] at hq
  exact h _ (vl_mem hx) (e3.mp hk) q hq
end
end Md
namespace Md
open PySem L2 Evl
section
variable {G : List PlV} {e e1 e2 : Nat → Rat} {d : Nat → Nat} {M M1 M2 : Nat} {u v : Rat}
end
end Md
namespace Md
end Md
namespace Md
open PySem L2 Evl
section
variable {G : List PlV} {x a w : Nat} {s t r : Rat}
end
end Md
namespace Md
open PySem L2 Evl
end Md
set_option Elab.async false
set_option linter.all false
set_option maxRecDepth 100000
set_option maxHeartbeats 2000000
namespace Md
open PySem L2 Evl
section
variable {G H : List PlV} {C : List PlC} {c d : Nat → Nat} {g h f : Nat → Rat} {M0 M1 : Nat}
end
end Md
namespace Md
open PySem L2 Evl
end Md
namespace Md
open PySem L2 Evl
end Md
namespace Md
open PySem L2 Evl
section
variable {G : List PlV} {e : Nat → Rat} {M0 B : Nat}
theorem nb_rig (hW : WfVG 360 G) (hp : PosG G) (hn : ∀ k, k < G.length → NB M0 B (e k)) (m0 : 0 < M0) (m1 : M0 < 1000) (mb : B * M0 < 1000) : RigOk (gG G e) M0 ∧ ∀ k, k < G.length → SmallN (canon (e k)) := by
  have hs : ∀ k, k < G.length → SmallN (canon (e k)) := fun k hk => nb_small (hn k hk) m0 m1 mb
  exact ⟨gG_rig hW hs (fun k hk => zt_dvd (canon_red _) (by rw [q_canon]; exact (hn k hk).zt)) m0 (Nat.le_trans (Nat.le_of_lt m1) (by decide)) hp, hs⟩
theorem sh_nb {w : Nat} (hW : WfVG w G) (hS : ShG G) {k : Nat} (hk : k < G.length) : NB 6 9 (gnV G k) := by
  have h := hS _ (vl_mem hk)
  have g := (vl_wf hW hk).g
  exact nb_frac (by have := g.1; omega) h.1 h.2
end
end Md
namespace Md
open PySem L2 Evl
section
variable {G : List PlV} {M0 : Nat}
theorem tn_rig (x : RigOk G M0) : RigOk (G.map tnV) M0 := by
  refine ⟨tn_wf x.W, fun p hp => ?_, x.m0, x.mb, fun p hp hk q hq => ?_⟩
  · obtain ⟨r, hr, rfl⟩ := List.mem_map.mp hp
    exact x.g r hr
  · obtain ⟨r, hr, rfl⟩ := List.mem_map.mp hp
    refine x.pos r hr ?_ q hq
    have hk : r.k.map not = none := hk
    cases e : r.k with
    | none => rfl
    | some o =>
      rw [e] at hk
      cases hk
end
end Md
set_option Elab.async false
set_option linter.all false
set_option maxRecDepth 100000
set_option maxHeartbeats 2000000
namespace Md
open PySem L2 Evl
section
variable {G : List PlV} {c d : Nat → Nat} {g h : Nat → Rat} {M0 : Nat}
end
end Md
namespace Md
open PySem L2 Evl
end Md
set_option Elab.async false
set_option linter.all false
set_option maxRecDepth 100000
set_option maxHeartbeats 2000000
namespace Md
open PySem L2 Evl
section
variable {C : List PlC} {e f g : Nat → Rat} {x : Nat}
end
end Md
namespace Md
open PySem L2 Evl
end Md
namespace Md
open PySem L2 Evl
end Md
set_option Elab.async false
set_option linter.all false
set_option maxRecDepth 100000
set_option maxHeartbeats 2000000
namespace Md
open PySem L2 Evl
end Md
namespace Md
open PySem L2 Evl
end Md
namespace Md
open PySem L2 Evl
end Md
namespace Md
open PySem L2 Evl
section
variable {A B G : List PlV} {n k w : Nat}
end
end Md
set_option Elab.async false
set_option linter.all false
set_option maxRecDepth 100000
set_option maxHeartbeats 2000000
namespace Md
open PySem L2 Evl
section
variable {G S : List PlV} {c d : Nat → Nat} {g h : Nat → Rat} {M : Nat}
structure Lke (G S : List PlV) (g h g' h' : Nat → Rat) (c' : Nat → Nat) (c : Nat → Nat) (i z : Nat) : Prop where
  x : z < G.length
  k : (vl S i).k = (vl G z).k
  b : (vl S i).bs.length = (vl G z).bs.length
  cc : c' i = c z
  e : ∀ b, ((vl G z).k ≠ none → b < (vl G z).bs.length) → (∃ t : Rat, 0 ≤ t ∧ shQ S g' (i, b) = shQ G g (z, b) * t) ∧ boQ S g' h' (i, b) = boQ G g h (z, b)
end
section
variable {A B S : List PlV} {c cA cB : Nat → Nat} {g h gA hA gB hB : Nat → Rat}
end
end Md
namespace Md
open PySem L2 Evl
section
variable {G : List PlV} {c : Nat → Nat} {g h : Nat → Rat} {k w : Nat} {t : Rat}
end
section
variable {A B : List PlV} {cA cB : Nat → Nat} {gA hA gB hB : Nat → Rat} {w m : Nat}
end
end Md
namespace Md
open PySem L2 Evl
section
variable {A B G : List PlV} {k w n N M0 : Nat}
end
end Md
namespace Md
open PySem L2 Evl
theorem seq_hide {a b : DS} {DD : DEnds} {Γ : Gam} (h : ∀ R : DS, R = b → dSeq a R DD Γ) : dSeq a b DD Γ := h b rfl
end Md
set_option Elab.async false
set_option linter.all false
set_option maxRecDepth 100000
set_option maxHeartbeats 2000000
namespace Md
open PySem L2 Evl
section
variable {K : PySem.W.Frag} {vs : List V} {h : Hp} {Q : VK} {E : XK}
end
section
variable {S G A B : List PlV} {g h : Nat → Rat} {w k n : Nat}
end
end Md
namespace Md
open PySem L2 Evl
end Md
namespace Md
open PySem L2 Evl
end Md
set_option Elab.async false
set_option linter.all false
set_option maxRecDepth 100000
set_option maxHeartbeats 2000000
namespace Md
open PySem L2 Evl
section
variable {G : List PlV} {f : Nat → Rat} {M0 M1 : Nat}
end
end Md
namespace Md
open PySem L2 Evl
section
variable {G H : List PlV} {M0 M1 : Nat} {S : Nat → Prop}
end
end Md
namespace Md
open PySem L2 Evl
section
variable {G : List PlV} {M0 : Nat} {c : Nat → Nat} {g h : Nat → Rat}
end
end Md
set_option Elab.async false
set_option linter.all false
set_option maxRecDepth 100000
set_option maxHeartbeats 2000000
namespace Md
open PySem L2 Evl
section
variable {G : List PlV} {M0 : Nat}
end
end Md
set_option Elab.async false
set_option linter.all false
set_option maxRecDepth 100000
set_option maxHeartbeats 2000000
namespace Md
open PySem L2 Evl
section
variable {G : List PlV} {M0 w : Nat}
end
end Md
set_option Elab.async false
set_option linter.all false
set_option maxRecDepth 100000
set_option maxHeartbeats 2000000
namespace Md
open PySem L2 Evl
section
variable {G H : List PlV} {w : Nat} {o : Bool}
end
end Md
namespace Md
open PySem L2 Evl
section
variable {a b : Int}
end
structure GIn (n : Nat) (H : List PlV) : Prop where
  W : WfVG 30 H
  S : ShG H
  P : PosG H
  l : H.length = n
theorem GIn.rig {n : Nat} {H : List PlV} (x : GIn n H) {S : List Nat} {t : Rat} (ht : NB 8 30 t) : RigOk (gG H (weQ H S t)) 24 := (nb_rig (B := 39) (x.W.monoW (by decide)) x.P (fun k hk => by
  have a := (sh_nb x.W x.S hk).mono (M' := 24) (B' := 9) (by decide) (Nat.le_refl _)
  unfold weQ
  split
  · exact nb_add a (ht.mono (by decide) (Nat.le_refl _))
  · exact a.mono (Nat.dvd_refl _) (by decide)) (by decide) (by decide) (by decide)).1
end Md
set_option Elab.async false
set_option linter.all false
set_option maxRecDepth 100000
set_option maxHeartbeats 2000000
namespace Md
open PySem L2 Evl
def PoolD (ds : List PyData) : Prop := ∃ pl : List Int, ds = pl.map PyData.int ∧ 2 ≤ pl.length ∧ pl.length ≤ 100000
section
variable {K : PySem.W.Frag} {b0 h0 bf b h b' h' : Hp} {Γ Γ' : Gam} {σ σ' : L2.St}
end
def spQ (K : PySem.W.Frag) (R : Con) : Sp := fun vs h Q _ => ∃ (b : Hp) (q : Addr) (ws : List V) (es : List PyData) (P : PyData → Prop), vs = .ref q :: ws ∧ Ex b h ∧ b q = none ∧ PoolAt h q ∧ DtA K b ws es ∧ R es P ∧ ∀ v b' h' d, GrQ q b h b' h' → P d → Dt K b' v d → Q v h'
section
variable {K : PySem.W.Frag} {i : Nat} {te ta tb : TE} {ts tr : TA} {da db de : DE} {dn dr : DN} {R : Con} {E : XK}
end
def dAsgQ (i : Nat) (de : DE) (dg : DG) : DS := fun DD Γ => match gat Γ i with
  | some (.o ds) => PoolD ds ∧ de Γ fun x => ∀ es, PoolD es → dg x (Γ.set i (some (.o es))) DD.nx
  | _ => False
def dParQ (i j l : Nat) (da : DN) : DS := fun DD Γ => match gat Γ i with
  | some (.o ds) => PoolD ds ∧ da Γ fun xs => match xs with
    | [x, y] => ∀ es, PoolD es → DD.nx (((Γ.set i (some (.o es))).set j (some (.d x))).set l (some (.d y)))
    | _ => False
  | _ => False
def dAppQ (i j : Nat) (de : DE) : DS := fun DD Γ => match gat Γ i, gat Γ j with
  | some (.o ds), some (.o xs) => PoolD ds ∧ i ≠ j ∧ de Γ fun x => xs.length < 100000 ∧ ∀ es, PoolD es → DD.nx ((Γ.set i (some (.o es))).set j (some (.o (xs ++ [x]))))
  | _, _ => False
section
variable {K : PySem.W.Frag} {i j l : Nat} {te : TE} {ts : TA} {g : TG} {de : DE} {dn : DN} {dg : DG} {js : List Nat}
end
end Md
namespace Md
open PySem L2 Evl
end Md
set_option Elab.async false
set_option linter.all false
set_option maxRecDepth 100000
set_option maxHeartbeats 2000000
namespace Md
open PySem L2 Evl
structure FldG (G : List PlV) : Prop where
  W : WfVG 360 G
  g : ∀ p ∈ G, p.g.2.natAbs ∣ 27720
  P : PosG G
theorem FldG.rig {G : List PlV} (x : FldG G) : RigOk G 27720 := ⟨x.W, x.g, by decide, by decide, x.P⟩
section
variable {K : PySem.W.Frag} {q : Addr} {σ : L2.St} {b h : Hp} {E : XK}
end
section
variable {K : PySem.W.Frag} {vs : List V} {h : Hp} {Q : VK} {E : XK}
end
end Md
namespace Md
open PySem L2 Evl
structure Mid (M B : Nat) : Prop where
  M0 : 0 < M
  B1 : 1 ≤ B
  sz : M * (100 * B) < 2 ^ 4000
theorem Mid.big {M B C : Nat} {r : Rat} (x : Mid M B) (h : NB M C r) (hC : C ≤ 100 * B) : Big 4400 (canon r) := by
  have h := h.mono (Nat.dvd_refl M) hC
  refine h.big x.M0 (Nat.mul_pos (by decide) x.B1) ?_
  rw [Nat.mul_comm]
  exact Nat.lt_of_lt_of_le x.sz (Nat.pow_le_pow_right (by decide) (by decide))
end Md
namespace Md
open PySem L2 Evl
theorem Mid.rw {G : List PlV} {w M B : Nat} {g h : Nat → Rat} (x : RwOk G w M B g h) {S : Nat} (s0 : 0 < S) (s1 : S ≤ 999) : Mid (S * M) (1000 * B) := by
  refine ⟨Nat.mul_pos s0 x.M0, by have := x.B1; omega, ?_⟩
  have h1 : S * M < 2 ^ 10 * 2 ^ 1900 := Nat.mul_lt_mul_of_le_of_lt (Nat.le_trans s1 (by decide)) x.MS (by decide)
  have h2 : 100 * (1000 * B) ≤ 2 ^ 17 * 2 ^ 900 := by
    rw [← Nat.mul_assoc]
    exact Nat.mul_le_mul (by decide) x.B9
  refine Nat.lt_of_lt_of_le (Nat.mul_lt_mul_of_lt_of_le h1 h2 (by decide)) ?_
  rw [← Nat.pow_add, ← Nat.pow_add, ← Nat.pow_add]
  exact Nat.pow_le_pow_right (by decide) (by decide)
theorem nb_ch {p : Int × Int} {S : Nat} (h : SmallN p) (hd : p.2.natAbs ∣ S) : NB S 1000 (qN p) := by
  have := h.1
  have := h.2.2.1
  exact nb_frac (by omega) hd (by omega)
def sgQ (o : Bool) (a : Rat) : Prop := if o = true then 0 ≤ a else a ≤ 0
instance {o : Bool} {a : Rat} : Decidable (sgQ o a) := by
  unfold sgQ
  infer_instance
end Md
set_option Elab.async false
set_option linter.all false
set_option maxRecDepth 100000
set_option maxHeartbeats 2000000
namespace Md
open PySem L2 Evl
section
variable {G : List PlV} {o : Bool} {c c' : Nat → Nat} {g h : Nat → Rat} {M0 : Nat}
def OkS (G : List PlV) (o : Bool) (c : Nat → Nat) : Prop := ∀ k, k < G.length → (vl G k).k = some o → c k < (vl G k).bs.length
theorem pc_own {p : PlV} {b : Nat} (h : p.k = some o) : pcP p o b = ⟨p.g, none, [((1, 1), tgB p b)]⟩ := by
  unfold pcP
  rw [if_pos h]
  rfl
theorem pc_other {p : PlV} {b : Nat} (h : p.k ≠ some o) : pcP p o b = p := by
  unfold pcP
  rw [if_neg h]
theorem put_rig (x : RigOk G M0) (hc : OkS G o c) : RigOk (putV G o c) M0 := by
  have l : (putV G o c).length = G.length := put_len
  refine ⟨⟨by rw [l]; exact x.W.l1, by rw [l]; exact x.W.l12, fun p hp => ?_⟩, fun p hp => ?_, x.m0, x.mb, fun p hp hn q hq => ?_⟩
  all_goals
    unfold putV at hp
    obtain ⟨k, hk, rfl⟩ := List.mem_map.mp hp
    have hk := List.mem_range.mp hk
    have wp := vl_wf x.W hk
  · rw [l]
    by_cases e : (vl G k).k = some o
    · rw [pc_own e]
      refine ⟨wp.g, (by decide : 1 ≤ 1), (by decide : 1 ≤ 6), fun q hq => ?_, fun _ q hq => ?_, fun _ => ⟨1, by decide, by decide, fun q hq => ?_⟩, fun _ => ?_⟩
      · rw [List.mem_singleton.mp hq]
        exact tgB_lt wp (hc k hk e)
      · rw [List.mem_singleton.mp hq]
        have one : SmallN ((1 : Int), (1 : Int)) := ⟨by decide, by decide, by decide, by decide⟩
        exact ⟨one, (by decide : (0 : Int) ≤ 1)⟩
      · rw [List.mem_singleton.mp hq]
        exact (by decide : (1 : Nat) ∣ 1)
      · show ([((1, 1), tgB (vl G k) (c k))].map fun q : BrC => qN q.1).sum = 1
        show qN (1, 1) + 0 = 1
        decide +kernel
    · rw [pc_other e]
      exact wp
  · by_cases e : (vl G k).k = some o
    · rw [pc_own e]
      exact x.g (vl G k) (vl_mem hk)
    · rw [pc_other e]
      exact x.g _ (vl_mem hk)
  · by_cases e : (vl G k).k = some o
    · rw [pc_own e] at hq
      rw [List.mem_singleton.mp hq]
      exact Int.one_pos
    · rw [pc_other e] at hq hn
      exact x.pos _ (vl_mem hk) hn q hq
end
end Md
set_option Elab.async false
set_option linter.all false
set_option maxRecDepth 100000
set_option maxHeartbeats 2000000
namespace Md
open PySem L2 Evl
section
variable {G : List PlV} {M0 : Nat} {c : Nat → Nat}
end
structure Tr where
  n : Nat
  g : Nat → Rat
  m : Nat
  h : Nat → Rat
def Tr.D (t : Tr) : PyData := .tuple [listQ t.n t.g, listQ t.m t.h]
structure Tr.Ok (N B : Nat) (t : Tr) : Prop where
  n : t.n ≤ 13
  m : t.m ≤ 13
  g : ∀ k, k < t.n → NB N B (t.g k)
  h : ∀ k, k < t.m → NB N B (t.h k)
theorem FldG.rw {G : List PlV} (x : FldG G) {N : Nat} {g h : Nat → Rat} (N0 : 0 < N) (N1 : N < 2 ^ 769) (dN : 27720 ∣ N) (hg : ∀ k, k < G.length → NB N (2 ^ 291) (g k)) (hh : ∀ k, k < G.length → NB N (2 ^ 291) (h k)) : RwOk G 360 N (2 ^ 291) g h :=
  ⟨x.W, by decide, N0, Nat.lt_of_lt_of_le N1 (Nat.pow_le_pow_right (by decide) (by decide)), by decide +kernel, Nat.pow_le_pow_right (by decide) (by decide), fun p hp => Nat.dvd_trans (x.g p hp) dN, hg, hh⟩
end Md
set_option Elab.async false
set_option linter.all false
set_option maxRecDepth 100000
set_option maxHeartbeats 2000000
namespace Md
open PySem L2 Evl
def dForQ (i : Nat) (ws : List Nat) (de : DE) (dg : DG) (du : DS) : DS := fun DD Γ => match gat Γ i with
  | some (.o ds) => PoolD ds ∧ de Γ fun x => onL x fun xs => ∀ es, PoolD es → ∃ I : Nat → Gam → Prop, I 0 (wipeG (Γ.set i (some (.o es))) ws) ∧ (∀ i x Γ', xs[i]? = some x → I i Γ' → dg x Γ' fun Γ1 => du { DD with nx := fun Γ2 => I (i + 1) (wipeG Γ2 ws), ct := fun Γ2 => I (i + 1) (wipeG Γ2 ws), bk := DD.nx } Γ1) ∧ ∀ Γ', I xs.length Γ' → DD.nx Γ'
  | _ => False
theorem FldG.put {G : List PlV} {o : Bool} {c : Nat → Nat} (x : FldG G) (hc : OkS G o c) : FldG (putV G o c) := by
  have r := put_rig x.rig hc
  exact ⟨r.W, r.g, r.pos⟩
structure SmR (G : List PlV) (g h : Nat → Rat) (N : Nat) : Prop where
  N0 : 0 < N
  N1 : N < 2 ^ 769
  d : 1164240 ∣ N
  g : ∀ k, k < G.length → NB N (2 ^ 290) (g k)
  h : ∀ k, k < G.length → NB N (2 ^ 290) (h k)
theorem SmR.up {N : Nat} {r : Rat} (h : NB N (2 ^ 290) r) : NB N (2 ^ 291) r := h.mono (Nat.dvd_refl _) (Nat.pow_le_pow_right (by decide) (by decide))
theorem SmR.big {G : List PlV} {g h : Nat → Rat} {N : Nat} (x : SmR G g h N) {r : Rat} (h : NB N (2 ^ 291) r) : Big 1300 (canon r) := nb_big h x.N0 Nat.one_le_two_pow (Nat.le_refl _) x.N1 (by decide)
theorem SmR.dv {G : List PlV} {g h : Nat → Rat} {N : Nat} (x : SmR G g h N) {a : Nat} (ha : a ∣ 1164240) : a ∣ N := Nat.dvd_trans ha x.d
end Md
set_option Elab.async false
set_option linter.all false
set_option maxRecDepth 100000
set_option maxHeartbeats 2000000
namespace Md
open PySem L2 Evl
def oiD : Option Int → PyData
  | none => .none
  | some z => .int z
def brB (p : PlV) : Option Int → Bool
  | none => false
  | some z => decide (0 ≤ z ∧ z < (p.bs.length : Int))
def numB (p : PlV) (o : Bool) (v : Option Int) : Bool := if p.k = some o then brB p v else v.isNone
def strB (G : List PlV) (o : Bool) (L : List (Option Int)) : Bool := decide (L.length = G.length) && (List.range G.length).all fun k => numB (vl G k) o (L.getD k none)
def chO (L : List (Option Int)) (k : Nat) : Nat := ((L.getD k none).getD 0).toNat
section
variable {G : List PlV} {o : Bool} {L : List (Option Int)} {w : Nat}
end
structure An where
  r : Tr
  a : List (Option Int)
  b : List (Option Int)
def An.D (t : An) : PyData := .tuple [listQ t.r.n t.r.g, listQ t.r.m t.r.h, .list (t.a.map oiD), .list (t.b.map oiD)]
def An.ok (G : List PlV) (t : An) : Bool := strB G true t.a && (strB G false t.b && (decide (t.r.n = G.length ∧ t.r.m = G.length ∧ SgnOk G true (chO t.a) t.r.g t.r.h) && decide (t.r.n = G.length ∧ t.r.m = G.length ∧ SgnOk G false (chO t.b) t.r.g t.r.h)))
end Md
set_option Elab.async false
set_option linter.all false
set_option maxRecDepth 100000
set_option maxHeartbeats 2000000
namespace Md
open PySem L2 Evl
section
variable {K : PySem.W.Frag} {b0 h0 bf b h b' h' : Hp} {Γ Γ' : Gam} {σ σ' : L2.St}
end
section
variable {K : PySem.W.Frag} {i j : Nat} {te ta tb : TE} {ts tr : TA} {da db de : DE} {dn dr : DN}
end
def dAsgOQ (i j : Nat) (dn : DN) : DS := fun DD Γ => match gat Γ i with
  | some (.o ds) => PoolD ds ∧ dn Γ fun xs => i ≠ j ∧ j < Γ.length ∧ ∀ es, PoolD es → DD.nx ((Γ.set i (some (.o es))).set j (some (.o xs)))
  | _ => False
section
variable {K : PySem.W.Frag} {i j : Nat} {te : TE} {de : DE} {dn : DN}
end
end Md
namespace Md
open PySem L2 Evl
def dSlT (de : DE) (dl dh : DO) : DE := fun Γ P => de Γ fun x => dl Γ fun l => dh Γ fun u => onT x fun ds => ¬ (HT.sIx ds.length 0 l = 0 ∧ HT.sIx ds.length ds.length u = ds.length) ∧ P (.tuple (cutD ds l u))
theorem An.two {t : An} : cutD [listQ t.r.n t.r.g, listQ t.r.m t.r.h, .list (t.a.map oiD), .list (t.b.map oiD)] none (some 2) = [listQ t.r.n t.r.g, listQ t.r.m t.r.h] := cutD_take (a := 2) (show 2 ≤ 4 by decide)
def SmO (v : Option Int) : Prop := ∀ z, v = some z → z.natAbs ≤ 6
structure An.Ok (N B : Nat) (t : An) : Prop where
  r : t.r.Ok N B
  la : t.a.length ≤ 13
  lb : t.b.length ≤ 13
  sa : ∀ v ∈ t.a, SmO v
  sb : ∀ v ∈ t.b, SmO v
end Md
set_option Elab.async false
set_option linter.all false
set_option maxRecDepth 100000
set_option maxHeartbeats 2000000
namespace Md
open PySem L2 Evl
end Md
namespace Md
open PySem L2 Evl
def dForRQ (i : Nat) (ws : List Nat) (dn : DN) (dg : DG) (du : DS) : DS := fun DD Γ => match gat Γ i with
  | some (.o ds) => PoolD ds ∧ dn Γ fun l => match l with
    | [x, y] => onI x fun m => onI y fun n => (-(2 ^ 62) ≤ m ∧ m < 2 ^ 62 ∧ -(2 ^ 62) ≤ n ∧ n < 2 ^ 62) ∧ ∀ es, PoolD es → ∃ I : Nat → Gam → Prop, I 0 (wipeG (Γ.set i (some (.o es))) ws) ∧ (∀ i x Γ', (rangeD m (n - m).toNat)[i]? = some x → I i Γ' → dg x Γ' fun Γ1 => du { DD with nx := fun Γ2 => I (i + 1) (wipeG Γ2 ws), ct := fun Γ2 => I (i + 1) (wipeG Γ2 ws), bk := DD.nx } Γ1) ∧ ∀ Γ', I (rangeD m (n - m).toNat).length Γ' → DD.nx Γ'
    | _ => False
  | _ => False
end Md
namespace Md
open PySem L2 Evl
section
variable {G : List PlV} {w U T : Nat} {j k : Nat} {P : PyData → Prop}
theorem Wor.gn (x : Wor G w U T) (hk : k < G.length) : NB (U * denL (chancesV G) ^ j) 1000 (gnV G k) := by
  have hs := (vl_wf x.W hk).g
  exact nb_ch hs (Nat.dvd_trans (x.g _ (vl_mem hk)) (Nat.dvd_mul_right _ _))
end
structure SumK (G : List PlV) (g h : Nat → Rat) (N : Nat) : Prop where
  N0 : 0 < N
  N1 : N < 2 ^ 1700
  g : ∀ k, k < G.length → NB N (2 ^ 290) (g k)
  h : ∀ k, k < G.length → NB N (2 ^ 290) (h k)
  w : ∀ j, j ≤ 20 → ∀ k, k < G.length → NB N (2 ^ 290) (wG G 1 j k)
section
variable {G : List PlV} {g h : Nat → Rat} {N : Nat} {P : PyData → Prop}
theorem SumK.big (x : SumK G g h N) {B m : Nat} {r : Rat} (hr : NB (N * m) B r) (m0 : 1 ≤ m) (m9 : m ≤ 2 ^ 10) (hB : B ≤ 2 ^ 900) : Big 2900 (canon r) := by
  have hr := hr.mono (Nat.dvd_refl _) hB
  refine hr.big (Nat.mul_pos x.N0 m0) (Nat.pow_pos (by decide)) ?_
  have h1 := Nat.mul_lt_mul_of_lt_of_le x.N1 m9 (by decide)
  have h2 := Nat.mul_lt_mul_of_pos_left h1 (show 0 < 2 ^ 900 from Nat.pow_pos (by decide))
  rw [← Nat.pow_add, ← Nat.pow_add] at h2
  exact Nat.lt_of_lt_of_le h2 (Nat.pow_le_pow_right (by decide) (by decide))
theorem SumK.big1 (x : SumK G g h N) {B : Nat} {r : Rat} (hr : NB N B r) (hB : B ≤ 2 ^ 900) : Big 2900 (canon r) := x.big (m := 1) (by rw [Nat.mul_one]; exact hr) (by decide) (by decide) hB
end
end Md
namespace Md
open PySem L2 Evl
section
variable {G : List PlV} {g h : Nat → Rat} {N m k : Nat} {P : PyData → Prop}
theorem SumK.tk (x : SumK G g h N) (h1 : 1 ≤ G.length) (o : Bool) : NB N (2 ^ 290) (tkQ o ((List.range G.length).map h)) := by
  obtain ⟨j, hj, e⟩ := List.mem_map.mp (tk_mem (o := o) (l := (List.range G.length).map h) (by rw [List.length_map, List.length_range]; exact h1))
  rw [← e]
  exact x.h j (List.mem_range.mp hj)
theorem SumK.mg (x : SumK G g h N) (hm : m ≤ 20) (hk : k < G.length) : NB N (2 ^ 300) (natR m * g k) := by
  have nb1 : NB 1 (2 ^ 10) (natR m) := ⟨zt_int 1 (m : Int), by have := natR_nonneg m; have := natR_nonneg (2 ^ 10); grind, natR_le (Nat.le_trans hm (by decide))⟩
  have := nb_mul nb1 (x.g k hk)
  rw [Nat.one_mul] at this
  exact this.mono (Nat.dvd_refl _) (Nat.le_of_eq (Nat.pow_add 2 10 290).symm)
theorem two_p {a b c : Nat} (ha : a < c) (hb : b < c) : 2 ^ a + 2 ^ b ≤ 2 ^ c := by
  have h1 : 2 ^ a ≤ 2 ^ (c - 1) := Nat.pow_le_pow_right (by decide) (by omega)
  have h2 : 2 ^ b ≤ 2 ^ (c - 1) := Nat.pow_le_pow_right (by decide) (by omega)
  have e : 2 ^ c = 2 ^ (c - 1) * 2 := by rw [← Nat.pow_succ]; congr 1; omega
  omega
theorem SumK.mgh (x : SumK G g h N) (hm : m ≤ 20) (hk : k < G.length) : NB N (2 ^ 301) (natR m * g k + h k) := (nb_add (x.mg hm hk) (x.h k hk)).mono (Nat.dvd_refl _) (two_p (by decide) (by decide))
theorem SumK.due (x : SumK G g h N) (h1 : 1 ≤ G.length) (o : Bool) (hm : m ≤ 20) (hk : k < G.length) : Big 2900 (canon (natR m * g k + h k - tkQ o ((List.range G.length).map h))) :=
  x.big1 ((nb_sub (x.mgh hm hk) (x.tk h1 o)).mono (Nat.dvd_refl _) (two_p (c := 302) (by decide) (by decide))) (Nat.pow_le_pow_right (by decide) (by decide))
theorem SumK.sum (x : SumK G g h N) {o : Bool} (h12 : G.length ≤ 12) (hm : m ≤ 20) (hk : k < G.length) (p : P (nQ (natR m * g k + h k - tkQ o ((List.range G.length).map h)))) : kSum o [rwD G.length g h, .int (k : Int), .int ((m : Nat) : Int)] P :=
  kSum_i (t := (m : Int)) hk h12 (by rw [Int.natAbs_natCast]; omega) (x.big1 (x.g k hk) (Nat.pow_le_pow_right (by decide) (by decide))) (fun j hj => x.big1 (x.h j hj) (Nat.pow_le_pow_right (by decide) (by decide))) (x.big1 (x.mg hm hk) (Nat.pow_le_pow_right (by decide) (by decide))) (x.big1 (x.mgh hm hk) (Nat.pow_le_pow_right (by decide) (by decide))) p
end
end Md
set_option Elab.async false
set_option linter.all false
set_option maxRecDepth 100000
set_option maxHeartbeats 2000000
namespace Md
open PySem L2 Evl
def clE (f : Nat → Nat → Rat) (c q : Nat) : Nat → Nat → Rat := fun k => if k = q then fun l => f q l * (1 / f q c) else fun l => f k l - f k c * (f q l * (1 / f q c))
def clP (p : Nat → Nat) (c q : Nat) : Nat → Nat := fun i => if i = c then q else p i
structure ClrI (n : Nat) (u v : Nat → Rat) (a f : Nat → Nat → Rat) (c : Nat) (p : Nat → Nat) : Prop where
  inj : ∀ i j, i < c → j < c → p i = p j → i = j
  lt : ∀ i, i < c → p i < n
  top : ∀ r l, r < c → l ≤ n → sumR c (fun i => f (p i) l * a (p r) i) = a (p r) l
  bot : ∀ r l, r < n → (∀ i, i < c → p i ≠ r) → l ≤ n → f r l = a r l - sumR c (fun i => f (p i) l * a r i)
  unit : ∀ i j, i < c → j < c → f (p i) j = if i = j then 1 else 0
  zero : ∀ r j, r < n → (∀ i, i < c → p i ≠ r) → j < c → f r j = 0
  det : Fd c (fun col r => a (p r) col * (u (p r) * v col)) ≠ 0
  sol : ∀ s, SolR n a s → SolR n f s
section
variable {n : Nat} {u v : Nat → Rat} {a f : Nat → Nat → Rat} {c : Nat} {p : Nat → Nat}
theorem ClrI.step (x : ClrI n u v a f c p) {q : Nat} (hc : c < n) (hq : q < n) (un : ∀ i, i < c → p i ≠ q) (h0 : f q c ≠ 0) (hu : u q ≠ 0) (hv : ∀ l, l < n → v l ≠ 0) (hup : ∀ i, i < c → u (p i) ≠ 0) : ClrI n u v a (clE f c q) (c + 1) (clP p c q) := by
  obtain ⟨g, hg⟩ : ∃ g : Nat → Rat, ∀ l, g l = f q l * (1 / f q c) := ⟨_, fun _ => rfl⟩
  have gc : g c = 1 := by rw [hg]; grind
  have gj : ∀ j, j < c → g j = 0 := fun j hj => by rw [hg, x.zero q j hq un hj, Rat.zero_mul]
  have gq : ∀ l, f q l = g l * f q c := fun l => by rw [hg]; grind
  have Eq : ∀ l, clE f c q q l = g l := fun l => by
    unfold clE
    rw [if_pos rfl, hg]
  have Ene : ∀ k l, k ≠ q → clE f c q k l = f k l - f k c * g l := fun k l e => by
    unfold clE
    rw [if_neg e, hg]
  have Pc : clP p c q c = q := if_pos rfl
  have Pl : ∀ i, i < c → clP p c q i = p i := fun i hi => if_neg (by omega)
  have hsum : ∀ r l, sumR (c + 1) (fun i => clE f c q (clP p c q i) l * a r i) = sumR c (fun i => f (p i) l * a r i) - g l * sumR c (fun i => f (p i) c * a r i) + g l * a r c := fun r l => by
    rw [sumR_succ, Pc, Eq]
    have e : ∀ i, i < c → clE f c q (clP p c q i) l * a r i = f (p i) l * a r i + (-g l) * (f (p i) c * a r i) := fun i hi => by
      rw [Pl i hi, Ene _ _ (un i hi)]
      grind
    rw [sumR_congr e, sumR_add, sumR_mul]
    grind
  have unp : ∀ r, (∀ i, i < c + 1 → clP p c q i ≠ r) → r ≠ q ∧ ∀ i, i < c → p i ≠ r := fun r h => ⟨fun e => h c (Nat.lt_succ_self c) (by rw [Pc, e]), fun i hi => by
    have := h i (by omega)
    rwa [Pl i hi] at this⟩
  refine ⟨fun i j hi hj e => ?_, fun i hi => ?_, fun r l hr hl => ?_, fun r l hr h hl => ?_, fun i j hi hj => ?_, fun r j hr h hj => ?_, ?_, fun s hs => ?_⟩
  · rcases Nat.lt_or_ge i c with y | y
    · rw [Pl i y] at e
      rcases Nat.lt_or_ge j c with z | z
      · rw [Pl j z] at e
        exact x.inj i j y z e
      · obtain rfl : j = c := by omega
        rw [Pc] at e
        exact absurd e (un i y)
    · obtain rfl : i = c := by omega
      rw [Pc] at e
      rcases Nat.lt_or_ge j i with z | z
      · rw [Pl j z] at e
        exact absurd e.symm (un j z)
      · omega
  · rcases Nat.lt_or_ge i c with y | y
    · rw [Pl i y]
      exact x.lt i y
    · obtain rfl : i = c := by omega
      rw [Pc]
      exact hq
  · rw [hsum]
    rcases Nat.lt_or_ge r c with y | y
    · rw [Pl r y, x.top r l y hl, x.top r c y (by omega)]
      grind
    · obtain rfl : r = c := by omega
      rw [Pc]
      have e1 := x.bot q l hq un hl
      have e2 := x.bot q r hq un (by omega)
      have e3 := gq l
      generalize sumR r (fun i => f (p i) l * a q i) = S1 at *
      generalize sumR r (fun i => f (p i) r * a q i) = S2 at *
      grind
  · obtain ⟨rq, h⟩ := unp r h
    rw [hsum, Ene r l rq]
    have e1 := x.bot r l hr h hl
    have e2 := x.bot r c hr h (by omega)
    generalize sumR c (fun i => f (p i) l * a r i) = S1 at *
    generalize sumR c (fun i => f (p i) c * a r i) = S2 at *
    grind
  · rcases Nat.lt_or_ge i c with y | y
    · rw [Pl i y, Ene _ _ (un i y)]
      rcases Nat.lt_or_ge j c with z | z
      · rw [gj j z, x.unit i j y z]
        grind
      · obtain rfl : j = c := by omega
        rw [gc, if_neg (by omega)]
        grind
    · obtain rfl : i = c := by omega
      rw [Pc, Eq]
      rcases Nat.lt_or_ge j i with z | z
      · rw [gj j z, if_neg (by omega)]
      · obtain rfl : j = i := by omega
        rw [gc, if_pos rfl]
  · obtain ⟨rq, h⟩ := unp r h
    rw [Ene r j rq]
    rcases Nat.lt_or_ge j c with z | z
    · rw [gj j z, x.zero r j hr h z]
      grind
    · obtain rfl : j = c := by omega
      rw [gc]
      grind
  · let C : Nat → Nat → Rat := fun col r => a (clP p c q r) col * (u (clP p c q r) * v col)
    show Fd (c + 1) C ≠ 0
    let t : Nat → Rat := fun i => f (p i) c * v c * (1 / v i)
    let e : Nat → Rat := fun r => if r = c then f q c * (u q * v c) else 0
    have hs : ∀ r, (sumR c fun i => t i * C i r) = u (clP p c q r) * v c * sumR c fun i => f (p i) c * a (clP p c q r) i := fun r => by
      rw [← sumR_mul]
      refine sumR_congr fun i hi => ?_
      show f (p i) c * v c * (1 / v i) * (a (clP p c q r) i * (u (clP p c q r) * v i)) = _
      have := hv i (by omega)
      grind
    have f1 : Fd (c + 1) C = Fd (c + 1) (upc C c (fun r => (sumR c fun i => t i * C i r) + e r)) := Fd_congr _ fun col r hcol hr => by
      by_cases z : col = c
      · rw [z, upc_same, hs r]
        show a (clP p c q r) c * (u (clP p c q r) * v c) = _ + (if r = c then _ else (0 : Rat))
        rcases Nat.lt_or_ge r c with y | y
        · rw [if_neg (by omega), Pl r y, x.top r c y (by omega)]
          grind
        · obtain rfl : r = c := by omega
          rw [if_pos rfl, Pc]
          have e2 := x.bot q r hq un (by omega)
          generalize sumR r (fun i => f (p i) r * a q i) = S2 at *
          grind
      · rw [upc_ne z]
    rw [Fd_add _ _ _ _ _ (Nat.lt_succ_self c), Fd_sum _ _ _ _ _ _ (Nat.lt_succ_self c)] at f1
    have f3 : (sumR c fun i => t i * Fd (c + 1) (upc C c (C i))) = 0 := sumR_zeros fun i hi => by
      rw [Fd_alt (i := i) (j := c) (by omega) (Nat.lt_succ_self c) (by omega) fun r _ => by rw [upc_ne (by omega), upc_same], Rat.mul_zero]
    have f4 : Fd (c + 1) (upc C c e) = f q c * (u q * v c) * Fd c (fun col r => a (p r) col * (u (p r) * v col)) := by
      rw [Fd_unit (u := f q c * (u q * v c)) (fun r hr => by rw [upc_same]; exact if_neg (by omega)) (by rw [upc_same]; exact if_pos rfl)]
      congr 1
      refine Fd_congr _ fun col r hcol hr => ?_
      rw [upc_ne (by omega)]
      show a (clP p c q r) col * (u (clP p c q r) * v col) = _
      rw [Pl r hr]
    rw [f3, f4, Rat.zero_add] at f1
    rw [f1]
    have hvc := hv c hc
    intro z
    rcases Rat.mul_eq_zero.mp z with z | z
    · rcases Rat.mul_eq_zero.mp z with z | z
      · exact h0 z
      · rcases Rat.mul_eq_zero.mp z with z | z
        · exact hu z
        · exact hvc z
    · exact x.det z
  · have hf := x.sol s hs
    intro i hi
    by_cases z : i = q
    · subst z
      have e : ∀ j, j < n → clE f c i i j * s j = (1 / f i c) * (f i j * s j) := fun j _ => by rw [Eq, hg]; grind
      rw [sumR_congr e, sumR_mul, hf i hi, Eq, hg]
      grind
    · have e : ∀ j, j < n → clE f c q i j * s j = f i j * s j + (-f i c * (1 / f q c)) * (f q j * s j) := fun j _ => by rw [Ene _ _ z, hg]; grind
      rw [sumR_congr e, sumR_add, sumR_mul, hf i hi, hf q hq, Ene _ _ z, hg]
      grind
theorem ClrI.all (x : ClrI n u v a f n p) {r : Nat} (hr : r < n) : ∃ i, i < n ∧ p i = r := by
  refine Classical.byContradiction fun hno => ?_
  have := pigeon n (n + 1) (fun i => if i < n then p i else r) (fun i hi => by
    show (if i < n then p i else r) < n
    split
    · exact x.lt i (by assumption)
    · exact hr) (fun i j hij hj => by
    show (if i < n then p i else r) ≠ (if j < n then p j else r)
    rw [if_pos (show i < n by omega)]
    intro e
    by_cases z : j < n
    · rw [if_pos z] at e
      have := x.inj i j (by omega) z e
      omega
    · rw [if_neg z] at e
      exact hno ⟨i, by omega, e⟩)
  omega
theorem ClrI.fin (x : ClrI n u v a f n p) {s : Nat → Rat} (hs : SolR n a s) {i : Nat} (hi : i < n) : f (p i) n = s i := by
  have := x.sol s hs (p i) (x.lt i hi)
  rw [← this]
  have e : ∀ j, j < n → f (p i) j * s j = if j = i then s i else 0 := fun j hj => by
    rw [x.unit i j hi hj]
    by_cases z : i = j
    · subst z
      rw [if_pos rfl, if_pos rfl, Rat.one_mul]
    · rw [if_neg z, if_neg (fun y => z y.symm), Rat.zero_mul]
  rw [sumR_congr e, sumR_one _ hi]
end
end Md
namespace Md
open PySem L2 Evl
def fdN (B : Nat) : Nat → Nat
  | 0 => 1
  | k + 1 => (k + 1) * (B * fdN B k)
theorem fdN_R (B : Nat) : ∀ k, natR (fdN B k) = fbd (natR B) k
  | 0 => rfl
  | k + 1 => by
    show natR ((k + 1) * (B * fdN B k)) = natR (k + 1) * (natR B * fbd (natR B) k)
    rw [natR_mul, natR_mul, fdN_R B k]
theorem fdN_pos {B : Nat} (h : 1 ≤ B) : ∀ k, 1 ≤ fdN B k
  | 0 => Nat.le_refl 1
  | k + 1 => Nat.mul_pos (Nat.succ_pos k) (Nat.mul_pos h (fdN_pos h k))
theorem fdN_succ {B : Nat} (h : 1 ≤ B) (k : Nat) : fdN B k ≤ fdN B (k + 1) := by
  show fdN B k ≤ (k + 1) * (B * fdN B k)
  have h1 := Nat.mul_le_mul_right (fdN B k) h
  have h2 := Nat.mul_le_mul_right (B * fdN B k) (show 1 ≤ k + 1 by omega)
  omega
theorem fdN_mono {B : Nat} (h : 1 ≤ B) {k : Nat} : ∀ {m : Nat}, k ≤ m → fdN B k ≤ fdN B m
  | 0, e => by
    obtain rfl : k = 0 := by omega
    exact Nat.le_refl _
  | m + 1, e => by
    rcases Nat.lt_or_ge k (m + 1) with z | z
    · exact Nat.le_trans (fdN_mono h (show k ≤ m by omega)) (fdN_succ h m)
    · obtain rfl : k = m + 1 := by omega
      exact Nat.le_refl _
theorem Fd_nb {B k : Nat} {C : Nat → Nat → Rat} (h : ∀ col r, col < k → r < k → NB 1 B (C col r)) : NB 1 (fdN B k) (Fd k C) := by
  have b := Fd_bd k (B := natR B) (c := C) fun col r h1 h2 => ⟨(h col r h1 h2).lo, (h col r h1 h2).hi⟩
  rw [← fdN_R] at b
  exact ⟨Fd_int k fun col r h1 h2 => (h col r h1 h2).zt, b.1, b.2⟩
theorem nb_quo {K : Nat} {Y r : Rat} {z : Int} (hz : z ≠ 0) (e : r * (z : Rat) = Y) (h : NB 1 K Y) : NB z.natAbs K r := by
  obtain ⟨y, hy, h9⟩ := nb_int_of h
  have z0 := cast_ne hz
  rcases (show 0 < z ∨ 0 < -z by omega) with c | c
  · have e2 : r = (y : Rat) / (z : Rat) := by rw [← hy, ← e]; grind
    rw [e2]
    exact nb_frac c (Nat.dvd_refl _) h9
  · have e2 : r = ((-y : Int) : Rat) / ((-z : Int) : Rat) := by rw [Rat.intCast_neg, Rat.intCast_neg, ← hy, ← e]; grind
    rw [e2]
    exact nb_frac c (by rw [Int.natAbs_neg]; exact Nat.dvd_refl _) (by rw [Int.natAbs_neg]; exact h9)
theorem nb_sum {M B : Nat} : ∀ {n : Nat} {f : Nat → Rat}, (∀ i, i < n → NB M B (f i)) → NB M (n * B) (sumR n f)
  | 0, f, _ => nb_zero _ _
  | n + 1, f, h => by
    rw [sumR_succ]
    have := nb_add (nb_sum fun i hi => h i (Nat.lt_succ_of_lt hi)) (h n (Nat.lt_succ_self n))
    rwa [← Nat.succ_mul] at this
structure ClrS (n : Nat) (a : Nat → Nat → Rat) (d w : Nat → Nat) (D W B : Nat) : Prop where
  n12 : n ≤ 12
  d0 : ∀ r, r < n → 0 < d r ∧ d r ≤ D
  w0 : ∀ l, l ≤ n → 0 < w l ∧ w l ≤ W
  B1 : 1 ≤ B
  z : ∀ r l, r < n → l ≤ n → NB 1 B (a r l * (natR (d r) * natR (w l)))
  sz : D * W * fdN B n * (13 * W * B * fdN B n) < 2 ^ 2200
theorem natR_ne {m : Nat} (h : 0 < m) : natR m ≠ 0 := cast_ne (by omega)
section
variable {n : Nat} {a f : Nat → Nat → Rat} {c : Nat} {p : Nat → Nat} {d w : Nat → Nat} {D W B : Nat}
theorem ClrI.size (x : ClrI n (fun r => natR (d r)) (fun l => natR (w l)) a f c p) (y : ClrS n a d w D W B) (hc : c ≤ n) {r l : Nat} (hr : r < n) (hl : l ≤ n) : ∃ M, 0 < M ∧ M ≤ D * W * fdN B n ∧ NB M (13 * W * B * fdN B n) (f r l) := by
  obtain ⟨C, hC⟩ : ∃ C : Nat → Nat → Rat, C = fun col r => a (p r) col * (natR (d (p r)) * natR (w col)) := ⟨_, rfl⟩
  have hdet : Fd c C ≠ 0 := by rw [hC]; exact x.det
  have hCb : ∀ col r, col < c → r < c → NB 1 B (C col r) := fun col r h1 h2 => by
    rw [hC]
    exact y.z (p r) col (x.lt r h2) (by omega)
  have F1 := fdN_pos y.B1 n
  have Fc := fdN_mono y.B1 hc
  obtain ⟨Z, hZ, hZ9⟩ := nb_int_of (Fd_nb hCb)
  have Z0 : Z ≠ 0 := fun e => hdet (by rw [hZ, e]; rfl)
  have ZR := cast_ne Z0
  -- the numbers on top
  obtain ⟨T, hT⟩ : ∃ T : Nat → Rat, ∀ i, T i = Fd c (upc C i fun r => a (p r) l * (natR (d (p r)) * natR (w l))) := ⟨_, fun _ => rfl⟩
  have hTb : ∀ i, i < c → NB 1 (fdN B n) (T i) := fun i hi => by
    rw [hT]
    refine (Fd_nb fun col r h1 h2 => ?_).mono (Nat.dvd_refl _) Fc
    by_cases e : col = i
    · rw [e, upc_same]
      exact y.z (p r) l (x.lt r h2) hl
    · rw [upc_ne e]
      exact hCb col r h1 h2
  have wl := natR_ne (y.w0 l hl).1
  have hTe : ∀ i, i < c → f (p i) l * (natR (w l) * (Z : Rat)) = T i * natR (w i) := fun i hi => by
    have wi := natR_ne (y.w0 i (by omega)).1
    have e := cramer (k := c) (c := C) (t := fun i => f (p i) l * natR (w l) * (1 / natR (w i))) (v := fun r => a (p r) l * (natR (d (p r)) * natR (w l))) (d := 1) (fun r hr => by
      have e1 := x.top r l hr hl
      have e2 : ∀ i, i < c → f (p i) l * natR (w l) * (1 / natR (w i)) * C i r = natR (d (p r)) * natR (w l) * (f (p i) l * a (p r) i) := fun i hi => by
        have := natR_ne (y.w0 i (by omega)).1
        rw [hC]
        grind
      rw [sumR_congr e2, sumR_mul, e1]
      grind) hi
    rw [← hT, hZ] at e
    grind
  have hB : 1 ≤ B := y.B1
  have hW1 : 1 ≤ W := by have := y.w0 l hl; omega
  have dr := y.d0 r hr
  have wl2 := y.w0 l hl
  generalize hF : fdN B n = F at *
  have Z1 : 1 ≤ Z.natAbs := by omega
  have bnd : B * F + n * (F * B) ≤ 13 * W * B * F := by
    have e1 : n * (F * B) ≤ 12 * (F * B) := Nat.mul_le_mul_right _ y.n12
    have e2 : F * B = B * F := Nat.mul_comm _ _
    have e3 : 13 * W * B * F = W * (13 * (B * F)) := by
      rw [Nat.mul_comm 13 W, Nat.mul_assoc, Nat.mul_assoc]
    have e4 : 1 * (13 * (B * F)) ≤ W * (13 * (B * F)) := Nat.mul_le_mul_right _ hW1
    rw [e3]
    rw [e2] at e1 ⊢
    omega
  have bnd2 : F * W ≤ 13 * W * B * F := by
    have e3 : 13 * W * B * F = (13 * B) * (F * W) := by
      rw [Nat.mul_right_comm 13 W B, Nat.mul_assoc (13 * B) W F, Nat.mul_comm W F]
    rw [e3]
    have := Nat.mul_le_mul_right (F * W) (show 1 ≤ 13 * B by omega)
    omega
  by_cases hp : ∀ i, i < c → p i ≠ r
  · have e1 := x.bot r l hr hp hl
    refine ⟨((d r : Int) * (w l : Int) * Z).natAbs, ?_, ?_, nb_quo (Y := a r l * (natR (d r) * natR (w l)) * (Z : Rat) - sumR c fun i => T i * (a r i * (natR (d r) * natR (w i)))) ?_ ?_ ?_⟩
    · rw [Int.natAbs_mul, Int.natAbs_mul, Int.natAbs_natCast, Int.natAbs_natCast]
      exact Nat.mul_pos (Nat.mul_pos dr.1 wl2.1) Z1
    · rw [Int.natAbs_mul, Int.natAbs_mul, Int.natAbs_natCast, Int.natAbs_natCast]
      exact Nat.mul_le_mul (Nat.mul_le_mul dr.2 wl2.2) (Nat.le_trans hZ9 Fc)
    · intro e
      rcases Int.mul_eq_zero.mp e with e | e
      · rcases Int.mul_eq_zero.mp e with e | e <;> omega
      · exact Z0 e
    · have e2 : ∀ i, i < c → T i * (a r i * (natR (d r) * natR (w i))) = natR (d r) * natR (w l) * (Z : Rat) * (f (p i) l * a r i) := fun i hi => by
        have := hTe i hi
        grind
      rw [sumR_congr e2, sumR_mul, e1, Rat.intCast_mul, Rat.intCast_mul]
      show _ * (natR (d r) * natR (w l) * (Z : Rat)) = _
      grind
    · have n1 := nb_mul (y.z r l hr hl) (show NB 1 F (Z : Rat) from ⟨zt_int 1 Z, by have := (Fd_nb hCb).mono (Nat.dvd_refl 1) Fc; rw [hZ] at this; exact this.lo, by have := (Fd_nb hCb).mono (Nat.dvd_refl 1) Fc; rw [hZ] at this; exact this.hi⟩)
      have n2 := nb_sum (n := c) (f := fun i => T i * (a r i * (natR (d r) * natR (w i)))) fun i hi => nb_mul (hTb i hi) (y.z r i hr (by omega))
      have := nb_sub n1 n2
      refine this.mono (Nat.dvd_refl _) (Nat.le_trans (Nat.add_le_add_left (Nat.mul_le_mul_right _ hc) _) bnd)
  · have ⟨i, hi, e2⟩ : ∃ i, i < c ∧ p i = r := Classical.byContradiction fun z => hp fun i hi e => z ⟨i, hi, e⟩
    subst e2
    have wi := y.w0 i (by omega)
    refine ⟨((w l : Int) * Z).natAbs, ?_, ?_, nb_quo (Y := T i * natR (w i)) ?_ ?_ ?_⟩
    · rw [Int.natAbs_mul, Int.natAbs_natCast]
      exact Nat.mul_pos wl2.1 Z1
    · rw [Int.natAbs_mul, Int.natAbs_natCast]
      have h1 := Nat.mul_le_mul wl2.2 (Nat.le_trans hZ9 Fc)
      have h2 := Nat.mul_le_mul_right (W * F) (show 1 ≤ D by omega)
      rw [Nat.one_mul, ← Nat.mul_assoc] at h2
      exact Nat.le_trans h1 h2
    · intro e
      rcases Int.mul_eq_zero.mp e with e | e
      · omega
      · exact Z0 e
    · rw [Rat.intCast_mul]
      exact hTe i hi
    · have n1 := nb_mul (hTb i hi) (show NB 1 W (natR (w i)) from ⟨zt_int 1 (w i : Int), by have := natR_nonneg (w i); have := natR_nonneg W; grind, natR_le wi.2⟩)
      exact n1.mono (Nat.dvd_refl _) bnd2
theorem ClrI.sz (x : ClrI n (fun r => natR (d r)) (fun l => natR (w l)) a f c p) (y : ClrS n a d w D W B) (hc : c ≤ n) {r l : Nat} (hr : r < n) (hl : l ≤ n) : Big 2200 (canon (f r l)) := by
  obtain ⟨M, M0, M9, h⟩ := x.size y hc hr hl
  have hW1 : 1 ≤ W := by have := y.w0 l hl; omega
  refine h.big M0 (Nat.mul_pos (Nat.mul_pos (Nat.mul_pos (by decide) hW1) y.B1) (fdN_pos y.B1 n)) ?_
  have := y.sz
  rw [Nat.mul_comm] at this
  exact Nat.lt_of_le_of_lt (Nat.mul_le_mul_left _ M9) this
end
end Md
namespace Md
open PySem L2 Evl
end Md
namespace Md
open PySem L2 Evl
end Md
namespace Md
open PySem L2 Evl
end Md
set_option Elab.async false
set_option linter.all false
set_option maxRecDepth 100000
set_option maxHeartbeats 2000000
namespace Md
open PySem L2 Evl
def flB (bs : List BrC) (x : Nat) : Rat := (bs.map fun q => if q.2 = x then qN q.1 else 0).sum
def flR (C : List PlC) (k x : Nat) : Rat := flB (plC C k).bs x
theorem flB_pos {x : Nat} : ∀ {bs : List BrC}, (∀ q ∈ bs, 0 < qN q.1) → 0 ≤ flB bs x ∧ (0 < flB bs x ↔ ∃ q ∈ bs, q.2 = x)
  | [], _ => ⟨Rat.le_refl, fun h => absurd h (by show ¬ (0 : Rat) < 0; decide +kernel), fun ⟨q, hq, _⟩ => by cases hq⟩
  | q :: bs, h => by
    obtain ⟨h0, h1⟩ := flB_pos (x := x) fun q hq => h q (List.mem_cons_of_mem _ hq)
    have hq := h q (List.mem_cons_self ..)
    have e : flB (q :: bs) x = (if q.2 = x then qN q.1 else 0) + flB bs x := rfl
    rw [e]
    by_cases z : q.2 = x
    · rw [if_pos z]
      exact ⟨by grind, fun _ => ⟨q, List.mem_cons_self .., z⟩, fun _ => by grind⟩
    · rw [if_neg z]
      refine ⟨by grind, fun hp => ?_, fun ⟨q', h1', h2'⟩ => ?_⟩
      · obtain ⟨q', h1', h2'⟩ := h1.mp (by grind)
        exact ⟨q', List.mem_cons_of_mem _ h1', h2'⟩
      · rcases List.mem_cons.mp h1' with rfl | h3
        · exact absurd h2' z
        · have := h1.mpr ⟨q', h3, h2'⟩
          grind
theorem qN_pos {p : Int × Int} (h : SmallN p) (h1 : 0 < p.1) : 0 < qN p := by
  have h2 : (0 : Rat) < (p.2 : Rat) := cast_pos (by have := h.1; omega)
  have h3 : (0 : Rat) < (p.1 : Rat) := cast_pos h1
  show 0 < (p.1 : Rat) / (p.2 : Rat)
  rcases (show 0 < (p.1 : Rat) / (p.2 : Rat) ∨ (p.1 : Rat) / (p.2 : Rat) ≤ 0 by grind) with z | z
  · exact z
  · have := Rat.mul_le_mul_of_nonneg_right z (Rat.le_of_lt h2)
    have e : (p.1 : Rat) / (p.2 : Rat) * (p.2 : Rat) = (p.1 : Rat) := Rat.div_mul_cancel (by grind)
    rw [e, Rat.zero_mul] at this
    grind
theorem flR_pos {C : List PlC} (h : WfC C) {k x : Nat} (hk : k < C.length) : 0 < flR C k x ↔ ∃ q ∈ (plC C k).bs, q.2 = x :=
  (flB_pos fun q hq => by
    have := (plC_wf h hk).q q hq
    exact qN_pos this.1 this.2.1).2
def stE (C : List PlC) (k x : Nat) : Bool := decide (k = x) || decide (0 < flR C k x)
def wrS (A : Nat → Nat → Bool) (m : Nat) : Nat → Nat → Bool := fun k x => A k x || (A k m && A m x)
structure WrI (C : List PlC) (A : Nat → Nat → Bool) (m : Nat) : Prop where
  base : ∀ k x, k < C.length → stE C k x = true → A k x = true
  sub : ∀ k x, k < C.length → A k x = true → Reach C k x
  tr : ∀ j k x, j < m → k < C.length → A k j = true → A j x = true → A k x = true
theorem wrS_iff {A : Nat → Nat → Bool} {m k x : Nat} : wrS A m k x = true ↔ A k x = true ∨ (A k m = true ∧ A m x = true) := by
  unfold wrS
  rw [Bool.or_eq_true, Bool.and_eq_true]
theorem WrI.step {C : List PlC} {A : Nat → Nat → Bool} {m : Nat} (x : WrI C A m) (hm : m < C.length) : WrI C (wrS A m) (m + 1) := by
  refine ⟨fun k y hk e => wrS_iff.mpr (Or.inl (x.base k y hk e)), fun k y hk e => ?_, fun j k y hj hk e1 e2 => ?_⟩
  · rcases wrS_iff.mp e with z | ⟨z1, z2⟩
    · exact x.sub k y hk z
    · exact (x.sub k m hk z1).trans (x.sub m y hm z2)
  · rw [wrS_iff] at e1 e2
    rw [wrS_iff]
    rcases Nat.lt_or_ge j m with h | h
    · rcases e1 with a | ⟨a1, a2⟩
      · rcases e2 with b | ⟨b1, b2⟩
        · exact Or.inl (x.tr j k y h hk a b)
        · exact Or.inr ⟨x.tr j k m h hk a b1, b2⟩
      · rcases e2 with b | ⟨b1, b2⟩
        · exact Or.inr ⟨a1, x.tr j m y h hm a2 b⟩
        · exact Or.inr ⟨a1, b2⟩
    · obtain rfl : j = m := by omega
      have a : A k j = true := by
        rcases e1 with a | ⟨a, _⟩ <;> exact a
      have b : A j y = true := by
        rcases e2 with b | ⟨_, b⟩ <;> exact b
      exact Or.inr ⟨a, b⟩
theorem WrI.fin {C : List PlC} (h : WfC C) {A : Nat → Nat → Bool} (x : WrI C A C.length) {k y : Nat} (hk : k < C.length) : A k y = true ↔ Reach C k y := by
  refine ⟨x.sub k y hk, fun r => ?_⟩
  induction r with
  | refl => exact x.base k k hk (by unfold stE; rw [decide_eq_true rfl]; rfl)
  | step r' hq ih =>
    have hy := r'.lt h hk
    exact x.tr _ k _ hy hk ih (x.base _ _ hy (by
      unfold stE
      rw [decide_eq_true ((flR_pos h hy).mpr ⟨_, hq, rfl⟩), Bool.or_true]))
end Md
namespace Md
end Md
namespace Md
open PySem L2 Evl
end Md
set_option Elab.async false
set_option linter.all false
set_option maxRecDepth 100000
set_option maxHeartbeats 2000000
namespace Md
open PySem L2 Evl
def prodN : Nat → (Nat → Nat) → Nat
  | 0, _ => 1
  | n + 1, f => prodN n f * f n
structure ClrT (n : Nat) (a : Nat → Nat → Rat) (d : Nat → Nat) (Q X V : Nat) : Prop where
  n12 : n ≤ 12
  d0 : ∀ r, r < n → 0 < d r
  X0 : 0 < X
  V1 : 1 ≤ V
  z : ∀ r l, r < n → l < n → NB (d r) 2 (a r l)
  zn : ∀ r, r < n → NB (d r * X) V (a r n)
  q : prodN n d ≤ Q
  sz : 26 * V * X * fdN 2 n * Q * (X * fdN 2 n * Q) < 2 ^ 2200
section
variable {n : Nat} {a f : Nat → Nat → Rat} {c : Nat} {p : Nat → Nat} {d : Nat → Nat} {Q X V : Nat}
end
end Md
namespace Md
open PySem L2 Evl
section
variable {C : List PlC}
end
end Md
set_option Elab.async false
set_option linter.all false
set_option maxRecDepth 100000
set_option maxHeartbeats 2000000
namespace Md
open PySem L2 Evl
section
variable {K : PySem.W.Frag} {vs : List V} {h : Hp} {Q : VK} {E : XK}
end
end Md
set_option Elab.async false
set_option linter.all false
set_option maxRecDepth 100000
set_option maxHeartbeats 2000000
namespace Md
open PySem L2 Evl
section
variable {G : List PlV} {o : Bool} {c d : Nat → Nat}
variable {g h : Nat → Rat} {M0 : Nat}
end
section
variable {G : List PlV} {o : Bool} {c : Nat → Nat}
end
end Md
set_option Elab.async false
set_option linter.all false
set_option maxRecDepth 100000
set_option maxHeartbeats 2000000
namespace Md
open PySem L2 Evl
end Md
namespace Md
open PySem L2 Evl
end Md
namespace Md
open PySem L2 Evl
end Md
set_option Elab.async false
set_option linter.all false
set_option maxRecDepth 100000
set_option maxHeartbeats 2000000
namespace Md
open PySem L2 Evl
def dPar2O (i j : Nat) : DS := fun DD Γ => i < Γ.length ∧ j < Γ.length ∧ DD.nx ((Γ.set i (some (.o []))).set j (some (.o [])))
section
variable {G : List PlV} {c d : Nat → Nat} {g h : Nat → Rat}
end
end Md
set_option Elab.async false
set_option linter.all false
set_option maxRecDepth 100000
set_option maxHeartbeats 2000000
namespace Md
open PySem L2 Evl
section
variable {G : List PlV} {o : Bool} {c c' : Nat → Nat} {g h : Nat → Rat} {N : Nat}
theorem SmR.rw {G : List PlV} (x : SmR G g h N) (fG : FldG G) : RwOk G 360 N (2 ^ 291) g h := fG.rw x.N0 x.N1 (x.dv (by decide)) (fun k hk => SmR.up (x.g k hk)) fun k hk => SmR.up (x.h k hk)
theorem SmR.put {G : List PlV} (x : SmR G g h N) : SmR (putV G o c) g h N := ⟨x.N0, x.N1, x.d, fun k hk => x.g k (by rw [put_len] at hk; exact hk), fun k hk => x.h k (by rw [put_len] at hk; exact hk)⟩
end
section
variable {G : List PlV} {c c' : Nat → Nat} {g h : Nat → Rat} {N : Nat} {P : PyData → Prop}
end
end Md
namespace Md
open PySem L2 Evl
theorem for_hide {ws : List Nat} {di : DN} {dg : DG} {du R : DS} {DD : DEnds} {Γ : Gam} (h : ∀ B, B = du → dSeq (dFor ws di dg B) R DD Γ) : dSeq (dFor ws di dg du) R DD Γ := h du rfl
end Md
namespace Md
open PySem L2 Evl
end Md
set_option Elab.async false
set_option linter.all false
set_option maxRecDepth 100000
set_option maxHeartbeats 2000000
namespace Md
open PySem L2 Evl
end Md
set_option Elab.async false
set_option linter.all false
set_option maxRecDepth 100000
set_option maxHeartbeats 2000000
namespace Md
open PySem L2 Evl
section
variable {G : List PlV} {o : Bool} {c d : Nat → Nat} {g h : Nat → Rat} {M0 M B w : Nat}
theorem FldG.tn (x : FldG G) : FldG (G.map tnV) := by
  have r := tn_rig x.rig
  exact ⟨r.W, r.g, r.pos⟩
end
end Md
set_option Elab.async false
set_option linter.all false
set_option maxRecDepth 100000
set_option maxHeartbeats 2000000
namespace Md
open PySem L2 Evl
section
variable {G L : List PlV} {o : Bool} {c : Nat → Nat} {Ps : List (Nat → Nat)} {g h : Nat → Rat}
end
end Md
namespace Md
open PySem L2 Evl
end Md
set_option Elab.async false
set_option linter.all false
set_option maxRecDepth 100000
set_option maxHeartbeats 2000000
namespace Md
open PySem L2 Evl
def ME (te : TE) : Prop := ∀ σ h (Q Q' : VK), (∀ v h', Q v h' → Q' v h') → te σ h Q → te σ h Q'
def MA (ta : TA) : Prop := ∀ σ h (Q Q' : List V → Hp → Prop), (∀ v h', Q v h' → Q' v h') → ta σ h Q → ta σ h Q'
def MT (tt : TT) : Prop := ∀ σ h (Q Q' : Bool → Hp → Prop), (∀ v h', Q v h' → Q' v h') → tt σ h Q → tt σ h Q'
def MO (to : TO) : Prop := ∀ σ h (Q Q' : Option Int → Hp → Prop), (∀ v h', Q v h' → Q' v h') → to σ h Q → to σ h Q'
def MI (wi : TI) : Prop := ∀ σ h (Q Q' : It → Hp → Prop), (∀ v h', Q v h' → Q' v h') → wi σ h Q → wi σ h Q'
def MR2 (r : R2) : Prop := ∀ x y h (Q Q' : VK), (∀ v h', Q v h' → Q' v h') → r x y h Q → r x y h Q'
def MR (r : List V → Hp → VK → Prop) : Prop := ∀ x h (Q Q' : VK), (∀ v h', Q v h' → Q' v h') → r x h Q → r x h Q'
def MU (r : V → Hp → VK → Prop) : Prop := ∀ x h (Q Q' : VK), (∀ v h', Q v h' → Q' v h') → r x h Q → r x h Q'
def MB (r : V → List V → Hp → VK → Prop) : Prop := ∀ x y h (Q Q' : VK), (∀ v h', Q v h' → Q' v h') → r x y h Q → r x y h Q'
def ML (r : V → Option Int → Option Int → Hp → VK → Prop) : Prop := ∀ x y z h (Q Q' : VK), (∀ v h', Q v h' → Q' v h') → r x y z h Q → r x y z h Q'
def MSt (r : TSet) : Prop := ∀ x y z h (Q Q' : Hp → Prop), (∀ h', Q h' → Q' h') → r x y z h Q → r x y z h Q'
def MSp (S : Sp) : Prop := ∀ vs h (Q Q' : VK) E, (∀ v h', Q v h' → Q' v h') → S vs h Q E → S vs h Q' E
def AgS (js : List Nat) (σ σ' : L2.St) : Prop := ∀ i, i ∈ js → σ'[i]? = σ[i]?
theorem AgS.refl {js : List Nat} {σ : L2.St} : AgS js σ σ := fun _ _ => rfl
theorem AgS.trans {js : List Nat} {σ σ' σ'' : L2.St} (x : AgS js σ σ') (y : AgS js σ' σ'') : AgS js σ σ'' := fun i h => (y i h).trans (x i h)
theorem AgS.set {js : List Nat} {σ : L2.St} {i : Nat} {v : Option V} (h : i ∉ js) : AgS js σ (σ.set i v) := fun j hj => by
  have : i ≠ j := fun e => h (by rw [e]; exact hj)
  exact List.getElem?_set_ne this
def KG (js : List Nat) (g : TG) : Prop := ∀ v σ h (Q Q' : L2.St → Hp → Prop), (∀ σ' h', AgS js σ σ' → Q σ' h' → Q' σ' h') → g v σ h Q → g v σ h Q'
def KGs (js : List Nat) (g : TGs) : Prop := ∀ v σ h (Q Q' : L2.St → Hp → Prop), (∀ σ' h', AgS js σ σ' → Q σ' h' → Q' σ' h') → g v σ h Q → g v σ h Q'
structure LeD (js : List Nat) (σ : L2.St) (D D' : Ends) : Prop where
  nx : ∀ σ' h', AgS js σ σ' → D.nx σ' h' → D'.nx σ' h'
  rt : ∀ v h', D.rt v h' → D'.rt v h'
  bk : ∀ σ' h', AgS js σ σ' → D.bk σ' h' → D'.bk σ' h'
  ct : ∀ σ' h', AgS js σ σ' → D.ct σ' h' → D'.ct σ' h'
def KM (js : List Nat) (t : TS) : Prop := ∀ (D D' : Ends) σ h, LeD js σ D D' → t D σ h → t D' σ h
theorem LeD.go {js : List Nat} {σ σ' : L2.St} {D D' : Ends} (x : LeD js σ D D') (a : AgS js σ σ') : LeD js σ' D D' := ⟨fun τ h' z => x.nx τ h' (a.trans z), x.rt, fun τ h' z => x.bk τ h' (a.trans z), fun τ h' z => x.ct τ h' (a.trans z)⟩
section
variable {te ta tb tc : TE} {ts tk tr : TA} {tt tu : TT} {tl th : TO} {wi : TI} {r r' : R2} {K : PySem.W.Frag} {js : List Nat}
theorem me_var {i : Nat} : ME (tVar i) := fun σ h Q Q' f => Exists.imp fun v => And.imp id (f v h)
theorem me_c {v : V} : ME (tC v) := fun σ h Q Q' f => f v h
theorem ma_nil : MA tNil := fun σ h Q Q' f => f [] h
theorem ma_cons (x : ME ta) (y : MA ts) : MA (tCons ta ts) := fun σ h Q Q' f => x σ h _ _ fun v h1 => y σ h1 _ _ fun vs h2 => f _ h2
theorem me_tup (x : MA ts) : ME (tTup ts) := fun σ h Q Q' f => x σ h _ _ fun vs h1 => And.imp id (forall_imp fun p => forall_imp fun _ => f _ _)
theorem me_lst (x : MA ts) : ME (tLst ts) := fun σ h Q Q' f => x σ h _ _ fun vs h1 => And.imp id (forall_imp fun p => forall_imp fun _ => f _ _)
theorem me_op (z : MR2 r) (x : ME ta) (y : ME tb) : ME (tOp r ta tb) := fun σ h Q Q' f => x σ h _ _ fun v h1 => y σ h1 _ _ fun w h2 => z v w h2 _ _ f
theorem me_un {q : V → Hp → VK → Prop} (z : MU q) (x : ME ta) : ME (tUn q ta) := fun σ h Q Q' f => x σ h _ _ fun v h1 => z v h1 _ _ f
theorem me_if (z : MT tt) (x : ME ta) (y : ME tb) : ME (tIf tt ta tb) := fun σ h Q Q' f => z σ h _ _ fun c h1 => by
  cases c
  · exact y σ h1 _ _ f
  · exact x σ h1 _ _ f
theorem me_andV (x : ME ta) (y : ME tb) : ME (tAndV ta tb) := fun σ h Q Q' f => x σ h _ _ fun v h1 => Exists.imp fun c => And.imp id (by
  cases c
  · exact f _ _
  · exact y σ h1 _ _ f)
theorem me_orV (x : ME ta) (y : ME tb) : ME (tOrV ta tb) := fun σ h Q Q' f => x σ h _ _ fun v h1 => Exists.imp fun c => And.imp id (by
  cases c
  · exact y σ h1 _ _ f
  · exact f _ _)
theorem me_notV (x : ME ta) : ME (tNotV ta) := fun σ h Q Q' f => x σ h _ _ fun v h1 => Exists.imp fun c => And.imp id (f _ _)
theorem me_call {sp : Sp} {dvs : List V} {E : XK} (z : MSp sp) (x : MA ts) : ME (tCall sp dvs E ts) := fun σ h Q Q' f => x σ h _ _ fun vs h1 => z _ h1 _ _ E f
theorem me_callK {sp : Sp} {g : List V → List V → List V} {E : XK} (z : MSp sp) (x : MA ts) (y : MA tk) : ME (tCallK sp g E ts tk) := fun σ h Q Q' f => x σ h _ _ fun vs h1 => y σ h1 _ _ fun ws h2 => z _ h2 _ _ E f
theorem me_cb {q : List V → Hp → VK → Prop} (z : MR q) (x : MA ts) : ME (tCB q ts) := fun σ h Q Q' f => x σ h _ _ fun vs h1 => z _ h1 _ _ f
theorem me_bm {T : String} {q : V → List V → Hp → VK → Prop} (z : MB q) (x : ME ta) (y : MA ts) : ME (tBM K T q ta ts) := fun σ h Q Q' f => x σ h _ _ fun v h1 => And.imp id (y σ h1 _ _ fun vs h2 => z v vs h2 _ _ f)
theorem me_bm0 {T : String} {q : V → List V → Hp → VK → Prop} (z : MB q) (x : ME ta) : ME (tBM0 K T q ta) := fun σ h Q Q' f => x σ h _ _ fun v h1 => And.imp id (z v [] h1 _ _ f)
theorem me_sl {q : V → Option Int → Option Int → Hp → VK → Prop} (z : ML q) (x : ME te) (y : MO tl) (u : MO th) : ME (tSl q te tl th) := fun σ h Q Q' f => x σ h _ _ fun v h1 => y σ h1 _ _ fun l h2 => u σ h2 _ _ fun m h3 => z v l m h3 _ _ f
theorem mo_no : MO tNoPart := fun σ h Q Q' f => f _ _
theorem mo_part (x : ME te) : MO (tPart te) := fun σ h Q Q' f => x σ h _ _ fun v h1 => Exists.imp fun c => And.imp id (f _ _)
theorem me_chain (z : MR2 r) (z' : MR2 r') (x : ME ta) (y : ME tb) (u : ME tc) : ME (tChain r r' ta tb tc) := fun σ h Q Q' f => x σ h _ _ fun v h1 => y σ h1 _ _ fun w h2 => z v w h2 _ _ fun c h3 => Exists.imp fun k => And.imp id (by
  cases k
  · exact f _ _
  · exact u σ h3 _ _ fun m h4 => z' w m h4 _ _ f)
theorem me_dget (x : ME ta) (y : ME tb) : ME (tDGet ta tb) := fun σ h Q Q' f => x σ h _ _ fun v h1 => y σ h1 _ _ fun w h2 => Exists.imp fun a => Exists.imp fun u => And.imp id (And.imp id (f _ _))
def MPs (trs : List (TE × TE)) : Prop := ∀ σ h (Q Q' : List (V × V) → Hp → Prop), (∀ v h', Q v h' → Q' v h') → tPairs trs σ h Q → tPairs trs σ h Q'
theorem mps_nil : MPs [] := fun σ h Q Q' f => f _ _
theorem mps_cons {trs : List (TE × TE)} (x : ME ta) (y : ME tb) (z : MPs trs) : MPs ((ta, tb) :: trs) := fun σ h Q Q' f => x σ h _ _ fun v h1 => y σ h1 _ _ fun w h2 => z σ h2 _ _ fun vs h3 => f _ h3
theorem me_disp {trs : List (TE × TE)} (x : MPs trs) : ME (tDisp trs) := fun σ h Q Q' f => forall_imp fun p => forall_imp fun _ => x σ _ _ _ fun ps h2 => And.imp id (Exists.imp fun kvs => And.imp id (And.imp id (f _ _)))
theorem mt_yes : MT tYes := fun σ h Q Q' f => f _ _
theorem mt_b (x : ME te) : MT (tB te) := fun σ h Q Q' f => x σ h _ _ fun v h1 => Exists.imp fun c => And.imp id (f _ _)
theorem mt_test (x : ME te) : MT (tTest te) := fun σ h Q Q' f => x σ h _ _ fun v h1 => Exists.imp fun c => And.imp id (f _ _)
theorem mt_tru (x : ME te) : MT (tTru K te) := fun σ h Q Q' f => x σ h _ _ fun v h1 => Exists.imp fun c => And.imp id (f _ _)
theorem mt_not (x : MT tt) : MT (tNot tt) := fun σ h Q Q' f => x σ h _ _ fun c h1 => f _ _
theorem mt_and (x : MT tt) (y : MT tu) : MT (tAnd tt tu) := fun σ h Q Q' f => x σ h _ _ fun c h1 => by
  cases c
  · exact f _ _
  · exact y σ h1 _ _ f
theorem mt_or (x : MT tt) (y : MT tu) : MT (tOr tt tu) := fun σ h Q Q' f => x σ h _ _ fun c h1 => by
  cases c
  · exact y σ h1 _ _ f
  · exact f _ _
theorem mi_list (x : ME te) : MI (iList K te) := fun σ h Q Q' f => x σ h _ _ fun v h1 => Exists.imp fun a => And.imp id (And.imp id (f _ _))
theorem mi_tup (x : ME te) : MI (iTup K te) := fun σ h Q Q' f => x σ h _ _ fun v h1 => Exists.imp fun a => And.imp id (And.imp id (f _ _))
theorem mi_rng1 (x : MA ts) : MI (iRng1 ts) := fun σ h Q Q' f => x σ h _ _ fun v h1 => Exists.imp fun a => And.imp id (And.imp id (And.imp id (f _ _)))
theorem mi_rng2 (x : MA ts) : MI (iRng2 ts) := fun σ h Q Q' f => x σ h _ _ fun v h1 => Exists.imp fun a => Exists.imp fun b => And.imp id (And.imp id (f _ _))
theorem mi_enum (x : MA ts) : MI (iEnum K ts) := fun σ h Q Q' f => x σ h _ _ fun v h1 => Exists.imp fun a => Exists.imp fun xs => And.imp id (And.imp id (f _ _))
theorem mi_zip (x : MA ts) : MI (iZip K ts) := fun σ h Q Q' f => x σ h _ _ fun v h1 => by
  repeat' (first | exact id | (refine Exists.imp fun _ => ?_) | (refine forall_imp fun _ => ?_) | (refine And.imp ?_ ?_) | (refine Or.imp ?_ ?_) | (apply_assumption <;> done))
end
end Md
namespace Md
open PySem L2 Evl
section
variable {K : PySem.W.Frag} {te ta tb tc : TE} {ts tk tr : TA} {tt tu tt1 : TT} {wi wi1 : TI} {g g1 : TG} {vs vs1 : List Nat}
theorem me_lc (x : MI wi) : ME (tLc wi g tt te vs) := fun σ h Q Q' f => x σ h _ _ fun J h1 => forall_imp fun D => forall_imp fun _ => Exists.imp fun W => And.imp id (forall_imp fun i => forall_imp fun m => forall_imp fun h2 => forall_imp fun _ => Or.imp (And.imp id (f _ _)) id)
theorem me_lc2 (x : MI wi) : ME (tLc2 wi g tt wi1 g1 tt1 te vs vs1) := fun σ h Q Q' f => x σ h _ _ fun J h1 => forall_imp fun D => forall_imp fun _ => Exists.imp fun W => And.imp id (forall_imp fun i => forall_imp fun m => forall_imp fun h2 => forall_imp fun _ => Or.imp (And.imp id (f _ _)) id)
end
theorem mr_I0 {g : Int → Int → V} : MR2 (rI0 g) := fun x y h Q Q' f => by
  unfold rI0
  repeat' (first | exact id | (refine Exists.imp fun _ => ?_) | (refine forall_imp fun _ => ?_) | (refine And.imp ?_ ?_) | (refine Or.imp ?_ ?_) | (apply_assumption <;> done))
  all_goals first | exact f _ _ | done
theorem mr_I {C : Int → Int → Prop} {g : Int → Int → V} : MR2 (rI C g) := fun x y h Q Q' f => by
  unfold rI
  repeat' (first | exact id | (refine Exists.imp fun _ => ?_) | (refine forall_imp fun _ => ?_) | (refine And.imp ?_ ?_) | (refine Or.imp ?_ ?_) | (apply_assumption <;> done))
  all_goals first | exact f _ _ | done
theorem mr_Eq  : MR2 (rEq) := fun x y h Q Q' f => by
  unfold rEq
  repeat' (first | exact id | (refine Exists.imp fun _ => ?_) | (refine forall_imp fun _ => ?_) | (refine And.imp ?_ ?_) | (refine Or.imp ?_ ?_) | (apply_assumption <;> done))
  all_goals first | exact f _ _ | done
theorem mr_Ne  : MR2 (rNe) := fun x y h Q Q' f => by
  unfold rNe
  repeat' (first | exact id | (refine Exists.imp fun _ => ?_) | (refine forall_imp fun _ => ?_) | (refine And.imp ?_ ?_) | (refine Or.imp ?_ ?_) | (apply_assumption <;> done))
  all_goals first | exact f _ _ | done
theorem mr_IxL {K : PySem.W.Frag} : MR2 (rIxL K) := fun x y h Q Q' f => by
  unfold rIxL
  repeat' (first | exact id | (refine Exists.imp fun _ => ?_) | (refine forall_imp fun _ => ?_) | (refine And.imp ?_ ?_) | (refine Or.imp ?_ ?_) | (apply_assumption <;> done))
  all_goals first | exact f _ _ | done
theorem mr_IxT {K : PySem.W.Frag} : MR2 (rIxT K) := fun x y h Q Q' f => by
  unfold rIxT
  repeat' (first | exact id | (refine Exists.imp fun _ => ?_) | (refine forall_imp fun _ => ?_) | (refine And.imp ?_ ?_) | (refine Or.imp ?_ ?_) | (apply_assumption <;> done))
  all_goals first | exact f _ _ | done
theorem mr_Cat  : MR2 (rCat) := fun x y h Q Q' f => by
  unfold rCat
  repeat' (first | exact id | (refine Exists.imp fun _ => ?_) | (refine forall_imp fun _ => ?_) | (refine And.imp ?_ ?_) | (refine Or.imp ?_ ?_) | (apply_assumption <;> done))
  all_goals first | exact f _ _ | done
theorem mr_Rep  : MR2 (rRep) := fun x y h Q Q' f => by
  unfold rRep
  repeat' (first | exact id | (refine Exists.imp fun _ => ?_) | (refine forall_imp fun _ => ?_) | (refine And.imp ?_ ?_) | (refine Or.imp ?_ ?_) | (apply_assumption <;> done))
  all_goals first | exact f _ _ | done
theorem mr_InD {K : PySem.W.Frag} : MR2 (rInD K) := fun x y h Q Q' f => by
  unfold rInD
  repeat' (first | exact id | (refine Exists.imp fun _ => ?_) | (refine forall_imp fun _ => ?_) | (refine And.imp ?_ ?_) | (refine Or.imp ?_ ?_) | (apply_assumption <;> done))
  all_goals first | exact f _ _ | done
theorem mr_NotInD {K : PySem.W.Frag} : MR2 (rNotInD K) := fun x y h Q Q' f => by
  unfold rNotInD
  repeat' (first | exact id | (refine Exists.imp fun _ => ?_) | (refine forall_imp fun _ => ?_) | (refine And.imp ?_ ?_) | (refine Or.imp ?_ ?_) | (apply_assumption <;> done))
  all_goals first | exact f _ _ | done
theorem mr_IsN  : MR2 (rIsN) := fun x y h Q Q' f => by
  unfold rIsN
  repeat' (first | exact id | (refine Exists.imp fun _ => ?_) | (refine forall_imp fun _ => ?_) | (refine And.imp ?_ ?_) | (refine Or.imp ?_ ?_) | (apply_assumption <;> done))
  all_goals first | exact f _ _ | done
theorem mr_NotN  : MR2 (rNotN) := fun x y h Q Q' f => by
  unfold rNotN
  repeat' (first | exact id | (refine Exists.imp fun _ => ?_) | (refine forall_imp fun _ => ?_) | (refine And.imp ?_ ?_) | (refine Or.imp ?_ ?_) | (apply_assumption <;> done))
  all_goals first | exact f _ _ | done
theorem mr_IsB  : MR2 (rIsB) := fun x y h Q Q' f => by
  unfold rIsB
  repeat' (first | exact id | (refine Exists.imp fun _ => ?_) | (refine forall_imp fun _ => ?_) | (refine And.imp ?_ ?_) | (refine Or.imp ?_ ?_) | (apply_assumption <;> done))
  all_goals first | exact f _ _ | done
theorem mr_NotB  : MR2 (rNotB) := fun x y h Q Q' f => by
  unfold rNotB
  repeat' (first | exact id | (refine Exists.imp fun _ => ?_) | (refine forall_imp fun _ => ?_) | (refine And.imp ?_ ?_) | (refine Or.imp ?_ ?_) | (apply_assumption <;> done))
  all_goals first | exact f _ _ | done
theorem mr_EqD {K : PySem.W.Frag} : MR2 (rEqD K) := fun x y h Q Q' f => by
  unfold rEqD
  repeat' (first | exact id | (refine Exists.imp fun _ => ?_) | (refine forall_imp fun _ => ?_) | (refine And.imp ?_ ?_) | (refine Or.imp ?_ ?_) | (apply_assumption <;> done))
  all_goals first | exact f _ _ | done
theorem mr_NeD {K : PySem.W.Frag} : MR2 (rNeD K) := fun x y h Q Q' f => by
  unfold rNeD
  repeat' (first | exact id | (refine Exists.imp fun _ => ?_) | (refine forall_imp fun _ => ?_) | (refine And.imp ?_ ?_) | (refine Or.imp ?_ ?_) | (apply_assumption <;> done))
  all_goals first | exact f _ _ | done
end Md
namespace Md
open PySem L2 Evl
theorem mR_LenS {K : PySem.W.Frag} : MR (rLenS K) := fun x h Q Q' f => by
  unfold rLenS
  repeat' (first | exact id | (refine Exists.imp fun _ => ?_) | (refine forall_imp fun _ => ?_) | (refine And.imp ?_ ?_) | (refine Or.imp ?_ ?_) | (apply_assumption <;> done))
  all_goals first | exact f _ _ | done
theorem mR_ListS {K : PySem.W.Frag} : MR (rListS K) := fun x h Q Q' f => by
  unfold rListS
  repeat' (first | exact id | (refine Exists.imp fun _ => ?_) | (refine forall_imp fun _ => ?_) | (refine And.imp ?_ ?_) | (refine Or.imp ?_ ?_) | (apply_assumption <;> done))
  all_goals first | exact f _ _ | done
theorem mR_Sum {K : PySem.W.Frag} : MR (rSum K) := fun x h Q Q' f => by
  unfold rSum
  repeat' (first | exact id | (refine Exists.imp fun _ => ?_) | (refine forall_imp fun _ => ?_) | (refine And.imp ?_ ?_) | (refine Or.imp ?_ ?_) | (apply_assumption <;> done))
  all_goals first | exact f _ _ | done
theorem mR_Max {K : PySem.W.Frag} : MR (rMax K) := fun x h Q Q' f => by
  unfold rMax
  repeat' (first | exact id | (refine Exists.imp fun _ => ?_) | (refine forall_imp fun _ => ?_) | (refine And.imp ?_ ?_) | (refine Or.imp ?_ ?_) | (apply_assumption <;> done))
  all_goals first | exact f _ _ | done
theorem mR_Min {K : PySem.W.Frag} : MR (rMin K) := fun x h Q Q' f => by
  unfold rMin
  repeat' (first | exact id | (refine Exists.imp fun _ => ?_) | (refine forall_imp fun _ => ?_) | (refine And.imp ?_ ?_) | (refine Or.imp ?_ ?_) | (apply_assumption <;> done))
  all_goals first | exact f _ _ | done
theorem mR_Any {K : PySem.W.Frag} : MR (rAny K) := fun x h Q Q' f => by
  unfold rAny
  repeat' (first | exact id | (refine Exists.imp fun _ => ?_) | (refine forall_imp fun _ => ?_) | (refine And.imp ?_ ?_) | (refine Or.imp ?_ ?_) | (apply_assumption <;> done))
  all_goals first | exact f _ _ | done
theorem mR_All {K : PySem.W.Frag} : MR (rAll K) := fun x h Q Q' f => by
  unfold rAll
  repeat' (first | exact id | (refine Exists.imp fun _ => ?_) | (refine forall_imp fun _ => ?_) | (refine And.imp ?_ ?_) | (refine Or.imp ?_ ?_) | (apply_assumption <;> done))
  all_goals first | exact f _ _ | done
theorem mR_Repr {K : PySem.W.Frag} : MR (rRepr K) := fun x h Q Q' f => by
  unfold rRepr
  repeat' (first | exact id | (refine Exists.imp fun _ => ?_) | (refine forall_imp fun _ => ?_) | (refine And.imp ?_ ?_) | (refine Or.imp ?_ ?_) | (apply_assumption <;> done))
  all_goals first | exact f _ _ | done
theorem mR_Isi {K : PySem.W.Frag} : MR (rIsi K) := fun x h Q Q' f => by
  unfold rIsi
  repeat' (first | exact id | (refine Exists.imp fun _ => ?_) | (refine forall_imp fun _ => ?_) | (refine And.imp ?_ ?_) | (refine Or.imp ?_ ?_) | (apply_assumption <;> done))
  all_goals first | exact f _ _ | done
theorem mR_Int1  : MR (rInt1) := fun x h Q Q' f => by
  unfold rInt1
  repeat' (first | exact id | (refine Exists.imp fun _ => ?_) | (refine forall_imp fun _ => ?_) | (refine And.imp ?_ ?_) | (refine Or.imp ?_ ?_) | (apply_assumption <;> done))
  all_goals first | exact f _ _ | done
theorem mR_Abs  : MR (rAbs) := fun x h Q Q' f => by
  unfold rAbs
  repeat' (first | exact id | (refine Exists.imp fun _ => ?_) | (refine forall_imp fun _ => ?_) | (refine And.imp ?_ ?_) | (refine Or.imp ?_ ?_) | (apply_assumption <;> done))
  all_goals first | exact f _ _ | done
theorem mR_Gcd  : MR (rGcd) := fun x h Q Q' f => by
  unfold rGcd
  repeat' (first | exact id | (refine Exists.imp fun _ => ?_) | (refine forall_imp fun _ => ?_) | (refine And.imp ?_ ?_) | (refine Or.imp ?_ ?_) | (apply_assumption <;> done))
  all_goals first | exact f _ _ | done
theorem mR_Lcm  : MR (rLcm) := fun x h Q Q' f => by
  unfold rLcm
  repeat' (first | exact id | (refine Exists.imp fun _ => ?_) | (refine forall_imp fun _ => ?_) | (refine And.imp ?_ ?_) | (refine Or.imp ?_ ?_) | (apply_assumption <;> done))
  all_goals first | exact f _ _ | done
theorem mR_TupS {K : PySem.W.Frag} : MR (rTupS K) := fun x h Q Q' f => by
  unfold rTupS
  repeat' (first | exact id | (refine Exists.imp fun _ => ?_) | (refine forall_imp fun _ => ?_) | (refine And.imp ?_ ?_) | (refine Or.imp ?_ ?_) | (apply_assumption <;> done))
  all_goals first | exact f _ _ | done
theorem mR_Min2  : MR (rMin2) := fun x h Q Q' f => by
  unfold rMin2
  repeat' (first | exact id | (refine Exists.imp fun _ => ?_) | (refine forall_imp fun _ => ?_) | (refine And.imp ?_ ?_) | (refine Or.imp ?_ ?_) | (apply_assumption <;> done))
  all_goals first | exact f _ _ | done
theorem mR_Max2  : MR (rMax2) := fun x h Q Q' f => by
  unfold rMax2
  repeat' (first | exact id | (refine Exists.imp fun _ => ?_) | (refine forall_imp fun _ => ?_) | (refine And.imp ?_ ?_) | (refine Or.imp ?_ ?_) | (apply_assumption <;> done))
  all_goals first | exact f _ _ | done
theorem mR_SortedI {K : PySem.W.Frag} : MR (rSortedI K) := fun x h Q Q' f => by
  unfold rSortedI
  repeat' (first | exact id | (refine Exists.imp fun _ => ?_) | (refine forall_imp fun _ => ?_) | (refine And.imp ?_ ?_) | (refine Or.imp ?_ ?_) | (apply_assumption <;> done))
  all_goals first | exact f _ _ | done
theorem mb_Append  : MB (rAppend) := fun x y h Q Q' f => by
  unfold rAppend
  repeat' (first | exact id | (refine Exists.imp fun _ => ?_) | (refine forall_imp fun _ => ?_) | (refine And.imp ?_ ?_) | (refine Or.imp ?_ ?_) | (apply_assumption <;> done))
  all_goals first | exact f _ _ | done
theorem mb_Clear  : MB (rClear) := fun x y h Q Q' f => by
  unfold rClear
  repeat' (first | exact id | (refine Exists.imp fun _ => ?_) | (refine forall_imp fun _ => ?_) | (refine And.imp ?_ ?_) | (refine Or.imp ?_ ?_) | (apply_assumption <;> done))
  all_goals first | exact f _ _ | done
theorem mb_Extend  : MB (rExtend) := fun x y h Q Q' f => by
  unfold rExtend
  repeat' (first | exact id | (refine Exists.imp fun _ => ?_) | (refine forall_imp fun _ => ?_) | (refine And.imp ?_ ?_) | (refine Or.imp ?_ ?_) | (apply_assumption <;> done))
  all_goals first | exact f _ _ | done
theorem mb_IndexD {K : PySem.W.Frag} : MB (rIndexD K) := fun x y h Q Q' f => by
  unfold rIndexD
  repeat' (first | exact id | (refine Exists.imp fun _ => ?_) | (refine forall_imp fun _ => ?_) | (refine And.imp ?_ ?_) | (refine Or.imp ?_ ?_) | (apply_assumption <;> done))
  all_goals first | exact f _ _ | done
theorem ml_SlL {K : PySem.W.Frag} : ML (rSlL K) := fun x y z h Q Q' f => by
  unfold rSlL
  repeat' (first | exact id | (refine Exists.imp fun _ => ?_) | (refine forall_imp fun _ => ?_) | (refine And.imp ?_ ?_) | (refine Or.imp ?_ ?_) | (apply_assumption <;> done))
  all_goals first | exact f _ _ | done
theorem ml_SlT {K : PySem.W.Frag} : ML (rSlT K) := fun x y z h Q Q' f => by
  unfold rSlT
  repeat' (first | exact id | (refine Exists.imp fun _ => ?_) | (refine forall_imp fun _ => ?_) | (refine And.imp ?_ ?_) | (refine Or.imp ?_ ?_) | (apply_assumption <;> done))
  all_goals first | exact f _ _ | done
theorem mu_u {g : Int → V} : MU (rU g) := fun x h Q Q' f => by
  unfold rU
  repeat' (first | exact id | (refine Exists.imp fun _ => ?_) | (refine forall_imp fun _ => ?_) | (refine And.imp ?_ ?_) | (refine Or.imp ?_ ?_) | (apply_assumption <;> done))
theorem mi_zip3 {K : PySem.W.Frag} {ts : TA} (x : MA ts) : MI (iZip3 K ts) := fun σ h Q Q' f => x σ h _ _ fun v h1 => by
  repeat' (first | exact id | (refine Exists.imp fun _ => ?_) | (refine forall_imp fun _ => ?_) | (refine And.imp ?_ ?_) | (refine Or.imp ?_ ?_) | (apply_assumption <;> done))
theorem ms_setL : MSt rSetL := fun x y z h Q Q' f => by
  unfold rSetL
  repeat' (first | exact id | (refine Exists.imp fun _ => ?_) | (refine forall_imp fun _ => ?_) | (refine And.imp ?_ ?_) | (refine Or.imp ?_ ?_) | (apply_assumption <;> done))
section
variable {te ta tb to ti : TE} {ts : TA} {tt : TT} {wi : TI} {g : TG} {gs : TGs} {K : PySem.W.Frag} {js : List Nat} {t u : TS} {sp : Sp}
theorem kg_name {i : Nat} (h : i ∉ js) : KG js (gName i) := fun v σ h' Q Q' f => f _ _ (AgS.set h)
theorem kg_nil : KGs js gNil := fun v σ h' Q Q' f => And.imp id (f _ _ AgS.refl)
theorem kg_cons (x : KG js g) (y : KGs js gs) : KGs js (gCons g gs) := fun vs σ h Q Q' f => Exists.imp fun v => Exists.imp fun r => And.imp id (x v σ h _ _ fun σ' h' a => y r σ' h' _ _ fun σ2 h2 a2 => f _ _ (a.trans a2))
theorem kg_tup {n : Nat} (x : KGs js gs) : KG js (gTup K n gs) := fun v σ h Q Q' f => Exists.imp fun a => Exists.imp fun xs => And.imp id (And.imp id (And.imp id (x xs σ h _ _ f)))
theorem kg_sub {s : TSet} (x : ME to) (y : ME ti) (z : MSt s) : KG js (gSub to ti s) := fun v σ h Q Q' f => x σ h _ _ fun o h1 => y σ h1 _ _ fun i h2 => z o i v h2 _ _ fun h3 => f _ _ AgS.refl
theorem km_next : KM js tNext := fun D D' σ h l p => l.nx _ _ AgS.refl p
theorem km_seq (x : KM js t) (y : KM js u) : KM js (tSeq t u) := fun D D' σ h l p => x { D with nx := u D } { D' with nx := u D' } σ h ⟨fun σ' h' a q => y _ _ σ' h' (l.go a) q, l.rt, l.bk, l.ct⟩ p
theorem km_cut (x : KM js t) (y : KM js u) : KM js (tCut t u) := fun D D' σ h l p => by
  obtain ⟨Mid, p1, p2⟩ := p
  exact ⟨fun σ' h' => AgS js σ σ' ∧ Mid σ' h', x { D with nx := Mid } { D' with nx := fun σ' h' => AgS js σ σ' ∧ Mid σ' h' } σ h ⟨fun σ' h' a q => ⟨a, q⟩, l.rt, l.bk, l.ct⟩ p1, fun σ' h' q => y _ _ σ' h' (l.go q.1) (p2 σ' h' q.2)⟩
theorem km_asg (x : ME te) (y : KG js g) : KM js (tAsg te g) := fun D D' σ h l => x σ h _ _ fun v h1 => y v σ h1 _ _ l.nx
theorem km_drop (x : ME te) : KM js (tDrop te) := fun D D' σ h l => x σ h _ _ fun v h1 => l.nx _ _ AgS.refl
theorem km_ret (x : ME te) : KM js (tRet te) := fun D D' σ h l => x σ h _ _ l.rt
theorem km_retN : KM js tRetN := fun D D' σ h l => l.rt _ _
theorem km_never : KM js tNever := fun D D' σ h l => id
theorem km_break : KM js tBreak := fun D D' σ h l => l.bk _ _ AgS.refl
theorem km_cont : KM js tCont := fun D D' σ h l => l.ct _ _ AgS.refl
theorem km_if (x : MT tt) (y : KM js t) (z : KM js u) : KM js (tIfS tt t u) := fun D D' σ h l => x σ h _ _ fun c h1 => by
  cases c
  · exact z _ _ σ h1 l
  · exact y _ _ σ h1 l
theorem km_par {i j : Nat} (hi : i ∉ js) (hj : j ∉ js) (x : MA ts) : KM js (tPar i j ts) := fun D D' σ h l => x σ h _ _ fun vs h1 => Exists.imp fun v => Exists.imp fun w => And.imp id (l.nx _ _ ((AgS.set hi).trans (AgS.set hj)))
theorem km_for (x : MI wi) (y : KG js g) (z : KM js u) : KM js (tFor wi g u) := fun D D' σ h l => x σ h _ _ fun J h1 => by
  rintro ⟨W, ⟨m, w0⟩, st⟩
  refine ⟨fun i m σ' h' => AgS js σ σ' ∧ W i m σ' h', ⟨m, AgS.refl, w0⟩, fun i m σ' h' w => ?_⟩
  rcases st i m σ' h' w.2 with ⟨s1, s2⟩ | ⟨s1, N, s2, s3⟩
  · exact Or.inl ⟨s1, l.nx _ _ w.1 s2⟩
  · refine Or.inr ⟨s1, fun σ2 h2 => AgS js σ σ2 ∧ N σ2 h2, fun σ2 h2 q => ?_, fun v h2 e => y v σ' h2 _ _ (fun σ2 h3 a q => z { D with nx := N, ct := N, bk := D.nx } { D' with nx := fun σ2 h2 => AgS js σ σ2 ∧ N σ2 h2, ct := fun σ2 h2 => AgS js σ σ2 ∧ N σ2 h2, bk := D'.nx } σ2 h3 ⟨fun σ3 h4 b c => ⟨(w.1.trans a).trans b, c⟩, l.rt, fun σ3 h4 b c => l.nx _ _ ((w.1.trans a).trans b) c, fun σ3 h4 b c => ⟨(w.1.trans a).trans b, c⟩⟩ q) (s3 v h2 e)⟩
    obtain ⟨m', l1, l2⟩ := s2 σ2 h2 q.2
    exact ⟨m', l1, q.1, l2⟩
theorem km_while (x : MT tt) (z : KM js u) : KM js (tWhile tt u) := fun D D' σ h l => by
  rintro ⟨W, ⟨m, w0⟩, st⟩
  refine ⟨fun m σ' h' => AgS js σ σ' ∧ W m σ' h', ⟨m, AgS.refl, w0⟩, fun m σ' h' w => x σ' h' _ _ (fun c h1 q => ?_) (st m σ' h' w.2)⟩
  cases c with
  | false => exact l.nx _ _ w.1 q
  | true =>
    obtain ⟨N, s2, s3⟩ := q
    refine ⟨fun σ2 h2 => AgS js σ σ2 ∧ N σ2 h2, fun σ2 h2 q => ?_, z { D with nx := N, ct := N, bk := D.nx } { D' with nx := fun σ2 h2 => AgS js σ σ2 ∧ N σ2 h2, ct := fun σ2 h2 => AgS js σ σ2 ∧ N σ2 h2, bk := D'.nx } σ' h1 ⟨fun σ3 h4 b c => ⟨w.1.trans b, c⟩, l.rt, fun σ3 h4 b c => l.nx _ _ (w.1.trans b) c, fun σ3 h4 b c => ⟨w.1.trans b, c⟩⟩ s3⟩
    obtain ⟨m', l1, l2⟩ := s2 σ2 h2 q.2
    exact ⟨m', l1, q.1, l2⟩
end
theorem msp_P {K : PySem.W.Frag} {R : Con} : MSp (spP K R) := fun vs h Q Q' E f => by
  rintro ⟨b, ds, P, e, hA, hR, k⟩
  exact ⟨b, ds, P, e, hA, hR, fun v b' h' x g p d => f _ _ (k v b' h' x g p d)⟩
theorem msp_N {K : PySem.W.Frag} {R : ConN} : MSp (spN K R) := fun vs h Q Q' E f => by
  rintro ⟨b, ds, P, e, hA, hR, k⟩
  exact ⟨b, ds, P, e, hA, hR, fun p us b' h' xs a1 a2 a3 a4 a5 a6 => f _ _ (k p us b' h' xs a1 a2 a3 a4 a5 a6)⟩
end Md
set_option Elab.async false
set_option linter.all false
set_option maxRecDepth 100000
set_option maxHeartbeats 2000000
namespace Md
open PySem L2 Evl
inductive Sh where
  | o
  | l (s : Sh)
  | t (ss : List Sh)
inductive NwS (K : PySem.W.Frag) (b : Hp) : (Addr → Prop) → Sh → V → PyData → Prop
  | o {N : Addr → Prop} {v : V} {x : PyData} : Dt K b v x → NwS K b N .o v x
  | e {N : Addr → Prop} {s : Sh} {v : V} {x : PyData} : Dt K b v x → scD x = true → NwS K b N s v x
  | l {N : Addr → Prop} {s : Sh} {a : Addr} {us : List V} {xs : List PyData} (S : Nat → Addr → Prop) : b a = some (.lst us) → N a → (∀ i j x, i ≠ j → S i x → S j x → False) → us.length = xs.length → (∀ (i : Nat) (u : V) (x : PyData), us[i]? = some u → xs[i]? = some x → NwS K b (fun y => N y ∧ y ≠ a ∧ S i y) s u x) → NwS K b N (.l s) (.ref a) (.list xs)
  | t {N : Addr → Prop} {ss : List Sh} {a : Addr} {us : List V} {xs : List PyData} : SqT K b a us → us.length = ss.length → us.length = xs.length → (∀ (i : Nat) (u : V) (x : PyData) (s : Sh), us[i]? = some u → xs[i]? = some x → ss[i]? = some s → NwS K b N s u x) → NwS K b N (.t ss) (.ref a) (.tuple xs)
theorem DtA.of {K : PySem.W.Frag} {b : Hp} : ∀ {us : List V} {xs : List PyData}, us.length = xs.length → (∀ (i : Nat) (u : V) (x : PyData), us[i]? = some u → xs[i]? = some x → Dt K b u x) → DtA K b us xs
  | [], [], _, _ => DtA.nil
  | u :: us, x :: xs, l, f => DtA.cons (f 0 u x rfl rfl) (DtA.of (Nat.succ.inj l) fun i v y h1 h2 => f (i + 1) v y h1 h2)
  | [], _ :: _, l, _ => by cases l
  | _ :: _, [], l, _ => by cases l
section
variable {K : PySem.W.Frag} {b b' h : Hp} {N N' : Addr → Prop} {s : Sh} {ss : List Sh} {v : V} {x : PyData} {xs : List PyData}
theorem NwS.dt (n : NwS K b N s v x) : Dt K b v x := by
  induction n with
  | o d => exact d
  | e d _ => exact d
  | l S h1 h2 h3 h4 h5 ih => exact Dt.list h1 (DtA.of h4 ih)
  | @t N ss a us xs h1 h2 h3 h4 ih => exact Dt.tuple h1 (DtA.of h3 fun i u x e1 e2 => by
      obtain ⟨hi, _⟩ := List.getElem?_eq_some_iff.mp e1
      exact ih i u x (ss[i]'(by rw [← h2]; exact hi)) e1 e2 (List.getElem?_eq_getElem _))
theorem NwS.up (n : NwS K b N s v x) (e : Ex b b') : NwS K b' N s v x := by
  induction n with
  | o d => exact .o (d.up e)
  | e d c => exact .e (d.up e) c
  | l S h1 h2 h3 h4 h5 ih => exact .l S (e _ _ h1) h2 h3 h4 ih
  | t h1 h2 h3 h4 ih => exact .t (ex_t e h1) h2 h3 ih
theorem NwS.imp (n : NwS K b N s v x) (f : ∀ a, b a ≠ none → N a → N' a) : NwS K b N' s v x := by
  induction n generalizing N' with
  | o d => exact .o d
  | e d c => exact .e d c
  | l S h1 h2 h3 h4 h5 ih => exact .l S h1 (f _ (by rw [h1]; intro z; cases z) h2) h3 h4 fun i u x hu hx => ih i u x hu hx fun a ha n => ⟨f a ha n.1, n.2⟩
  | t h1 h2 h3 h4 ih => exact .t h1 h2 h3 fun i u x s h5 h6 h7 => ih i u x s h5 h6 h7 f
theorem NwS.tup (n : NwS K b N (.t ss) v (.tuple xs)) : ∃ a us, v = .ref a ∧ SqT K b a us ∧ us.length = ss.length ∧ us.length = xs.length ∧ ∀ (i : Nat) (u : V) (x : PyData) (s : Sh), us[i]? = some u → xs[i]? = some x → ss[i]? = some s → NwS K b N s u x := by
  cases n with
  | e _ c => cases c
  | t h1 h2 h3 h4 => exact ⟨_, _, rfl, h1, h2, h3, h4⟩
theorem NwS.lst (n : NwS K b N (.l s) v (.list xs)) : ∃ (a : Addr) (us : List V) (S : Nat → Addr → Prop), v = .ref a ∧ b a = some (.lst us) ∧ N a ∧ (∀ i j x, i ≠ j → S i x → S j x → False) ∧ us.length = xs.length ∧ ∀ (i : Nat) (u : V) (x : PyData), us[i]? = some u → xs[i]? = some x → NwS K b (fun x => N x ∧ x ≠ a ∧ S i x) s u x := by
  cases n with
  | e _ c => cases c
  | l S h1 h2 h3 h4 h5 => exact ⟨_, _, S, rfl, h1, h2, h3, h4, h5⟩
theorem NwS.flat {a : Addr} {us : List V} (h : b a = some (.lst us)) (n : N a) (d : DtA K b us xs) : NwS K b N (.l .o) (.ref a) (.list xs) := .l (fun i x => False) h n (fun i j x _ z _ => z) d.length fun i u x h1 h2 => .o (by
  obtain ⟨v, e, d'⟩ := d.get h2
  rw [h1] at e
  cases e
  exact d')
end
def CW (K : PySem.W.Frag) (C : List (Nat × Sh)) (b : Hp) (N : Addr → Prop) (Γ : Gam) (σ : L2.St) : Prop := ∀ i s, (i, s) ∈ C → ∃ v x, gat Γ i = some (.d x) ∧ σ[i]? = some (some v) ∧ NwS K b N s v x
section
variable {K : PySem.W.Frag} {C C' : List (Nat × Sh)} {b b' : Hp} {N : Addr → Prop} {Γ Γ' : Gam} {σ σ' : L2.St}
theorem CW.nil : CW K [] b N Γ σ := fun i s h => by cases h
theorem CW.up (x : CW K C b N Γ σ) (e : Ex b b') : CW K C b' N Γ σ := fun i s h => by
  obtain ⟨v, d, h0, h1, h2⟩ := x i s h
  exact ⟨v, d, h0, h1, h2.up e⟩
theorem CW.put {js : List Nat} (x : CW K C b N Γ σ) (p : Put js Γ σ Γ' σ') (f : ∀ q ∈ C, q.1 ∉ js) : CW K C b N Γ' σ' := fun i s h => by
  obtain ⟨v, d, h0, h1, h2⟩ := x i s h
  obtain ⟨a1, a2⟩ := p.out i (f _ h)
  exact ⟨v, d, a2.trans h0, a1.trans h1, h2⟩
theorem CW.sub (x : CW K C b N Γ σ) (f : ∀ p ∈ C', p ∈ C) : CW K C' b N Γ σ := fun i s h => x i s (f _ h)
theorem CW.cons {i : Nat} {s : Sh} {v : V} {d : PyData} (x : CW K C b N Γ σ) (g : gat Γ i = some (.d d)) (e : σ[i]? = some (some v)) (n : NwS K b N s v d) : CW K ((i, s) :: C) b N Γ σ := fun j r h => by
  rcases List.mem_cons.mp h with h | h
  · cases h
    exact ⟨v, d, g, e, n⟩
  · exact x j r h
end
def SimEW (K : PySem.W.Frag) (C : List (Nat × Sh)) (te : TE) (de : DE) (s : Sh) : Prop := ∀ σ Γ b N, RelD K b Γ σ → CW K C b N Γ σ → ∀ P, de Γ P → ∀ h, Ex b h → (∀ a, h a = none → N a) → ∀ Q : VK, (∀ v b' h' x, Gr b h b' h' → P x → NwS K b' N s v x → Q v h') → te σ h Q
def SimAW (K : PySem.W.Frag) (C : List (Nat × Sh)) (ta : TA) (da : DN) (ss : List Sh) : Prop := ∀ σ Γ b N, RelD K b Γ σ → CW K C b N Γ σ → ∀ P, da Γ P → ∀ h, Ex b h → (∀ a, h a = none → N a) → ∀ Q : List V → Hp → Prop, (∀ vs b' h' xs, Gr b h b' h' → P xs → DtA K b' vs xs → vs.length = ss.length → (∀ (i : Nat) (u : V) (x : PyData) (s : Sh), vs[i]? = some u → xs[i]? = some x → ss[i]? = some s → NwS K b' N s u x) → Q vs h') → ta σ h Q
def SimNW (K : PySem.W.Frag) (C : List (Nat × Sh)) (te : TE) (dn : DN) (s : Sh) : Prop := ∀ σ Γ b N, RelD K b Γ σ → CW K C b N Γ σ → ∀ P, dn Γ P → ∀ h, Ex b h → (∀ a, h a = none → N a) → ∀ Q : VK, (∀ p us b' h' xs, h p = none → b' p = none → Gr b h b' h' → h' p = some (.lst us) → DtA K b' us xs → P xs → (∀ b'', Ex b' b'' → b'' p = some (.lst us) → NwS K b'' N (.l s) (.ref p) (.list xs)) → Q (.ref p) h') → te σ h Q
def spW (K : PySem.W.Frag) (s : Sh) (R : Con) : Sp := fun vs h Q _ => ∃ (b : Hp) (ds : List PyData) (P : PyData → Prop), Ex b h ∧ DtA K b vs ds ∧ R ds P ∧ ∀ v b' h' x, Gr b h b' h' → P x → NwS K b' (fun a => h a = none) s v x → Q v h'
def spWN (K : PySem.W.Frag) (s : Sh) (R : ConN) : Sp := fun vs h Q _ => ∃ (b : Hp) (ds : List PyData) (P : List PyData → Prop), Ex b h ∧ DtA K b vs ds ∧ R ds P ∧ ∀ v b' h' x, Gr b h b' h' → P x → NwS K b' (fun a => h a = none) s v (.list x) → Q v h'
theorem msp_W {K : PySem.W.Frag} {s : Sh} {R : Con} : MSp (spW K s R) := fun vs h Q Q' E f => by
  rintro ⟨b, ds, P, e, hA, hR, k⟩
  exact ⟨b, ds, P, e, hA, hR, fun v b' h' x g p n => f _ _ (k v b' h' x g p n)⟩
theorem msp_WN {K : PySem.W.Frag} {s : Sh} {R : ConN} : MSp (spWN K s R) := fun vs h Q Q' E f => by
  rintro ⟨b, ds, P, e, hA, hR, k⟩
  exact ⟨b, ds, P, e, hA, hR, fun v b' h' x g p n => f _ _ (k v b' h' x g p n)⟩
theorem Gr.dom {b h b' h' : Hp} (g : Gr b h b' h') {a : Addr} (z : h' a = none) : h a = none := by
  cases q : h a with
  | none => rfl
  | some o =>
    rw [g.gh a o q] at z
    cases z
section
variable {K : PySem.W.Frag} {C : List (Nat × Sh)} {te ta tb : TE} {ts tk tr : TA} {da db de : DE} {dn dr dk : DN} {s : Sh} {ss : List Sh} {R : Con} {RN : ConN} {E : XK}
theorem ew_e (x : SimE K te de) : SimEW K C te de .o := fun σ Γ b N r c P p h e n Q q => x σ Γ b r P p h e Q fun v b' h' d g p d => q v b' h' _ g p (.o d)
theorem nw_n (x : SimN K te dn) : SimNW K C te dn .o := fun σ Γ b N r c P p h e n Q q => x σ Γ b r P p h e Q fun p us b' h' xs np nb g hp hu hx => q p us b' h' xs np nb g hp hu hx fun b'' e'' z => NwS.flat z (n p np) (hu.up e'')
theorem ew_n (x : SimNW K C te dn s) : SimEW K C te (dOfN dn) (.l s) := fun σ Γ b N r c P p h e n Q q => x σ Γ b N r c _ p h e n Q fun p us b' h' xs np nb g hp hu hx z =>
  q (.ref p) _ h' _ (g.tell np nb hp) hx (z _ (Ex.new nb) upd_same)
theorem ew_call (x : SimA K ts dn) : SimEW K C (tCall (spW K s R) [] E ts) (dCall R dn) s := fun σ Γ b N r c P p h e n Q q => x σ Γ b r _ p h e _ fun vs b2 h2 ds g2 hp2 hvs =>
  ⟨b2, ds, P, g2.gi, by rw [List.append_nil]; exact hvs, hp2, fun v b3 h3 d g3 hp3 nw => q v b3 h3 d (g2.trans g3) hp3 (nw.imp fun a _ z => n a (g2.dom z))⟩
theorem ew_callWN (x : SimA K ts dn) : SimEW K C (tCall (spWN K s RN) [] E ts) (dOfN (dCallN RN dn)) s := fun σ Γ b N r c P p h e n Q q => x σ Γ b r _ p h e _ fun vs b2 h2 ds g2 hp2 hvs =>
  ⟨b2, ds, _, g2.gi, by rw [List.append_nil]; exact hvs, hp2, fun v b3 h3 d g3 hp3 nw => q v b3 h3 _ (g2.trans g3) hp3 (nw.imp fun a _ z => n a (g2.dom z))⟩
theorem aw_nil : SimAW K C tNil dNil [] := fun σ Γ b N r c P p h e n Q q => q [] b h [] (Gr.refl e) p DtA.nil rfl fun i u x s z => by cases z
theorem aw_cons (x : SimEW K C te de s) (y : SimAW K C tr dr ss) : SimAW K C (tCons te tr) (dCons de dr) (s :: ss) := fun σ Γ b N r c P p h e n Q q => x σ Γ b N r c _ p h e n _ fun v b2 h2 d g2 hp2 nv =>
  y σ Γ b2 N (r.up g2.gb) (c.up g2.gb) _ hp2 h2 g2.gi (fun a z => n a (g2.dom z)) _ fun vs b3 h3 ds g3 hp3 hvs hl nvs => q (v :: vs) b3 h3 (d :: ds) (g2.trans g3) hp3 (DtA.cons (nv.dt.up g3.gb) hvs) (by rw [List.length_cons, List.length_cons, hl]) fun i u x s h1 h2 h3 => by
    match i, h1, h2, h3 with
    | 0, h1, h2, h3 =>
      cases h1
      cases h2
      cases h3
      exact nv.up g3.gb
    | i + 1, h1, h2, h3 => exact nvs i u x s h1 h2 h3
theorem ew_tup (x : SimAW K C ts dn ss) : SimEW K C (tTup ts) (dTup dn) (.t ss) := fun σ Γ b N r c P p h e n Q q => x σ Γ b N r c _ p h e n _ fun vs b2 h2 ds g2 hp2 hvs hl nvs =>
  ⟨sz_of (by rw [hvs.length]; exact hp2.1), fun p hpn => q (.ref p) _ _ (.tuple ds) (g2.trans (Gr.new g2.gi hpn)) hp2.2 (.t (st_of upd_same) hl hvs.length fun i u x s h1 h2 h3 => (nvs i u x s h1 h2 h3).up (Ex.new (none_of g2.gi hpn)))⟩
end
end Md
namespace Md
open PySem L2 Evl
section
variable {K : PySem.W.Frag} {C C' : List (Nat × Sh)} {te ta tb : TE} {ts tk tr : TA} {da db de : DE} {dn dr dk : DN} {s : Sh} {ss : List Sh} {R : Con} {RN : ConN} {E : XK}
theorem nw_lc {wi : TI} {di : DN} {g : TG} {dg : DG} {tt : TT} {dt : DT} {vs js : List Nat} (hj : ∀ i ∈ js, i ∈ vs) (xi : SimI K wi di) (xg : SimG K g dg js) (xt : SimT K tt dt) (xe : SimEW K [] te de s) :
    SimNW K C (tLc wi g tt te vs) (dLc di dg dt de vs) s := fun σ Γ b N r cw P p h e hN Q q => xi σ Γ b r _ p h e _ fun J h1 b1 xs g1 hp1 w => by
  obtain ⟨hl, Jv, j0, jn, je⟩ := hp1
  obtain ⟨G, Y, w, hG, hY⟩ := w
  intro Dl hD
  refine lc_it w (fun i h' => ∃ b2 us acc, ∃ S : Nat → Addr → Prop, Gr b1 h1 b2 h' ∧ b2 Dl = none ∧ h' Dl = some (.lst us) ∧ DtA K b2 us acc ∧ acc.length ≤ i ∧ Jv i acc ∧ (∀ i j x, i ≠ j → S i x → S j x → False) ∧ (∀ i x, S i x → h' x ≠ none) ∧ ∀ (i : Nat) (u : V) (x : PyData), us[i]? = some u → acc[i]? = some x → NwS K b2 (fun y => N y ∧ y ≠ Dl ∧ S i y) s u x) ?_ (fun i h' _ p => ?_) ?_ ?_
  · exact ⟨b1, [], [], fun _ _ => False, Gr.hid g1.gi hD, none_of g1.gi hD, upd_same, DtA.nil, Nat.le_refl _, j0, fun i j x _ z _ => z, fun i x z => z.elim, fun i u x z => by cases z⟩
  · obtain ⟨b2, us, acc, S, g2, _⟩ := p
    exact hG h' (g2.gb.trans g2.gi)
  · rintro i x h2 h3 hi ⟨b2, us, acc, S, g2, nb, hu, hA, hlen, hJ, sd, sh, sn⟩ hy
    obtain ⟨b3, g3, hx⟩ := hY i xs[i] b2 h2 x h3 (List.getElem?_eq_getElem hi) g2.gb g2.gi hy
    have nb3 : b3 Dl = none := g3.gf Dl nb (by rw [hu]; intro z; cases z)
    have hu3 := g3.gh _ _ hu
    refine xg _ _ b3 h3 x xs[i] ((r.up (g1.gb.trans (g2.gb.trans g3.gb))).wipe vs) hx g3.gi _ (jn i xs[i] acc (List.getElem?_eq_getElem hi) hJ) _ fun σ1 Γ1 r1 p1 hp2 => ?_
    refine ⟨p1.wipe hj, xt σ1 Γ1 b3 r1 _ hp2 h3 g3.gi _ fun c h4 e4 hc => ?_⟩
    have g4 : Gr b3 h3 b3 h4 := Gr.stay g3.gi e4
    have hu4 : h4 Dl = some (.lst us) := e4 _ _ hu3
    have keep : ∀ {h' : Hp} {a : Addr}, Ex h4 h' → h2 a ≠ none → h' a ≠ none := fun {h' a} ex z q => by
      cases y : h2 a with
      | none => exact z y
      | some o =>
        rw [ex _ _ (e4 _ _ (g3.gh _ _ y))] at q
        cases q
    cases c with
    | true =>
      show te σ1 h4 _
      refine xe σ1 Γ1 b3 (fun a => h4 a = none) r1 CW.nil _ hc h4 g4.gi (fun a z => z) _ fun y b5 h5 d g5 hd hy5 => ⟨us, g5.gh _ _ hu4, sz_lt (by rw [hA.length]; omega), ?_⟩
      have nb5 : b5 Dl = none := g5.gf Dl nb3 (by rw [hu4]; intro z; cases z)
      refine ⟨b5, us ++ [y], acc ++ [d], fun k a => S k a ∧ k < us.length ∨ k = us.length ∧ h4 a = none ∧ h5 a ≠ none, ((g2.trans g3).trans (g4.trans g5)).mut hD nb5, nb5, upd_same, ((hA.up g3.gb).up g5.gb).append (DtA.one hy5.dt), by rw [List.length_append]; exact Nat.succ_le_succ hlen, hd, ?_, ?_, ?_⟩
      · rintro k j a kj (⟨a1, a2⟩ | ⟨a1, a2, a3⟩) (⟨b1, b2⟩ | ⟨b1, b2, b3⟩)
        · exact sd k j a kj a1 b1
        · exact keep (Ex.refl h4) (sh k a a1) b2
        · exact keep (Ex.refl h4) (sh j a b1) a2
        · exact kj (a1.trans b1.symm)
      · rintro k a (⟨a1, a2⟩ | ⟨a1, a2, a3⟩)
        · have := keep g5.gh (sh k a a1)
          by_cases z : a = Dl
          · rw [z, upd_same]
            intro z
            cases z
          · rw [upd_ne z]
            exact this
        · by_cases z : a = Dl
          · rw [z, upd_same]
            intro z
            cases z
          · rw [upd_ne z]
            exact a3
      · intro k u x ku kx
        by_cases lk : k < us.length
        · rw [List.getElem?_append_left lk] at ku
          rw [List.getElem?_append_left (by rw [← hA.length]; exact lk)] at kx
          exact ((sn k u x ku kx).up (g3.gb.trans g5.gb)).imp fun a _ z => ⟨z.1, z.2.1, Or.inl ⟨z.2.2, lk⟩⟩
        · have ke : k = us.length := by
            have := (List.getElem?_eq_some_iff.mp ku).1
            rw [List.length_append] at this
            have l1 : [y].length = 1 := rfl
            omega
          subst ke
          rw [List.getElem?_append_right (Nat.le_refl _), Nat.sub_self] at ku
          rw [List.getElem?_append_right (by rw [hA.length]; exact Nat.le_refl _), hA.length, Nat.sub_self] at kx
          cases ku
          cases kx
          refine hy5.imp fun a ba z => ⟨hN a ((g1.trans (g2.trans (g3.trans g4))).dom z), fun z2 => ?_, Or.inr ⟨rfl, z, fun z3 => ?_⟩⟩
          · rw [z2, hu4] at z
            cases z
          · cases q5 : b5 a with
            | none => exact ba q5
            | some o =>
              rw [g5.gi _ _ q5] at z3
              cases z3
    | false =>
      exact ⟨b3, us, acc, S, (g2.trans g3).trans g4, nb3, hu4, hA.up g3.gb, Nat.le_succ_of_le hlen, hc, sd, fun k a z => keep (Ex.refl h4) (sh k a z), fun k u x ku kx => (sn k u x ku kx).up g3.gb⟩
  · rintro h' ⟨b2, us, acc, S, g2, nb, hu, hA, _, hJ, sd, sh, sn⟩
    refine q Dl us b2 h' acc (gone g1 hD) nb (g1.trans g2) hu hA (je acc hJ) fun b'' e'' z => .l S z (hN Dl (gone g1 hD)) sd hA.length fun k u x ku kx => (sn k u x ku kx).up e''
end
end Md
set_option Elab.async false
set_option linter.all false
set_option maxRecDepth 100000
set_option maxHeartbeats 2000000
namespace Md
open PySem L2 Evl
structure MatchW (K : PySem.W.Frag) (n : Nat) (Cb C : List (Nat × Sh)) (N : Addr → Prop) (s : Sh) (b0 h0 bf : Hp) (D : Ends) (DD : DEnds) : Prop where
  nx : ∀ b h Γ σ, Rel K b0 h0 bf b h Γ σ → Γ.length = n → CW K C b N Γ σ → DD.nx Γ → D.nx σ h
  bk : ∀ b h Γ σ, Rel K b0 h0 bf b h Γ σ → Γ.length = n → CW K Cb b N Γ σ → DD.bk Γ → D.bk σ h
  ct : ∀ b h Γ σ, Rel K b0 h0 bf b h Γ σ → Γ.length = n → CW K Cb b N Γ σ → DD.ct Γ → D.ct σ h
  rt : ∀ b h v x, Gr b0 h0 b h → NwS K b N s v x → DD.rt x → D.rt v h
  ro : ∀ b h v x, Gr b0 h0 b h → NwS K b N s v (.list x) → DD.ro x → D.rt v h
def SimW (K : PySem.W.Frag) (n : Nat) (s : Sh) (Cb C : List (Nat × Sh)) (t : TS) (dd : DS) (C' : List (Nat × Sh)) : Prop := ∀ b0 h0 bf N D DD, (∀ a, bf a = none → h0 a = none → N a) → MatchW K n Cb C' N s b0 h0 bf D DD → ∀ b h Γ σ, Rel K b0 h0 bf b h Γ σ → Γ.length = n → CW K C b N Γ σ → dd DD Γ → t D σ h
theorem Rel.hN {K : PySem.W.Frag} {b0 h0 bf b h : Hp} {Γ : Gam} {σ : L2.St} {N : Addr → Prop} (r : Rel K b0 h0 bf b h Γ σ) (hN : ∀ a, bf a = none → h0 a = none → N a) : ∀ a, h a = none → N a := fun a z => hN a (by
  cases q : bf a with
  | none => rfl
  | some o =>
    rw [r.g.gi _ _ (r.f _ _ q)] at z
    cases z) (r.g.dom z)
theorem wipeG_gat {Γ : Gam} {i : Nat} : ∀ {vs : List Nat}, i ∉ vs → gat (wipeG Γ vs) i = gat Γ i
  | [], _ => rfl
  | v :: vs, h => by
    unfold wipeG
    rw [gat_set, if_neg (fun z => h (by rw [z.1]; exact List.mem_cons_self))]
    exact wipeG_gat fun z => h (List.mem_cons_of_mem _ z)
theorem CW.wipe {K : PySem.W.Frag} {C C' : List (Nat × Sh)} {b : Hp} {N : Addr → Prop} {Γ : Gam} {σ : L2.St} {ws : List Nat} (x : CW K C b N Γ σ) (f : ∀ p ∈ C', p ∈ C ∧ p.1 ∉ ws) : CW K C' b N (wipeG Γ ws) σ := fun i s h => by
  obtain ⟨h1, h2⟩ := f _ h
  obtain ⟨v, d, e1, e2, e3⟩ := x i s h1
  exact ⟨v, d, (wipeG_gat h2).trans e1, e2, e3⟩
def SimGW (K : PySem.W.Frag) (n : Nat) (g : TG) (dg : DG) (js : List Nat) (s : Sh) (A : List (Nat × Sh)) : Prop := ∀ σ Γ b N h v x, RelD K b Γ σ → Γ.length = n → NwS K b N s v x → (∀ a us, SqT K b a us → SqT K h a us) → ∀ P, dg x Γ P → ∀ Q : L2.St → Hp → Prop, (∀ σ' Γ', RelD K b Γ' σ' → Put js Γ σ Γ' σ' → CW K A b N Γ' σ' → P Γ' → Q σ' h) → g v σ h Q
section
variable {K : PySem.W.Frag} {n : Nat} {s sr : Sh} {ss : List Sh} {A B C C' C'' Cb : List (Nat × Sh)} {te ta : TE} {ts : TA} {de da : DE} {dn : DN} {g : TG} {gs : TGs} {dg : DG} {dgs : DGs} {js ks : List Nat} {t u w : TS} {dt1 du dw : DS} {tt : TT} {dt : DT}
theorem gw_name {i : Nat} (hi : i < n) : SimGW K n (gName i) (dgN i) [i] s [(i, s)] := fun σ Γ b N h v x r l nw e P hp Q q => q _ _ (r.set nw.dt) Put.one (fun j s' hj => by
  cases List.mem_singleton.mp hj
  exact ⟨v, x, by rw [gat_set, if_pos ⟨rfl, by rw [l]; exact hi⟩], by rw [List.getElem?_set_self (by rw [r.len, l]; exact hi)], nw⟩) hp
theorem w_weak (x : SimW K n s Cb C t dt1 C') (f : ∀ p ∈ C'', p ∈ C') : SimW K n s Cb C t dt1 C'' := fun b0 h0 bf N D DD hN M b h Γ σ r l c p => x b0 h0 bf N D DD hN ⟨fun b h Γ σ r l c p => M.nx b h Γ σ r l (c.sub f) p, M.bk, M.ct, M.rt, M.ro⟩ b h Γ σ r l c p
theorem w_par {i j : Nat} {s1 s2 : Sh} (hij : i ≠ j) (hi : i < n) (hj : j < n) (x : SimAW K C ts dn [s1, s2]) (f : ∀ p ∈ C', p = (i, s1) ∨ p = (j, s2) ∨ p ∈ C ∧ p.1 ≠ i ∧ p.1 ≠ j) : SimW K n s Cb C (tPar i j ts) (dPar i j dn) C' := fun b0 h0 bf N D DD hN M b h Γ σ r l c p =>
  x σ Γ b N r.r c _ p h r.g.gi (r.hN hN) _ fun vs b2 h2 ds g2 hp hvs hl nw => by
    match vs, ds, hvs, hp, nw with
    | [v, w], [d, e], .cons d1 (.cons d2 .nil), hp, nw =>
      refine ⟨v, w, rfl, ?_⟩
      have hp : DD.nx ((Γ.set i (some (.d d))).set j (some (.d e))) := hp
      have r1 := (r.up g2).put (Put.one (i := i) (v := v) (x := d)) ((r.up g2).r.set d1)
      have r2 := r1.put (Put.one (i := j) (v := w) (x := e)) (r1.r.set d2)
      have lσ : σ.length = n := r.r.len.trans l
      refine M.nx b2 h2 _ _ r2 (by rw [List.length_set, List.length_set, l]) (fun k s' hk => ?_) hp
      rcases f _ hk with z | z | ⟨z, zi, zj⟩
      · cases z
        refine ⟨v, d, ?_, ?_, nw 0 v d s1 rfl rfl rfl⟩
        · rw [gat_set, if_neg (fun z => hij z.1.symm), gat_set, if_pos ⟨rfl, by rw [l]; exact hi⟩]
        · rw [List.getElem?_set_ne (Ne.symm hij), List.getElem?_set_self (by rw [lσ]; exact hi)]
      · cases z
        refine ⟨w, e, ?_, ?_, nw 1 w e s2 rfl rfl rfl⟩
        · rw [gat_set, if_pos ⟨rfl, by rw [List.length_set, l]; exact hj⟩]
        · rw [List.getElem?_set_self (by rw [List.length_set, lσ]; exact hj)]
      · obtain ⟨u, y, g1, g2', g3⟩ := c k s' z
        refine ⟨u, y, ?_, ?_, g3.up g2.gb⟩
        · rw [gat_set, if_neg (fun q => zj q.1.symm), gat_set, if_neg (fun q => zi q.1.symm)]
          exact g1
        · rw [List.getElem?_set_ne (Ne.symm zj), List.getElem?_set_ne (Ne.symm zi)]
          exact g2'
theorem w_ret (x : SimEW K C te de s) : SimW K n s Cb C (tRet te) (dRet de) C' := fun b0 h0 bf N D DD hN M b h Γ σ r l c p => x σ Γ b N r.r c _ p h r.g.gi (r.hN hN) _ fun v b2 h2 d g2 hp nw => M.rt b2 h2 v d (r.g.trans g2) nw hp
theorem w_retN {sl : Sh} (hs : s = .l sl) (x : SimNW K C te dn sl) : SimW K n s Cb C (tRet te) (dRetN dn) C' := fun b0 h0 bf N D DD hN M b h Γ σ r l c p => x σ Γ b N r.r c _ p h r.g.gi (r.hN hN) _ fun q us b2 h2 ds nq nb g2 hq hA hp z => by
  subst hs
  exact M.ro (upd b2 q (.lst us)) h2 (.ref q) ds (r.g.trans (g2.tell nq nb hq)) (z _ (Ex.new nb) upd_same) hp
end
end Md
namespace Md
open PySem L2 Evl
section
variable {K : PySem.W.Frag} {ts tk : TA} {dn dk : DN} {s : Sh} {R : Con} {RN : ConN} {E : XK}
end
section
variable {K : PySem.W.Frag} {N : List Str} {t : TS} {dd : DS} {b h : Hp} {vs : List V} {ds : List PyData} {Q : VK} {s : Sh} {C' : List (Nat × Sh)} {Γ : Gam}
theorem startG_len {n : Nat} {ds : List PyData} (h : ds.length ≤ n) : (startG n ds).length = n := by
  unfold startG
  rw [List.length_append, List.length_map, List.length_replicate]
  omega
theorem sim_W (S : SimW K N.length s [] [] t dd C') (eb : Ex b h) (hA : DtA K b vs ds) (hl : ds.length ≤ N.length) (hΓ : startG N.length ds = Γ) {P : PyData → Prop} (p : dd { nx := fun _ => P .none, rt := P, ro := fun l => P (.list l) } Γ)
    (kQ : ∀ v b' h' x, Gr b h b' h' → P x → NwS K b' (fun a => h a = none) s v x → Q v h') : t { nx := fun _ H' => Q .non H', rt := Q } (L2.start N vs) h := by
  subst hΓ
  exact S b h b (fun a => h a = none) _ _ (fun a _ z => z) ⟨fun b1 h1 Γ σ r l c p => kQ .non b1 h1 .none r.g p (.e Dt.none rfl), fun b1 h1 Γ σ r l c p => p, fun b1 h1 Γ σ r l c p => p, fun b1 h1 v x g nw p => kQ v b1 h1 x g p nw, fun b1 h1 v x g nw p => kQ v b1 h1 _ g p nw⟩ b h _ _ (start_rel eb hA hl) (startG_len hl) CW.nil p
theorem sim_WN (S : SimW K N.length s [] [] t dd C') (eb : Ex b h) (hA : DtA K b vs ds) (hl : ds.length ≤ N.length) (hΓ : startG N.length ds = Γ) {P : List PyData → Prop} (p : dd { nx := fun _ => False, rt := fun _ => False, ro := P } Γ)
    (kQ : ∀ v b' h' x, Gr b h b' h' → P x → NwS K b' (fun a => h a = none) s v (.list x) → Q v h') : t { nx := fun _ H' => Q .non H', rt := Q } (L2.start N vs) h := by
  subst hΓ
  exact S b h b (fun a => h a = none) _ { nx := fun _ => False, rt := fun _ => False, ro := P } (fun a _ z => z) ⟨fun b1 h1 Γ σ r l c p => p.elim, fun b1 h1 Γ σ r l c p => p, fun b1 h1 Γ σ r l c p => p, fun b1 h1 v x g nw p => p.elim, fun b1 h1 v x g nw p => kQ v b1 h1 x g p nw⟩ b h _ _ (start_rel eb hA hl) (startG_len hl) CW.nil p
end
end Md
set_option Elab.async false
set_option linter.all false
set_option maxRecDepth 100000
set_option maxHeartbeats 2000000
namespace Md
open PySem L2 Evl
def HM (b hM : Hp) (N : Addr → Prop) (B : Nat) (h : Hp) : Prop := ∀ a o, hM a = some o → h a = some o ∨ (N a ∧ (∃ us, b a = some (.lst us)) ∧ ∃ us, h a = some (.lst us) ∧ us.length ≤ B)
section
variable {K : PySem.W.Frag} {b hM h h' : Hp} {N N' : Addr → Prop} {B B' : Nat} {a : Addr} {us vs : List V}
theorem HM.refl : HM b h N B h := fun a o z => Or.inl z
theorem HM.ex (x : HM b hM N B h) (e : Ex h h') : HM b hM N B h' := fun a o z => by
  rcases x a o z with y | ⟨y1, y2, vs, y3, y4⟩
  · exact Or.inl (e _ _ y)
  · exact Or.inr ⟨y1, y2, vs, e _ _ y3, y4⟩
theorem HM.mono (x : HM b hM N B h) (f : ∀ a, N a → N' a) (l : B ≤ B') : HM b hM N' B' h := fun a o z => by
  rcases x a o z with y | ⟨y1, y2, vs, y3, y4⟩
  · exact Or.inl y
  · exact Or.inr ⟨f _ y1, y2, vs, y3, Nat.le_trans y4 l⟩
theorem HM.tup (x : HM b hM N B h) (e : Ex b hM) (s : SqT K b a us) : SqT K h a us := by
  rcases s with (s | ⟨o, s⟩) | s
  · rcases x a _ (e _ _ s) with y | ⟨_, ⟨vs, y⟩, _⟩
    · exact Or.inl (Or.inl y)
    · rw [s] at y
      cases y
  · rcases x a _ (e _ _ s) with y | ⟨_, ⟨vs, y⟩, _⟩
    · exact Or.inl (Or.inr ⟨o, y⟩)
    · rw [s] at y
      cases y
  · exact Or.inr s
theorem HM.lst (x : HM b hM N B h) (e : Ex b hM) (s : b a = some (.lst us)) : ∃ vs, h a = some (.lst vs) ∧ (vs = us ∨ vs.length ≤ B) := by
  rcases x a _ (e _ _ s) with y | ⟨_, _, vs, y1, y2⟩
  · exact ⟨us, y, Or.inl rfl⟩
  · exact ⟨vs, y1, Or.inr y2⟩
theorem HM.stay (x : HM b hM N B h) (e : Ex b hM) (s : b a = some (.lst us)) (n : ¬ N a) : h a = some (.lst us) := by
  rcases x a _ (e _ _ s) with y | ⟨y, _⟩
  · exact y
  · exact absurd y n
theorem HM.put (x : HM b hM N B h) (n : N a) (s : b a = some (.lst us)) (l : vs.length ≤ B') (l2 : B ≤ B') : HM b hM N B' (upd h a (.lst vs)) := fun c o z => by
  by_cases q : c = a
  · subst q
    exact Or.inr ⟨n, ⟨us, s⟩, vs, upd_same, l⟩
  · rw [upd_ne q]
    exact x.mono (fun _ => id) l2 c o z
end
def MPath (K : PySem.W.Frag) (C : List (Nat × Sh)) (te : TE) (s : Sh) (sel : Gam → PyData → Prop) : Prop := ∀ b N Γ σ hM h B, CW K C b N Γ σ → Ex b hM → HM b hM N B h → ∀ x, sel Γ x → ∀ Q : VK, (∀ v, NwS K b N s v x → Q v h) → te σ h Q
def MArg (te : TE) : Prop := ∀ σ h (Q : VK), (∀ v h', Ex h h' → Q v h') → te σ h Q
def MNext (K : PySem.W.Frag) (n : Nat) (C : List (Nat × Sh)) (js : List Nat) (k : Nat) (t : TS) (pm : Gam → Prop) : Prop := ∀ b N hM (D : Ends) Γ σ h B, RelD K b Γ σ → Γ.length = n → CW K C b N Γ σ → Ex b hM → HM b hM N B h → 1000 ≤ B → B + k ≤ 90000 → pm Γ → (∀ σ' h', AgS js σ σ' → σ'.length = σ.length → HM b hM N (B + k) h' → D.nx σ' h') → t D σ h
section
variable {K : PySem.W.Frag} {n : Nat} {C A : List (Nat × Sh)} {js ks : List Nat} {k m : Nat} {te ta : TE} {s : Sh} {ss : List Sh} {sel : Gam → PyData → Prop} {t u : TS} {pm qm : Gam → Prop} {g : TG} {dg : DG}
theorem mp_var {i : Nat} (hi : (i, s) ∈ C) : MPath K C (tVar i) s (fun Γ x => gat Γ i = some (.d x)) := fun b N Γ σ hM h B c e w x p Q q => by
  obtain ⟨v, y, h1, h2, h3⟩ := c i s hi
  rw [p] at h1
  cases h1
  exact ⟨v, h2, q v h3⟩
theorem mp_ixT {j : Nat} (hj : ss[j]? = some s) (x : MPath K C te (.t ss) sel) : MPath K C (tOp (rIxT K) te (tC (.int (j : Int)))) s (fun Γ y => ∃ xs, sel Γ (.tuple xs) ∧ xs[j]? = some y) := fun b N Γ σ hM h B c e w y p Q q => by
  obtain ⟨xs, p1, p2⟩ := p
  refine x b N Γ σ hM h B c e w _ p1 _ fun v nw => ?_
  obtain ⟨a, us, rfl, h1, h2, h3, h4⟩ := nw.tup
  have hl : j < us.length := by
    rw [h2]
    exact (List.getElem?_eq_some_iff.mp hj).1
  refine ⟨a, us, j, us[j], rfl, rfl, w.tup e h1, ?_, q _ (h4 j us[j] y s (List.getElem?_eq_getElem hl) p2 hj)⟩
  unfold L2.atI
  rw [ixN_nat hl]
  exact List.getElem?_eq_getElem hl
theorem ma_c {v : V} : MArg (tC v) := fun σ h Q q => q v h (Ex.refl h)
theorem mn_clear (x : MPath K C te (.l s) sel) : MNext K n C js 1 (tDrop (tBM0 K "list" rClear te)) (fun Γ => ∃ l, sel Γ (.list l)) := fun b N hM D Γ σ h B r l c e w b1 b2 p q => by
  obtain ⟨xs, p⟩ := p
  refine x b N Γ σ hM h B c e w _ p _ fun v nw => ?_
  obtain ⟨a, us, S, rfl, h1, h2, h3, h4, h5⟩ := nw.lst
  obtain ⟨vs, k1, k2⟩ := w.lst e h1
  exact ⟨Or.inl ⟨rfl, vs, sq_of k1⟩, a, vs, rfl, rfl, k1, q σ _ AgS.refl rfl (w.put h2 h1 (Nat.zero_le _) (Nat.le_succ B))⟩
theorem mn_app (x : MPath K C te (.l s) sel) (y : MArg ta) : MNext K n C js 1 (tDrop (tBM K "list" rAppend te (tCons ta tNil))) (fun Γ => ∃ l, sel Γ (.list l) ∧ l.length ≤ 1000) := fun b N hM D Γ σ h B r l c e w b1 b2 p q => by
  obtain ⟨xs, p, lx⟩ := p
  refine x b N Γ σ hM h B c e w _ p _ fun v nw => ?_
  obtain ⟨a, us, S, rfl, h1, h2, h3, h4, h5⟩ := nw.lst
  obtain ⟨vs, k1, k2⟩ := w.lst e h1
  have lv : vs.length ≤ B := by
    rcases k2 with rfl | k2
    · omega
    · exact k2
  refine ⟨Or.inl ⟨rfl, vs, sq_of k1⟩, y σ h _ fun u h' e' => ?_⟩
  exact ⟨a, vs, u, rfl, rfl, e' _ _ k1, sz_lt (by omega), q σ _ AgS.refl rfl ((w.ex e').put h2 h1 (by rw [List.length_append]; show vs.length + 1 ≤ B + 1; omega) (Nat.le_succ B))⟩
theorem wipe_keep {b : Hp} {Γ : Gam} {σ σ1 : L2.St} {ws : List Nat} (r : RelD K b Γ σ) (l : Γ.length = n) (a : AgS js σ σ1) (l1 : σ1.length = σ.length) (hw : ∀ i, i < n → i ∈ js ∨ i ∈ ws) : RelD K b (wipeG Γ ws) σ1 := ⟨by rw [wipeG_len, l1, r.len], fun i y z => by
  obtain ⟨z1, z2⟩ := wipeG_some z
  obtain ⟨v, h2, h3⟩ := r.d i y z1
  rcases hw i (by rw [← l]; exact gat_lt z1) with hi | hi
  · exact ⟨v, (a i hi).trans h2, h3⟩
  · exact absurd hi z2⟩
theorem CW.after {b : Hp} {N : Addr → Prop} {Γ : Gam} {σ σ1 : L2.St} {ws : List Nat} (c : CW K C b N Γ σ) (a : AgS js σ σ1) (f : ∀ p ∈ C, p.1 ∈ js ∧ p.1 ∉ ws) : CW K C b N (wipeG Γ ws) σ1 := fun i s hi => by
  obtain ⟨v, x, g1, g2, g3⟩ := c i s hi
  obtain ⟨f1, f2⟩ := f _ hi
  exact ⟨v, x, (wipeG_gat f2).trans g1, (a i f1).trans g2, g3⟩
theorem mn_seq {ws : List Nat} (hw : ∀ i, i < n → i ∈ js ∨ i ∈ ws) (f : ∀ p ∈ C, p.1 ∈ js ∧ p.1 ∉ ws) (x : MNext K n C js k t pm) (y : MNext K n C js m u qm) : MNext K n C js (k + m) (tSeq t u) (fun Γ => pm Γ ∧ qm (wipeG Γ ws)) := fun b N hM D Γ σ h B r l c e w b1 b2 p q =>
  x b N hM { D with nx := u D } Γ σ h B r l c e w b1 (by omega) p.1 fun σ1 h1 a1 l1 w1 =>
    y b N hM D _ σ1 h1 (B + k) (wipe_keep r l a1 l1 hw) (by rw [wipeG_len, l]) (c.after a1 f) e w1 (by omega) (by omega) p.2 fun σ2 h2 a2 l2 w2 => q σ2 h2 (a1.trans a2) (l2.trans l1) (by rw [← Nat.add_assoc]; exact w2)
theorem rel0 {b : Hp} {σ : L2.St} (l : σ.length = n) : RelD K b (List.replicate n none) σ := ⟨by rw [l, List.length_replicate], fun i x h => by
  have : ∀ m i, gat (List.replicate m none) i = none := fun m => by
    induction m with
    | zero => exact fun _ => rfl
    | succ m ih =>
      intro i
      cases i with
      | zero => rfl
      | succ i => exact ih i
  rw [this] at h
  cases h⟩
theorem AgS.put {Γ Γ' : Gam} {σ σ' : L2.St} (p : Put ks Γ σ Γ' σ') (f : ∀ i ∈ js, i ∉ ks) : AgS js σ σ' := fun i hi => (p.out i (f i hi)).1
theorem mn_turns {J : It} {us : List V} {xs : List PyData} {G : Hp → Prop} {b hM : Hp} {N : Addr → Prop} {B : Nat} {D : Ends} {σ : L2.St} {h : Hp} {s0 : Sh} (w : Walk J us.length G (YAt us)) (hl : σ.length = n) (e : Ex b hM) (hm : HM b hM N B h) (hG : ∀ h', HM b hM N (B + us.length * k) h' → G h')
    (hx : us.length = xs.length) (nw : ∀ (i : Nat) (u : V) (x : PyData), us[i]? = some u → xs[i]? = some x → NwS K b N s0 u x) (y : SimGW K n g dg ks s0 A) (fk : ∀ i ∈ js, i ∉ ks) (z : MNext K n A js k u qm) (hq : ∀ x ∈ xs, dg x (List.replicate n none) qm) (b1 : 1000 ≤ B) (b2 : B + us.length * k ≤ 90000)
    (q : ∀ σ' h', AgS js σ σ' → σ'.length = σ.length → HM b hM N (B + us.length * k) h' → D.nx σ' h') :
    ∃ W : Nat → Nat → L2.St → Hp → Prop, (∃ m, W 0 m σ h) ∧ ∀ i m σ H, W i m σ H → (J.stop i H ∧ D.nx σ H) ∨ (J.go i H ∧ ∃ N : L2.St → Hp → Prop, (∀ σ' H', N σ' H' → ∃ m', m' < m ∧ W (i + 1) m' σ' H') ∧ ∀ x H', J.yld i H x H' → g x σ H' fun σ2 H2 => u { D with nx := N, ct := N, bk := D.nx } σ2 H2) := by
  refine for_it w (fun i σ' h' => AgS js σ σ' ∧ σ'.length = σ.length ∧ HM b hM N (B + i * k) h') ⟨AgS.refl, rfl, by rw [Nat.zero_mul]; exact hm⟩ (fun i σ' h' hi p => hG h' (p.2.2.mono (fun _ => id) (Nat.add_le_add_left (Nat.mul_le_mul_right k hi) B))) (fun i v σ' h' h'' hi p hy => ?_) (fun σ' h' p => q σ' h' p.1 p.2.1 p.2.2)
  obtain ⟨rfl, hv⟩ := hy
  obtain ⟨a1, l1, w1⟩ := p
  have hxi : i < xs.length := by rw [← hx]; exact hi
  have ex := List.getElem?_eq_getElem hxi
  have bi : B + i * k + k ≤ B + us.length * k := by
    rw [Nat.add_assoc, ← Nat.succ_mul]
    exact Nat.add_le_add_left (Nat.mul_le_mul_right k hi) B
  refine y σ' _ b N h'' v _ (rel0 (l1.trans hl)) (by rw [List.length_replicate]) (nw i v _ hv ex) (fun a us s => w1.tup e s) _ (hq _ (List.mem_of_getElem? ex)) _ fun σ2 Γ2 r2 p2 c2 hp2 => ?_
  refine z b N hM { D with nx := fun σ' h' => AgS js σ σ' ∧ σ'.length = σ.length ∧ HM b hM N (B + (i + 1) * k) h', ct := fun σ' h' => AgS js σ σ' ∧ σ'.length = σ.length ∧ HM b hM N (B + (i + 1) * k) h', bk := D.nx } Γ2 σ2 h'' (B + i * k) r2 (p2.lg.trans (by rw [List.length_replicate])) c2 e w1 (by omega) (by omega) hp2 fun σ3 h3 a3 l3 w3 => ?_
  exact ⟨(a1.trans (AgS.put p2 fk)).trans a3, (l3.trans p2.ls).trans l1, by rw [Nat.succ_mul, ← Nat.add_assoc]; exact w3⟩
def MFirst (K : PySem.W.Frag) (n : Nat) (C : List (Nat × Sh)) (js : List Nat) (k : Nat) (t : TS) (pm : Gam → Prop) : Prop := ∀ b N hM (D : Ends) Γ σ, RelD K b Γ σ → Γ.length = n → CW K C b N Γ σ → Ex b hM → pm Γ → (∀ σ' h', AgS js σ σ' → σ'.length = σ.length → HM b hM N (1000 + k) h' → D.nx σ' h') → t D σ hM
theorem mf_seq {ws : List Nat} (hw : ∀ i, i < n → i ∈ js ∨ i ∈ ws) (f : ∀ p ∈ C, p.1 ∈ js ∧ p.1 ∉ ws) (x : MFirst K n C js k t pm) (y : MNext K n C js m u qm) (hk : k + m ≤ 80000) : MFirst K n C js (k + m) (tSeq t u) (fun Γ => pm Γ ∧ qm (wipeG Γ ws)) := fun b N hM D Γ σ r l c e p q =>
  x b N hM { D with nx := u D } Γ σ r l c e p.1 fun σ1 h1 a1 l1 w1 =>
    y b N hM D _ σ1 h1 (1000 + k) (wipe_keep r l a1 l1 hw) (by rw [wipeG_len, l]) (c.after a1 f) e w1 (by omega) (by omega) p.2 fun σ2 h2 a2 l2 w2 => q σ2 h2 (a1.trans a2) (l2.trans l1) (by rw [← Nat.add_assoc]; exact w2)
theorem mf_forC {s0 : Sh} {tb : TE} {sel' : Gam → PyData → Prop} (L : Nat) (hL : L ≤ 100000) (x : MPath K C te (.l s0) sel) (x' : MPath K C tb (.l s0) sel') (y : SimGW K n g dg ks s0 A) (fk : ∀ i ∈ js, i ∉ ks) (z : MNext K n A js k u qm) (hm : m = L * k) (hk : m ≤ 80000) : MFirst K n C js m (tFor (iList K (tOp rCat te tb)) g u) (fun Γ => ∃ xs ys, sel Γ (.list xs) ∧ sel' Γ (.list ys) ∧ xs.length + ys.length ≤ L ∧ ∀ x ∈ xs ++ ys, dg x (List.replicate n none) qm) := fun b N hM D Γ σ r l c e p q => by
  obtain ⟨xs, ys, p1, p1', pl, p2⟩ := p
  subst hm
  refine x b N Γ σ hM hM 1000 c e HM.refl _ p1 _ fun v nw => ?_
  refine x' b N Γ σ hM hM 1000 c e HM.refl _ p1' _ fun v' nw' => ?_
  obtain ⟨a, us, S, rfl, h1, h2, h3, h4, h5⟩ := nw.lst
  obtain ⟨a', us', S', rfl, h1', h2', h3', h4', h5'⟩ := nw'.lst
  refine ⟨a, a', us, us', rfl, rfl, e _ _ h1, e _ _ h1', sz_of (by omega), fun p hp => ?_⟩
  have e2 : Ex hM (upd hM p (.lst (us ++ us'))) := Ex.new hp
  have hl : (us ++ us').length = (xs ++ ys).length := by rw [List.length_append, List.length_append, h4, h4']
  have lk : (us ++ us').length * k ≤ L * k := Nat.mul_le_mul_right k (by rw [hl, List.length_append]; exact pl)
  have hnb : b p = none := none_of e hp
  refine ⟨p, rfl, ⟨us ++ us', sq_of upd_same⟩, mn_turns (N := N) (hM := upd hM p (.lst (us ++ us'))) walk_list (r.len.trans l) (e.trans e2) HM.refl (fun h' w' => ?_) hl (fun i u x hu hx => ?_) y fk z p2 (Nat.le_refl _) (by omega) (fun σ' h' a' l' w' => q σ' h' a' l' (fun c o hc => ?_))⟩
  · rcases w' p _ upd_same with z | ⟨_, ⟨vs, z⟩, _⟩
    · exact sq_of z
    · rw [hnb] at z
      cases z
  · by_cases li : i < us.length
    · rw [List.getElem?_append_left li] at hu
      rw [List.getElem?_append_left (by rw [← h4]; exact li)] at hx
      exact (h5 i u x hu hx).imp fun c _ z => z.1
    · rw [List.getElem?_append_right (by omega)] at hu
      rw [List.getElem?_append_right (by omega), ← h4] at hx
      exact (h5' _ u x hu hx).imp fun c _ z => z.1
  · rcases w' c o (e2 _ _ hc) with z | ⟨z1, z2, vs, z3, z4⟩
    · exact Or.inl z
    · exact Or.inr ⟨z1, z2, vs, z3, Nat.le_trans z4 (by omega)⟩
end
end Md
namespace Md
open PySem L2 Evl
def pk3 : Nat → Option Sl → Option Sl → Option Sl
  | 1, s, _ => s
  | 2, _, s => s
  | _, _, _ => none
def pk2 : Nat → Option Sl → Option Sl → Option Sl
  | 1, s, _ => s
  | _, _, s => s
def endG : List Nat → Gam → Gam → Gam
  | c :: cs, s :: Γ, s' :: Δ => pk3 c s s' :: endG cs Γ Δ
  | _, _, _ => []
def noO : Option Sl → Prop
  | some (.o _) => False
  | _ => True
def scS : Option Sl → Prop
  | some (.o ds) => ∀ d ∈ ds, scD d = true
  | some (.d x) => scD x = true
  | none => True
def ok3 : Nat → Option Sl → Option Sl → Prop
  | 1, s, _ => noO s
  | 2, _, s => scS s
  | _, _, _ => True
def endOk : List Nat → Gam → Gam → Prop
  | c :: cs, s :: Γ, s' :: Δ => ok3 c s s' ∧ endOk cs Γ Δ
  | [], [], [] => True
  | _, _, _ => False
def mrgG : List Nat → Gam → Gam → Gam
  | c :: cs, s :: Γ, s' :: Δ => pk2 c s s' :: mrgG cs Γ Δ
  | _, _, _ => []
theorem endOk_len : ∀ {cs : List Nat} {Γ Δ : Gam}, endOk cs Γ Δ → Γ.length = cs.length ∧ Δ.length = cs.length
  | [], [], [], _ => ⟨rfl, rfl⟩
  | c :: cs, s :: Γ, s' :: Δ, h => by
    obtain ⟨h1, h2⟩ := endOk_len h.2
    exact ⟨congrArg Nat.succ h1, congrArg Nat.succ h2⟩
  | [], [], _ :: _, h => h.elim
  | [], _ :: _, _, h => h.elim
  | _ :: _, [], _, h => h.elim
  | _ :: _, _ :: _, [], h => h.elim
theorem endG_gat : ∀ {cs : List Nat} {Γ Δ : Gam} {i : Nat} {s : Sl}, endOk cs Γ Δ → gat (endG cs Γ Δ) i = some s → (cs[i]? = some 1 ∧ gat Γ i = some s ∧ noO (some s)) ∨ (cs[i]? = some 2 ∧ gat Δ i = some s ∧ scS (some s))
  | [], [], [], _, _, _, h => by cases h
  | c :: cs, t :: Γ, t' :: Δ, 0, s, ok, h => by
    have h : pk3 c t t' = some s := h
    have k : ok3 c t t' := ok.1
    match c, h, k with
    | 0, h, _ => cases h
    | 1, h, k =>
      have h : t = some s := h
      have k : noO t := k
      exact Or.inl ⟨rfl, h, by rw [← h]; exact k⟩
    | 2, h, k =>
      have h : t' = some s := h
      have k : scS t' := k
      exact Or.inr ⟨rfl, h, by rw [← h]; exact k⟩
    | _ + 3, h, _ => cases h
  | c :: cs, t :: Γ, t' :: Δ, i + 1, s, ok, h => endG_gat (cs := cs) (i := i) ok.2 h
  | [], [], _ :: _, _, _, h, _ => h.elim
  | [], _ :: _, _, _, _, h, _ => h.elim
  | _ :: _, [], _, _, _, h, _ => h.elim
  | _ :: _, _ :: _, [], _, _, h, _ => h.elim
theorem endG_len : ∀ {cs : List Nat} {Γ Δ : Gam}, endOk cs Γ Δ → (endG cs Γ Δ).length = cs.length
  | [], [], [], _ => rfl
  | c :: cs, s :: Γ, s' :: Δ, h => congrArg Nat.succ (endG_len h.2)
  | [], [], _ :: _, h => h.elim
  | [], _ :: _, _, h => h.elim
  | _ :: _, [], _, h => h.elim
  | _ :: _, _ :: _, [], h => h.elim
theorem mrgG_len : ∀ {cs : List Nat} {Γ Δ : Gam}, Γ.length = cs.length → Δ.length = cs.length → (mrgG cs Γ Δ).length = cs.length
  | [], [], [], _, _ => rfl
  | c :: cs, s :: Γ, s' :: Δ, h, k => congrArg Nat.succ (mrgG_len (Nat.succ.inj h) (Nat.succ.inj k))
  | [], _ :: _, _, h, _ => by cases h
  | [], [], _ :: _, _, h => by cases h
  | _ :: _, [], _, h, _ => by cases h
  | _ :: _, _ :: _, [], _, h => by cases h
theorem mrgG_gat : ∀ {cs : List Nat} {Γ Δ : Gam} {i : Nat}, Γ.length = cs.length → Δ.length = cs.length → gat (mrgG cs Γ Δ) i = if cs[i]? = some 1 then gat Γ i else gat Δ i
  | [], [], [], i, _, _ => by
    rw [if_neg (by simp)]
    rfl
  | c :: cs, t :: Γ, t' :: Δ, 0, _, _ => by
    show pk2 c t t' = if some c = some 1 then t else t'
    by_cases h : c = 1
    · subst h
      rw [if_pos rfl]
      rfl
    · rw [if_neg (fun z => h (by cases z; rfl))]
      match c, h with
      | 0, _ => rfl
      | 1, h => exact absurd rfl h
      | _ + 2, _ => rfl
  | c :: cs, t :: Γ, t' :: Δ, i + 1, h, k => mrgG_gat (cs := cs) (i := i) (Nat.succ.inj h) (Nat.succ.inj k)
  | [], _ :: _, _, _, h, _ => by cases h
  | [], [], _ :: _, _, _, h => by cases h
  | _ :: _, [], _, _, h, _ => by cases h
  | _ :: _, _ :: _, [], _, _, h => by cases h
def dScope (cs cc : List Nat) (pm : Gam → Prop) (dP dA : DS) : DS := fun DD Γ => dP { DD with ro := fun _ => False, nx := fun Γ1 => dA { DD with nx := fun Γ2 => pm (mrgG cc Γ1 Γ2) ∧ endOk cs Γ Γ2 ∧ DD.nx (endG cs Γ Γ2) } Γ1 } Γ
theorem scope_end {K : PySem.W.Frag} {b0 h0 bf b h b2 h2 h3 : Hp} {Γ Γ2 : Gam} {σ σ2 σ3 : L2.St} {cs js1 js2 : List Nat} {B : Nat} (r : Rel K b0 h0 bf b h Γ σ) (r2 : Rel K b0 h0 b b2 h2 Γ2 σ2) (ok : endOk cs Γ Γ2) (c1 : ∀ i, i < cs.length → cs[i]? = some 1 → i ∈ js1) (c2 : ∀ i, i < cs.length → cs[i]? = some 2 → i ∈ js2)
    (a1 : AgS js1 σ σ2) (a3 : AgS (js1 ++ js2) σ2 σ3) (l3 : σ3.length = σ2.length) (w : HM b2 h2 (fun a => b a = none ∧ h0 a = none) B h3) : Rel K b0 h0 bf b h3 (endG cs Γ Γ2) σ3 := by
  obtain ⟨ol1, ol2⟩ := endOk_len ok
  have lt : ∀ {i k : Nat}, cs[i]? = some k → i < cs.length := fun h => (List.getElem?_eq_some_iff.mp h).1
  have e1 : ∀ {i}, cs[i]? = some 1 → σ3[i]? = σ[i]? := fun {i} h => (a3 i (List.mem_append_left _ (c1 i (lt h) h))).trans (a1 i (c1 i (lt h) h))
  have e2 : ∀ {i}, cs[i]? = some 2 → σ3[i]? = σ2[i]? := fun {i} h => a3 i (List.mem_append_right _ (c2 i (lt h) h))
  have keep : ∀ {a o}, h2 a = some o → b a ≠ none ∨ h0 a ≠ none → h3 a = some o := fun {a o} z n => by
    rcases w a o z with y | ⟨⟨y1, y2⟩, _⟩
    · exact y
    · rcases n with n | n
      · exact absurd y1 n
      · exact absurd y2 n
  have own : ∀ {i ds}, gat (endG cs Γ Γ2) i = some (.o ds) → cs[i]? = some 2 ∧ gat Γ2 i = some (.o ds) ∧ ∀ d ∈ ds, scD d = true := fun {i ds} z => by
    rcases endG_gat ok z with ⟨_, _, n⟩ | ⟨z1, z2, z3⟩
    · exact n.elim
    · exact ⟨z1, z2, z3⟩
  refine ⟨⟨?_, fun i x z => ?_⟩, ⟨r.g.gb, fun a o z => ?_, fun a o z => ?_, r.g.gf⟩, r.f, fun i ds z => ?_, fun i j ds es p hij z1 z2 z3 z4 => ?_⟩
  · rw [endG_len ok, l3, r2.r.len, ol2]
  · rcases endG_gat ok z with ⟨z1, z2, _⟩ | ⟨z1, z2, z3⟩
    · obtain ⟨v, k1, k2⟩ := r.r.d i x z2
      exact ⟨v, (e1 z1).trans k1, k2⟩
    · obtain ⟨v, k1, k2⟩ := r2.r.d i x z2
      exact ⟨v, (e2 z1).trans k1, scD_dt k2 z3⟩
  · exact keep (r2.g.gh _ _ z) (Or.inr (by rw [z]; intro y; cases y))
  · exact keep (r2.g.gi _ _ (r2.f _ _ z)) (Or.inl (by rw [z]; intro y; cases y))
  · obtain ⟨z1, z2, z3⟩ := own z
    obtain ⟨p, us, k1, k2, k3, k4, k5⟩ := r2.o i ds z2
    have nb : b p = none := by
      cases q : b p with
      | none => rfl
      | some o =>
        rw [r2.f _ _ q] at k3
        cases k3
    refine ⟨p, us, (e2 z1).trans k1, ?_, nb, k4, dta_sc k5 z3⟩
    rcases w p _ k2 with y | ⟨_, ⟨vs, y⟩, _⟩
    · exact y
    · rw [k3] at y
      cases y
  · obtain ⟨y1, y2, _⟩ := own z1
    obtain ⟨u1, u2, _⟩ := own z2
    exact r2.u i j ds es p hij y2 u2 ((e2 y1).symm.trans z3) ((e2 u1).symm.trans z4)
theorem z_scope {K : PySem.W.Frag} {n k : Nat} {C : List (Nat × Sh)} {cs cc js1 js2 jsM : List Nat} {P A M : TS} {dP dA : DS} {pm : Gam → Prop} (hP : SimW K n .o [] [] P dP C) (kP : KM js1 P) (hA : SimS K A dA) (kA : KM (js1 ++ C.map Prod.fst) A) (hM : MFirst K n C jsM k M pm)
    (c1 : ∀ i, i < cs.length → cs[i]? = some 1 → i ∈ js1) (c2 : ∀ i, i < cs.length → cs[i]? = some 2 → i ∈ js2) (c3 : ∀ i ∈ js1 ++ js2, i ∈ jsM) (ln : cs.length = n) (lc : cc.length = n) (c4 : ∀ i, i < n → cc[i]? = some 1 → i ∈ C.map Prod.fst) (c5 : ∀ p ∈ C, cc[p.1]? = some 1) :
    SimS K (tSeq P (tSeq A M)) (fun DD Γ => Γ.length = n ∧ dScope cs cc pm dP dA DD Γ) := fun b0 h0 bf D DD M0 b h Γ σ r p => by
  obtain ⟨hn, p⟩ := p
  refine kP { D with nx := fun σ1 h1 => AgS js1 σ σ1 → tSeq A M D σ1 h1 } { D with nx := tSeq A M D } σ h ⟨fun σ1 h1 a z => z a, fun v h1 z => z, fun σ1 h1 a z => z, fun σ1 h1 a z => z⟩ ?_
  have rf : Rel K b0 h0 b b h Γ σ := ⟨r.r, r.g, Ex.refl b, r.o, r.u⟩
  refine hP b0 h0 b (fun a => b a = none ∧ h0 a = none) { D with nx := fun σ1 h1 => AgS js1 σ σ1 → tSeq A M D σ1 h1 } { DD with ro := fun _ => False, nx := fun Γ1 => dA { DD with nx := fun Γ2 => pm (mrgG cc Γ1 Γ2) ∧ endOk cs Γ Γ2 ∧ DD.nx (endG cs Γ Γ2) } Γ1 } (fun a z1 z2 => ⟨z1, z2⟩) ⟨fun b1 h1 Γ1 σ1 r1 l1 cw p1 a1 => ?_, fun b1 h1 Γ1 σ1 r1 l1 cw z => M0.bk b1 h1 Γ1 σ1 (r1.floor r.f) z, fun b1 h1 Γ1 σ1 r1 l1 cw z => M0.ct b1 h1 Γ1 σ1 (r1.floor r.f) z, fun b1 h1 v x g nw z => M0.rt b1 h1 v x g nw.dt z, fun b1 h1 v x g nw z => z.elim⟩ b h Γ σ rf hn CW.nil p
  refine kA { D with nx := fun σ2 h2 => AgS (js1 ++ C.map Prod.fst) σ1 σ2 → M D σ2 h2 } { D with nx := M D } σ1 h1 ⟨fun σ2 h2 a z => z a, fun v h2 z => z, fun σ2 h2 a z => z, fun σ2 h2 a z => z⟩ ?_
  refine hA b0 h0 b1 { D with nx := fun σ2 h2 => AgS (js1 ++ C.map Prod.fst) σ1 σ2 → M D σ2 h2 } { DD with nx := fun Γ2 => pm (mrgG cc Γ1 Γ2) ∧ endOk cs Γ Γ2 ∧ DD.nx (endG cs Γ Γ2) } ⟨fun b2 h2 Γ2 σ2 r2 p2 a2 => ?_, fun b2 h2 Γ2 σ2 r2 z => M0.bk b2 h2 Γ2 σ2 ((r2.floor r1.f).floor r.f) z, fun b2 h2 Γ2 σ2 r2 z => M0.ct b2 h2 Γ2 σ2 ((r2.floor r1.f).floor r.f) z, M0.rt, M0.ro, M0.rp⟩ b1 h1 Γ1 σ1 ⟨r1.r, r1.g, Ex.refl b1, r1.o, r1.u⟩ p1
  obtain ⟨q1, q2, q3⟩ := p2
  obtain ⟨ol1, ol2⟩ := endOk_len q2
  have lm1 : Γ1.length = cc.length := l1.trans lc.symm
  have lm2 : Γ2.length = cc.length := ol2.trans (ln.trans lc.symm)
  have ac : ∀ {i}, i ∈ C.map Prod.fst → σ2[i]? = σ1[i]? := fun {i} hi => a2 i (List.mem_append_right _ hi)
  have cw2 : CW K C b2 (fun a => b a = none ∧ h0 a = none) (mrgG cc Γ1 Γ2) σ2 := fun i s hi => by
    obtain ⟨v, x, g1, g2, g3⟩ := cw i s hi
    refine ⟨v, x, ?_, (ac (List.mem_map.mpr ⟨(i, s), hi, rfl⟩)).trans g2, g3.up r2.f⟩
    rw [mrgG_gat lm1 lm2, if_pos (c5 _ hi)]
    exact g1
  have rm : RelD K b2 (mrgG cc Γ1 Γ2) σ2 := by
    refine ⟨by rw [mrgG_len lm1 lm2, r2.r.len, ol2, ln, lc], fun i x z => ?_⟩
    rw [mrgG_gat lm1 lm2] at z
    by_cases c : cc[i]? = some 1
    · rw [if_pos c] at z
      have hi := c4 i (by rw [← lc]; exact (List.getElem?_eq_some_iff.mp c).1) c
      obtain ⟨q, hq, e⟩ := List.mem_map.mp hi
      obtain ⟨v, y, g1, g2, g3⟩ := cw q.1 q.2 hq
      rw [e] at g1 g2
      rw [z] at g1
      cases g1
      exact ⟨v, (ac hi).trans g2, (g3.up r2.f).dt⟩
    · rw [if_neg c] at z
      exact r2.r.d i x z
  exact hM b2 _ h2 D _ σ2 rm ((mrgG_len lm1 lm2).trans lc) cw2 r2.g.gi q1 fun σ3 h3 a3 l3 w3 =>
    M0.nx b h3 _ σ3 (scope_end r (r2.floor r1.f) q2 c1 c2 (fun i hi => (a2 i (List.mem_append_left _ hi)).trans (a1 i hi)) (fun i hi => a3 i (c3 i hi)) l3 w3) q3
end Md
namespace Md
open PySem L2 Evl
def dScope0 (cs : List Nat) (pm : Gam → Prop) (dP : DS) : DS := fun DD Γ => dP { DD with ro := fun _ => False, nx := fun Γ1 => pm Γ1 ∧ endOk cs Γ Γ1 ∧ DD.nx (endG cs Γ Γ1) } Γ
theorem msp_Q {K : PySem.W.Frag} {R : Con} : MSp (spQ K R) := fun vs h Q Q' E f => by
  rintro ⟨b, q, ws, es, P, e1, e2, e3, e4, e5, e6, k⟩
  exact ⟨b, q, ws, es, P, e1, e2, e3, e4, e5, e6, fun v b' h' d g p dd => f _ _ (k v b' h' d g p dd)⟩
end Md
namespace Md
open PySem L2 Evl
section
variable {s s' : Option Sl} {Γ Δ : Gam} {c : Nat} {cs : List Nat} {x : PyData} {ds : List PyData}
theorem pk3_0 : pk3 0 s s' = none := rfl
theorem pk3_1 : pk3 1 s s' = s := rfl
theorem pk3_2 : pk3 2 s s' = s' := rfl
theorem pk2_0 : pk2 0 s s' = s' := rfl
theorem pk2_1 : pk2 1 s s' = s := rfl
theorem endG_cons : endG (c :: cs) (s :: Γ) (s' :: Δ) = pk3 c s s' :: endG cs Γ Δ := rfl
theorem endG_nil : endG [] [] [] = [] := rfl
theorem mrgG_cons : mrgG (c :: cs) (s :: Γ) (s' :: Δ) = pk2 c s s' :: mrgG cs Γ Δ := rfl
theorem mrgG_nil : mrgG [] [] [] = [] := rfl
theorem pool_sc {es : List PyData} (h : PoolD es) : ∀ d ∈ es, scD d = true := fun d hd => by
  obtain ⟨p, rfl, _⟩ := h
  obtain ⟨i, _, rfl⟩ := List.mem_map.mp hd
  rfl
end
end Md
namespace Md
open PySem L2 Evl
def lowG : List Nat → Gam → Gam
  | c :: cs, s :: Γ => pk3 c s none :: lowG cs Γ
  | _, _ => []
def lowOk : List Nat → Gam → Prop
  | c :: cs, s :: Γ => ok3 c s none ∧ lowOk cs Γ
  | [], [] => True
  | _, _ => False
theorem lowG_cons {c : Nat} {cs : List Nat} {s : Option Sl} {Γ : Gam} : lowG (c :: cs) (s :: Γ) = pk3 c s none :: lowG cs Γ := rfl
theorem lowG_nil : lowG [] [] = [] := rfl
def dScopeL (cl cs cc : List Nat) (i : Nat) (pm : Gam → Prop) (dP dA : DS) (de : DE) (dB : DS) : DS := fun DD Γ => lowOk cl Γ ∧ dP { DD with ro := fun _ => False, nx := fun Γ1 => dA { DD with nx := fun Γ2 => Γ2.length = cl.length ∧ de (lowG cl Γ) fun x => dB { DD with nx := fun Γ3 => pm (mrgG cc Γ1 Γ3) ∧ endOk cs ((lowG cl Γ).set i (some (.d x))) Γ3 ∧ DD.nx (endG cs ((lowG cl Γ).set i (some (.d x))) Γ3) } (Γ2.set i (some (.d x))) } Γ1 } Γ
end Md
set_option Elab.async false
set_option linter.all false
set_option maxRecDepth 100000
set_option maxHeartbeats 2000000
namespace Md
open PySem L2 Evl
end Md
namespace Md
open PySem L2 Evl
end Md
namespace Md
open PySem L2 Evl
section
variable {G : List PlV} {w M B : Nat} {o : Bool} {c : Nat → Nat} {g h : Nat → Rat} {P : PyData → Prop}
end
end Md
namespace Md
open PySem L2 Evl
section
variable {G : List PlV} {o : Bool} {c c' : Nat → Nat} {g h : Nat → Rat} {M0 : Nat} {P : PyData → Prop}
end
end Md
namespace Md
open PySem L2 Evl
end Md
set_option Elab.async false
set_option linter.all false
set_option maxRecDepth 100000
set_option maxHeartbeats 2000000
namespace Md
open PySem L2 Evl
def Svn (p : Pl) : Prop := p.gain.2.natAbs ∣ 420
def spPlace7 (K : PySem.W.Frag) : Sp := fun vs h Q _ => ∃ (b : Hp) (ds : List Int) (many : Int), Ex b h ∧ DtA K b vs [.list (ds.map PyData.int), .int many] ∧ ds.length = 15 ∧ (∀ d ∈ ds, 0 ≤ d ∧ d < 1000) ∧ 1 ≤ many ∧
  ∀ v b' h' p, Gr b h b' h' → WfP many p ∧ Svn p → Dt K b' v p.D → Q v h'
def spGame7 (K : PySem.W.Frag) : Sp := fun vs h Q _ => ∃ (b : Hp) (ds : List Int) (most : Int), Ex b h ∧ DtA K b vs [.list (ds.map PyData.int), .int most] ∧ 1 ≤ most ∧ most ≤ 12 ∧ 1 + 15 * most ≤ (ds.length : Int) ∧ (∀ d ∈ ds, 0 ≤ d ∧ d < 1000) ∧
  ∀ v b' h' G, Gr b h b' h' → WfG G ∧ (∀ p ∈ G, Svn p) → (G.length : Int) ≤ most → Dt K b' v (gameD G) → Q v h'
def kGame7 : Con := con2 fun x y P => ∃ (ds : List Int) (most : Int), x = .list (ds.map PyData.int) ∧ y = .int most ∧ 1 ≤ most ∧ most ≤ 12 ∧ 1 + 15 * most ≤ (ds.length : Int) ∧ (∀ d ∈ ds, 0 ≤ d ∧ d < 1000) ∧
  ∀ G : List PlV, WfVG 30 G → (∀ p ∈ G, p.g.2.natAbs ∣ 420) → PosG G → (G.length : Int) ≤ most → P (gvD G)
section
variable {K : PySem.W.Frag} {vs : List V} {h : Hp} {Q : VK} {E : XK}
theorem kGame7_i {ds : List Int} {most : Int} {P : PyData → Prop} (h1 : 1 ≤ most) (h2 : most ≤ 12) (h3 : 1 + 15 * most ≤ (ds.length : Int)) (h4 : ∀ d ∈ ds, 0 ≤ d ∧ d < 1000)
    (k : ∀ G : List PlV, WfVG 30 G → (∀ p ∈ G, p.g.2.natAbs ∣ 420) → PosG G → (G.length : Int) ≤ most → P (gvD G)) : kGame7 [.list (ds.map PyData.int), .int most] P := ⟨ds, most, rfl, rfl, h1, h2, h3, h4, k⟩
theorem c_game7 (x : spP K kGame7 vs h Q E) : spGame7 K vs h Q E := by
  obtain ⟨b, ds, P, e, hA, hR, k⟩ := x
  obtain ⟨a, c, rfl, l, most, rfl, rfl, h1, h2, h3, h4, p⟩ := con2_is hR
  exact ⟨b, l, most, e, hA, h1, h2, h3, h4, fun v b' h' G g w hl hv => k v b' h' _ g (p (G.map ofP) (ofG_wf w.1) (fun q hq => by
    obtain ⟨q, hq1, rfl⟩ := List.mem_map.mp hq
    rw [ofP_g]
    exact w.2 q hq1) (fun q hq => by
    obtain ⟨q, hq1, rfl⟩ := List.mem_map.mp hq
    exact ofP_pos (w.1.2.2 q hq1)) (by rw [List.length_map]; exact hl)) (by rw [ofG_D w.1]; exact hv)⟩
def kSam (n : Nat) : Con := con2 fun x y P => x = y ∧ Dep n x ∧ P (.bool true)
theorem c_same {n : Nat} (x : spP K (kSam n) vs h Q E) : spSame K n vs h Q E := by
  obtain ⟨b, ds, P, e, hA, hR, k⟩ := x
  obtain ⟨x, y, rfl, rfl, h1, p⟩ := con2_is hR
  exact ⟨b, x, e, hA, h1, fun h' e' => k (.bl true) b h' _ (Gr.stay e e') p (Dt.bool true)⟩
end
end Md
set_option Elab.async false
set_option linter.all false
set_option maxRecDepth 100000
set_option maxHeartbeats 2000000
namespace Md
open PySem L2 Evl
def drP (o : Bool) (p : PlV) : PlV := if p.k = none then ⟨p.g, some o, p.bs⟩ else p
def kTgN : ConN := conN1 fun x P => ∃ p : PlV, x = p.D ∧ p.bs.length ≤ 6 ∧ P (p.bs.map fun q => .int ((q.2 : Nat) : Int))
def kWdr : ConN := conN2 fun x y P => ∃ (G : List PlV) (o : Bool), x = gvD G ∧ y = .str (kdV (some o)) ∧ G.length ≤ 12 ∧ (∀ p ∈ G, p.bs.length ≤ 6) ∧ P ((G.map (drP o)).map PlV.D)
def kAgu (o : Bool) : Con := con1 fun x P => ∃ G : List PlV, x = gvD G ∧ G.length ≤ 12 ∧ (∀ p ∈ G, p.bs.length ≤ 6) ∧ P (gvD (G.map (drP o)))
theorem drP_D {o : Bool} {p : PlV} : (drP o p).D = .tuple [nD p.g, .str (kdV (if p.k = none then some o else p.k)), .list (p.bs.map fun q => .int ((q.2 : Nat) : Int))] := by
  unfold drP
  by_cases q : p.k = none
  · rw [if_pos q, if_pos q]
    rfl
  · rw [if_neg q, if_neg q]
    unfold PlV.D
    rw [el_side q]
end Md
namespace Md
open PySem L2 Evl
theorem dep_i {n : Nat} {i : Int} : Dep (n + 1) (.int i) := trivial
theorem dep_nD {n : Nat} {p : Int × Int} : Dep (n + 2) (nD p) := ⟨by show 2 ≤ 30000; decide, fun d hd => by
  simp only [List.mem_cons, List.not_mem_nil, or_false] at hd
  rcases hd with rfl | rfl
  · exact dep_i
  · exact dep_i⟩
theorem dep_gv {w : Nat} {G : List PlV} (h : WfVG w G) : Dep 6 (gvD G) := ⟨by rw [List.length_map]; have := h.l12; omega, fun d hd => by
  obtain ⟨p, hp, rfl⟩ := List.mem_map.mp hd
  refine ⟨by show 3 ≤ 30000; decide, fun e he => ?_⟩
  have w := h.p p hp
  simp only [List.mem_cons, List.not_mem_nil, or_false] at he
  rcases he with rfl | rfl | rfl
  · exact dep_nD
  · exact trivial
  · refine ⟨by rw [el_len]; have := w.l6; omega, fun x hx => ?_⟩
    by_cases q : p.k = none
    · rw [el_draw q] at hx
      obtain ⟨y, _, rfl⟩ := List.mem_map.mp hx
      refine ⟨by show 2 ≤ 30000; decide, fun z hz => ?_⟩
      simp only [List.mem_cons, List.not_mem_nil, or_false] at hz
      rcases hz with rfl | rfl
      · exact dep_nD
      · exact dep_i
    · rw [el_side q] at hx
      obtain ⟨y, _, rfl⟩ := List.mem_map.mp hx
      exact dep_i⟩
theorem drP_wf {w n : Nat} {o : Bool} {p : PlV} (h : WfV w n p) : WfV w n (drP o p) := by
  unfold drP
  by_cases q : p.k = none
  · rw [if_pos q]
    have no : ¬ ((⟨p.g, some o, p.bs⟩ : PlV).k = none) := fun z => by cases z
    exact { g := h.g, l1 := h.l1, l6 := h.l6, t := h.t, c := fun z => absurd z no, w := fun z => absurd z no, s := fun z => absurd z no }
  · rw [if_neg q]
    exact h
theorem dr_wf {w : Nat} {o : Bool} {G : List PlV} (h : WfVG w G) : WfVG w (G.map (drP o)) := ⟨by rw [List.length_map]; exact h.l1, by rw [List.length_map]; exact h.l12, fun p hp => by
  obtain ⟨q, hq, rfl⟩ := List.mem_map.mp hp
  rw [List.length_map]
  exact drP_wf (h.p q hq)⟩
end Md
set_option Elab.async false
set_option linter.all false
set_option maxRecDepth 100000
set_option maxHeartbeats 2000000
namespace Md
open PySem L2 Evl
local macro_rules | `(tactic| and_intros) => `(tactic| try dsimp only [dVar, dC, dTup, dLst, dOfN, dNil, dCons, dII, dAdd, dSub, dMul, dMulW, dLt, dLe, dGt, dGe, dIxL, dIxT, dEqD, dNeD, dEqS, dNeS, dIsN, dNotN, dIf, dTest, dNot, dAnd, dOr, dYes, dAndV, dOrV, dNotV, dPNone, dPart, dSl, dCat, dRep, dLen, dListOf, dInt1, dAbs, dCall, dCallN, dCallK, dCallKN, dSum, dMax, dMin, dAll, dAny, dRepr, dIsi, dTupOf, dMax2, dMin2, dGcd, dLcm, dFdiv, dModI, dNeg, dInD, dNiD, dPow, dIsB, dNotB, dChain, cI, dgN, dgNil, dgCons, dgT, diL, diT, diR1, diR2, diZ, diE, dNext, dBreak, dCont, dSeq, dCut, dAsg, dAsgS, dAsgO, dPar, dAug, dApp, dAppS, dSet, dSetS, dAugL, dIfS, dRet, dRetS, dRetN, dRetO, dRetNone, dTell, tellG, dIndex, dTru, gat, allD, wipeG, List.set_cons_zero, List.set_cons_succ, List.length_cons, List.length_nil, List.map_cons, List.map_nil, onI_i, onB_b, onL_l, onT_t, onSq_l, onSq_t, scD_i, scD_b, scD_s, scD_n, onT_nD, onT_nQ, onL_nums, onL_gv, onL_listQ, onL_nats, onL_rats, onT_D, isNo_n, isNo_i, isNo_l, isNo_t, eqS_i, eqS_s, eqS_n, eqS_in, onSq_nums, onSq_gv, onSq_listQ, onSq_nats, onSq_nD, onSq_nQ, onL_ints, onSq_ints, onT_br, eqS_b, Bool.not_true, Bool.not_false, List.cons_append, List.nil_append, own_cons, own_nil, dKix, onL_tab, onL_row, onL_mat, diZ3, dPar3, dPar3O, dRevL, dRetT2, dAsgT2, dAsgOB, dExt, dForL, dSorted, dAsgX, dAsgXN, dAsgXO, dAppX, dAppXN, dSetX, dSetXN, dAsgIx, dSetIx, dRetX, dRetXN, dgL, onL_chD, onT_C, onSq_chD])
local macro_rules | `(tactic| ac_rfl) => `(tactic| try dsimp only [dVar, dC, dTup, dLst, dOfN, dNil, dCons, dII, dAdd, dSub, dMul, dMulW, dLt, dLe, dGt, dGe, dIxL, dIxT, dEqD, dNeD, dEqS, dNeS, dIsN, dNotN, dIf, dTest, dNot, dAnd, dOr, dYes, dAndV, dOrV, dNotV, dPNone, dPart, dSl, dCat, dRep, dLen, dListOf, dInt1, dAbs, dCall, dCallN, dCallK, dCallKN, dSum, dMax, dMin, dAll, dAny, dRepr, dIsi, dTupOf, dMax2, dMin2, dGcd, dLcm, dFdiv, dModI, dNeg, dInD, dNiD, dPow, dIsB, dNotB, dChain, cI, dgN, dgNil, dgCons, dgT, diL, diT, diR1, diR2, diZ, diE, dNext, dBreak, dCont, dSeq, dCut, dAsg, dAsgS, dAsgO, dPar, dAug, dApp, dAppS, dSet, dSetS, dAugL, dIfS, dRet, dRetS, dRetN, dRetO, dRetNone, dTell, tellG, dIndex, dTru, gat, allD, wipeG, List.set_cons_zero, List.set_cons_succ, List.length_cons, List.length_nil, List.map_cons, List.map_nil, onI_i, onB_b, onL_l, onT_t, onSq_l, onSq_t, scD_i, scD_b, scD_s, scD_n, onT_nD, onT_nQ, onL_nums, onL_gv, onL_listQ, onL_nats, onL_rats, onT_D, isNo_n, isNo_i, isNo_l, isNo_t, eqS_i, eqS_s, eqS_n, eqS_in, onSq_nums, onSq_gv, onSq_listQ, onSq_nats, onSq_nD, onSq_nQ, onL_ints, onSq_ints, onT_br, eqS_b, Bool.not_true, Bool.not_false, List.cons_append, List.nil_append, own_cons, own_nil, dKix, onL_tab, onL_row, onL_mat, diZ3, dPar3, dPar3O, dRevL, dRetT2, dAsgT2, dAsgOB, dExt, dForL, dSorted, dAsgX, dAsgXN, dAsgXO, dAppX, dAppXN, dSetX, dSetXN, dAsgIx, dSetIx, dRetX, dRetXN, dgL, onL_chD, onT_C, onSq_chD, dAsgQ, dParQ, dForQ, dAsgOQ, dAppQ, dSlT, dForRQ, dPar2O])
def top (i : Nat) : Stmt := PySem.Challenge.pw_meanhold_k63_games_against_and_for_us.main.body.getD i (.Pass ⟨0, 0, 0, 0⟩)
section
variable {P : Program} {w : World} {K : PySem.W.Frag} {mg : Str → Option Value} {base : Heap}
abbrev s_draws : Stmt := top 7
theorem sc_draws : FnScope ["script", "count", "rests", "draws", "k", "value", "cell", "at", "mixed"] ["script", "count"] (defScope s_draws) := ⟨rfl, rfl, rfl, by decide +kernel, rfl, by decide +kernel, by decide +kernel⟩
theorem has_draws (T : Bt mg) (D : IsDef K mg "_law_draws" s_draws ["script", "count"]) : Has P w K mg base 1 "_law_draws" ["script", "count"] (spDraws K) := by
  obtain ⟨f, fd, F, hm, hb⟩ := D
  have sc := sc_draws
  refine ⟨f, fd, F.ok sc (fun vs H Q E x => ?_) (fun cdv A outer s h0 vs Q E hr hs => ?_), hm, F.kp, hb⟩
  · obtain ⟨_, _, _, _, rfl, _⟩ := x
    rfl
  obtain ⟨b, a, ns, n, rfl, eb, hS, hl, hn, k⟩ := hs
  refine ⟨_, (pss_cons (ps_setLc (i := 2) (own := [("cell", 6)]) (tt := tYes) rfl sc.nd rfl rfl (sw_true rfl rfl rfl (by decide +kernel)) (pi_listK (K := K) rfl (pv 0)) (blkOk_by (N := ["script", "count", "rests", "draws", "k", "value", "cell", "at", "mixed"]) (sc := defScope s_draws) (by decide +kernel)) (fun _ _ _ _ _ => (pg_name (i := 6) sc.nd rfl (by first | exact Or.inl rfl | exact Or.inr rfl))) (fun _ _ _ _ _ => pts_nil) (fun _ _ _ _ _ => (pv 6))) (pss_cons (ps_set (i := 3) sc.nd rfl (by first | exact Or.inl rfl | exact Or.inr rfl) (pe_lst pa_nil)) (pss_cons (ps_for PassesOwn.never rfl (pi_range1 (by rfl) T.range (pa_cons (pv 1) pa_nil)) (pg_name (i := 4) sc.nd rfl (by first | exact Or.inl rfl | exact Or.inr rfl)) (pss_cons (ps_set (i := 5) sc.nd rfl (by first | exact Or.inl rfl | exact Or.inr rfl) pe_int) (Evl.pss_cut (ps_if (pt_cmpR op_gt (pe_callB (len_K (K := K) rfl) (by rfl) T.len PySem.boot_len (pa_cons (pv 2) pa_nil)) pe_int (nomark _)) (pss_cons (ps_set (i := 7) sc.nd rfl (by first | exact Or.inl rfl | exact Or.inr rfl) (pe_op op_mod (pe_callTy cr_int1 (by rfl) T.int (by decide +kernel) (pa_cons (pv 4) pa_nil)) (pe_callB (len_K (K := K) rfl) (by rfl) T.len PySem.boot_len (pa_cons (pv 2) pa_nil)))) (pss_one (ps_if (pt_cmpR op_ge (pe_ix (ix_listK (K := K) rfl) (pv 2) (pv 7) (fun _ _ => rfl)) (pe_op op_pow pe_int pe_int) (nomark _)) (pss_cons (ps_set (i := 5) sc.nd rfl (by first | exact Or.inl rfl | exact Or.inr rfl) (pe_op op_mod (pe_callTy cr_int1 (by rfl) T.int (by decide +kernel) (pa_cons (pe_ix (ix_listK (K := K) rfl) (pv 2) (pv 7) (fun _ _ => rfl)) pa_nil)) pe_int)) (pss_one (ps_asg (pe_op op_fdivW (pe_ix (ix_listK (K := K) rfl) (pv 2) (pv 7) (fun _ _ => rfl)) pe_int) (pg_sub (pv 2) (pv 7) set_list)))) (pss_cons (ps_set (i := 8) sc.nd rfl (by first | exact Or.inl rfl | exact Or.inr rfl) (pe_op op_mod (pe_callTy cr_int1 (by rfl) T.int (by decide +kernel) (pa_cons (pe_op op_add (pe_op op_add (pe_op op_mul (pe_ix (ix_listK (K := K) rfl) (pv 2) (pv 7) (fun _ _ => rfl)) pe_int) (pe_op op_mul (pv 4) pe_int)) pe_int) pa_nil)) pe_int)) (pss_cons (ps_set (i := 8) sc.nd rfl (by first | exact Or.inl rfl | exact Or.inr rfl) (pe_op op_mod (pe_callTy cr_int1 (by rfl) T.int (by decide +kernel) (pa_cons (pe_op op_add (pe_op op_mul (pv 8) pe_int) (pv 7)) pa_nil)) pe_int)) (pss_one (ps_set (i := 5) sc.nd rfl (by first | exact Or.inl rfl | exact Or.inr rfl) (pe_op op_mod (pe_callTy cr_int1 (by rfl) T.int (by decide +kernel) (pa_cons (pe_op op_fdivW (pv 8) pe_int) pa_nil)) pe_int)))))))) pss_nil) (pss_one (ps_expr (pe_appK (K := K) rfl (pv 3) (pa_cons (pv 5) pa_nil))))))) (pss_one (ps_ret (pv 3)))))), ?_⟩
  have hlc : EvL (tLc (iList K (tVar 0)) (gName 6) tYes (tVar 6) [6]) (start ["script", "count", "rests", "draws", "k", "value", "cell", "at", "mixed"] [V.ref a, V.int (n : Int)]) b (given (ns.map V.int).length (fun _ => true) (fun i => V.int (ns.getD i 0))) := by
    refine el_lcL (fun _ => true) (fun i => V.int (ns.getD i 0)) (ev_var rfl) hS (by rw [List.length_map]; omega) (fun x => rfl) (fun i x H1 e hx => et_yes) (fun i x H1 e hx _ => ?_)
    refine ev_is (ev_var rfl) ?_
    rw [List.getElem?_map] at hx
    cases z : ns[i]? with
    | none =>
      rw [z] at hx
      cases hx
    | some y =>
      rw [z] at hx
      cases hx
      rw [List.getD_eq_getElem?_getD, z]
      rfl
  refine q_asgL (hlc.mono eb) fun p h1 hp e1 h1p => ?_
  obtain ⟨rs, hrl, hrs⟩ : ∃ rs : List Int, rs.length = ns.length ∧ given (ns.map V.int).length (fun _ => true) (fun i => V.int (ns.getD i 0)) = rs.map V.int := by
    refine ⟨(List.range ns.length).map fun i => ns.getD i 0, by simp, ?_⟩
    unfold given
    rw [List.filter_eq_self.mpr fun _ _ => rfl, List.length_map, List.map_map]
    rfl
  rw [hrs] at h1p
  have bp : b p = none := none_of eb hp
  have g1 : Gr b h0 b h1 := Gr.stay eb e1
  refine q_asgL (el_lst ea_nil (by decide)) fun q h2 hq e2 h2q => ?_
  have npq : p ≠ q := ne_of_none h1p hq
  have hq0 : h0 q = none := fresh_back e1 hq
  have bq : b q = none := none_of eb hq0
  refine s_forR1 (n := (n : Int)) (ea_cons (ev_var rfl) ea_nil) (by omega) (fun i σ' h' => ∃ (rs ds : List Int) (u v x y z : Option V), σ' = [some (.ref a), some (.int (n : Int)), some (.ref p), some (.ref q), u, v, x, y, z] ∧
      rs.length = ns.length ∧ ds.length = i ∧ (∀ d ∈ ds, 0 ≤ d ∧ d < 1000) ∧ Gr b h0 b h' ∧ h' p = some (.lst (rs.map V.int)) ∧ h' q = some (.lst (ds.map V.int))) ?_ ?_ ?_
  · intro H1 e
    refine ⟨rs, [], none, none, none, none, none, rfl, hrl, rfl, (fun d hd => by cases hd), g1.trans (Gr.stay g1.gi (e2.trans e)), e _ _ (e2 _ _ h1p), e _ _ h2q⟩
  · rintro i σ' h' hi ⟨rs, ds, u, v, x, y, z, rfl, hrl, hdl, hds, G, hp', hq'⟩
    refine q_asg ev_c fun h2 e2 => ?_
    have hp2 := e2 _ _ hp'
    have hq2 := e2 _ _ hq'
    have G2 := G.trans (Gr.stay G.gi e2)
    refine ⟨fun σ' h' => ∃ (rs : List Int) (d : Int) (x y z : Option V), σ' = [some (.ref a), some (.int (n : Int)), some (.ref p), some (.ref q), some (.int (i : Int)), some (.int d), x, y, z] ∧
      rs.length = ns.length ∧ (0 ≤ d ∧ d < 1000) ∧ Gr b h0 b h' ∧ h' p = some (.lst (rs.map V.int)) ∧ h' q = some (.lst (ds.map V.int)), ?_, ?_⟩
    · refine s_if (b := decide (((0 : Nat) : Int) < ((rs.map V.int).length : Int))) (et_test (ev_op (ev_len (ev_var rfl) (sq_of hp2)) ev_c rv_I0)) (fun hc h3 e3 => ?_) (fun hc h3 e3 => ?_)
      · have hpos : 0 < rs.length := by
          have := of_decide_eq_true hc
          rw [List.length_map] at this
          omega
        have hp3 := e3 _ _ hp2
        have hq3 := e3 _ _ hq2
        have G3 := G2.trans (Gr.stay G2.gi e3)
        have hj : i % rs.length < rs.length := Nat.mod_lt _ hpos
        refine q_asg (v := .int ((i % rs.length : Nat) : Int)) (ev_op (ev_int1 (ev_var rfl)) (ev_len (ev_var rfl) (sq_of hp3)) ?_) fun h4 e4 => ?_
        · have e1 : V.int ((i % rs.length : Nat) : Int) = V.int ((i : Int) % ((rs.map V.int).length : Int)) := by rw [List.length_map, Int.natCast_emod]
          rw [e1]
          exact rv_I (by rw [List.length_map]; omega)
        have hp4 := e4 _ _ hp3
        have hq4 := e4 _ _ hq3
        have G4 := G3.trans (Gr.stay G3.gi e4)
        obtain ⟨r, hr0⟩ : ∃ r, rs[i % rs.length]? = some r := ⟨_, List.getElem?_eq_getElem hj⟩
        have hr1 : (rs.map V.int)[i % rs.length]? = some (V.int r) := by rw [List.getElem?_map, hr0] <;> rfl
        have hix : ∀ {σ : L2.St} {h : Hp}, Ex h4 h → σ[2]? = some (some (.ref p)) → σ[7]? = some (some (.int ((i % rs.length : Nat) : Int))) → Ev (tOp (rIxL K) (tVar 2) (tVar 7)) σ h (.int r) := fun {σ h} e s1 s2 =>
          ev_op (ev_var s1) (ev_var s2) (rv_ixL (sq_of (e _ _ hp4)) (at_of rfl hr1))
        refine s_if (b := decide ((10 : Int) ^ (18 : Int).toNat ≤ r)) (et_test (ev_op (hix (Ex.refl _) rfl rfl) (ev_op ev_c ev_c (rv_I ⟨by decide, by decide, by decide⟩)) rv_I0)) (fun hc2 h5 e5 => ?_) (fun hc2 h5 e5 => ?_)
        · refine q_asg (ev_op (ev_int1 (hix e5 rfl rfl)) ev_c (rv_I (by decide))) fun h6 e6 => ?_
          have e46 := e5.trans e6
          refine s_setL (e46 _ _ hp4) (ev_op (hix e46 rfl rfl) ev_c (rv_I ⟨by decide, by decide⟩)) (ev_var rfl) (ev_var rfl) (by rw [List.length_map]; exact hj) fun h7 e7 => ?_
          refine ⟨rs.set (i % rs.length) (r / 1000), r % 1000, _, _, _, rfl, by rw [List.length_set, hrl], ⟨Int.emod_nonneg _ (by decide), Int.emod_lt_of_pos _ (by decide)⟩, (G4.trans (Gr.stay G4.gi (e46.trans e7))).mut hp bp, ?_, ?_⟩
          · rw [upd_same, ← List.map_set]
          · rw [upd_ne npq.symm]
            exact e7 _ _ (e46 _ _ hq4)
        · refine q_asg (ev_op (ev_int1 (ev_op (ev_op (ev_op (hix e5 rfl rfl) ev_c (rv_I (.inr ⟨by decide, by decide⟩))) (ev_op (ev_var rfl) ev_c (rv_I (.inr ⟨by decide, by decide⟩))) rv_I0) ev_c rv_I0)) ev_c (rv_I (by decide))) fun h6 e6 => ?_
          refine q_asg (ev_op (ev_int1 (ev_op (ev_op (ev_var rfl) ev_c (rv_I (.inr ⟨by decide, by decide⟩))) (ev_var rfl) rv_I0)) ev_c (rv_I (by decide))) fun h7 e7 => ?_
          refine s_asg (ev_op (ev_int1 (ev_op (ev_var rfl) ev_c (rv_I ⟨by decide, by decide⟩))) ev_c (rv_I (by decide))) fun h8 e8 => ?_
          have e48 := ((e5.trans e6).trans e7).trans e8
          exact ⟨rs, _, _, _, _, rfl, hrl, ⟨Int.emod_nonneg _ (by decide), Int.emod_lt_of_pos _ (by decide)⟩, G4.trans (Gr.stay G4.gi e48), e48 _ _ hp4, e48 _ _ hq4⟩
      · exact ⟨rs, 0, _, _, _, rfl, hrl, by decide, G2.trans (Gr.stay G2.gi e3), e3 _ _ hp2, e3 _ _ hq2⟩
    · rintro σ' h3 ⟨rs, d, x, y, z, rfl, hrl, hd, G3, hp3, hq3⟩
      refine s_app hq3 (ev_var rfl) (ev_var rfl) (by rw [List.length_map]; omega) fun h4 e4 => ?_
      refine ⟨rs, ds ++ [d], _, _, _, _, _, rfl, hrl, by rw [List.length_append, hdl]; rfl, fun t ht => ?_, (G3.trans (Gr.stay G3.gi e4)).mut hq0 bq, ?_, ?_⟩
      · rcases List.mem_append.mp ht with ht | ht
        · exact hds t ht
        · rw [List.mem_singleton.mp ht]
          exact hd
      · rw [upd_ne npq]
        exact e4 _ _ hp3
      · rw [upd_same, List.map_append]
        rfl
  · rintro σ' h' ⟨rs, ds, u, v, x, y, z, rfl, hrl, hdl, hds, G, hp', hq'⟩
    refine ⟨_, rfl, k _ (upd b q (.lst (ds.map V.int))) h' ds (G.tell hq0 bq hq') (by rw [hdl]; omega) hds (Dt.list upd_same (DtA.ints ds))⟩

abbrev s_gcd : Stmt := top 8
theorem sc_gcd : FnScope ["a", "b", "step", "rest"] ["a", "b"] (defScope s_gcd) := ⟨rfl, rfl, rfl, by decide +kernel, rfl, by decide +kernel, by decide +kernel⟩
theorem has_gcdW (T : Bt mg) (D : IsDef K mg "_law_gcd" s_gcd ["a", "b"]) : Has P w K mg base 1 "_law_gcd" ["a", "b"] (spGcdW K) := by
  obtain ⟨f, fd, F, hm, hb⟩ := D
  have sc := sc_gcd
  refine ⟨f, fd, F.ok sc SpF.len (fun cdv A outer s h0 vs Q E hr hs => ?_), hm, F.kp, hb⟩
  obtain ⟨b, ds, eb, hA, hn, ⟨x, y, rfl, hy⟩, k⟩ := hs
  obtain rfl := hA.i2
  refine ⟨_, (pss_cons (ps_set (i := 0) sc.nd rfl (by first | exact Or.inl rfl | exact Or.inr rfl) (pe_callB cr_abs (by rfl) T.abs (by decide +kernel) (pa_cons (pv 0) pa_nil))) (pss_cons (ps_set (i := 1) sc.nd rfl (by first | exact Or.inl rfl | exact Or.inr rfl) (pe_callB cr_abs (by rfl) T.abs (by decide +kernel) (pa_cons (pv 1) pa_nil))) (pss_cons (ps_for PassesOwn.never rfl (pi_range1 (by rfl) T.range (pa_cons pe_int pa_nil)) (pg_name (i := 2) sc.nd rfl (by first | exact Or.inl rfl | exact Or.inr rfl)) (pss_cons (ps_if (pt_cmpR op_eq (pv 1) pe_int (nomark _)) (pss_one ps_break) pss_nil) (pss_cons (ps_set (i := 3) sc.nd rfl (by first | exact Or.inl rfl | exact Or.inr rfl) (pe_op op_mod (pe_callTy cr_int1 (by rfl) T.int (by decide +kernel) (pa_cons (pv 0) pa_nil)) (pv 1))) (pss_cons (ps_set (i := 0) sc.nd rfl (by first | exact Or.inl rfl | exact Or.inr rfl) (pv 1)) (pss_one (ps_set (i := 1) sc.nd rfl (by first | exact Or.inl rfl | exact Or.inr rfl) (pv 3))))))) (pss_one (ps_ret (pv 0)))))), ?_⟩
  refine r_sc (ev_abs (ev_var rfl)) eb fun h1 g1 => ?_
  refine r_sc (ev_abs (ev_var rfl)) g1.gi fun h2 g2 => ?_
  have G2 := g1.trans g2
  have fin : ∀ (σ' : L2.St) (h' : Hp) (z : Nat), σ'[0]? = some (some (.int (z : Int))) → z = Nat.gcd x.natAbs y.natAbs → Gr b h0 b h' → tRet (tVar 0) { nx := fun _ H' => Q .non H', rt := Q, bk := fun _ _ => False, ct := fun _ _ => False } σ' h' := fun σ' h' z e1 e2 G => by
    subst e2
    exact ⟨_, e1, k _ b h' _ G (fun a c e => by cases e; rfl) (Dt.int _)⟩
  refine s_forR1 (n := 4000) ((ea_cons ev_c ea_nil)) (by omega) (fun i σ' h' => ∃ (p q : Nat) (u v : Option V), σ' = [some (.int (p : Int)), some (.int (q : Int)), u, v] ∧ EucW (Nat.gcd x.natAbs y.natAbs) i p q ∧ Gr b h0 b h')
    (fun h3 e3 => ⟨x.natAbs, y.natAbs, none, none, rfl, ⟨rfl, by rw [if_pos rfl]; exact hy⟩, G2.trans (Gr.stay G2.gi e3)⟩) ?_ ?_
  · rintro i σ' h' hi ⟨p, q, u, v, rfl, hE, G⟩
    refine r_if (b := b) (c := decide (V.int (q : Int) = V.int 0)) (et_test (ev_op (ev_var rfl) ev_c (rv_eq rfl))) G.gi (fun hc h3 g3 => ?_) (fun hc h3 g3 => ?_)
    · have e0 : (q : Int) = 0 := by
        have := of_decide_eq_true hc
        injection this
      obtain rfl : q = 0 := by omega
      exact fin _ _ p rfl (eucW_zero hE) (G.trans g3)
    · have e0 : ¬ (q : Int) = 0 := fun z => by
        have := of_decide_eq_false hc
        exact this (by rw [z])
      refine r_sc (v := .int ((p % q : Nat) : Int)) (ev_op (ev_int1 (ev_var rfl)) (ev_var rfl) ?_) (G.trans g3).gi fun h4 g4 => ?_
      · have e1 : V.int ((p % q : Nat) : Int) = V.int ((p : Int) % (q : Int)) := by rw [Int.natCast_emod]
        rw [e1]
        exact rv_I (by omega)
      refine r_sc (ev_var rfl) g4.gi fun h5 g5 => ?_
      exact ⟨_, rfl, q, p % q, _, _, rfl, eucW_turn hE (by omega), ((G.trans g3).trans g4).trans g5⟩
  · rintro σ' h' ⟨p, q, u, v, rfl, hE, G⟩
    have e0 := eucW_end hE
    subst e0
    exact fin _ _ p rfl (eucW_zero hE) G

abbrev s_number : Stmt := top 9
theorem sc_number : FnScope ["n", "d", "common"] ["n", "d"] (defScope s_number) := ⟨rfl, rfl, rfl, by decide +kernel, rfl, by decide +kernel, by decide +kernel⟩
theorem has_numberW (D : IsDef K mg "_law_number" s_number ["n", "d"]) (U : Has P w K mg base 1 "_law_gcd" ["a", "b"] (spGcdW K)) : Has P w K mg base 2 "_law_number" ["n", "d"] (spNumberW K) := by
  obtain ⟨f, fd, F, hm, hb⟩ := D
  obtain ⟨f_gcd, fd_gcd, G_gcd, m_gcd, k_gcd, b_gcd⟩ := U
  have sc := sc_number
  refine ⟨f, fd, F.ok sc SpF.len (fun cdv A outer s h0 vs Q E hr hs => ?_), hm, F.kp, hb⟩
  obtain ⟨b, ds, eb, hA, hn, ⟨x, y, rfl, hy, hx1, hy1, hgd⟩, k⟩ := hs
  obtain rfl := hA.i2
  refine ⟨_, (Evl.pss_cut (ps_if (pt_cmpR op_lt (pv 1) pe_int (nomark _)) (pss_cons (ps_set (i := 0) sc.nd rfl (by first | exact Or.inl rfl | exact Or.inr rfl) (pe_un un_neg (pv 0))) (pss_one (ps_set (i := 1) sc.nd rfl (by first | exact Or.inl rfl | exact Or.inr rfl) (pe_un un_neg (pv 1))))) pss_nil) (pss_cons (ps_set (i := 2) sc.nd rfl (by first | exact Or.inl rfl | exact Or.inr rfl) (pe_call G_gcd (hr.mono (by decide)) rfl m_gcd k_gcd b_gcd .nil pass0 (pa_cons (pv 0) (pa_cons (pv 1) pa_nil)))) (pss_one (ps_ret (pe_tup (pa_cons (pe_op op_fdivW (pv 0) (pv 2)) (pa_cons (pe_op op_fdivW (pv 1) (pv 2)) pa_nil))))))), ?_⟩
  refine ⟨fun σ' h' => σ' = [some (.int (if y < 0 then -x else x)), some (.int (if y < 0 then -y else y)), none] ∧ Gr b h0 b h', ?_, ?_⟩
  · refine r_if1 (b := b) (c := decide (y < 0)) (et_test (ev_op (ev_var rfl) ev_c rv_I0)) eb (fun hc h3 g3 => ?_) (fun hc h3 g3 => ?_)
    · have e0 : y < 0 := of_decide_eq_true hc
      refine r_sc (ev_un (ev_var rfl) ru_neg) g3.gi fun h4 g4 => ?_
      refine ⟨_, rfl, _, rfl, ?_, g3.trans g4⟩
      rw [if_pos e0, if_pos e0]
      rfl
    · have e0 : ¬ y < 0 := of_decide_eq_false hc
      refine ⟨?_, g3⟩
      rw [if_neg e0, if_neg e0]
      rfl
  · rintro σ' h' ⟨rfl, G⟩
    have hyy : (if y < 0 then -y else y).natAbs = y.natAbs := by split <;> omega
    have hxx : (if y < 0 then -x else x).natAbs = x.natAbs := by split <;> omega
    refine r_sc (b := b) (v := .int ((Nat.gcd x.natAbs y.natAbs : Nat) : Int)) (ev_int (ed_call (eda_cons (ed_int (ev_var rfl)) (eda_cons (ed_int (ev_var rfl)) eda_nil)) rfl ⟨_, _, rfl, by rw [hyy, hxx]; exact .inr hgd⟩ fun e he => ?_)) G.gi fun h4 g4 => ?_
    · rw [he _ _ rfl, hxx, hyy]
    have hg : 0 < Nat.gcd x.natAbs y.natAbs := Nat.gcd_pos_of_pos_right _ (by omega)
    have hg2 : Nat.gcd x.natAbs y.natAbs < 2 ^ 8100 := Nat.lt_of_le_of_lt (Nat.gcd_le_right _ (by omega)) hy1
    have hw : CDivW 0 ((Nat.gcd x.natAbs y.natAbs : Nat) : Int) := wide_div (b := 8100) (by omega) (by simpa using hg2) (by decide) (by decide)
    refine r_ret (K := K) (d := nD (num x y)) (ed_tup (eda_cons (ed_int (ev_op (ev_var rfl) (ev_var rfl) (rv_I hw))) (eda_cons (ed_int (ev_op (ev_var rfl) (ev_var rfl) (rv_I hw))) eda_nil)) (by show 2 ≤ 100000; decide)) g4.gi fun v b' h5 g5 hv => ?_
    exact k v b' h5 _ ((G.trans g4).trans g5) (fun n d e => by cases e; rfl) hv

abbrev s_place : Stmt := top 10
theorem sc_place : FnScope ["draws", "many", "kind", "gain", "size", "places", "weights", "k"] ["draws", "many"] (defScope s_place) := ⟨rfl, rfl, rfl, by decide +kernel, rfl, by decide +kernel, by decide +kernel⟩
theorem has_place7 (T : Bt mg) (D : IsDef K mg "_law_place" s_place ["draws", "many"]) (U : Has P w K mg base 2 "_law_number" ["n", "d"] (spNumber K)) : Has P w K mg base 3 "_law_place" ["draws", "many"] (spPlace7 K) := by
  obtain ⟨f, fd, F, hm, hb⟩ := D
  obtain ⟨f_number, fd_number, G_number, m_number, k_number, b_number⟩ := U
  have sc := sc_place
  refine ⟨f, fd, F.ok sc (fun vs H Q E x => ?_) (fun cdv A outer s h0 vs Q E hr hs => ?_), hm, F.kp, hb⟩
  · obtain ⟨b, ds, most, _, hA, _⟩ := x
    exact hA.length
  obtain ⟨b, ds, many, eb, hA, hl, hd, hmany, k⟩ := hs
  refine ⟨_, (pss_cons (ps_set (i := 2) sc.nd rfl (by first | exact Or.inl rfl | exact Or.inr rfl) (pe_op op_mod (pe_callTy cr_int1 (by rfl) T.int (by decide +kernel) (pa_cons (pe_ix (ix_listK (K := K) rfl) (pv 0) pe_int (fun _ _ => rfl)) pa_nil)) pe_int)) (pss_cons (ps_set (i := 3) sc.nd rfl (by first | exact Or.inl rfl | exact Or.inr rfl) (pe_call G_number (hr.mono (by decide)) rfl m_number k_number b_number .nil pass0 (pa_cons (pe_op op_sub (pe_op op_mod (pe_callTy cr_int1 (by rfl) T.int (by decide +kernel) (pa_cons (pe_ix (ix_listK (K := K) rfl) (pv 0) pe_int (fun _ _ => rfl)) pa_nil)) pe_int) pe_int) (pa_cons (pe_ix (ix_listK (K := K) rfl) (pe_lst (pa_cons pe_int (pa_cons pe_int (pa_cons pe_int (pa_cons pe_int pa_nil))))) (pe_op op_mod (pe_callTy cr_int1 (by rfl) T.int (by decide +kernel) (pa_cons (pe_ix (ix_listK (K := K) rfl) (pv 0) pe_int (fun _ _ => rfl)) pa_nil)) pe_int) (fun _ _ => rfl)) pa_nil)))) (Evl.pss_cut (ps_if (pt_cmpR op_eq (pe_op op_mod (pe_op op_fdivW (pe_callTy cr_int1 (by rfl) T.int (by decide +kernel) (pa_cons (pe_ix (ix_listK (K := K) rfl) (pv 0) pe_int (fun _ _ => rfl)) pa_nil)) pe_int) pe_int) pe_int (nomark _)) (pss_one (ps_set (i := 3) sc.nd rfl (by first | exact Or.inl rfl | exact Or.inr rfl) (pe_call G_number (hr.mono (by decide)) rfl m_number k_number b_number .nil pass0 (pa_cons (pe_op op_sub (pe_callTy cr_int1 (by rfl) T.int (by decide +kernel) (pa_cons (pe_ix (ix_listK (K := K) rfl) (pv 0) pe_int (fun _ _ => rfl)) pa_nil)) pe_int) (pa_cons (pe_op op_add pe_int (pe_op op_mod (pe_callTy cr_int1 (by rfl) T.int (by decide +kernel) (pa_cons (pe_ix (ix_listK (K := K) rfl) (pv 0) pe_int (fun _ _ => rfl)) pa_nil)) pe_int)) pa_nil))))) pss_nil) (pss_cons (ps_set (i := 4) sc.nd rfl (by first | exact Or.inl rfl | exact Or.inr rfl) (pe_ix (ix_listK (K := K) rfl) (pe_lst (pa_cons pe_int (pa_cons pe_int (pa_cons pe_int (pa_cons pe_int (pa_cons pe_int (pa_cons pe_int (pa_cons pe_int (pa_cons pe_int (pa_cons pe_int pa_nil)))))))))) (pe_op op_mod (pe_callTy cr_int1 (by rfl) T.int (by decide +kernel) (pa_cons (pe_ix (ix_listK (K := K) rfl) (pv 0) pe_int (fun _ _ => rfl)) pa_nil)) pe_int) (fun _ _ => rfl))) (pss_cons (ps_set (i := 5) sc.nd rfl (by first | exact Or.inl rfl | exact Or.inr rfl) (pe_lc (own := [("k", 7)]) (tt := tYes) rfl sc.nd (pi_range1 (by rfl) T.range (pa_cons (pv 4) pa_nil)) (blkOk_by (N := ["draws", "many", "kind", "gain", "size", "places", "weights", "k"]) (sc := defScope s_place) (by decide +kernel)) (fun _ _ _ _ _ => (pg_name (i := 7) sc.nd rfl (by first | exact Or.inl rfl | exact Or.inr rfl))) (fun _ _ _ _ _ => pts_nil) (fun _ _ _ _ _ => (pe_op op_mod (pe_callTy cr_int1 (by rfl) T.int (by decide +kernel) (pa_cons (pe_ix (ix_listK (K := K) rfl) (pv 0) (pe_op op_add pe_int (pv 7)) (fun _ _ => rfl)) pa_nil)) (pv 1))))) (pss_cons (ps_if (pt_cmpR op_lt (pv 2) pe_int (nomark _)) (pss_cons (ps_set (i := 6) sc.nd rfl (by first | exact Or.inl rfl | exact Or.inr rfl) (pe_lc (own := [("k", 7)]) (tt := tYes) rfl sc.nd (pi_range1 (by rfl) T.range (pa_cons (pv 4) pa_nil)) (blkOk_by (N := ["draws", "many", "kind", "gain", "size", "places", "weights", "k"]) (sc := defScope s_place) (by decide +kernel)) (fun _ _ _ _ _ => (pg_name (i := 7) sc.nd rfl (by first | exact Or.inl rfl | exact Or.inr rfl))) (fun _ _ _ _ _ => pts_nil) (fun _ _ _ _ _ => (pe_op op_add pe_int (pe_op op_mod (pe_callTy cr_int1 (by rfl) T.int (by decide +kernel) (pa_cons (pe_ix (ix_listK (K := K) rfl) (pv 0) (pe_op op_add pe_int (pe_op op_mod (pv 7) pe_int)) (fun _ _ => rfl)) pa_nil)) pe_int))))) (pss_one (ps_ret (pe_tup (pa_cons (pv 3) (pa_cons pe_str (pa_cons (pe_lc (own := [("k", 7)]) (tt := tYes) rfl sc.nd (pi_range1 (by rfl) T.range (pa_cons (pv 4) pa_nil)) (blkOk_by (N := ["draws", "many", "kind", "gain", "size", "places", "weights", "k"]) (sc := defScope s_place) (by decide +kernel)) (fun _ _ _ _ _ => (pg_name (i := 7) sc.nd rfl (by first | exact Or.inl rfl | exact Or.inr rfl))) (fun _ _ _ _ _ => pts_nil) (fun _ _ _ _ _ => (pe_tup (pa_cons (pe_call G_number (hr.mono (by decide)) rfl m_number k_number b_number .nil pass0 (pa_cons (pe_ix (ix_listK (K := K) rfl) (pv 6) (pv 7) (fun _ _ => rfl)) (pa_cons (pe_callB (sum_K (K := K) rfl rfl) (by rfl) T.sum (by decide +kernel) (pa_cons (pv 6) pa_nil)) pa_nil))) (pa_cons (pe_ix (ix_listK (K := K) rfl) (pv 5) (pv 7) (fun _ _ => rfl)) pa_nil))))) pa_nil))))))) pss_nil) (pss_one (ps_ret (pe_tup (pa_cons (pv 3) (pa_cons (pe_ix (ix_listK (K := K) rfl) (pe_lst (pa_cons pe_str (pa_cons pe_str pa_nil))) (pe_op op_mod (pv 2) pe_int) (fun _ _ => rfl)) (pa_cons (pv 5) pa_nil)))))))))))), ?_⟩
  obtain ⟨vD, rfl, hD⟩ : ∃ vD, vs = [vD, .int many] ∧ Dt K b vD (.list (ds.map PyData.int)) := by
    cases hA with
    | cons h1 h2 => exact ⟨_, by rw [h2.i1], h1⟩
  have hix : ∀ {σ : L2.St} {b' : Hp} {tb : TE} {z : Int} (j : Nat), Ex b b' → σ[0]? = some (some vD) → Ev tb σ b' (.int z) → z = (j : Int) → j < 15 → Ev (tCB rInt1 (tCons (tOp (rIxL K) (tVar 0) tb) tNil)) σ b' (.int (ds.getD j 0)) := fun {σ b' tb z} j e s1 y e2 hj =>
    ev_int1 (ev_ixI j (ed_var s1 (hD.up e)) y e2 (by omega))
  have hnum : ∀ {σ : L2.St} {b' : Hp} {ta tb : TE} {n d : Int}, Ev ta σ b' (.int n) → Ev tb σ b' (.int d) → n.natAbs < 1000 → d ≠ 0 → d.natAbs < 1000 → ED K (tCall (spNumber K) [] E0 (tCons ta (tCons tb tNil))) σ b' (nD (num n d)) := fun {σ b' ta tb n d} x y h1 h2 h3 =>
    ed_call (eda_cons (ed_int x) (eda_cons (ed_int y) eda_nil)) rfl ⟨n, d, rfl, h2, Nat.lt_trans h1 (by decide +kernel), Nat.lt_trans h3 (by decide +kernel)⟩ fun e he => he n d rfl
  have d0 := ds_get (j := 0) hd
  have d1 := ds_get (j := 1) hd
  have d2 := ds_get (j := 2) hd
  have d14 := ds_get (j := 14) hd
  refine r_sc (ev_op (hix 0 (Ex.refl _) rfl ev_c rfl (by decide)) ev_c (rv_I (by decide))) eb fun h1 g1 => ?_
  obtain ⟨x1, hx1, hat1⟩ := at_pick [1, 1, 2, 3] (z := ds.getD 14 0 % 4) (by omega) (by show _ < (4 : Int); omega)
  have hx1' : 1 ≤ x1 ∧ x1 ≤ 3 := by
    simp only [List.mem_cons, List.not_mem_nil, or_false] at hx1
    omega
  refine r_set (K := K) (hnum (ev_op (ev_op (hix 1 (Ex.refl _) rfl ev_c rfl (by decide)) ev_c (rv_I (by decide))) ev_c rv_I0) (ev_int (ed_ixL (K := K) (ds := [1, 1, 2, 3].map PyData.int) (en_lst (eda_cons (ed_int ev_c) (eda_cons (ed_int ev_c) (eda_cons (ed_int ev_c) (eda_cons (ed_int ev_c) eda_nil)))) (by decide)).ed (ev_op (hix 14 (Ex.refl _) rfl ev_c rfl (by decide)) ev_c (rv_I (by decide))) hat1)) (by omega) (by omega) (by omega)) g1.gi fun vg b2 h2 g2 hg => ?_
  have hS : SmallN (num (ds.getD 1 0 % 15 - 5) x1) := num_small (by omega) (by omega) (by omega)
  have hsx : (num (ds.getD 1 0 % 15 - 5) x1).2.natAbs ∣ 420 := by
    have h7 : (num (ds.getD 1 0 % 15 - 5) x1).2.natAbs ∣ x1.natAbs := num_dvd (by omega)
    have h8 : x1.natAbs ∣ 420 := by
      have : x1 = 1 ∨ x1 = 2 ∨ x1 = 3 := by omega
      rcases this with z | z | z <;> rw [z] <;> decide
    exact Nat.dvd_trans h7 h8
  generalize num (ds.getD 1 0 % 15 - 5) x1 = gn at hg hS hsx
  have G2 := g1.trans g2
  refine ⟨fun σ' h' => ∃ (gn : Int × Int) (vg : V) (b' : Hp), σ' = [some vD, some (.int many), some (.int (ds.getD 0 0 % 7)), some vg, none, none, none, none] ∧ Gr b h0 b' h' ∧ (SmallN gn ∧ gn.2.natAbs ∣ 420) ∧ Dt K b' vg (nD gn), ?_, ?_⟩
  · refine r_if1 (b := b2) (c := decide (V.int (ds.getD 14 0 / 4 % 8) = V.int 7)) (et_test (ev_op (ev_op (ev_op (hix 14 G2.gb rfl ev_c rfl (by decide)) ev_c (rv_I ⟨by decide, by decide⟩)) ev_c (rv_I (by decide))) ev_c (rv_eq rfl))) G2.gi (fun _ h3 g3 => ?_) (fun _ h3 g3 => ?_)
    · have hS2 : SmallN (num (ds.getD 1 0 - 500) (1 + ds.getD 14 0 % 7)) := num_small (by omega) (by omega) (by omega)
      refine r_set1 (K := K) (hnum (ev_op (hix 1 G2.gb rfl ev_c rfl (by decide)) ev_c rv_I0) (ev_op ev_c (ev_op (hix 14 G2.gb rfl ev_c rfl (by decide)) ev_c (rv_I (by decide))) rv_I0) (by omega) (by omega) (by omega)) g3.gi fun v b' h' g4 hv => ?_
      have hs2 : (num (ds.getD 1 0 - 500) (1 + ds.getD 14 0 % 7)).2.natAbs ∣ 420 := by
        have h7 : (num (ds.getD 1 0 - 500) (1 + ds.getD 14 0 % 7)).2.natAbs ∣ (1 + ds.getD 14 0 % 7).natAbs := num_dvd (by omega)
        have h8 : (1 + ds.getD 14 0 % 7).natAbs ∣ 420 := by
          have : 1 + ds.getD 14 0 % 7 = 1 ∨ 1 + ds.getD 14 0 % 7 = 2 ∨ 1 + ds.getD 14 0 % 7 = 3 ∨ 1 + ds.getD 14 0 % 7 = 4 ∨ 1 + ds.getD 14 0 % 7 = 5 ∨ 1 + ds.getD 14 0 % 7 = 6 ∨ 1 + ds.getD 14 0 % 7 = 7 := by omega
          rcases this with z | z | z | z | z | z | z <;> rw [z] <;> decide
        exact Nat.dvd_trans h7 h8
      exact ⟨_, v, b', rfl, (G2.trans g3).trans g4, ⟨hS2, hs2⟩, hv⟩
    · exact ⟨_, vg, b2, rfl, G2.trans g3, ⟨hS, hsx⟩, hg⟩
  clear hsx hg hS G2 g2 gn
  rintro σ' h2 ⟨gn, vg, b2, rfl, G2, ⟨hS, hsx⟩, hg⟩
  obtain ⟨x2, hx2, hat2⟩ := at_pick [1, 2, 3, 1, 2, 3, 4, 5, 6] (z := ds.getD 2 0 % 9) (by omega) (by show _ < (9 : Int); omega)
  have hx2' : 1 ≤ x2 ∧ x2 ≤ 6 := by
    simp only [List.mem_cons, List.not_mem_nil, or_false] at hx2
    omega
  refine r_sc (ev_int (ed_ixL (K := K) (ds := [1, 2, 3, 1, 2, 3, 4, 5, 6].map PyData.int) (en_lst (eda_cons (ed_int ev_c) (eda_cons (ed_int ev_c) (eda_cons (ed_int ev_c) (eda_cons (ed_int ev_c) (eda_cons (ed_int ev_c) (eda_cons (ed_int ev_c) (eda_cons (ed_int ev_c) (eda_cons (ed_int ev_c) (eda_cons (ed_int ev_c) eda_nil))))))))) (by decide)).ed (ev_op (hix 2 G2.gb rfl ev_c rfl (by decide)) ev_c (rv_I (by decide))) hat2)) G2.gi fun h3 g3 => ?_
  have G3 := G2.trans g3
  refine r_set (K := K) (EN.ed (en_lcR (ea_cons (ev_var rfl) ea_nil) (by omega) (fun _ => true) (fun i => .int (ds.getD (3 + i) 0 % many)) (fun x => rfl) fun i b4 e4 hi => ⟨et_yes, fun _ => ed_int (ev_op (hix (3 + i) (G3.gb.trans e4) rfl (ev_op ev_c (ev_var rfl) rv_I0) (by omega) (by omega)) (ev_var rfl) (rv_I (by omega)))⟩)) G3.gi fun vp b4 h4 g4 hp => ?_
  have G4 := G3.trans g4
  rw [givenD_all, map_range_ints] at hp
  generalize hps : (List.range x2.toNat).map (fun i => ds.getD (3 + i) 0 % many) = ps at hp
  have hpl : ps.length = x2.toNat := by rw [← hps]; simp
  have hpm : ∀ t ∈ ps, 0 ≤ t ∧ t < many := fun t ht => by
    rw [← hps] at ht
    obtain ⟨i, _, rfl⟩ := List.mem_map.mp ht
    exact ⟨Int.emod_nonneg _ (by omega), Int.emod_lt_of_pos _ (by omega)⟩
  refine r_if (b := b4) (c := decide (ds.getD 0 0 % 7 < 3)) (et_test (ev_op (ev_var rfl) ev_c rv_I0)) G4.gi (fun hc h5 g5 => ?_) (fun hc h5 g5 => ?_)
  · have G5 := G4.trans g5
    refine r_set (K := K) (EN.ed (en_lcR (ea_cons (ev_var rfl) ea_nil) (by omega) (fun _ => true) (fun i => .int (1 + ds.getD (9 + i % 5) 0 % 5)) (fun x => rfl) fun i b6 e6 hi => ⟨et_yes, fun _ => ed_int (ev_op ev_c (ev_op (hix (9 + i % 5) (G5.gb.trans e6) rfl (ev_op ev_c (ev_op (ev_var rfl) ev_c (rv_I (by decide))) rv_I0) (by omega) (by omega)) ev_c (rv_I (by decide))) rv_I0)⟩)) G5.gi fun vw b6 h6 g6 hw => ?_
    have G6 := G5.trans g6
    rw [givenD_all, map_range_ints] at hw
    generalize hws : (List.range x2.toNat).map (fun i => 1 + ds.getD (9 + i % 5) 0 % 5) = ws at hw
    have hwl : ws.length = x2.toNat := by rw [← hws]; simp
    have hwm : ∀ t ∈ ws, 1 ≤ t ∧ t ≤ 5 := fun t ht => by
      rw [← hws] at ht
      obtain ⟨i, _, rfl⟩ := List.mem_map.mp ht
      omega
    have hsum := sum_small hwm
    have hsum1 : 1 ≤ ws.sum := by
      have := sum_pos hwm
      omega
    have hgw : ∀ i, i < ws.length → 1 ≤ ws.getD i 0 ∧ ws.getD i 0 ≤ 5 := fun i hi => by
      rw [List.getD_eq_getElem?_getD, List.getElem?_eq_getElem hi]
      exact hwm _ (List.getElem_mem hi)
    let bs : List ((Int × Int) × Int) := (List.range x2.toNat).map fun i => (num (ws.getD i 0) ws.sum, ps.getD i 0)
    have hp6 := hp.up g6.gb
    have hbs : givenD x2.toNat (fun _ => true) (fun i => brD (num (ws.getD i 0) ws.sum, ps.getD i 0)) = bs.map brD := by
      rw [givenD_all, List.map_map]
      rfl
    refine r_ret (K := K) (d := (Pl.draw gn bs).D) (ed_tup (eda_cons (ed_var rfl ((hg.up g4.gb).up g6.gb)) (eda_cons (ed_str ev_c) (eda_cons (d := .list (bs.map brD)) (hbs ▸ EN.ed (en_lcR (n := x2) (ea_cons (ev_var rfl) ea_nil) (by omega) (fun _ => true) (fun i => brD (num (ws.getD i 0) ws.sum, ps.getD i 0)) (fun x => rfl) fun i b7 e7 hi => ⟨et_yes, fun _ => ?_⟩)) eda_nil))) (by show 3 ≤ 100000; decide)) G6.gi fun v b' h7 g7 hv => ?_
    · have hw1 := hgw i (by omega)
      refine ed_tup (eda_cons (hnum (ev_ixI i (ed_var rfl (hw.up e7)) (ev_var rfl) rfl (by omega)) (ev_sum (ed_var rfl (hw.up e7))) (by omega) (by omega) (by omega)) (eda_cons (ed_int (ev_ixI i (ed_var rfl (hp6.up e7)) (ev_var rfl) rfl (by omega))) eda_nil)) (by show 2 ≤ 100000; decide)
    · refine k v b' h7 (Pl.draw gn bs) (G6.trans g7) ⟨⟨hS, ?_, ?_, ?_, ws, ?_, hwm, ?_⟩, hsx⟩ hv
      · show 1 ≤ bs.length
        simp only [bs, List.length_map, List.length_range]
        omega
      · show bs.length ≤ 6
        simp only [bs, List.length_map, List.length_range]
        omega
      · intro p hpb
        obtain ⟨i, hi, rfl⟩ := List.mem_map.mp hpb
        have hi' := List.mem_range.mp hi
        show 0 ≤ ps.getD i 0 ∧ ps.getD i 0 < many
        rw [List.getD_eq_getElem?_getD, List.getElem?_eq_getElem (by omega)]
        exact hpm _ (List.getElem_mem _)
      · simp only [bs, List.length_map, List.length_range]
        exact hwl
      · show bs.map (·.1) = _
        simp only [bs, List.map_map]
        rw [← hwl]
        exact map_getD ws (fun w => num w ws.sum)
  · have G5 := G4.trans g5
    have hk : ∃ o : Bool, L2.atI [PyData.str "ours", PyData.str "theirs"] (ds.getD 0 0 % 7 % 2) = some (.str (if o then "ours" else "theirs")) := by
      have h01 : ds.getD 0 0 % 7 % 2 = 0 ∨ ds.getD 0 0 % 7 % 2 = 1 := by omega
      rcases h01 with z | z
      · exact ⟨true, by rw [z]; rfl⟩
      · exact ⟨false, by rw [z]; rfl⟩
    obtain ⟨o, ho⟩ := hk
    refine r_ret (K := K) (d := (Pl.side gn o ps).D) (ed_tup (eda_cons (ed_var rfl (hg.up g4.gb)) (eda_cons (ed_ixL (ds := [PyData.str "ours", PyData.str "theirs"]) (en_lst (eda_cons (ed_str ev_c) (eda_cons (ed_str ev_c) eda_nil)) (by decide)).ed (ev_op (ev_var rfl) ev_c (rv_I (by decide))) ho) (eda_cons (ed_var rfl hp) eda_nil))) (by show 3 ≤ 100000; decide)) G5.gi fun v b' h7 g7 hv => ?_
    exact k v b' h7 (Pl.side gn o ps) (G5.trans g7) ⟨⟨hS, by omega, by omega, hpm⟩, hsx⟩ hv

abbrev s_game : Stmt := top 11
theorem sc_game : FnScope ["draws", "most", "many", "k"] ["draws", "most"] (defScope s_game) := ⟨rfl, rfl, rfl, by decide +kernel, rfl, by decide +kernel, by decide +kernel⟩
theorem has_game7 (T : Bt mg) (D : IsDef K mg "_law_game" s_game ["draws", "most"]) (U : Has P w K mg base 3 "_law_place" ["draws", "many"] (spPlace7 K)) : Has P w K mg base 4 "_law_game" ["draws", "most"] (spGame7 K) := by
  obtain ⟨f, fd, F, hm, hb⟩ := D
  obtain ⟨f_place, fd_place, G_place, m_place, k_place, b_place⟩ := U
  have sc := sc_game
  refine ⟨f, fd, F.ok sc (fun vs H Q E x => ?_) (fun cdv A outer s h0 vs Q E hr hs => ?_), hm, F.kp, hb⟩
  · obtain ⟨b, ds, most, _, hA, _⟩ := x
    exact hA.length
  obtain ⟨b, ds, most, eb, hA, hm1, hm12, hl, hd, k⟩ := hs
  refine ⟨_, (pss_cons (ps_set (i := 2) sc.nd rfl (by first | exact Or.inl rfl | exact Or.inr rfl) (pe_op op_add pe_int (pe_op op_mod (pe_callTy cr_int1 (by rfl) T.int (by decide +kernel) (pa_cons (pe_ix (ix_listK (K := K) rfl) (pv 0) pe_int (fun _ _ => rfl)) pa_nil)) (pv 1)))) (pss_one (ps_ret (pe_lc (own := [("k", 3)]) (tt := tYes) rfl sc.nd (pi_range1 (by rfl) T.range (pa_cons (pv 2) pa_nil)) (blkOk_by (N := ["draws", "most", "many", "k"]) (sc := defScope s_game) (by decide +kernel)) (fun _ _ _ _ _ => (pg_name (i := 3) sc.nd rfl (by first | exact Or.inl rfl | exact Or.inr rfl))) (fun _ _ _ _ _ => pts_nil) (fun _ _ _ _ _ => (pe_call G_place (hr.mono (by decide)) rfl m_place k_place b_place .nil pass0 (pa_cons (pe_slice (sl_listK (K := K) rfl) (pv 0) (po_some (pe_op op_add pe_int (pe_op op_mul pe_int (pv 3)))) (po_some (pe_op op_add pe_int (pe_op op_mul pe_int (pv 3))))) (pa_cons (pv 2) pa_nil)))))))), ?_⟩
  obtain ⟨vD, rfl, hD⟩ : ∃ vD, vs = [vD, .int most] ∧ Dt K b vD (.list (ds.map PyData.int)) := by
    cases hA with
    | cons h1 h2 => exact ⟨_, by rw [h2.i1], h1⟩
  have hmany := Int.emod_nonneg (ds.getD 0 0) (b := most) (by omega)
  have hmany2 := Int.emod_lt_of_pos (ds.getD 0 0) (b := most) (by omega)
  refine r_sc (ev_op ev_c (ev_op (ev_int1 (ev_ixI 0 (ed_var rfl hD) ev_c rfl (by omega))) (ev_var rfl) (rv_I (by omega))) rv_I0) eb fun h1 g1 => ?_
  generalize hM : 1 + ds.getD 0 0 % most = many
  refine r_retX (K := K) (en_lcRX (n := many) (ea_cons (ev_var rfl) ea_nil) (by omega) (fun i e => ∃ p, (WfP many p ∧ Svn p) ∧ e = p.D) (fun x => rfl) fun i b2 e2 hi => ?_) g1.gi fun v b' h2 d g2 hP hv => ?_
  · intro h e Q q
    refine eda_cons (EN.ed (en_sl (K := K) (ed_var rfl (hD.up e2)) (eo_some (i := 1 + 15 * (i : Int)) (ev_op ev_c (ev_op ev_c (ev_var rfl) (rv_I (.inl ⟨by decide, by decide⟩))) rv_I0)) (eo_some (i := 16 + 15 * (i : Int)) (ev_op ev_c (ev_op ev_c (ev_var rfl) (rv_I (.inl ⟨by decide, by decide⟩))) rv_I0)))) (eda_cons (ed_int (ev_var rfl)) eda_nil) h e _ fun vs b3 h3 g3 hvs => ?_
    obtain ⟨es, hes, hel, hed⟩ := cut_ints (ds := ds) (lo := 1 + 15 * i) (n := 15) (by omega) hd
    refine ⟨b3, es, many, g3.gi, ?_, hel, hed, by omega, fun v b4 h4 p g4 hp hv => q v b4 h4 p.D (g3.trans g4) ⟨p, hp, rfl⟩ hv⟩
    rw [List.append_nil]
    have e1 : (1 + 15 * (i : Int)) = ((1 + 15 * i : Nat) : Int) := by omega
    have e2 : (16 + 15 * (i : Int)) = ((1 + 15 * i + 15 : Nat) : Int) := by omega
    rw [e1, e2, hes] at hvs
    exact hvs
  · obtain ⟨acc, rfl, hal, hR⟩ := hP
    obtain ⟨G, rfl, hG⟩ := all_some (acc := acc) (W := fun p => WfP many p ∧ Svn p) (D := Pl.D) fun e he => by
      obtain ⟨j, hj, rfl⟩ := List.mem_iff_getElem.mp he
      exact hR j _ (List.getElem?_eq_getElem hj)
    rw [List.length_map] at hal
    exact k v b' h2 G (g1.trans g2) ⟨⟨by omega, by omega, fun p hp => by rw [show ((G.length : Nat) : Int) = many by omega]; exact (hG p hp).1⟩, fun p hp => (hG p hp).2⟩ (by omega) hv

abbrev s_same : Stmt := top 13
theorem sc_same : FnScope ["actual", "due", "k"] ["actual", "due"] (defScope s_same) := ⟨rfl, rfl, rfl, by decide +kernel, rfl, by decide +kernel, by decide +kernel⟩
theorem has_same (T : Bt mg) (D : IsDef K mg "_law_same" s_same ["actual", "due"]) : ∀ n, Has P w K mg base n "_law_same" ["actual", "due"] (spSame K n)
  | 0 => by
    obtain ⟨f, fd, F, hm, hb⟩ := D
    exact ⟨f, fd, fn_never fun vs H Q E x => (by obtain ⟨b, d, _, _, hd, _⟩ := x; exact hd), hm, F.kp, hb⟩
  | n + 1 => by
    obtain ⟨f_same, fd_same, G_same, m_same, k_same, b_same⟩ := has_same T D n
    obtain ⟨f, fd, F, hm, hb⟩ := D
    have sc := sc_same
    refine ⟨f, fd, F.ok sc (fun vs H Q E x => ?_) (fun cdv A outer s h0 vs Q E hr hs => ?_), hm, F.kp, hb⟩
    · obtain ⟨b, d, _, hA, _⟩ := x
      exact hA.length
    obtain ⟨b, d, eb, hA, hd, k⟩ := hs
    obtain ⟨va, vb, rfl, ha, hb2⟩ : ∃ va vb, vs = [va, vb] ∧ Dt K b va d ∧ Dt K b vb d := by
      cases hA with
      | cons h1 h2 =>
        cases h2 with
        | cons h3 h4 =>
          cases h4
          exact ⟨_, _, rfl, h1, h3⟩
    have vA : ∀ {σ : L2.St} {b' : Hp}, σ[0]? = some (some va) → Ex b b' → ED K (tVar 0) σ b' d := fun s e => ed_var s (ha.up e)
    have vB : ∀ {σ : L2.St} {b' : Hp}, σ[1]? = some (some vb) → Ex b b' → ED K (tVar 1) σ b' d := fun s e => ed_var s (hb2.up e)
    have kk : ∀ {tz : TE} {σ : L2.St} {h : Hp}, Ex h0 h → Ev tz σ b (.bl true) → tRet tz { nx := fun _ H' => Q .non H', rt := Q } σ h := fun {tz σ h} e x => Evl.s_ret (H := h) (Ev.mono (eb.trans e) x) fun h1 e1 => k h1 (e.trans e1)
    cases d with
    | dict ds => exact absurd hd (by intro z; exact z)
    | none =>
      refine ⟨_, (pss_cons (ps_if (PW.pt (pw_or (pt_cmpR op_isN1 (pv 1) pe_non (nomark _)) (pw_or1 (pt_cmpR op_isN1 (pv 0) pe_non (nomark _))))) (pss_one (ps_ret (pe_and (pe_cmpR op_isN1 (pv 1) pe_non (nomark _)) (pe_one (pe_cmpR op_isN1 (pv 0) pe_non (nomark _)))))) pss_nil) (pss_cons (ps_if (PW.pt (pw_or (pt_val (pe_callB (isi_K (K := K) rfl) (by rfl) T.isinstance (by decide +kernel) (pa_cons (pv 1) (pa_cons (pe_bltn (v := .ty "list") (by rfl) T.list (by decide +kernel) rfl) pa_nil)))) (pw_or1 (pt_val (pe_callB (isi_K (K := K) rfl) (by rfl) T.isinstance (by decide +kernel) (pa_cons (pv 1) (pa_cons (pe_bltn (v := .ty "tuple") (by rfl) T.tuple (by decide +kernel) rfl) pa_nil))))))) (pss_cons (ps_if (PW.pt (pw_or (pt_cmpR op_ne (pe_callB (isi_K (K := K) rfl) (by rfl) T.isinstance (by decide +kernel) (pa_cons (pv 1) (pa_cons (pe_bltn (v := .ty "list") (by rfl) T.list (by decide +kernel) rfl) pa_nil))) (pe_callB (isi_K (K := K) rfl) (by rfl) T.isinstance (by decide +kernel) (pa_cons (pv 0) (pa_cons (pe_bltn (v := .ty "list") (by rfl) T.list (by decide +kernel) rfl) pa_nil))) (nomark _)) (pw_or1 (pt_cmpR op_ne (pe_callB (isi_K (K := K) rfl) (by rfl) T.isinstance (by decide +kernel) (pa_cons (pv 1) (pa_cons (pe_bltn (v := .ty "tuple") (by rfl) T.tuple (by decide +kernel) rfl) pa_nil))) (pe_callB (isi_K (K := K) rfl) (by rfl) T.isinstance (by decide +kernel) (pa_cons (pv 0) (pa_cons (pe_bltn (v := .ty "tuple") (by rfl) T.tuple (by decide +kernel) rfl) pa_nil))) (nomark _))))) (pss_one (ps_ret pe_bl)) pss_nil) (pss_cons (ps_if (pt_cmpR op_ne (pe_callB (len_K (K := K) rfl) (by rfl) T.len PySem.boot_len (pa_cons (pv 0) pa_nil)) (pe_callB (len_K (K := K) rfl) (by rfl) T.len PySem.boot_len (pa_cons (pv 1) pa_nil)) (nomark _)) (pss_one (ps_ret pe_bl)) pss_nil) (pss_one (ps_ret (pe_callB (all_K (K := K) rfl rfl) (by rfl) T.all (by decide +kernel) (pa_cons (pe_lc (own := [("k", 2)]) (tt := tYes) rfl sc.nd (pi_range1 (by rfl) T.range (pa_cons (pe_callB (len_K (K := K) rfl) (by rfl) T.len PySem.boot_len (pa_cons (pv 1) pa_nil)) pa_nil)) (blkOk_by (N := ["actual", "due", "k"]) (sc := defScope s_same) (by decide +kernel)) (fun _ _ _ _ _ => (pg_name (i := 2) sc.nd rfl (by first | exact Or.inl rfl | exact Or.inr rfl))) (fun _ _ _ _ _ => pts_nil) (fun _ _ _ _ _ => (pe_call G_same hr rfl m_same k_same b_same .nil pass0 (pa_cons (pe_ix (ix_listK (K := K) rfl) (pv 0) (pv 2) (fun _ _ => rfl)) (pa_cons (pe_ix (ix_listK (K := K) rfl) (pv 1) (pv 2) (fun _ _ => rfl)) pa_nil))))) pa_nil)))))) pss_nil) (pss_cons (ps_if (PW.pt (pw_or (pt_val (pe_callB (isi_K (K := K) rfl) (by rfl) T.isinstance (by decide +kernel) (pa_cons (pv 1) (pa_cons (pe_bltn (v := .ty "bool") (by rfl) T.bool (by decide +kernel) rfl) pa_nil)))) (pw_or1 (pt_val (pe_callB (isi_K (K := K) rfl) (by rfl) T.isinstance (by decide +kernel) (pa_cons (pv 0) (pa_cons (pe_bltn (v := .ty "bool") (by rfl) T.bool (by decide +kernel) rfl) pa_nil))))))) (pss_one (ps_ret (pe_and (pe_callB (isi_K (K := K) rfl) (by rfl) T.isinstance (by decide +kernel) (pa_cons (pv 1) (pa_cons (pe_bltn (v := .ty "bool") (by rfl) T.bool (by decide +kernel) rfl) pa_nil))) (pe_and (pe_callB (isi_K (K := K) rfl) (by rfl) T.isinstance (by decide +kernel) (pa_cons (pv 0) (pa_cons (pe_bltn (v := .ty "bool") (by rfl) T.bool (by decide +kernel) rfl) pa_nil))) (pe_one (pe_cmpR op_eq (pv 0) (pv 1) (nomark _))))))) pss_nil) (pss_cons (ps_if (pt_val (pe_callB (isi_K (K := K) rfl) (by rfl) T.isinstance (by decide +kernel) (pa_cons (pv 1) (pa_cons (pe_bltn (v := .ty "int") (by rfl) T.int (by decide +kernel) rfl) pa_nil)))) (pss_one (ps_ret (pe_and (pe_callB (isi_K (K := K) rfl) (by rfl) T.isinstance (by decide +kernel) (pa_cons (pv 0) (pa_cons (pe_bltn (v := .ty "int") (by rfl) T.int (by decide +kernel) rfl) pa_nil))) (pe_one (pe_cmpR op_eq (pv 0) (pv 1) (nomark _)))))) pss_nil) (pss_one (ps_ret (pe_and (pe_callB (isi_K (K := K) rfl) (by rfl) T.isinstance (by decide +kernel) (pa_cons (pv 1) (pa_cons (pe_bltn (v := .ty "str") (by rfl) T.str (by decide +kernel) rfl) pa_nil))) (pe_and (pe_callB (isi_K (K := K) rfl) (by rfl) T.isinstance (by decide +kernel) (pa_cons (pv 0) (pa_cons (pe_bltn (v := .ty "str") (by rfl) T.str (by decide +kernel) rfl) pa_nil))) (pe_one (pe_cmpR op_eq (pv 0) (pv 1) (nomark _))))))))))), ?_⟩
      refine r_if (b := b) (c := true) (et_is (et_or (et_test (ev_isN (vB rfl (Ex.refl _)) rfl)) fun z => et_test (ev_isN (vA rfl (Ex.refl _)) rfl)) rfl) eb (fun _ h1 g1 => ?_) (fun z => by cases z)
      exact kk g1.gh (ev_andV (b := true) (ev_isN (vB rfl (Ex.refl _)) rfl) fun _ => ev_isN (vA rfl (Ex.refl _)) rfl)
    | list ds =>
      refine ⟨_, (pss_cons (ps_if (PW.pt (pw_or (pt_cmpR op_isN1 (pv 1) pe_non (nomark _)) (pw_or1 (pt_cmpR op_isN1 (pv 0) pe_non (nomark _))))) (pss_one (ps_ret (pe_and (pe_cmpR op_isN1 (pv 1) pe_non (nomark _)) (pe_one (pe_cmpR op_isN1 (pv 0) pe_non (nomark _)))))) pss_nil) (pss_cons (ps_if (PW.pt (pw_or (pt_val (pe_callB (isi_K (K := K) rfl) (by rfl) T.isinstance (by decide +kernel) (pa_cons (pv 1) (pa_cons (pe_bltn (v := .ty "list") (by rfl) T.list (by decide +kernel) rfl) pa_nil)))) (pw_or1 (pt_val (pe_callB (isi_K (K := K) rfl) (by rfl) T.isinstance (by decide +kernel) (pa_cons (pv 1) (pa_cons (pe_bltn (v := .ty "tuple") (by rfl) T.tuple (by decide +kernel) rfl) pa_nil))))))) (pss_cons (ps_if (PW.pt (pw_or (pt_cmpR op_ne (pe_callB (isi_K (K := K) rfl) (by rfl) T.isinstance (by decide +kernel) (pa_cons (pv 1) (pa_cons (pe_bltn (v := .ty "list") (by rfl) T.list (by decide +kernel) rfl) pa_nil))) (pe_callB (isi_K (K := K) rfl) (by rfl) T.isinstance (by decide +kernel) (pa_cons (pv 0) (pa_cons (pe_bltn (v := .ty "list") (by rfl) T.list (by decide +kernel) rfl) pa_nil))) (nomark _)) (pw_or1 (pt_cmpR op_ne (pe_callB (isi_K (K := K) rfl) (by rfl) T.isinstance (by decide +kernel) (pa_cons (pv 1) (pa_cons (pe_bltn (v := .ty "tuple") (by rfl) T.tuple (by decide +kernel) rfl) pa_nil))) (pe_callB (isi_K (K := K) rfl) (by rfl) T.isinstance (by decide +kernel) (pa_cons (pv 0) (pa_cons (pe_bltn (v := .ty "tuple") (by rfl) T.tuple (by decide +kernel) rfl) pa_nil))) (nomark _))))) (pss_one (ps_ret pe_bl)) pss_nil) (pss_cons (ps_if (pt_cmpR op_ne (pe_callB (len_K (K := K) rfl) (by rfl) T.len PySem.boot_len (pa_cons (pv 0) pa_nil)) (pe_callB (len_K (K := K) rfl) (by rfl) T.len PySem.boot_len (pa_cons (pv 1) pa_nil)) (nomark _)) (pss_one (ps_ret pe_bl)) pss_nil) (pss_one (ps_ret (pe_callB (all_K (K := K) rfl rfl) (by rfl) T.all (by decide +kernel) (pa_cons (pe_lc (own := [("k", 2)]) (tt := tYes) rfl sc.nd (pi_range1 (by rfl) T.range (pa_cons (pe_callB (len_K (K := K) rfl) (by rfl) T.len PySem.boot_len (pa_cons (pv 1) pa_nil)) pa_nil)) (blkOk_by (N := ["actual", "due", "k"]) (sc := defScope s_same) (by decide +kernel)) (fun _ _ _ _ _ => (pg_name (i := 2) sc.nd rfl (by first | exact Or.inl rfl | exact Or.inr rfl))) (fun _ _ _ _ _ => pts_nil) (fun _ _ _ _ _ => (pe_call G_same hr rfl m_same k_same b_same .nil pass0 (pa_cons (pe_ix (ix_listK (K := K) rfl) (pv 0) (pv 2) (fun _ _ => rfl)) (pa_cons (pe_ix (ix_listK (K := K) rfl) (pv 1) (pv 2) (fun _ _ => rfl)) pa_nil))))) pa_nil)))))) pss_nil) (pss_cons (ps_if (PW.pt (pw_or (pt_val (pe_callB (isi_K (K := K) rfl) (by rfl) T.isinstance (by decide +kernel) (pa_cons (pv 1) (pa_cons (pe_bltn (v := .ty "bool") (by rfl) T.bool (by decide +kernel) rfl) pa_nil)))) (pw_or1 (pt_val (pe_callB (isi_K (K := K) rfl) (by rfl) T.isinstance (by decide +kernel) (pa_cons (pv 0) (pa_cons (pe_bltn (v := .ty "bool") (by rfl) T.bool (by decide +kernel) rfl) pa_nil))))))) (pss_one (ps_ret (pe_and (pe_callB (isi_K (K := K) rfl) (by rfl) T.isinstance (by decide +kernel) (pa_cons (pv 1) (pa_cons (pe_bltn (v := .ty "bool") (by rfl) T.bool (by decide +kernel) rfl) pa_nil))) (pe_and (pe_callB (isi_K (K := K) rfl) (by rfl) T.isinstance (by decide +kernel) (pa_cons (pv 0) (pa_cons (pe_bltn (v := .ty "bool") (by rfl) T.bool (by decide +kernel) rfl) pa_nil))) (pe_one (pe_cmpR op_eq (pv 0) (pv 1) (nomark _))))))) pss_nil) (pss_cons (ps_if (pt_val (pe_callB (isi_K (K := K) rfl) (by rfl) T.isinstance (by decide +kernel) (pa_cons (pv 1) (pa_cons (pe_bltn (v := .ty "int") (by rfl) T.int (by decide +kernel) rfl) pa_nil)))) (pss_one (ps_ret (pe_and (pe_callB (isi_K (K := K) rfl) (by rfl) T.isinstance (by decide +kernel) (pa_cons (pv 0) (pa_cons (pe_bltn (v := .ty "int") (by rfl) T.int (by decide +kernel) rfl) pa_nil))) (pe_one (pe_cmpR op_eq (pv 0) (pv 1) (nomark _)))))) pss_nil) (pss_one (ps_ret (pe_and (pe_callB (isi_K (K := K) rfl) (by rfl) T.isinstance (by decide +kernel) (pa_cons (pv 1) (pa_cons (pe_bltn (v := .ty "str") (by rfl) T.str (by decide +kernel) rfl) pa_nil))) (pe_and (pe_callB (isi_K (K := K) rfl) (by rfl) T.isinstance (by decide +kernel) (pa_cons (pv 0) (pa_cons (pe_bltn (v := .ty "str") (by rfl) T.str (by decide +kernel) rfl) pa_nil))) (pe_one (pe_cmpR op_eq (pv 0) (pv 1) (nomark _))))))))))), ?_⟩
      refine r_if (b := b) (c := false) (et_is (et_or (et_test (ev_isN (vB rfl (Ex.refl _)) rfl)) fun z => et_test (ev_isN (vA rfl (Ex.refl _)) rfl)) rfl) eb (fun z => by cases z) (fun _ h1 g1 => ?_)
      refine r_if (b := b) (c := true) (et_is (et_or (et_B (ev_isiD (r := true) (vB rfl (Ex.refl _)) (by show kitB "list" "list" = _; decide +kernel))) fun z => et_B (ev_isiD (r := false) (vB rfl (Ex.refl _)) (by show kitB "list" "tuple" = _; decide +kernel))) rfl) g1.gi (fun _ h2 g2 => ?_) (fun z => by cases z)
      refine r_if (b := b) (c := false) (et_is (et_or (et_test (ev_neS (v := .bl true) (ev_isiD (vB rfl (Ex.refl _)) (by show kitB "list" "list" = _; decide +kernel)) (ev_isiD (vA rfl (Ex.refl _)) (by show kitB "list" "list" = _; decide +kernel)) rfl)) fun z => et_test (ev_neS (v := .bl false) (ev_isiD (vB rfl (Ex.refl _)) (by show kitB "list" "tuple" = _; decide +kernel)) (ev_isiD (vA rfl (Ex.refl _)) (by show kitB "list" "tuple" = _; decide +kernel)) rfl)) rfl) (g1.trans g2).gi (fun z => by cases z) (fun _ h3 g3 => ?_)
      refine r_if (b := b) (c := false) (et_test (ev_neS (v := .int (ds.length : Int)) (ev_lenL (vA rfl (Ex.refl _))) (ev_lenL (vB rfl (Ex.refl _))) rfl)) ((g1.trans g2).trans g3).gi (fun z => by cases z) (fun _ h4 g4 => ?_)
      have e := ev_all (K := K) (bs := (List.range ds.length).map fun _ => true) (te := tLc (iRng1 (tCons (tCB (rLenS K) (tCons (tVar 1) tNil)) tNil)) (gName 2) tYes (tCall (spSame K n) [] E0 (tCons (tOp (rIxL K) (tVar 0) (tVar 2)) (tCons (tOp (rIxL K) (tVar 1) (tVar 2)) tNil))) [2]) (σ := [some va, some vb, none]) (b := b) ?_
      · rw [all_true] at e
        exact kk (((g1.trans g2).trans g3).trans g4).gh e
      · rw [← givenD_true]
        refine EN.ed ?_
        refine en_lcR (n := (ds.length : Int)) (ea_cons (ev_lenL (vB rfl (Ex.refl _))) ea_nil) ⟨by omega, by have := hd.1; omega⟩ (fun _ => true) (fun _ => .bool true) (fun _ => rfl) fun i b2 e2 hi => ⟨et_yes, fun _ => ?_⟩
        have hil : i < ds.length := by omega
        have hat : L2.atI ds (i : Int) = some ds[i] := atI_nat (List.getElem?_eq_getElem hil)
        exact ed_bool (ev_sameD (eda_cons (ed_ixL (vA rfl e2) (ev_var rfl) hat) (eda_cons (ed_ixL (vB rfl e2) (ev_var rfl) hat) eda_nil)) (hd.2 _ (List.getElem_mem hil)))
    | tuple ds =>
      refine ⟨_, (pss_cons (ps_if (PW.pt (pw_or (pt_cmpR op_isN1 (pv 1) pe_non (nomark _)) (pw_or1 (pt_cmpR op_isN1 (pv 0) pe_non (nomark _))))) (pss_one (ps_ret (pe_and (pe_cmpR op_isN1 (pv 1) pe_non (nomark _)) (pe_one (pe_cmpR op_isN1 (pv 0) pe_non (nomark _)))))) pss_nil) (pss_cons (ps_if (PW.pt (pw_or (pt_val (pe_callB (isi_K (K := K) rfl) (by rfl) T.isinstance (by decide +kernel) (pa_cons (pv 1) (pa_cons (pe_bltn (v := .ty "list") (by rfl) T.list (by decide +kernel) rfl) pa_nil)))) (pw_or1 (pt_val (pe_callB (isi_K (K := K) rfl) (by rfl) T.isinstance (by decide +kernel) (pa_cons (pv 1) (pa_cons (pe_bltn (v := .ty "tuple") (by rfl) T.tuple (by decide +kernel) rfl) pa_nil))))))) (pss_cons (ps_if (PW.pt (pw_or (pt_cmpR op_ne (pe_callB (isi_K (K := K) rfl) (by rfl) T.isinstance (by decide +kernel) (pa_cons (pv 1) (pa_cons (pe_bltn (v := .ty "list") (by rfl) T.list (by decide +kernel) rfl) pa_nil))) (pe_callB (isi_K (K := K) rfl) (by rfl) T.isinstance (by decide +kernel) (pa_cons (pv 0) (pa_cons (pe_bltn (v := .ty "list") (by rfl) T.list (by decide +kernel) rfl) pa_nil))) (nomark _)) (pw_or1 (pt_cmpR op_ne (pe_callB (isi_K (K := K) rfl) (by rfl) T.isinstance (by decide +kernel) (pa_cons (pv 1) (pa_cons (pe_bltn (v := .ty "tuple") (by rfl) T.tuple (by decide +kernel) rfl) pa_nil))) (pe_callB (isi_K (K := K) rfl) (by rfl) T.isinstance (by decide +kernel) (pa_cons (pv 0) (pa_cons (pe_bltn (v := .ty "tuple") (by rfl) T.tuple (by decide +kernel) rfl) pa_nil))) (nomark _))))) (pss_one (ps_ret pe_bl)) pss_nil) (pss_cons (ps_if (pt_cmpR op_ne (pe_callB (len_K (K := K) rfl) (by rfl) T.len PySem.boot_len (pa_cons (pv 0) pa_nil)) (pe_callB (len_K (K := K) rfl) (by rfl) T.len PySem.boot_len (pa_cons (pv 1) pa_nil)) (nomark _)) (pss_one (ps_ret pe_bl)) pss_nil) (pss_one (ps_ret (pe_callB (all_K (K := K) rfl rfl) (by rfl) T.all (by decide +kernel) (pa_cons (pe_lc (own := [("k", 2)]) (tt := tYes) rfl sc.nd (pi_range1 (by rfl) T.range (pa_cons (pe_callB (len_K (K := K) rfl) (by rfl) T.len PySem.boot_len (pa_cons (pv 1) pa_nil)) pa_nil)) (blkOk_by (N := ["actual", "due", "k"]) (sc := defScope s_same) (by decide +kernel)) (fun _ _ _ _ _ => (pg_name (i := 2) sc.nd rfl (by first | exact Or.inl rfl | exact Or.inr rfl))) (fun _ _ _ _ _ => pts_nil) (fun _ _ _ _ _ => (pe_call G_same hr rfl m_same k_same b_same .nil pass0 (pa_cons (pe_ix (ix_tupK (K := K) rfl) (pv 0) (pv 2) (fun _ _ => rfl)) (pa_cons (pe_ix (ix_tupK (K := K) rfl) (pv 1) (pv 2) (fun _ _ => rfl)) pa_nil))))) pa_nil)))))) pss_nil) (pss_cons (ps_if (PW.pt (pw_or (pt_val (pe_callB (isi_K (K := K) rfl) (by rfl) T.isinstance (by decide +kernel) (pa_cons (pv 1) (pa_cons (pe_bltn (v := .ty "bool") (by rfl) T.bool (by decide +kernel) rfl) pa_nil)))) (pw_or1 (pt_val (pe_callB (isi_K (K := K) rfl) (by rfl) T.isinstance (by decide +kernel) (pa_cons (pv 0) (pa_cons (pe_bltn (v := .ty "bool") (by rfl) T.bool (by decide +kernel) rfl) pa_nil))))))) (pss_one (ps_ret (pe_and (pe_callB (isi_K (K := K) rfl) (by rfl) T.isinstance (by decide +kernel) (pa_cons (pv 1) (pa_cons (pe_bltn (v := .ty "bool") (by rfl) T.bool (by decide +kernel) rfl) pa_nil))) (pe_and (pe_callB (isi_K (K := K) rfl) (by rfl) T.isinstance (by decide +kernel) (pa_cons (pv 0) (pa_cons (pe_bltn (v := .ty "bool") (by rfl) T.bool (by decide +kernel) rfl) pa_nil))) (pe_one (pe_cmpR op_eq (pv 0) (pv 1) (nomark _))))))) pss_nil) (pss_cons (ps_if (pt_val (pe_callB (isi_K (K := K) rfl) (by rfl) T.isinstance (by decide +kernel) (pa_cons (pv 1) (pa_cons (pe_bltn (v := .ty "int") (by rfl) T.int (by decide +kernel) rfl) pa_nil)))) (pss_one (ps_ret (pe_and (pe_callB (isi_K (K := K) rfl) (by rfl) T.isinstance (by decide +kernel) (pa_cons (pv 0) (pa_cons (pe_bltn (v := .ty "int") (by rfl) T.int (by decide +kernel) rfl) pa_nil))) (pe_one (pe_cmpR op_eq (pv 0) (pv 1) (nomark _)))))) pss_nil) (pss_one (ps_ret (pe_and (pe_callB (isi_K (K := K) rfl) (by rfl) T.isinstance (by decide +kernel) (pa_cons (pv 1) (pa_cons (pe_bltn (v := .ty "str") (by rfl) T.str (by decide +kernel) rfl) pa_nil))) (pe_and (pe_callB (isi_K (K := K) rfl) (by rfl) T.isinstance (by decide +kernel) (pa_cons (pv 0) (pa_cons (pe_bltn (v := .ty "str") (by rfl) T.str (by decide +kernel) rfl) pa_nil))) (pe_one (pe_cmpR op_eq (pv 0) (pv 1) (nomark _))))))))))), ?_⟩
      refine r_if (b := b) (c := false) (et_is (et_or (et_test (ev_isN (vB rfl (Ex.refl _)) rfl)) fun z => et_test (ev_isN (vA rfl (Ex.refl _)) rfl)) rfl) eb (fun z => by cases z) (fun _ h1 g1 => ?_)
      refine r_if (b := b) (c := true) (et_is (et_or (et_B (ev_isiD (r := false) (vB rfl (Ex.refl _)) (by show kitB "tuple" "list" = _; decide +kernel))) fun z => et_B (ev_isiD (r := true) (vB rfl (Ex.refl _)) (by show kitB "tuple" "tuple" = _; decide +kernel))) rfl) g1.gi (fun _ h2 g2 => ?_) (fun z => by cases z)
      refine r_if (b := b) (c := false) (et_is (et_or (et_test (ev_neS (v := .bl false) (ev_isiD (vB rfl (Ex.refl _)) (by show kitB "tuple" "list" = _; decide +kernel)) (ev_isiD (vA rfl (Ex.refl _)) (by show kitB "tuple" "list" = _; decide +kernel)) rfl)) fun z => et_test (ev_neS (v := .bl true) (ev_isiD (vB rfl (Ex.refl _)) (by show kitB "tuple" "tuple" = _; decide +kernel)) (ev_isiD (vA rfl (Ex.refl _)) (by show kitB "tuple" "tuple" = _; decide +kernel)) rfl)) rfl) (g1.trans g2).gi (fun z => by cases z) (fun _ h3 g3 => ?_)
      refine r_if (b := b) (c := false) (et_test (ev_neS (v := .int (ds.length : Int)) (ev_lenT (vA rfl (Ex.refl _))) (ev_lenT (vB rfl (Ex.refl _))) rfl)) ((g1.trans g2).trans g3).gi (fun z => by cases z) (fun _ h4 g4 => ?_)
      have e := ev_all (K := K) (bs := (List.range ds.length).map fun _ => true) (te := tLc (iRng1 (tCons (tCB (rLenS K) (tCons (tVar 1) tNil)) tNil)) (gName 2) tYes (tCall (spSame K n) [] E0 (tCons (tOp (rIxT K) (tVar 0) (tVar 2)) (tCons (tOp (rIxT K) (tVar 1) (tVar 2)) tNil))) [2]) (σ := [some va, some vb, none]) (b := b) ?_
      · rw [all_true] at e
        exact kk (((g1.trans g2).trans g3).trans g4).gh e
      · rw [← givenD_true]
        refine EN.ed ?_
        refine en_lcR (n := (ds.length : Int)) (ea_cons (ev_lenT (vB rfl (Ex.refl _))) ea_nil) ⟨by omega, by have := hd.1; omega⟩ (fun _ => true) (fun _ => .bool true) (fun _ => rfl) fun i b2 e2 hi => ⟨et_yes, fun _ => ?_⟩
        have hil : i < ds.length := by omega
        have hat : L2.atI ds (i : Int) = some ds[i] := atI_nat (List.getElem?_eq_getElem hil)
        exact ed_bool (ev_sameD (eda_cons (ed_ixT (vA rfl e2) (ev_var rfl) hat) (eda_cons (ed_ixT (vB rfl e2) (ev_var rfl) hat) eda_nil)) (hd.2 _ (List.getElem_mem hil)))
    | bool v =>
      refine ⟨_, (pss_cons (ps_if (PW.pt (pw_or (pt_cmpR op_isN1 (pv 1) pe_non (nomark _)) (pw_or1 (pt_cmpR op_isN1 (pv 0) pe_non (nomark _))))) (pss_one (ps_ret (pe_and (pe_cmpR op_isN1 (pv 1) pe_non (nomark _)) (pe_one (pe_cmpR op_isN1 (pv 0) pe_non (nomark _)))))) pss_nil) (pss_cons (ps_if (PW.pt (pw_or (pt_val (pe_callB (isi_K (K := K) rfl) (by rfl) T.isinstance (by decide +kernel) (pa_cons (pv 1) (pa_cons (pe_bltn (v := .ty "list") (by rfl) T.list (by decide +kernel) rfl) pa_nil)))) (pw_or1 (pt_val (pe_callB (isi_K (K := K) rfl) (by rfl) T.isinstance (by decide +kernel) (pa_cons (pv 1) (pa_cons (pe_bltn (v := .ty "tuple") (by rfl) T.tuple (by decide +kernel) rfl) pa_nil))))))) (pss_cons (ps_if (PW.pt (pw_or (pt_cmpR op_ne (pe_callB (isi_K (K := K) rfl) (by rfl) T.isinstance (by decide +kernel) (pa_cons (pv 1) (pa_cons (pe_bltn (v := .ty "list") (by rfl) T.list (by decide +kernel) rfl) pa_nil))) (pe_callB (isi_K (K := K) rfl) (by rfl) T.isinstance (by decide +kernel) (pa_cons (pv 0) (pa_cons (pe_bltn (v := .ty "list") (by rfl) T.list (by decide +kernel) rfl) pa_nil))) (nomark _)) (pw_or1 (pt_cmpR op_ne (pe_callB (isi_K (K := K) rfl) (by rfl) T.isinstance (by decide +kernel) (pa_cons (pv 1) (pa_cons (pe_bltn (v := .ty "tuple") (by rfl) T.tuple (by decide +kernel) rfl) pa_nil))) (pe_callB (isi_K (K := K) rfl) (by rfl) T.isinstance (by decide +kernel) (pa_cons (pv 0) (pa_cons (pe_bltn (v := .ty "tuple") (by rfl) T.tuple (by decide +kernel) rfl) pa_nil))) (nomark _))))) (pss_one (ps_ret pe_bl)) pss_nil) (pss_cons (ps_if (pt_cmpR op_ne (pe_callB (len_K (K := K) rfl) (by rfl) T.len PySem.boot_len (pa_cons (pv 0) pa_nil)) (pe_callB (len_K (K := K) rfl) (by rfl) T.len PySem.boot_len (pa_cons (pv 1) pa_nil)) (nomark _)) (pss_one (ps_ret pe_bl)) pss_nil) (pss_one (ps_ret (pe_callB (all_K (K := K) rfl rfl) (by rfl) T.all (by decide +kernel) (pa_cons (pe_lc (own := [("k", 2)]) (tt := tYes) rfl sc.nd (pi_range1 (by rfl) T.range (pa_cons (pe_callB (len_K (K := K) rfl) (by rfl) T.len PySem.boot_len (pa_cons (pv 1) pa_nil)) pa_nil)) (blkOk_by (N := ["actual", "due", "k"]) (sc := defScope s_same) (by decide +kernel)) (fun _ _ _ _ _ => (pg_name (i := 2) sc.nd rfl (by first | exact Or.inl rfl | exact Or.inr rfl))) (fun _ _ _ _ _ => pts_nil) (fun _ _ _ _ _ => (pe_call G_same hr rfl m_same k_same b_same .nil pass0 (pa_cons (pe_ix (ix_listK (K := K) rfl) (pv 0) (pv 2) (fun _ _ => rfl)) (pa_cons (pe_ix (ix_listK (K := K) rfl) (pv 1) (pv 2) (fun _ _ => rfl)) pa_nil))))) pa_nil)))))) pss_nil) (pss_cons (ps_if (PW.pt (pw_or (pt_val (pe_callB (isi_K (K := K) rfl) (by rfl) T.isinstance (by decide +kernel) (pa_cons (pv 1) (pa_cons (pe_bltn (v := .ty "bool") (by rfl) T.bool (by decide +kernel) rfl) pa_nil)))) (pw_or1 (pt_val (pe_callB (isi_K (K := K) rfl) (by rfl) T.isinstance (by decide +kernel) (pa_cons (pv 0) (pa_cons (pe_bltn (v := .ty "bool") (by rfl) T.bool (by decide +kernel) rfl) pa_nil))))))) (pss_one (ps_ret (pe_and (pe_callB (isi_K (K := K) rfl) (by rfl) T.isinstance (by decide +kernel) (pa_cons (pv 1) (pa_cons (pe_bltn (v := .ty "bool") (by rfl) T.bool (by decide +kernel) rfl) pa_nil))) (pe_and (pe_callB (isi_K (K := K) rfl) (by rfl) T.isinstance (by decide +kernel) (pa_cons (pv 0) (pa_cons (pe_bltn (v := .ty "bool") (by rfl) T.bool (by decide +kernel) rfl) pa_nil))) (pe_one (pe_cmpR op_eq (pv 0) (pv 1) (nomark _))))))) pss_nil) (pss_cons (ps_if (pt_val (pe_callB (isi_K (K := K) rfl) (by rfl) T.isinstance (by decide +kernel) (pa_cons (pv 1) (pa_cons (pe_bltn (v := .ty "int") (by rfl) T.int (by decide +kernel) rfl) pa_nil)))) (pss_one (ps_ret (pe_and (pe_callB (isi_K (K := K) rfl) (by rfl) T.isinstance (by decide +kernel) (pa_cons (pv 0) (pa_cons (pe_bltn (v := .ty "int") (by rfl) T.int (by decide +kernel) rfl) pa_nil))) (pe_one (pe_cmpR op_eq (pv 0) (pv 1) (nomark _)))))) pss_nil) (pss_one (ps_ret (pe_and (pe_callB (isi_K (K := K) rfl) (by rfl) T.isinstance (by decide +kernel) (pa_cons (pv 1) (pa_cons (pe_bltn (v := .ty "str") (by rfl) T.str (by decide +kernel) rfl) pa_nil))) (pe_and (pe_callB (isi_K (K := K) rfl) (by rfl) T.isinstance (by decide +kernel) (pa_cons (pv 0) (pa_cons (pe_bltn (v := .ty "str") (by rfl) T.str (by decide +kernel) rfl) pa_nil))) (pe_one (pe_cmpR op_eq (pv 0) (pv 1) (nomark _))))))))))), ?_⟩
      refine r_if (b := b) (c := false) (et_is (et_or (et_test (ev_isN (vB rfl (Ex.refl _)) rfl)) fun z => et_test (ev_isN (vA rfl (Ex.refl _)) rfl)) rfl) eb (fun z => by cases z) (fun _ h1 g1 => ?_)
      refine r_if (b := b) (c := false) (et_is (et_or (et_B (ev_isiD (r := false) (vB rfl (Ex.refl _)) (by show kitB "bool" "list" = _; decide +kernel))) fun z => et_B (ev_isiD (r := false) (vB rfl (Ex.refl _)) (by show kitB "bool" "tuple" = _; decide +kernel))) rfl) g1.gi (fun z => by cases z) (fun _ h2 g2 => ?_)
      refine r_if (b := b) (c := true) (et_is (et_or (et_B (ev_isiD (r := true) (vB rfl (Ex.refl _)) (by show kitB "bool" "bool" = _; decide +kernel))) fun z => et_B (ev_isiD (r := true) (vA rfl (Ex.refl _)) (by show kitB "bool" "bool" = _; decide +kernel))) rfl) (g1.trans g2).gi (fun _ h3 g3 => ?_) (fun z => by cases z)
      exact kk ((g1.trans g2).trans g3).gh (ev_andV (b := true) (ev_isiD (r := true) (vB rfl (Ex.refl _)) (by show kitB "bool" "bool" = _; decide +kernel)) fun _ => ev_andV (b := true) (ev_isiD (r := true) (vA rfl (Ex.refl _)) (by show kitB "bool" "bool" = _; decide +kernel)) fun _ => ev_eqS (ev_bool (vA rfl (Ex.refl _))) (ev_bool (vB rfl (Ex.refl _))) rfl)
    | int v =>
      refine ⟨_, (pss_cons (ps_if (PW.pt (pw_or (pt_cmpR op_isN1 (pv 1) pe_non (nomark _)) (pw_or1 (pt_cmpR op_isN1 (pv 0) pe_non (nomark _))))) (pss_one (ps_ret (pe_and (pe_cmpR op_isN1 (pv 1) pe_non (nomark _)) (pe_one (pe_cmpR op_isN1 (pv 0) pe_non (nomark _)))))) pss_nil) (pss_cons (ps_if (PW.pt (pw_or (pt_val (pe_callB (isi_K (K := K) rfl) (by rfl) T.isinstance (by decide +kernel) (pa_cons (pv 1) (pa_cons (pe_bltn (v := .ty "list") (by rfl) T.list (by decide +kernel) rfl) pa_nil)))) (pw_or1 (pt_val (pe_callB (isi_K (K := K) rfl) (by rfl) T.isinstance (by decide +kernel) (pa_cons (pv 1) (pa_cons (pe_bltn (v := .ty "tuple") (by rfl) T.tuple (by decide +kernel) rfl) pa_nil))))))) (pss_cons (ps_if (PW.pt (pw_or (pt_cmpR op_ne (pe_callB (isi_K (K := K) rfl) (by rfl) T.isinstance (by decide +kernel) (pa_cons (pv 1) (pa_cons (pe_bltn (v := .ty "list") (by rfl) T.list (by decide +kernel) rfl) pa_nil))) (pe_callB (isi_K (K := K) rfl) (by rfl) T.isinstance (by decide +kernel) (pa_cons (pv 0) (pa_cons (pe_bltn (v := .ty "list") (by rfl) T.list (by decide +kernel) rfl) pa_nil))) (nomark _)) (pw_or1 (pt_cmpR op_ne (pe_callB (isi_K (K := K) rfl) (by rfl) T.isinstance (by decide +kernel) (pa_cons (pv 1) (pa_cons (pe_bltn (v := .ty "tuple") (by rfl) T.tuple (by decide +kernel) rfl) pa_nil))) (pe_callB (isi_K (K := K) rfl) (by rfl) T.isinstance (by decide +kernel) (pa_cons (pv 0) (pa_cons (pe_bltn (v := .ty "tuple") (by rfl) T.tuple (by decide +kernel) rfl) pa_nil))) (nomark _))))) (pss_one (ps_ret pe_bl)) pss_nil) (pss_cons (ps_if (pt_cmpR op_ne (pe_callB (len_K (K := K) rfl) (by rfl) T.len PySem.boot_len (pa_cons (pv 0) pa_nil)) (pe_callB (len_K (K := K) rfl) (by rfl) T.len PySem.boot_len (pa_cons (pv 1) pa_nil)) (nomark _)) (pss_one (ps_ret pe_bl)) pss_nil) (pss_one (ps_ret (pe_callB (all_K (K := K) rfl rfl) (by rfl) T.all (by decide +kernel) (pa_cons (pe_lc (own := [("k", 2)]) (tt := tYes) rfl sc.nd (pi_range1 (by rfl) T.range (pa_cons (pe_callB (len_K (K := K) rfl) (by rfl) T.len PySem.boot_len (pa_cons (pv 1) pa_nil)) pa_nil)) (blkOk_by (N := ["actual", "due", "k"]) (sc := defScope s_same) (by decide +kernel)) (fun _ _ _ _ _ => (pg_name (i := 2) sc.nd rfl (by first | exact Or.inl rfl | exact Or.inr rfl))) (fun _ _ _ _ _ => pts_nil) (fun _ _ _ _ _ => (pe_call G_same hr rfl m_same k_same b_same .nil pass0 (pa_cons (pe_ix (ix_listK (K := K) rfl) (pv 0) (pv 2) (fun _ _ => rfl)) (pa_cons (pe_ix (ix_listK (K := K) rfl) (pv 1) (pv 2) (fun _ _ => rfl)) pa_nil))))) pa_nil)))))) pss_nil) (pss_cons (ps_if (PW.pt (pw_or (pt_val (pe_callB (isi_K (K := K) rfl) (by rfl) T.isinstance (by decide +kernel) (pa_cons (pv 1) (pa_cons (pe_bltn (v := .ty "bool") (by rfl) T.bool (by decide +kernel) rfl) pa_nil)))) (pw_or1 (pt_val (pe_callB (isi_K (K := K) rfl) (by rfl) T.isinstance (by decide +kernel) (pa_cons (pv 0) (pa_cons (pe_bltn (v := .ty "bool") (by rfl) T.bool (by decide +kernel) rfl) pa_nil))))))) (pss_one (ps_ret (pe_and (pe_callB (isi_K (K := K) rfl) (by rfl) T.isinstance (by decide +kernel) (pa_cons (pv 1) (pa_cons (pe_bltn (v := .ty "bool") (by rfl) T.bool (by decide +kernel) rfl) pa_nil))) (pe_and (pe_callB (isi_K (K := K) rfl) (by rfl) T.isinstance (by decide +kernel) (pa_cons (pv 0) (pa_cons (pe_bltn (v := .ty "bool") (by rfl) T.bool (by decide +kernel) rfl) pa_nil))) (pe_one (pe_cmpR op_eq (pv 0) (pv 1) (nomark _))))))) pss_nil) (pss_cons (ps_if (pt_val (pe_callB (isi_K (K := K) rfl) (by rfl) T.isinstance (by decide +kernel) (pa_cons (pv 1) (pa_cons (pe_bltn (v := .ty "int") (by rfl) T.int (by decide +kernel) rfl) pa_nil)))) (pss_one (ps_ret (pe_and (pe_callB (isi_K (K := K) rfl) (by rfl) T.isinstance (by decide +kernel) (pa_cons (pv 0) (pa_cons (pe_bltn (v := .ty "int") (by rfl) T.int (by decide +kernel) rfl) pa_nil))) (pe_one (pe_cmpR op_eq (pv 0) (pv 1) (nomark _)))))) pss_nil) (pss_one (ps_ret (pe_and (pe_callB (isi_K (K := K) rfl) (by rfl) T.isinstance (by decide +kernel) (pa_cons (pv 1) (pa_cons (pe_bltn (v := .ty "str") (by rfl) T.str (by decide +kernel) rfl) pa_nil))) (pe_and (pe_callB (isi_K (K := K) rfl) (by rfl) T.isinstance (by decide +kernel) (pa_cons (pv 0) (pa_cons (pe_bltn (v := .ty "str") (by rfl) T.str (by decide +kernel) rfl) pa_nil))) (pe_one (pe_cmpR op_eq (pv 0) (pv 1) (nomark _))))))))))), ?_⟩
      refine r_if (b := b) (c := false) (et_is (et_or (et_test (ev_isN (vB rfl (Ex.refl _)) rfl)) fun z => et_test (ev_isN (vA rfl (Ex.refl _)) rfl)) rfl) eb (fun z => by cases z) (fun _ h1 g1 => ?_)
      refine r_if (b := b) (c := false) (et_is (et_or (et_B (ev_isiD (r := false) (vB rfl (Ex.refl _)) (by show kitB "int" "list" = _; decide +kernel))) fun z => et_B (ev_isiD (r := false) (vB rfl (Ex.refl _)) (by show kitB "int" "tuple" = _; decide +kernel))) rfl) g1.gi (fun z => by cases z) (fun _ h2 g2 => ?_)
      refine r_if (b := b) (c := false) (et_is (et_or (et_B (ev_isiD (r := false) (vB rfl (Ex.refl _)) (by show kitB "int" "bool" = _; decide +kernel))) fun z => et_B (ev_isiD (r := false) (vA rfl (Ex.refl _)) (by show kitB "int" "bool" = _; decide +kernel))) rfl) (g1.trans g2).gi (fun z => by cases z) (fun _ h3 g3 => ?_)
      refine r_if (b := b) (c := true) (et_B (ev_isiD (r := true) (vB rfl (Ex.refl _)) (by show kitB "int" "int" = _; decide +kernel))) ((g1.trans g2).trans g3).gi (fun _ h4 g4 => ?_) (fun z => by cases z)
      exact kk (((g1.trans g2).trans g3).trans g4).gh (ev_andV (b := true) (ev_isiD (r := true) (vA rfl (Ex.refl _)) (by show kitB "int" "int" = _; decide +kernel)) fun _ => ev_eqS (ev_int (vA rfl (Ex.refl _))) (ev_int (vB rfl (Ex.refl _))) rfl)
    | str v =>
      refine ⟨_, (pss_cons (ps_if (PW.pt (pw_or (pt_cmpR op_isN1 (pv 1) pe_non (nomark _)) (pw_or1 (pt_cmpR op_isN1 (pv 0) pe_non (nomark _))))) (pss_one (ps_ret (pe_and (pe_cmpR op_isN1 (pv 1) pe_non (nomark _)) (pe_one (pe_cmpR op_isN1 (pv 0) pe_non (nomark _)))))) pss_nil) (pss_cons (ps_if (PW.pt (pw_or (pt_val (pe_callB (isi_K (K := K) rfl) (by rfl) T.isinstance (by decide +kernel) (pa_cons (pv 1) (pa_cons (pe_bltn (v := .ty "list") (by rfl) T.list (by decide +kernel) rfl) pa_nil)))) (pw_or1 (pt_val (pe_callB (isi_K (K := K) rfl) (by rfl) T.isinstance (by decide +kernel) (pa_cons (pv 1) (pa_cons (pe_bltn (v := .ty "tuple") (by rfl) T.tuple (by decide +kernel) rfl) pa_nil))))))) (pss_cons (ps_if (PW.pt (pw_or (pt_cmpR op_ne (pe_callB (isi_K (K := K) rfl) (by rfl) T.isinstance (by decide +kernel) (pa_cons (pv 1) (pa_cons (pe_bltn (v := .ty "list") (by rfl) T.list (by decide +kernel) rfl) pa_nil))) (pe_callB (isi_K (K := K) rfl) (by rfl) T.isinstance (by decide +kernel) (pa_cons (pv 0) (pa_cons (pe_bltn (v := .ty "list") (by rfl) T.list (by decide +kernel) rfl) pa_nil))) (nomark _)) (pw_or1 (pt_cmpR op_ne (pe_callB (isi_K (K := K) rfl) (by rfl) T.isinstance (by decide +kernel) (pa_cons (pv 1) (pa_cons (pe_bltn (v := .ty "tuple") (by rfl) T.tuple (by decide +kernel) rfl) pa_nil))) (pe_callB (isi_K (K := K) rfl) (by rfl) T.isinstance (by decide +kernel) (pa_cons (pv 0) (pa_cons (pe_bltn (v := .ty "tuple") (by rfl) T.tuple (by decide +kernel) rfl) pa_nil))) (nomark _))))) (pss_one (ps_ret pe_bl)) pss_nil) (pss_cons (ps_if (pt_cmpR op_ne (pe_callB (len_K (K := K) rfl) (by rfl) T.len PySem.boot_len (pa_cons (pv 0) pa_nil)) (pe_callB (len_K (K := K) rfl) (by rfl) T.len PySem.boot_len (pa_cons (pv 1) pa_nil)) (nomark _)) (pss_one (ps_ret pe_bl)) pss_nil) (pss_one (ps_ret (pe_callB (all_K (K := K) rfl rfl) (by rfl) T.all (by decide +kernel) (pa_cons (pe_lc (own := [("k", 2)]) (tt := tYes) rfl sc.nd (pi_range1 (by rfl) T.range (pa_cons (pe_callB (len_K (K := K) rfl) (by rfl) T.len PySem.boot_len (pa_cons (pv 1) pa_nil)) pa_nil)) (blkOk_by (N := ["actual", "due", "k"]) (sc := defScope s_same) (by decide +kernel)) (fun _ _ _ _ _ => (pg_name (i := 2) sc.nd rfl (by first | exact Or.inl rfl | exact Or.inr rfl))) (fun _ _ _ _ _ => pts_nil) (fun _ _ _ _ _ => (pe_call G_same hr rfl m_same k_same b_same .nil pass0 (pa_cons (pe_ix (ix_listK (K := K) rfl) (pv 0) (pv 2) (fun _ _ => rfl)) (pa_cons (pe_ix (ix_listK (K := K) rfl) (pv 1) (pv 2) (fun _ _ => rfl)) pa_nil))))) pa_nil)))))) pss_nil) (pss_cons (ps_if (PW.pt (pw_or (pt_val (pe_callB (isi_K (K := K) rfl) (by rfl) T.isinstance (by decide +kernel) (pa_cons (pv 1) (pa_cons (pe_bltn (v := .ty "bool") (by rfl) T.bool (by decide +kernel) rfl) pa_nil)))) (pw_or1 (pt_val (pe_callB (isi_K (K := K) rfl) (by rfl) T.isinstance (by decide +kernel) (pa_cons (pv 0) (pa_cons (pe_bltn (v := .ty "bool") (by rfl) T.bool (by decide +kernel) rfl) pa_nil))))))) (pss_one (ps_ret (pe_and (pe_callB (isi_K (K := K) rfl) (by rfl) T.isinstance (by decide +kernel) (pa_cons (pv 1) (pa_cons (pe_bltn (v := .ty "bool") (by rfl) T.bool (by decide +kernel) rfl) pa_nil))) (pe_and (pe_callB (isi_K (K := K) rfl) (by rfl) T.isinstance (by decide +kernel) (pa_cons (pv 0) (pa_cons (pe_bltn (v := .ty "bool") (by rfl) T.bool (by decide +kernel) rfl) pa_nil))) (pe_one (pe_cmpR op_eq (pv 0) (pv 1) (nomark _))))))) pss_nil) (pss_cons (ps_if (pt_val (pe_callB (isi_K (K := K) rfl) (by rfl) T.isinstance (by decide +kernel) (pa_cons (pv 1) (pa_cons (pe_bltn (v := .ty "int") (by rfl) T.int (by decide +kernel) rfl) pa_nil)))) (pss_one (ps_ret (pe_and (pe_callB (isi_K (K := K) rfl) (by rfl) T.isinstance (by decide +kernel) (pa_cons (pv 0) (pa_cons (pe_bltn (v := .ty "int") (by rfl) T.int (by decide +kernel) rfl) pa_nil))) (pe_one (pe_cmpR op_eq (pv 0) (pv 1) (nomark _)))))) pss_nil) (pss_one (ps_ret (pe_and (pe_callB (isi_K (K := K) rfl) (by rfl) T.isinstance (by decide +kernel) (pa_cons (pv 1) (pa_cons (pe_bltn (v := .ty "str") (by rfl) T.str (by decide +kernel) rfl) pa_nil))) (pe_and (pe_callB (isi_K (K := K) rfl) (by rfl) T.isinstance (by decide +kernel) (pa_cons (pv 0) (pa_cons (pe_bltn (v := .ty "str") (by rfl) T.str (by decide +kernel) rfl) pa_nil))) (pe_one (pe_cmpR op_eq (pv 0) (pv 1) (nomark _))))))))))), ?_⟩
      refine r_if (b := b) (c := false) (et_is (et_or (et_test (ev_isN (vB rfl (Ex.refl _)) rfl)) fun z => et_test (ev_isN (vA rfl (Ex.refl _)) rfl)) rfl) eb (fun z => by cases z) (fun _ h1 g1 => ?_)
      refine r_if (b := b) (c := false) (et_is (et_or (et_B (ev_isiD (r := false) (vB rfl (Ex.refl _)) (by show kitB "str" "list" = _; decide +kernel))) fun z => et_B (ev_isiD (r := false) (vB rfl (Ex.refl _)) (by show kitB "str" "tuple" = _; decide +kernel))) rfl) g1.gi (fun z => by cases z) (fun _ h2 g2 => ?_)
      refine r_if (b := b) (c := false) (et_is (et_or (et_B (ev_isiD (r := false) (vB rfl (Ex.refl _)) (by show kitB "str" "bool" = _; decide +kernel))) fun z => et_B (ev_isiD (r := false) (vA rfl (Ex.refl _)) (by show kitB "str" "bool" = _; decide +kernel))) rfl) (g1.trans g2).gi (fun z => by cases z) (fun _ h3 g3 => ?_)
      refine r_if (b := b) (c := false) (et_B (ev_isiD (r := false) (vB rfl (Ex.refl _)) (by show kitB "str" "int" = _; decide +kernel))) ((g1.trans g2).trans g3).gi (fun z => by cases z) (fun _ h4 g4 => ?_)
      exact kk (((g1.trans g2).trans g3).trans g4).gh (ev_andV (b := true) (ev_isiD (r := true) (vB rfl (Ex.refl _)) (by show kitB "str" "str" = _; decide +kernel)) fun _ => ev_andV (b := true) (ev_isiD (r := true) (vA rfl (Ex.refl _)) (by show kitB "str" "str" = _; decide +kernel)) fun _ => ev_eqS (ev_str (vA rfl (Ex.refl _))) (ev_str (vB rfl (Ex.refl _))) rfl)

abbrev s_targets_of : Stmt := top 1
theorem sc_targets_of : FnScope ["place", "_", "kind", "branches", "target"] ["place"] (defScope s_targets_of) := ⟨rfl, rfl, rfl, by decide +kernel, rfl, by decide +kernel, by decide +kernel⟩
theorem has_targets_of (D : IsDef K mg "targets_of" s_targets_of ["place"]) (T : Bt mg) : Has P w K mg base (1) "targets_of" ["place"] (spN K (kTgN)) := by
  obtain ⟨f, fd, F, hm, hb⟩ := D

  have sc := sc_targets_of
  refine ⟨f, fd, F.ok sc (fun vs H Q E x => ?_) (fun cdv A outer s h0 vs Q E hr hs => ?_), hm, F.kp, hb⟩
  · obtain ⟨b, ds, P, _, hA, hR, _⟩ := x
    obtain ⟨_, rfl, _⟩ := conN1_is hR
    rw [hA.length]
    rfl
  obtain ⟨b, ds, Pq, eb, hA, hR, kQ⟩ := hs
  obtain ⟨x0, rfl, hR⟩ := conN1_is hR
  refine ⟨_, (pss_cons (ps_asg (pv 0) (pg_tupK (K := K) (n := 3) rfl rfl (pgs_cons (pg_name (i := 1) sc.nd rfl (by first | exact Or.inl rfl | exact Or.inr rfl)) (pgs_cons (pg_name (i := 2) sc.nd rfl (by first | exact Or.inl rfl | exact Or.inr rfl)) (pgs_cons (pg_name (i := 3) sc.nd rfl (by first | exact Or.inl rfl | exact Or.inr rfl)) pgs_nil))))) (pss_cons (ps_if (pt_cmpR op_eq (pv 2) pe_str (nomark _)) (pss_one (ps_ret (pe_lc (own := [("_", 1), ("target", 4)]) (tt := tYes) rfl sc.nd (pi_listK (K := K) rfl (pv 3)) (blkOk_by (N := ["place", "_", "kind", "branches", "target"]) (sc := defScope s_targets_of) (by decide +kernel)) (fun _ _ _ _ _ => (pg_tupK (K := K) (n := 2) rfl rfl (pgs_cons (pg_name (i := 1) sc.nd rfl (by first | exact Or.inl rfl | exact Or.inr rfl)) (pgs_cons (pg_name (i := 4) sc.nd rfl (by first | exact Or.inl rfl | exact Or.inr rfl)) pgs_nil)))) (fun _ _ _ _ _ => pts_nil) (fun _ _ _ _ _ => (pv 4))))) pss_nil) (pss_one (ps_ret (pe_callTy (list_K (K := K) rfl) (by rfl) T.list (by decide +kernel) (pa_cons (pv 3) pa_nil)))))), sim_N (Γ := [some (.d x0), none, none, none, none]) (z_seq (z_asg z_var (g_tup (g_cons g_name (g_cons g_name (g_cons g_name g_nil))))) (z_seq (z_ifS (z_test (z_eqS z_var z_s)) (z_retN (z_lc (by decide) (i_list z_var) (g_tup (g_cons g_name (g_cons g_name g_nil))) z_yes z_var)) z_next) (z_retN (z_list z_var)))) eb hA (by show 1 ≤ 5; decide) rfl ?_ kQ⟩
  obtain ⟨p, rfl, h6, hP⟩ := hR
  clear hR
  have eD : p.D = .tuple [nD p.g, .str (kdV p.k), .list p.el] := rfl
  rw [eD]
  and_intros
  refine ⟨rfl, rfl, _, rfl, ?_⟩
  have e0 : decide (kdV p.k = Str.ofString "draw") = decide (p.k = none) := kd_eq _
  rw [e0]
  by_cases q : p.k = none
  · rw [if_pos (decide_eq_true q)]
    refine dlc_map p.bs brC (fun q => .int (q.2 : Int)) (fun P hP => ?_) (by omega) (fun q hq P hP => ?_) hP
    · and_intros
      rw [el_draw q]
      exact hP
    · unfold brC
      and_intros
      exact ⟨rfl, rfl, hP⟩
  · rw [if_neg (by rw [decide_eq_true_iff]; exact q)]
    rw [el_side q]
    exact hP
abbrev s__with_draws_of : Stmt := top 5
theorem sc__with_draws_of : FnScope ["game", "side", "place"] ["game", "side"] (defScope s__with_draws_of) := ⟨rfl, rfl, rfl, by decide +kernel, rfl, by decide +kernel, by decide +kernel⟩
theorem has__with_draws_of (D : IsDef K mg "_with_draws_of" s__with_draws_of ["game", "side"]) (T : Bt mg) (U_targets_of : Has P w K mg base (1) "targets_of" ["place"] (spN K (kTgN))) : Has P w K mg base (2) "_with_draws_of" ["game", "side"] (spWN K (.l (.t [.o, .o, .l .o])) (kWdr)) := by
  obtain ⟨f, fd, F, hm, hb⟩ := D
  obtain ⟨f_targets_of, fd_targets_of, G_targets_of, m_targets_of, k_targets_of, b_targets_of⟩ := U_targets_of
  have sc := sc__with_draws_of
  refine ⟨f, fd, F.ok sc (fun vs H Q E x => ?_) (fun cdv A outer s h0 vs Q E hr hs => ?_), hm, F.kp, hb⟩
  · obtain ⟨b, ds, P, _, hA, hR, _⟩ := x
    obtain ⟨_, _, rfl, _⟩ := conN2_is hR
    rw [hA.length]
    rfl
  obtain ⟨b, ds, Pq, eb, hA, hR, kQ⟩ := hs
  obtain ⟨x0, x1, rfl, hR⟩ := conN2_is hR
  refine ⟨_, (pss_one (ps_ret (pe_lc (own := [("place", 2)]) (tt := tYes) rfl sc.nd (pi_listK (K := K) rfl (pv 0)) (blkOk_by (N := ["game", "side", "place"]) (sc := defScope s__with_draws_of) (by decide +kernel)) (fun _ _ _ _ _ => (pg_name (i := 2) sc.nd rfl (by first | exact Or.inl rfl | exact Or.inr rfl))) (fun _ _ _ _ _ => pts_nil) (fun _ _ _ _ _ => (pe_tup (pa_cons (pe_ix (ix_tupK (K := K) rfl) (pv 2) pe_int (fun _ _ => rfl)) (pa_cons (pe_ifExp (pt_cmpR op_eq (pe_ix (ix_tupK (K := K) rfl) (pv 2) pe_int (fun _ _ => rfl)) pe_str (nomark _)) (pv 1) (pe_ix (ix_tupK (K := K) rfl) (pv 2) pe_int (fun _ _ => rfl))) (pa_cons (pe_call G_targets_of (hr.mono (by decide)) rfl m_targets_of k_targets_of b_targets_of .nil pass0 (pa_cons (pv 2) pa_nil)) pa_nil)))))))), sim_WN (C' := []) (Γ := [some (.d x0), some (.d x1), none]) (w_retN rfl (nw_lc (by decide) (i_list z_var) g_name z_yes (ew_tup (aw_cons (s := .o) (ew_e (z_ixT z_var z_i)) (aw_cons (s := .o) (ew_e (z_if (z_test (z_eqS (z_ixT z_var z_i) z_s)) z_var (z_ixT z_var z_i))) (aw_cons (s := (.l .o)) (ew_n (s := .o) (nw_n (z_callN (z_cons z_var z_nil)))) aw_nil)))))) eb hA (by show 2 ≤ 3; decide) rfl ?_ kQ⟩
  obtain ⟨G, o, rfl, rfl, h12, h6, hP⟩ := hR
  clear hR
  and_intros
  refine dlc_map G PlV.D (fun p => (drP o p).D) (fun P hP => ?_) (by omega) (fun p hp P hP => ?_) (by rw [List.map_map] at hP; exact hP)
  · and_intros
    exact hP
  · have eD : p.D = .tuple [nD p.g, .str (kdV p.k), .list p.el] := rfl
    and_intros
    rw [eD]
    and_intros
    refine ⟨_, atI_zero, _, atI_one, _, rfl, ?_⟩
    have e0 : decide (kdV p.k = Str.ofString "draw") = decide (p.k = none) := kd_eq _
    rw [e0]
    rw [drP_D] at hP
    by_cases q : p.k = none
    · rw [if_pos (decide_eq_true q)]
      rw [if_pos q] at hP
      exact ⟨p, rfl, h6 p hp, by decide, hP⟩
    · rw [if_neg (by rw [decide_eq_true_iff]; exact q)]
      rw [if_neg q] at hP
      exact ⟨_, atI_one, p, rfl, h6 p hp, by decide, hP⟩
abbrev s_against_us : Stmt := top 3
theorem sc_against_us : FnScope ["game"] ["game"] (defScope s_against_us) := ⟨rfl, rfl, rfl, by decide +kernel, rfl, by decide +kernel, by decide +kernel⟩
theorem has_against_us (D : IsDef K mg "against_us" s_against_us ["game"]) (U__with_draws_of : Has P w K mg base (2) "_with_draws_of" ["game", "side"] (spWN K (.l (.t [.o, .o, .l .o])) (kWdr))) : Has P w K mg base (3) "against_us" ["game"] (spW K (.l (.t [.o, .o, .l .o])) (kAgu false)) := by
  obtain ⟨f, fd, F, hm, hb⟩ := D
  obtain ⟨f__with_draws_of, fd__with_draws_of, G__with_draws_of, m__with_draws_of, k__with_draws_of, b__with_draws_of⟩ := U__with_draws_of
  have sc := sc_against_us
  refine ⟨f, fd, F.ok sc (fun vs H Q E x => ?_) (fun cdv A outer s h0 vs Q E hr hs => ?_), hm, F.kp, hb⟩
  · obtain ⟨b, ds, P, _, hA, hR, _⟩ := x
    obtain ⟨_, rfl, _⟩ := con1_is hR
    rw [hA.length]
    rfl
  obtain ⟨b, ds, Pq, eb, hA, hR, kQ⟩ := hs
  obtain ⟨x0, rfl, hR⟩ := con1_is hR
  refine ⟨_, (pss_one (ps_ret (pe_call G__with_draws_of (hr.mono (by decide)) rfl m__with_draws_of k__with_draws_of b__with_draws_of .nil pass0 (pa_cons (pv 0) (pa_cons pe_str pa_nil))))), sim_W (C' := []) (Γ := [some (.d x0)]) (w_ret (ew_callWN (z_cons z_var (z_cons z_s z_nil)))) eb hA (by show 1 ≤ 1; decide) rfl ?_ kQ⟩
  obtain ⟨G, rfl, h12, h6, hP⟩ := hR
  clear hR
  and_intros
  exact ⟨G, false, rfl, rfl, h12, h6, hP⟩
abbrev s_for_us : Stmt := top 4
theorem sc_for_us : FnScope ["game"] ["game"] (defScope s_for_us) := ⟨rfl, rfl, rfl, by decide +kernel, rfl, by decide +kernel, by decide +kernel⟩
theorem has_for_us (D : IsDef K mg "for_us" s_for_us ["game"]) (U__with_draws_of : Has P w K mg base (2) "_with_draws_of" ["game", "side"] (spWN K (.l (.t [.o, .o, .l .o])) (kWdr))) : Has P w K mg base (3) "for_us" ["game"] (spW K (.l (.t [.o, .o, .l .o])) (kAgu true)) := by
  obtain ⟨f, fd, F, hm, hb⟩ := D
  obtain ⟨f__with_draws_of, fd__with_draws_of, G__with_draws_of, m__with_draws_of, k__with_draws_of, b__with_draws_of⟩ := U__with_draws_of
  have sc := sc_for_us
  refine ⟨f, fd, F.ok sc (fun vs H Q E x => ?_) (fun cdv A outer s h0 vs Q E hr hs => ?_), hm, F.kp, hb⟩
  · obtain ⟨b, ds, P, _, hA, hR, _⟩ := x
    obtain ⟨_, rfl, _⟩ := con1_is hR
    rw [hA.length]
    rfl
  obtain ⟨b, ds, Pq, eb, hA, hR, kQ⟩ := hs
  obtain ⟨x0, rfl, hR⟩ := con1_is hR
  refine ⟨_, (pss_one (ps_ret (pe_call G__with_draws_of (hr.mono (by decide)) rfl m__with_draws_of k__with_draws_of b__with_draws_of .nil pass0 (pa_cons (pv 0) (pa_cons pe_str pa_nil))))), sim_W (C' := []) (Γ := [some (.d x0)]) (w_ret (ew_callWN (z_cons z_var (z_cons z_s z_nil)))) eb hA (by show 1 ≤ 1; decide) rfl ?_ kQ⟩
  obtain ⟨G, rfl, h12, h6, hP⟩ := hR
  clear hR
  and_intros
  exact ⟨G, true, rfl, rfl, h12, h6, hP⟩

abbrev s_targets : Stmt := top 12
theorem sc_targets : FnScope ["place", "chance", "target"] ["place"] (defScope s_targets) := ⟨rfl, rfl, rfl, by decide +kernel, rfl, by decide +kernel, by decide +kernel⟩
theorem has_targets (D : IsDef K mg "_law_targets" s_targets ["place"]) (T : Bt mg) : Has P w K mg base (1) "_law_targets" ["place"] (spN K (kTgN)) := by
  obtain ⟨f, fd, F, hm, hb⟩ := D

  have sc := sc_targets
  refine ⟨f, fd, F.ok sc (fun vs H Q E x => ?_) (fun cdv A outer s h0 vs Q E hr hs => ?_), hm, F.kp, hb⟩
  · obtain ⟨b, ds, P, _, hA, hR, _⟩ := x
    obtain ⟨_, rfl, _⟩ := conN1_is hR
    rw [hA.length]
    rfl
  obtain ⟨b, ds, Pq, eb, hA, hR, kQ⟩ := hs
  obtain ⟨x0, rfl, hR⟩ := conN1_is hR
  refine ⟨_, (pss_cons (ps_if (pt_cmpR op_eq (pe_ix (ix_tupK (K := K) rfl) (pv 0) pe_int (fun _ _ => rfl)) pe_str (nomark _)) (pss_one (ps_ret (pe_lc (own := [("chance", 1), ("target", 2)]) (tt := tYes) rfl sc.nd (pi_listK (K := K) rfl (pe_ix (ix_tupK (K := K) rfl) (pv 0) pe_int (fun _ _ => rfl))) (blkOk_by (N := ["place", "chance", "target"]) (sc := defScope s_targets) (by decide +kernel)) (fun _ _ _ _ _ => (pg_tupK (K := K) (n := 2) rfl rfl (pgs_cons (pg_name (i := 1) sc.nd rfl (by first | exact Or.inl rfl | exact Or.inr rfl)) (pgs_cons (pg_name (i := 2) sc.nd rfl (by first | exact Or.inl rfl | exact Or.inr rfl)) pgs_nil)))) (fun _ _ _ _ _ => pts_nil) (fun _ _ _ _ _ => (pv 2))))) pss_nil) (pss_one (ps_ret (pe_callTy (list_K (K := K) rfl) (by rfl) T.list (by decide +kernel) (pa_cons (pe_ix (ix_tupK (K := K) rfl) (pv 0) pe_int (fun _ _ => rfl)) pa_nil))))), sim_N (Γ := [some (.d x0), none, none]) (z_seq (z_ifS (z_test (z_eqS (z_ixT z_var z_i) z_s)) (z_retN (z_lc (by decide) (i_list (z_ixT z_var z_i)) (g_tup (g_cons g_name (g_cons g_name g_nil))) z_yes z_var)) z_next) (z_retN (z_list (z_ixT z_var z_i)))) eb hA (by show 1 ≤ 3; decide) rfl ?_ kQ⟩
  obtain ⟨p, rfl, h6, hP⟩ := hR
  clear hR
  and_intros
  have eD : p.D = .tuple [nD p.g, .str (kdV p.k), .list p.el] := rfl
  rw [eD]
  and_intros
  refine ⟨_, atI_one, _, rfl, ?_⟩
  have e0 : decide (kdV p.k = Str.ofString "draw") = decide (p.k = none) := kd_eq _
  rw [e0]
  by_cases q : p.k = none
  · rw [if_pos (decide_eq_true q)]
    refine dlc_map p.bs brC (fun q => .int (q.2 : Int)) (fun P hP => ?_) (by omega) (fun q hq P hP => ?_) hP
    · and_intros
      refine ⟨_, atI_two, ?_⟩
      rw [el_draw q]
      exact hP
    · unfold brC
      and_intros
      exact ⟨rfl, rfl, hP⟩
  · rw [if_neg (by rw [decide_eq_true_iff]; exact q)]
    refine ⟨_, atI_two, ?_⟩
    rw [el_side q]
    exact hP
abbrev s_due : Stmt := top 14
theorem sc_due : FnScope ["game", "side", "found", "here"] ["game", "side"] (defScope s_due) := ⟨rfl, rfl, rfl, by decide +kernel, rfl, by decide +kernel, by decide +kernel⟩
theorem has_due (D : IsDef K mg "_law_due" s_due ["game", "side"]) (T : Bt mg) (U_targets : Has P w K mg base (1) "_law_targets" ["place"] (spN K (kTgN))) : Has P w K mg base (2) "_law_due" ["game", "side"] (spN K (kWdr)) := by
  obtain ⟨f, fd, F, hm, hb⟩ := D
  obtain ⟨f_targets, fd_targets, G_targets, m_targets, k_targets, b_targets⟩ := U_targets
  have sc := sc_due
  refine ⟨f, fd, F.ok sc (fun vs H Q E x => ?_) (fun cdv A outer s h0 vs Q E hr hs => ?_), hm, F.kp, hb⟩
  · obtain ⟨b, ds, P, _, hA, hR, _⟩ := x
    obtain ⟨_, _, rfl, _⟩ := conN2_is hR
    rw [hA.length]
    rfl
  obtain ⟨b, ds, Pq, eb, hA, hR, kQ⟩ := hs
  obtain ⟨x0, x1, rfl, hR⟩ := conN2_is hR
  refine ⟨_, (pss_cons (ps_set (i := 2) sc.nd rfl (by first | exact Or.inl rfl | exact Or.inr rfl) (pe_lst pa_nil)) (pss_cons (ps_for PassesOwn.never rfl (pi_listK (K := K) rfl (pv 0)) (pg_name (i := 3) sc.nd rfl (by first | exact Or.inl rfl | exact Or.inr rfl)) (pss_one (ps_expr (pe_appK (K := K) rfl (pv 2) (pa_cons (pe_tup (pa_cons (pe_ix (ix_tupK (K := K) rfl) (pv 3) pe_int (fun _ _ => rfl)) (pa_cons (pe_ix (ix_listK (K := K) rfl) (pe_lst (pa_cons (pe_ix (ix_tupK (K := K) rfl) (pv 3) pe_int (fun _ _ => rfl)) (pa_cons (pv 1) pa_nil))) (pe_callTy cr_int1 (by rfl) T.int (by decide +kernel) (pa_cons (pe_cmpR op_eq (pe_ix (ix_tupK (K := K) rfl) (pv 3) pe_int (fun _ _ => rfl)) pe_str (nomark _)) pa_nil)) (fun _ _ => rfl)) (pa_cons (pe_call G_targets (hr.mono (by decide)) rfl m_targets k_targets b_targets .nil pass0 (pa_cons (pv 3) pa_nil)) pa_nil)))) pa_nil))))) (pss_one (ps_ret (pv 2))))), sim_N (Γ := [some (.d x0), some (.d x1), none, none]) (z_seq (z_asgO (z_lst z_nil)) (z_seq (z_for (ws := [3]) (i_list z_var) g_name (z_app (z_tup (z_cons (z_ixT z_var z_i) (z_cons (z_ixL (z_ofN (z_lst (z_cons (z_ixT z_var z_i) (z_cons z_var z_nil)))) (z_int1 (z_eqS (z_ixT z_var z_i) z_s))) (z_cons (z_ofN (z_callN (z_cons z_var z_nil))) z_nil)))))) z_retO)) eb hA (by show 2 ≤ 4; decide) rfl ?_ kQ⟩
  obtain ⟨G, o, rfl, rfl, h12, h6, hP⟩ := hR
  clear hR
  and_intros
  refine ⟨by decide, by decide, ?_⟩
  refine dfor_inv G PlV.D (fun P hP => ?_) (fun i Γ' => Γ' = [some (.d (gvD G)), some (.d (.str (kdV (some o)))), some (.o ((G.take i).map fun p => (drP o p).D)), none]) rfl ?_ ?_
  · and_intros
    exact hP
  · rintro i p Γ' hi rfl
    have hp := List.mem_of_getElem? hi
    have eD : p.D = .tuple [nD p.g, .str (kdV p.k), .list p.el] := rfl
    and_intros
    rw [eD]
    and_intros
    refine ⟨_, atI_zero, _, atI_one, by decide, _, atI_one, _, rfl, ?_⟩
    have e0 : decide (kdV p.k = Str.ofString "draw") = decide (p.k = none) := kd_eq _
    rw [e0]
    have hl : (List.map (fun p => (drP o p).D) (List.take i G)).length < 100000 := by
      rw [List.length_map, List.length_take]
      omega
    have et : (List.map (fun p => (drP o p).D) (List.take i G)) ++ [(drP o p).D] = List.map (fun p => (drP o p).D) (List.take (i + 1) G) := by
      rw [List.take_add_one, hi, List.map_append]
      rfl
    rw [drP_D] at et
    by_cases q : p.k = none
    · rw [if_pos (decide_eq_true q)]
      rw [if_pos q] at et
      refine ⟨_, atI_one, p, rfl, h6 p hp, by decide, hl, ?_⟩
      rw [et]
    · rw [if_neg (by rw [decide_eq_true_iff]; exact q)]
      rw [if_neg q] at et
      refine ⟨_, atI_zero, p, rfl, h6 p hp, by decide, hl, ?_⟩
      rw [et]
  · rintro Γ' rfl
    and_intros
    rw [List.take_length]
    rw [List.map_map] at hP
    exact hP
abbrev s_law : Stmt := top 15
theorem sc_law : FnScope ["script", "draws", "game", "kept", "turn", "here", "told", "other"] ["script"] (defScope s_law) := ⟨rfl, rfl, rfl, by decide +kernel, rfl, by decide +kernel, by decide +kernel⟩
theorem zg_1_1_3_0 {K : PySem.W.Frag} {t1 t2 t3 t4 t5 : TS} {dd : DS} (h : SimS K (tSeq t1 (tSeq t2 (tSeq t3 (tSeq t4 t5)))) dd) : SimS K (tSeq t1 (tSeq t2 (tSeq t3 (tSeq t4 t5)))) dd := h
theorem ok_law {f : Addr} {fd : FuncData} (F : Fun K "law" "law" s_law f fd) (U_draws : Has P w K mg base 1 "_law_draws" ["script", "count"] (spDraws K)) (T : Bt mg) (U_game : Has P w K mg base (4) "_law_game" ["draws", "most"] (spP K (kGame7))) (U_against_us : Has P w K mg base (3) "against_us" ["game"] (spW K (.l (.t [.o, .o, .l .o])) (kAgu false))) (U_for_us : Has P w K mg base (3) "for_us" ["game"] (spW K (.l (.t [.o, .o, .l .o])) (kAgu true))) (U_due : Has P w K mg base (2) "_law_due" ["game", "side"] (spN K (kWdr))) (U_same : Has P w K mg base (6) "_law_same" ["actual", "due"] (spP K (kSam 6))) : LawOk P w K mg base 7 f fd ["script"] (spLaw K) := by
  obtain ⟨f_draws, fd_draws, G_draws, m_draws, k_draws, b_draws⟩ := U_draws
  obtain ⟨f_game, fd_game, G_game, m_game, k_game, b_game⟩ := U_game
  obtain ⟨f_against_us, fd_against_us, G_against_us, m_against_us, k_against_us, b_against_us⟩ := U_against_us
  obtain ⟨f_for_us, fd_for_us, G_for_us, m_for_us, k_for_us, b_for_us⟩ := U_for_us
  obtain ⟨f_due, fd_due, G_due, m_due, k_due, b_due⟩ := U_due
  obtain ⟨f_same, fd_same, G_same, m_same, k_same, b_same⟩ := U_same
  have sc := sc_law
  refine law_ok F sc (fun vs H Q E x => ?_) (fun cd s h0 vs Q hr hs => ?_)
  · obtain ⟨a, ns, rfl, _⟩ := x
    rfl
  obtain ⟨a, ns, rfl, hS, hl, k⟩ := hs
  have hgd : (callerA.deeper (PyProof.Rows.envOfC "law" (defScope s_law) s.heap.objs.size f cd)).guards = some [] := rfl
  refine ⟨_, (pss_cons (ps_set (i := 1) sc.nd rfl (by first | exact Or.inl rfl | exact Or.inr rfl) (pe_call G_draws (hr.mono (by decide)) rfl m_draws k_draws b_draws .nil pass0 (pa_cons (pv 0) (pa_cons pe_int pa_nil)))) (pss_cons (ps_set (i := 2) sc.nd rfl (by first | exact Or.inl rfl | exact Or.inr rfl) (pe_call G_game (hr.mono (by decide)) rfl m_game k_game b_game .nil pass0 (pa_cons (pv 1) (pa_cons pe_int pa_nil)))) (pss_cons (ps_set (i := 3) sc.nd rfl (by first | exact Or.inl rfl | exact Or.inr rfl) (pe_callB (repr_K (K := K) hgd hr.units rfl) (by rfl) T.repr (by decide +kernel) (pa_cons (pv 2) pa_nil))) (pss_cons (ps_for PassesOwn.never rfl (pi_range1 (by rfl) T.range (pa_cons pe_int pa_nil)) (pg_name (i := 4) sc.nd rfl (by first | exact Or.inl rfl | exact Or.inr rfl)) (pss_cons (ps_par rfl sc.nd (i := 6) (j := 7) rfl rfl (by decide) rfl rfl (pa_cons (pe_call G_against_us (hr.mono (by decide)) rfl m_against_us k_against_us b_against_us .nil pass0 (pa_cons (pv 2) pa_nil)) (pa_cons (pe_call G_for_us (hr.mono (by decide)) rfl m_for_us k_for_us b_for_us .nil pass0 (pa_cons (pv 2) pa_nil)) pa_nil)) (by rfl)) (pss_cons (ps_if (PW.pt (pw_or (pt_not (pt_val (pe_call G_same (hr.mono (by decide)) rfl m_same k_same b_same .nil pass0 (pa_cons (pv 6) (pa_cons (pe_call G_due (hr.mono (by decide)) rfl m_due k_due b_due .nil pass0 (pa_cons (pv 2) (pa_cons pe_str pa_nil))) pa_nil))))) (pw_or1 (pt_not (pt_val (pe_call G_same (hr.mono (by decide)) rfl m_same k_same b_same .nil pass0 (pa_cons (pv 7) (pa_cons (pe_call G_due (hr.mono (by decide)) rfl m_due k_due b_due .nil pass0 (pa_cons (pv 2) (pa_cons pe_str pa_nil))) pa_nil)))))))) (pss_one (ps_ret pe_bl)) pss_nil) (pss_cons (ps_for PassesOwn.never rfl (pi_listK (K := K) rfl (pe_op op_cat (pv 6) (pv 7))) (pg_name (i := 5) sc.nd rfl (by first | exact Or.inl rfl | exact Or.inr rfl)) (pss_one (ps_expr (pe_appK (K := K) rfl (pe_ix (ix_tupK (K := K) rfl) (pv 5) pe_int (fun _ _ => rfl)) (pa_cons pe_int pa_nil))))) (pss_cons (ps_expr (pe_clearK (K := K) rfl (pv 6))) (pss_one (ps_expr (pe_clearK (K := K) rfl (pv 7))))))))) (pss_one (ps_ret (pe_cmpR op_eq (pe_callB (repr_K (K := K) hgd hr.units rfl) (by rfl) T.repr (by decide +kernel) (pa_cons (pv 2) pa_nil)) (pv 3) (nomark _)))))))), ?_⟩
  refine ⟨_, rfl, h0, a, ns, 190, rfl, Ex.refl _, hS, hl, by decide, fun v1 b1 h1 ds g1 hdl hd hv1 => ?_⟩
  dsimp only
  show tSeq _ _ _ [some (.ref a), some v1, none, none, none, none, none, none] _
  refine sim_law2 (b := b1) (Γ := [none, some (.d (.list (ds.map PyData.int))), none, none, none, none, none, none]) (K := K) ?hr g1.gi ?ho k ?p
  case hr =>
    refine ⟨rfl, fun i x e => ?_⟩
    match i, e with
    | 1, e =>
      cases e
      exact ⟨v1, rfl, hv1⟩
    | i + 2, e => exact absurd (startG_gat (n := 6) (ds := []) (i := i) e) (by simp)
  case ho =>
    intro i es e
    match i, e with
    | i + 2, e => exact startG_no (n := 6) (ds := []) (i := i) e
  refine ⟨_, (z_seq (z_asg (z_call (z_cons z_var (z_cons z_i z_nil))) g_name) (z_seq (z_asg (z_repr z_var) g_name) (z_seq (z_for (ws := [4, 5, 6, 7]) (i_rng1 (z_cons z_i z_nil)) g_name (zg_1_1_3_0 (z_scope (n := 8) (k := 32) (C := [(6, (.l (.t [.o, .o, .l .o]))), (7, (.l (.t [.o, .o, .l .o])))]) (cs := [1, 1, 1, 1, 1, 0, 0, 0]) (cc := [0, 0, 0, 0, 0, 0, 1, 1]) (js1 := [0, 1, 2, 3, 4]) (js2 := []) (jsM := [0, 1, 2, 3, 4, 6, 7]) (w_weak (C'' := [(6, (.l (.t [.o, .o, .l .o]))), (7, (.l (.t [.o, .o, .l .o])))]) (w_par (i := 6) (j := 7) (s1 := (.l (.t [.o, .o, .l .o]))) (s2 := (.l (.t [.o, .o, .l .o]))) (C' := [(6, (.l (.t [.o, .o, .l .o]))), (7, (.l (.t [.o, .o, .l .o])))]) (by decide) (by decide) (by decide) (aw_cons (ew_call (z_cons z_var z_nil)) (aw_cons (ew_call (z_cons z_var z_nil)) aw_nil)) (by simp)) (by simp)) (by repeat' with_reducible first | exact Md.me_var | exact Md.me_c | exact Md.ma_nil | apply Md.ma_cons | apply Md.me_call | apply Md.me_op | apply Md.me_cb | apply Md.me_tup | apply Md.me_lst | apply Md.me_callK | apply Md.me_if | apply Md.me_andV | apply Md.me_orV | apply Md.me_notV | apply Md.me_un | apply Md.me_bm | apply Md.me_bm0 | apply Md.me_sl | apply Md.me_chain | apply Md.me_lc | apply Md.me_lc2 | apply Md.me_dget | apply Md.me_disp | exact Md.mps_nil | apply Md.mps_cons | exact Md.mo_no | apply Md.mo_part | exact Md.mt_yes | apply Md.mt_b | apply Md.mt_test | apply Md.mt_tru | apply Md.mt_not | apply Md.mt_and | apply Md.mt_or | apply Md.mi_list | apply Md.mi_tup | apply Md.mi_rng1 | apply Md.mi_rng2 | apply Md.mi_enum | apply Md.mi_zip | apply Md.mi_zip3 | exact Md.mr_I0 | exact Md.mr_I | exact Md.mr_Eq | exact Md.mr_Ne | exact Md.mr_IxL | exact Md.mr_IxT | exact Md.mr_Cat | exact Md.mr_Rep | exact Md.mr_InD | exact Md.mr_NotInD | exact Md.mr_IsN | exact Md.mr_NotN | exact Md.mr_IsB | exact Md.mr_NotB | exact Md.mr_EqD | exact Md.mr_NeD | exact Md.mR_LenS | exact Md.mR_ListS | exact Md.mR_Sum | exact Md.mR_Max | exact Md.mR_Min | exact Md.mR_Any | exact Md.mR_All | exact Md.mR_Repr | exact Md.mR_Isi | exact Md.mR_Int1 | exact Md.mR_Abs | exact Md.mR_Gcd | exact Md.mR_Lcm | exact Md.mR_TupS | exact Md.mR_Min2 | exact Md.mR_Max2 | exact Md.mR_SortedI | exact Md.mb_Append | exact Md.mb_Clear | exact Md.mb_Extend | exact Md.mb_IndexD | exact Md.ml_SlL | exact Md.ml_SlT | exact Md.mu_u | exact Md.ms_setL | exact Md.msp_P | exact Md.msp_N | exact Md.msp_W | exact Md.msp_WN | exact Md.msp_Q | apply Md.kg_name | exact Md.kg_nil | apply Md.kg_cons | apply Md.kg_tup | apply Md.kg_sub | apply Md.km_seq | apply Md.km_asg | apply Md.km_if | exact Md.km_next | apply Md.km_ret | apply Md.km_for | apply Md.km_while | apply Md.km_drop | apply Md.km_par | apply Md.km_cut | exact Md.km_retN | exact Md.km_never | exact Md.km_break | exact Md.km_cont | decide) (z_ifS (z_or (z_not (z_tB (z_call (z_cons z_var (z_cons (z_ofN (z_callN (z_cons z_var (z_cons z_s z_nil)))) z_nil))))) (z_not (z_tB (z_call (z_cons z_var (z_cons (z_ofN (z_callN (z_cons z_var (z_cons z_s z_nil)))) z_nil)))))) (z_ret z_b) z_next) (by repeat' with_reducible first | exact Md.me_var | exact Md.me_c | exact Md.ma_nil | apply Md.ma_cons | apply Md.me_call | apply Md.me_op | apply Md.me_cb | apply Md.me_tup | apply Md.me_lst | apply Md.me_callK | apply Md.me_if | apply Md.me_andV | apply Md.me_orV | apply Md.me_notV | apply Md.me_un | apply Md.me_bm | apply Md.me_bm0 | apply Md.me_sl | apply Md.me_chain | apply Md.me_lc | apply Md.me_lc2 | apply Md.me_dget | apply Md.me_disp | exact Md.mps_nil | apply Md.mps_cons | exact Md.mo_no | apply Md.mo_part | exact Md.mt_yes | apply Md.mt_b | apply Md.mt_test | apply Md.mt_tru | apply Md.mt_not | apply Md.mt_and | apply Md.mt_or | apply Md.mi_list | apply Md.mi_tup | apply Md.mi_rng1 | apply Md.mi_rng2 | apply Md.mi_enum | apply Md.mi_zip | apply Md.mi_zip3 | exact Md.mr_I0 | exact Md.mr_I | exact Md.mr_Eq | exact Md.mr_Ne | exact Md.mr_IxL | exact Md.mr_IxT | exact Md.mr_Cat | exact Md.mr_Rep | exact Md.mr_InD | exact Md.mr_NotInD | exact Md.mr_IsN | exact Md.mr_NotN | exact Md.mr_IsB | exact Md.mr_NotB | exact Md.mr_EqD | exact Md.mr_NeD | exact Md.mR_LenS | exact Md.mR_ListS | exact Md.mR_Sum | exact Md.mR_Max | exact Md.mR_Min | exact Md.mR_Any | exact Md.mR_All | exact Md.mR_Repr | exact Md.mR_Isi | exact Md.mR_Int1 | exact Md.mR_Abs | exact Md.mR_Gcd | exact Md.mR_Lcm | exact Md.mR_TupS | exact Md.mR_Min2 | exact Md.mR_Max2 | exact Md.mR_SortedI | exact Md.mb_Append | exact Md.mb_Clear | exact Md.mb_Extend | exact Md.mb_IndexD | exact Md.ml_SlL | exact Md.ml_SlT | exact Md.mu_u | exact Md.ms_setL | exact Md.msp_P | exact Md.msp_N | exact Md.msp_W | exact Md.msp_WN | exact Md.msp_Q | apply Md.kg_name | exact Md.kg_nil | apply Md.kg_cons | apply Md.kg_tup | apply Md.kg_sub | apply Md.km_seq | apply Md.km_asg | apply Md.km_if | exact Md.km_next | apply Md.km_ret | apply Md.km_for | apply Md.km_while | apply Md.km_drop | apply Md.km_par | apply Md.km_cut | exact Md.km_retN | exact Md.km_never | exact Md.km_break | exact Md.km_cont | decide) (mf_seq (k := 30) (m := 2) (ws := [5]) (by decide) (by simp) (mf_forC (s0 := (.t [.o, .o, .l .o])) (k := 1) (m := 30) 30 (by decide) (mp_var (i := 6) (s := (.l (.t [.o, .o, .l .o]))) (by simp)) (mp_var (i := 7) (s := (.l (.t [.o, .o, .l .o]))) (by simp)) (gw_name (by decide)) (by decide) (mn_app (s := .o) (mp_ixT (j := 2) (s := (.l .o)) rfl (mp_var (i := 5) (s := (.t [.o, .o, .l .o])) (by simp))) ma_c) rfl (by decide)) (mn_seq (k := 1) (m := 1) (ws := [5]) (by decide) (by simp) (mn_clear (s := (.t [.o, .o, .l .o])) (mp_var (i := 6) (s := (.l (.t [.o, .o, .l .o]))) (by simp))) (mn_clear (s := (.t [.o, .o, .l .o])) (mp_var (i := 7) (s := (.l (.t [.o, .o, .l .o]))) (by simp)))) (by decide)) (by decide) (by decide) (by decide) rfl rfl (by decide) (by simp)))) (z_ret (z_eqS (z_repr z_var) z_var))))), ?_⟩
  clear hv1 g1 hS k hgd
  refine seq_hide fun R1 hR1 => ?_
  ac_rfl
  refine kGame7_i (by decide) (by decide) (by rw [hdl]; decide) hd fun G hW _ _ hl => ?_
  have h12 := hW.l12
  have h6 : ∀ p ∈ G, p.bs.length ≤ 6 := fun p hp => (hW.p p hp).l6
  subst hR1
  refine seq_hide fun R2 hR2 => ?_
  ac_rfl
  have nG := nice_gv hW
  have n1 : ∃ ds, gvD G = PyData.list ds ∨ gvD G = PyData.tuple ds := ⟨_, .inl rfl⟩
  have n2 := nG.show_
  have n3 := nG.nd
  have n4 : (gvD G).depth ≤ 60 := Nat.le_trans nG.dep (by decide)
  have n5 : (gvD G).shown.length ≤ sizeLine := Nat.le_trans nG.len (by decide)
  refine ⟨n1, n2, n3, n4, n5, ?_⟩
  obtain ⟨kp, ekp⟩ : ∃ s, s = (gvD G).shown := ⟨_, rfl⟩
  rw [← ekp]
  subst hR2
  refine seq_hide fun R3 hR3 => ?_
  obtain ⟨GA, hGA⟩ : ∃ GA : Gam, GA = [none, some (Sl.d (PyData.list (List.map PyData.int ds))), some (Sl.d (gvD G)), some (Sl.d (PyData.str kp)), none, none, none, none] := ⟨_, rfl⟩
  refine for_hide fun B hB => ?_
  refine dfor_rng 2 (fun k => .int (k : Int)) (fun P hP => ?_) (fun i Γ' => Γ' = GA) (by rw [hGA] <;> rfl) ?_ ?_
  · ac_rfl
    exact ⟨by decide, by decide, hP⟩
  · rintro i Γ' hi rfl
    clear hR3
    subst hB
    rw [hGA]
    refine ⟨rfl, ?_⟩
    try dsimp only [dVar, dC, dTup, dLst, dOfN, dNil, dCons, dII, dAdd, dSub, dMul, dMulW, dLt, dLe, dGt, dGe, dIxL, dIxT, dEqD, dNeD, dEqS, dNeS, dIsN, dNotN, dIf, dTest, dNot, dAnd, dOr, dYes, dAndV, dOrV, dNotV, dPNone, dPart, dSl, dCat, dRep, dLen, dListOf, dInt1, dAbs, dCall, dCallN, dCallK, dCallKN, dSum, dMax, dMin, dAll, dAny, dRepr, dIsi, dTupOf, dMax2, dMin2, dGcd, dLcm, dFdiv, dModI, dNeg, dInD, dNiD, dPow, dIsB, dNotB, dChain, cI, dgN, dgNil, dgCons, dgT, diL, diT, diR1, diR2, diZ, diE, dNext, dBreak, dCont, dSeq, dCut, dAsg, dAsgS, dAsgO, dPar, dAug, dApp, dAppS, dSet, dSetS, dAugL, dIfS, dRet, dRetS, dRetN, dRetO, dRetNone, dTell, tellG, dIndex, dTru, gat, allD, wipeG, List.set_cons_zero, List.set_cons_succ, List.length_cons, List.length_nil, List.map_cons, List.map_nil, onI_i, onB_b, onL_l, onT_t, onSq_l, onSq_t, scD_i, scD_b, scD_s, scD_n, onT_nD, onT_nQ, onL_nums, onL_gv, onL_listQ, onL_nats, onL_rats, onT_D, isNo_n, isNo_i, isNo_l, isNo_t, eqS_i, eqS_s, eqS_n, eqS_in, onSq_nums, onSq_gv, onSq_listQ, onSq_nats, onSq_nD, onSq_nQ, onL_ints, onSq_ints, onT_br, eqS_b, Bool.not_true, Bool.not_false, List.cons_append, List.nil_append, own_cons, own_nil, dKix, onL_tab, onL_row, onL_mat, diZ3, dPar3, dPar3O, dRevL, dRetT2, dAsgT2, dAsgOB, dExt, dForL, dSorted, dAsgX, dAsgXN, dAsgXO, dAppX, dAppXN, dSetX, dSetXN, dAsgIx, dSetIx, dRetX, dRetXN, dgL, onL_chD, onT_C, onSq_chD, dAsgQ, dParQ, dForQ, dAsgOQ, dAppQ, dSlT, dForRQ, dPar2O, dScope, dScope0, dScopeL, lowG_cons, lowG_nil, mrgG_cons, mrgG_nil, pk2_0, pk2_1, pk3_0, pk3_1, pk3_2, endG_cons, endG_nil]
    refine ⟨G, rfl, by omega, h6, G, rfl, by omega, h6, ?_⟩
    have eg : ∀ o, PyData.list ((G.map (drP o)).map PlV.D) = gvD (G.map (drP o)) := fun _ => rfl
    refine ⟨G, false, rfl, rfl, by omega, h6, rfl, dep_gv (dr_wf hW), ?_⟩
    unfold onB
    dsimp only
    rw [if_neg (by decide)]
    refine ⟨G, true, rfl, rfl, by omega, h6, rfl, dep_gv (dr_wf hW), ?_⟩
    dsimp only
    rw [if_neg (by decide)]
    refine ⟨⟨⟨_, _, rfl, rfl, ?_, fun z hz => ?_⟩, ⟨_, rfl⟩, ⟨_, rfl⟩⟩, by repeat' first | exact trivial | exact rfl | exact Md.pool_sc (by assumption) | refine ⟨?_, ?_⟩, rfl⟩
    · rw [List.length_map, List.length_map, List.length_map, List.length_map]
      omega
    · have : ∃ p ∈ G, ∃ o, z = (drP o p).D := by
        rcases List.mem_append.mp hz with hz | hz
        · obtain ⟨q, hq, rfl⟩ := List.mem_map.mp hz
          obtain ⟨p, hp, rfl⟩ := List.mem_map.mp hq
          exact ⟨p, hp, _, rfl⟩
        · obtain ⟨q, hq, rfl⟩ := List.mem_map.mp hz
          obtain ⟨p, hp, rfl⟩ := List.mem_map.mp hq
          exact ⟨p, hp, _, rfl⟩
      obtain ⟨p, hp, o, rfl⟩ := this
      have h6p := h6 p hp
      rw [drP_D]
      exact ⟨_, ⟨_, rfl, rfl⟩, by rw [List.length_map]; omega⟩
  · rintro Γ' rfl
    clear hB
    rw [hGA]
    subst hR3
    ac_rfl
    refine ⟨n1, n2, n3, n4, n5, _, rfl, ?_⟩
    rw [← ekp, decide_eq_true rfl]

end
theorem all_mk {l : PySem.W.OpenLaw} {w : World} {K : PySem.W.Frag} {h : Heap} {mg : Str → Option Value} {fa f1 f2 f3 f4 f5 f6 f7 f8 f9 f10 f11 f12 f13 : Addr} (X : K.In h) (G : h.Ns mainGlobals mg) (hfa : mg "law" = some (.ref fa))
    {oc1 kV1 dc1 pm1 cd1 ct1 : Value} {od1 an1 : Option Addr} {sl1 : Array (Option Value)}
    {oc2 kV2 dc2 pm2 cd2 ct2 : Value} {od2 an2 : Option Addr} {sl2 : Array (Option Value)}
    {oc3 kV3 dc3 pm3 cd3 ct3 : Value} {od3 an3 : Option Addr} {sl3 : Array (Option Value)}
    {oc4 kV4 dc4 pm4 cd4 ct4 : Value} {od4 an4 : Option Addr} {sl4 : Array (Option Value)}
    {oc5 kV5 dc5 pm5 cd5 ct5 : Value} {od5 an5 : Option Addr} {sl5 : Array (Option Value)}
    {oc6 kV6 dc6 pm6 cd6 ct6 : Value} {od6 an6 : Option Addr} {sl6 : Array (Option Value)}
    {oc7 kV7 dc7 pm7 cd7 ct7 : Value} {od7 an7 : Option Addr} {sl7 : Array (Option Value)}
    {oc8 kV8 dc8 pm8 cd8 ct8 : Value} {od8 an8 : Option Addr} {sl8 : Array (Option Value)}
    {oc9 kV9 dc9 pm9 cd9 ct9 : Value} {od9 an9 : Option Addr} {sl9 : Array (Option Value)}
    {oc10 kV10 dc10 pm10 cd10 ct10 : Value} {od10 an10 : Option Addr} {sl10 : Array (Option Value)}
    {oc11 kV11 dc11 pm11 cd11 ct11 : Value} {od11 an11 : Option Addr} {sl11 : Array (Option Value)}
    {oc12 kV12 dc12 pm12 cd12 ct12 : Value} {od12 an12 : Option Addr} {sl12 : Array (Option Value)}
    {oc13 kV13 dc13 pm13 cd13 ct13 : Value} {od13 an13 : Option Addr} {sl13 : Array (Option Value)}
    (a1 : PySem.W.nsIn K mainGlobals "_law_draws" = some (some (.ref f1)))
    (l1 : K.lookup f1 = some ⟨oc1, od1, .func (PySem.W.fnOf "_law_draws" "_law_draws" (defArgs s_draws) (defBody s_draws) (defScope s_draws) .none kV1 dc1 pm1 an1 cd1 ct1), sl1⟩)
    (c1 : PySem.W.codeIn K cd1 "_law_draws" = true) (k1 : PySem.W.keepIn K (.ref f1) = true)
    (a2 : PySem.W.nsIn K mainGlobals "_law_gcd" = some (some (.ref f2)))
    (l2 : K.lookup f2 = some ⟨oc2, od2, .func (PySem.W.fnOf "_law_gcd" "_law_gcd" (defArgs s_gcd) (defBody s_gcd) (defScope s_gcd) .none kV2 dc2 pm2 an2 cd2 ct2), sl2⟩)
    (c2 : PySem.W.codeIn K cd2 "_law_gcd" = true) (k2 : PySem.W.keepIn K (.ref f2) = true)
    (a3 : PySem.W.nsIn K mainGlobals "_law_number" = some (some (.ref f3)))
    (l3 : K.lookup f3 = some ⟨oc3, od3, .func (PySem.W.fnOf "_law_number" "_law_number" (defArgs s_number) (defBody s_number) (defScope s_number) .none kV3 dc3 pm3 an3 cd3 ct3), sl3⟩)
    (c3 : PySem.W.codeIn K cd3 "_law_number" = true) (k3 : PySem.W.keepIn K (.ref f3) = true)
    (a4 : PySem.W.nsIn K mainGlobals "_law_place" = some (some (.ref f4)))
    (l4 : K.lookup f4 = some ⟨oc4, od4, .func (PySem.W.fnOf "_law_place" "_law_place" (defArgs s_place) (defBody s_place) (defScope s_place) .none kV4 dc4 pm4 an4 cd4 ct4), sl4⟩)
    (c4 : PySem.W.codeIn K cd4 "_law_place" = true) (k4 : PySem.W.keepIn K (.ref f4) = true)
    (a5 : PySem.W.nsIn K mainGlobals "_law_game" = some (some (.ref f5)))
    (l5 : K.lookup f5 = some ⟨oc5, od5, .func (PySem.W.fnOf "_law_game" "_law_game" (defArgs s_game) (defBody s_game) (defScope s_game) .none kV5 dc5 pm5 an5 cd5 ct5), sl5⟩)
    (c5 : PySem.W.codeIn K cd5 "_law_game" = true) (k5 : PySem.W.keepIn K (.ref f5) = true)
    (a6 : PySem.W.nsIn K mainGlobals "targets_of" = some (some (.ref f6)))
    (l6 : K.lookup f6 = some ⟨oc6, od6, .func (PySem.W.fnOf "targets_of" "targets_of" (defArgs s_targets_of) (defBody s_targets_of) (defScope s_targets_of) .none kV6 dc6 pm6 an6 cd6 ct6), sl6⟩)
    (c6 : PySem.W.codeIn K cd6 "targets_of" = true) (k6 : PySem.W.keepIn K (.ref f6) = true)
    (a7 : PySem.W.nsIn K mainGlobals "_with_draws_of" = some (some (.ref f7)))
    (l7 : K.lookup f7 = some ⟨oc7, od7, .func (PySem.W.fnOf "_with_draws_of" "_with_draws_of" (defArgs s__with_draws_of) (defBody s__with_draws_of) (defScope s__with_draws_of) .none kV7 dc7 pm7 an7 cd7 ct7), sl7⟩)
    (c7 : PySem.W.codeIn K cd7 "_with_draws_of" = true) (k7 : PySem.W.keepIn K (.ref f7) = true)
    (a8 : PySem.W.nsIn K mainGlobals "against_us" = some (some (.ref f8)))
    (l8 : K.lookup f8 = some ⟨oc8, od8, .func (PySem.W.fnOf "against_us" "against_us" (defArgs s_against_us) (defBody s_against_us) (defScope s_against_us) .none kV8 dc8 pm8 an8 cd8 ct8), sl8⟩)
    (c8 : PySem.W.codeIn K cd8 "against_us" = true) (k8 : PySem.W.keepIn K (.ref f8) = true)
    (a9 : PySem.W.nsIn K mainGlobals "for_us" = some (some (.ref f9)))
    (l9 : K.lookup f9 = some ⟨oc9, od9, .func (PySem.W.fnOf "for_us" "for_us" (defArgs s_for_us) (defBody s_for_us) (defScope s_for_us) .none kV9 dc9 pm9 an9 cd9 ct9), sl9⟩)
    (c9 : PySem.W.codeIn K cd9 "for_us" = true) (k9 : PySem.W.keepIn K (.ref f9) = true)
    (a10 : PySem.W.nsIn K mainGlobals "_law_targets" = some (some (.ref f10)))
    (l10 : K.lookup f10 = some ⟨oc10, od10, .func (PySem.W.fnOf "_law_targets" "_law_targets" (defArgs s_targets) (defBody s_targets) (defScope s_targets) .none kV10 dc10 pm10 an10 cd10 ct10), sl10⟩)
    (c10 : PySem.W.codeIn K cd10 "_law_targets" = true) (k10 : PySem.W.keepIn K (.ref f10) = true)
    (a11 : PySem.W.nsIn K mainGlobals "_law_due" = some (some (.ref f11)))
    (l11 : K.lookup f11 = some ⟨oc11, od11, .func (PySem.W.fnOf "_law_due" "_law_due" (defArgs s_due) (defBody s_due) (defScope s_due) .none kV11 dc11 pm11 an11 cd11 ct11), sl11⟩)
    (c11 : PySem.W.codeIn K cd11 "_law_due" = true) (k11 : PySem.W.keepIn K (.ref f11) = true)
    (a12 : PySem.W.nsIn K mainGlobals "_law_same" = some (some (.ref f12)))
    (l12 : K.lookup f12 = some ⟨oc12, od12, .func (PySem.W.fnOf "_law_same" "_law_same" (defArgs s_same) (defBody s_same) (defScope s_same) .none kV12 dc12 pm12 an12 cd12 ct12), sl12⟩)
    (c12 : PySem.W.codeIn K cd12 "_law_same" = true) (k12 : PySem.W.keepIn K (.ref f12) = true)
    (a13 : PySem.W.nsIn K mainGlobals "law" = some (some (.ref f13)))
    (l13 : K.lookup f13 = some ⟨oc13, od13, .func (PySem.W.fnOf "law" "law" (defArgs s_law) (defBody s_law) (defScope s_law) .none kV13 dc13 pm13 an13 cd13 ct13), sl13⟩)
    (c13 : PySem.W.codeIn K cd13 "law" = true) (k13 : PySem.W.keepIn K (.ref f13) = true)
    (z_len : PySem.W.nsIn K mainGlobals "len" = some none)
    (z_int : PySem.W.nsIn K mainGlobals "int" = some none)
    (z_range : PySem.W.nsIn K mainGlobals "range" = some none)
    (z_abs : PySem.W.nsIn K mainGlobals "abs" = some none)
    (z_repr : PySem.W.nsIn K mainGlobals "repr" = some none)
    (z_list : PySem.W.nsIn K mainGlobals "list" = some none)
    (z_isinstance : PySem.W.nsIn K mainGlobals "isinstance" = some none)
    (z_sum : PySem.W.nsIn K mainGlobals "sum" = some none)
    (z_zip : PySem.W.nsIn K mainGlobals "zip" = some none)
    (z_bool : PySem.W.nsIn K mainGlobals "bool" = some none)
    (z_enumerate : PySem.W.nsIn K mainGlobals "enumerate" = some none)
    (z_tuple : PySem.W.nsIn K mainGlobals "tuple" = some none)
    (z_str : PySem.W.nsIn K mainGlobals "str" = some none)
    (z_all : PySem.W.nsIn K mainGlobals "all" = some none)
    (z_any : PySem.W.nsIn K mainGlobals "any" = some none)
    (z_min : PySem.W.nsIn K mainGlobals "min" = some none)
    (z_max : PySem.W.nsIn K mainGlobals "max" = some none) :
    ∃ fd : FuncData, (∀ (s : Shared) (v : Value), BindsTo s fd ⟨[v], []⟩ [("script", v)]) ∧ ∀ B : Heap, K.In B → B.Ns mainGlobals mg → LawOk l.prog w K mg B 7 fa fd ["script"] (spLaw K) := by
  have e := hfa.symm.trans (PySem.W.mg_of X G a13)
  cases e
  have T : Bt mg := ⟨PySem.W.mg_none_of X G z_len, PySem.W.mg_none_of X G z_int, PySem.W.mg_none_of X G z_range, PySem.W.mg_none_of X G z_abs, PySem.W.mg_none_of X G z_repr, PySem.W.mg_none_of X G z_list, PySem.W.mg_none_of X G z_isinstance, PySem.W.mg_none_of X G z_sum, PySem.W.mg_none_of X G z_zip, PySem.W.mg_none_of X G z_bool, PySem.W.mg_none_of X G z_enumerate, PySem.W.mg_none_of X G z_tuple, PySem.W.mg_none_of X G z_str, PySem.W.mg_none_of X G z_all, PySem.W.mg_none_of X G z_any, PySem.W.mg_none_of X G z_min, PySem.W.mg_none_of X G z_max⟩
  have F1 := fun_mk (st := s_draws) l1 c1 k1
  have D1 : IsDef K mg "_law_draws" s_draws ["script", "count"] := ⟨_, _, F1, PySem.W.mg_of X G a1, F1.binds (ps := ["script", "count"]) fun _ _ _ _ _ _ us hl => match us, hl with | [_, _], _ => rfl⟩
  have F2 := fun_mk (st := s_gcd) l2 c2 k2
  have D2 : IsDef K mg "_law_gcd" s_gcd ["a", "b"] := ⟨_, _, F2, PySem.W.mg_of X G a2, F2.binds (ps := ["a", "b"]) fun _ _ _ _ _ _ us hl => match us, hl with | [_, _], _ => rfl⟩
  have F3 := fun_mk (st := s_number) l3 c3 k3
  have D3 : IsDef K mg "_law_number" s_number ["n", "d"] := ⟨_, _, F3, PySem.W.mg_of X G a3, F3.binds (ps := ["n", "d"]) fun _ _ _ _ _ _ us hl => match us, hl with | [_, _], _ => rfl⟩
  have F4 := fun_mk (st := s_place) l4 c4 k4
  have D4 : IsDef K mg "_law_place" s_place ["draws", "many"] := ⟨_, _, F4, PySem.W.mg_of X G a4, F4.binds (ps := ["draws", "many"]) fun _ _ _ _ _ _ us hl => match us, hl with | [_, _], _ => rfl⟩
  have F5 := fun_mk (st := s_game) l5 c5 k5
  have D5 : IsDef K mg "_law_game" s_game ["draws", "most"] := ⟨_, _, F5, PySem.W.mg_of X G a5, F5.binds (ps := ["draws", "most"]) fun _ _ _ _ _ _ us hl => match us, hl with | [_, _], _ => rfl⟩
  have F6 := fun_mk (st := s_targets_of) l6 c6 k6
  have D6 : IsDef K mg "targets_of" s_targets_of ["place"] := ⟨_, _, F6, PySem.W.mg_of X G a6, F6.binds (ps := ["place"]) fun _ _ _ _ _ _ us hl => match us, hl with | [_], _ => rfl⟩
  have F7 := fun_mk (st := s__with_draws_of) l7 c7 k7
  have D7 : IsDef K mg "_with_draws_of" s__with_draws_of ["game", "side"] := ⟨_, _, F7, PySem.W.mg_of X G a7, F7.binds (ps := ["game", "side"]) fun _ _ _ _ _ _ us hl => match us, hl with | [_, _], _ => rfl⟩
  have F8 := fun_mk (st := s_against_us) l8 c8 k8
  have D8 : IsDef K mg "against_us" s_against_us ["game"] := ⟨_, _, F8, PySem.W.mg_of X G a8, F8.binds (ps := ["game"]) fun _ _ _ _ _ _ us hl => match us, hl with | [_], _ => rfl⟩
  have F9 := fun_mk (st := s_for_us) l9 c9 k9
  have D9 : IsDef K mg "for_us" s_for_us ["game"] := ⟨_, _, F9, PySem.W.mg_of X G a9, F9.binds (ps := ["game"]) fun _ _ _ _ _ _ us hl => match us, hl with | [_], _ => rfl⟩
  have F10 := fun_mk (st := s_targets) l10 c10 k10
  have D10 : IsDef K mg "_law_targets" s_targets ["place"] := ⟨_, _, F10, PySem.W.mg_of X G a10, F10.binds (ps := ["place"]) fun _ _ _ _ _ _ us hl => match us, hl with | [_], _ => rfl⟩
  have F11 := fun_mk (st := s_due) l11 c11 k11
  have D11 : IsDef K mg "_law_due" s_due ["game", "side"] := ⟨_, _, F11, PySem.W.mg_of X G a11, F11.binds (ps := ["game", "side"]) fun _ _ _ _ _ _ us hl => match us, hl with | [_, _], _ => rfl⟩
  have F12 := fun_mk (st := s_same) l12 c12 k12
  have D12 : IsDef K mg "_law_same" s_same ["actual", "due"] := ⟨_, _, F12, PySem.W.mg_of X G a12, F12.binds (ps := ["actual", "due"]) fun _ _ _ _ _ _ us hl => match us, hl with | [_, _], _ => rfl⟩
  refine ⟨PySem.W.fnOf "law" "law" (defArgs s_law) (defBody s_law) (defScope s_law) .none kV13 dc13 pm13 an13 cd13 ct13, fun s v => .of_eq rfl, fun B _ _ => ?_⟩
  have Ug := has_gcdW (P := l.prog) (w := w) (base := B) T D2
  have Un := has_numberW D3 Ug
  have Unw := numberW_weak Un
  have Ud := has_draws (P := l.prog) (w := w) (base := B) T D1
  have Upl := has_place7 T D4 Unw
  have Uga := (has_game7 T D5 Upl).to fun _ _ _ _ => c_game7
  have Wtg := has_targets_of (P := l.prog) (w := w) (base := B) D6 T
  have Wdr := has__with_draws_of D7 T Wtg
  have Wag := has_against_us D8 Wdr
  have Wfo := has_for_us D9 Wdr
  have Ult := has_targets (P := l.prog) (w := w) (base := B) D10 T
  have Udu := has_due D11 T Ult
  have Usa := (has_same (P := l.prog) (w := w) (base := B) T D12 6).to fun _ _ _ _ => c_same
  exact ok_law (fun_mk (st := s_law) l13 c13 k13) Ud T Uga Wag Wfo Udu Usa
end Md

open PySem PySem.W PyProof.Rows in
set_option maxRecDepth 100000 in
set_option maxHeartbeats 0 in
theorem PySem.Challenge.cw_meanhold_k63_games_against_and_for_us_holds : PySem.Challenge.rw_meanhold_k63_games_against_and_for_us.Holds := by
  w_on; o_law; k_head; (case hw => w_witness2)
  k_fill
  refine Md.law_walk (l := PySem.Challenge.rw_meanhold_k63_games_against_and_for_us) (k := 7) (sp := Md.spLaw) (x := "script") rfl rfl ⟨rfl, by decide, by decide⟩ (fun w h Y => PySem.W.kIn_of Y) ?F (fun K H a ns hl _ hS => ⟨a, ns, rfl, hS, hl, fun _ => rfl⟩)
  case F =>
    intro w mg fa h KX G hmg
    refine' Md.all_mk KX G hmg ?a1 ?l1 ?c1 ?k1 ?a2 ?l2 ?c2 ?k2 ?a3 ?l3 ?c3 ?k3 ?a4 ?l4 ?c4 ?k4 ?a5 ?l5 ?c5 ?k5 ?a6 ?l6 ?c6 ?k6 ?a7 ?l7 ?c7 ?k7 ?a8 ?l8 ?c8 ?k8 ?a9 ?l9 ?c9 ?k9 ?a10 ?l10 ?c10 ?k10 ?a11 ?l11 ?c11 ?k11 ?a12 ?l12 ?c12 ?k12 ?a13 ?l13 ?c13 ?k13 ?z_len ?z_int ?z_range ?z_abs ?z_repr ?z_list ?z_isinstance ?z_sum ?z_zip ?z_bool ?z_enumerate ?z_tuple ?z_str ?z_all ?z_any ?z_min ?z_max
    (case a1 => k_is)
    (case l1 => k_is)
    (case c1 => k_is)
    (case k1 => k_is)
    (case a2 => k_is)
    (case l2 => k_is)
    (case c2 => k_is)
    (case k2 => k_is)
    (case a3 => k_is)
    (case l3 => k_is)
    (case c3 => k_is)
    (case k3 => k_is)
    (case a4 => k_is)
    (case l4 => k_is)
    (case c4 => k_is)
    (case k4 => k_is)
    (case a5 => k_is)
    (case l5 => k_is)
    (case c5 => k_is)
    (case k5 => k_is)
    (case a6 => k_is)
    (case l6 => k_is)
    (case c6 => k_is)
    (case k6 => k_is)
    (case a7 => k_is)
    (case l7 => k_is)
    (case c7 => k_is)
    (case k7 => k_is)
    (case a8 => k_is)
    (case l8 => k_is)
    (case c8 => k_is)
    (case k8 => k_is)
    (case a9 => k_is)
    (case l9 => k_is)
    (case c9 => k_is)
    (case k9 => k_is)
    (case a10 => k_is)
    (case l10 => k_is)
    (case c10 => k_is)
    (case k10 => k_is)
    (case a11 => k_is)
    (case l11 => k_is)
    (case c11 => k_is)
    (case k11 => k_is)
    (case a12 => k_is)
    (case l12 => k_is)
    (case c12 => k_is)
    (case k12 => k_is)
    (case a13 => k_is)
    (case l13 => k_is)
    (case c13 => k_is)
    (case k13 => k_is)
    (case z_len => k_is)
    (case z_int => k_is)
    (case z_range => k_is)
    (case z_abs => k_is)
    (case z_repr => k_is)
    (case z_list => k_is)
    (case z_isinstance => k_is)
    (case z_sum => k_is)
    (case z_zip => k_is)
    (case z_bool => k_is)
    (case z_enumerate => k_is)
    (case z_tuple => k_is)
    (case z_str => k_is)
    (case z_all => k_is)
    (case z_any => k_is)
    (case z_min => k_is)
    (case z_max => k_is)
