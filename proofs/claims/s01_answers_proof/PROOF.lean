import PyProof.Rows.All
import Wide.All
import OpenK.AllK
import Wide.FinOn
import PyProof.EqAt
import PyProof.EqKinds
import PyProof.TupleCall
import Open.SpecLaws
import KE.OsGo
import HandS.ForSpec
import HandS.ForMost
import HandS.Evl
import HandS.Flow
import PySem.Challenge.RW_lettersent_s01_answers
import HandS.SortKw
import KE.DataMinKey
import HandS.Lambda
import HandS.Nested
import PyKh414
import PyFlatLaws
import HandS.EndTab
set_option Elab.async false
set_option linter.all false
set_option maxRecDepth 100000
set_option maxHeartbeats 4000000
namespace LS
open PySem PySem.Spec PyProof.Rows L2 Evl

/-! ### names for readings -/
abbrev rAdd : R2 := rI0 fun i j => .int (i + j)
abbrev rSub : R2 := rI0 fun i j => .int (i - j)
abbrev rMul : R2 := rI CMul fun i j => .int (i * j)
abbrev rLt : R2 := rI0 fun i j => .bl (decide (i < j))
abbrev rGt : R2 := rI0 fun i j => .bl (decide (j < i))
abbrev rLe : R2 := rI0 fun i j => .bl (decide (i ≤ j))
abbrev rGe : R2 := rI0 fun i j => .bl (decide (j ≤ i))

abbrev rIsN : R2 := fun x y H Q => y = .non ∧ Q (.bl (decide (x = .non))) H
abbrev rNotN : R2 := fun x y H Q => y = .non ∧ Q (.bl (!decide (x = .non))) H

/-! ### a def that keeps its promise, with all that a call of it asks -/
def Ok (P : Program) (w : World) (K : PySem.W.Frag) (mg : Str → Option Value) (base : Heap) (k : Nat) (f : Addr) (ps : List Str) (sp : Sp) : Prop :=
  PySem.W.keepIn K (.ref f) = true ∧ ∃ fd, FnOk P w K mg base CX0 k f fd ps sp ∧ Binds K fd ps []
section
variable {X : Cx} {k j : Nat} {f C : Addr} {ps : List Str} {sp : Sp} {x m : Str} {p pos apos : Pos} {e o : Expr} {es : List Expr} {t : TA} {ta : TE}
theorem pe_callG (G : Ok X.prog X.w X.K X.mg X.base k f ps sp) (hr : Room j X.A) (hk : k ≤ j) (hg : Gl X x) (hm : X.mg x = some (.ref f)) (hx : Passes CX0 X E0) (ha : PA X (e :: es) t)
    (hd : (x == Str.ofString "__debug__") = false := by rfl) (hst : starEach (e :: es) X.env = (false, eval e X.env) :: starEach es X.env := by rfl) (hpl : (backTo pos (starEach es X.env)).any (·.1) = false := by rfl) :
    PE X (.Call (.Name x p) (e :: es) [] pos) (tCall sp [] E0 t) := by
  obtain ⟨kp, fd, F, b⟩ := G
  exact pe_call F (hr.mono hk) hg hm kp b .nil hx ha hd hst hpl
theorem pe_callG0 (G : Ok X.prog X.w X.K X.mg X.base k f ps sp) (hr : Room j X.A) (hk : k ≤ j) (hg : Gl X x) (hm : X.mg x = some (.ref f)) (hx : Passes CX0 X E0)
    (hd : (x == Str.ofString "__debug__") = false := by rfl) : PE X (.Call (.Name x p) [] [] pos) (tCall sp [] E0 tNil) := by
  obtain ⟨kp, fd, F, b⟩ := G
  exact pe_call0 F (hr.mono hk) hg hm kp b .nil hx hd
theorem pe_methG {pl : Sem Bool} (he : PE X o ta) (c : Cls X.K C) (hm : PySem.W.findIn X.K (.ref C) m = some (some (.ref f)) ∧ PySem.W.isFn X.K (.ref f) = true)
    (G : Ok X.prog X.w X.K X.mg X.base k f ps sp) (hr : Room j X.A) (hk : k ≤ j) (hx : Passes CX0 X E0) (ha : PA X (e :: es) t)
    (hst : starEach (e :: es) X.env = (false, eval e X.env) :: starEach es X.env := by rfl) (hpl : (backTo pos (starEach es X.env)).any (·.1) = false := by rfl)
    (ht : eval (.Call (.Attribute o m apos) (e :: es) [] pos) X.env = (do
      let ov ← eval o X.env
      standAt apos.atName
      let (f, first) ← holding [ov] (getMethod ov m pl)
      callWith pos f first (backTo pos (starEach (e :: es) X.env)) (backToKw pos (keywordEach [] X.env))) := by rfl) :
    PE X (.Call (.Attribute o m apos) (e :: es) [] pos) (tMeth C m sp [] E0 ta t) := by
  obtain ⟨kp, fd, F, b⟩ := G
  exact pe_meth he c ⟨hm.1, hm.2, kp⟩ F (hr.mono hk) b .nil hx ha hst hpl ht
theorem pe_methG0 {pl : Sem Bool} (he : PE X o ta) (c : Cls X.K C) (hm : PySem.W.findIn X.K (.ref C) m = some (some (.ref f)) ∧ PySem.W.isFn X.K (.ref f) = true)
    (G : Ok X.prog X.w X.K X.mg X.base k f ps sp) (hr : Room j X.A) (hk : k ≤ j) (hx : Passes CX0 X E0)
    (ht : eval (.Call (.Attribute o m apos) [] [] pos) X.env = (do
      let ov ← eval o X.env
      standAt apos.atName
      let (f, first) ← holding [ov] (getMethod ov m pl)
      callWith pos f first (backTo pos (starEach [] X.env)) (backToKw pos (keywordEach [] X.env))) := by rfl) :
    PE X (.Call (.Attribute o m apos) [] [] pos) (tMeth C m sp [] E0 ta tNil) := by
  obtain ⟨kp, fd, F, b⟩ := G
  exact pe_meth0 he c ⟨hm.1, hm.2, kp⟩ F (hr.mono hk) b .nil hx ht
theorem pe_makeG (M : Mk X.K C f) (G : Ok X.prog X.w X.K X.mg X.base k f ps sp) (hr : Room j X.A) (hk : k + 1 ≤ j) (hg : Gl X x) (hm : X.mg x = some (.ref C)) (hx : Passes CX0 X E0) (ha : PA X (e :: es) t)
    (hd : (x == Str.ofString "__debug__") = false := by rfl) (hst : starEach (e :: es) X.env = (false, eval e X.env) :: starEach es X.env := by rfl) (hpl : (backTo pos (starEach es X.env)).any (·.1) = false := by rfl) :
    PE X (.Call (.Name x p) (e :: es) [] pos) (tMake C sp [] E0 t) := by
  obtain ⟨kp, fd, F, b⟩ := G
  exact pe_make M F (hr.mono hk) hg hm b .nil hx ha hd hst hpl
theorem pe_makeG0 (M : Mk X.K C f) (G : Ok X.prog X.w X.K X.mg X.base k f ps sp) (hr : Room j X.A) (hk : k + 1 ≤ j) (hg : Gl X x) (hm : X.mg x = some (.ref C)) (hx : Passes CX0 X E0)
    (hd : (x == Str.ofString "__debug__") = false := by rfl) : PE X (.Call (.Name x p) [] [] pos) (tMake C sp [] E0 tNil) := by
  obtain ⟨kp, fd, F, b⟩ := G
  exact pe_make0 M F (hr.mono hk) hg hm b .nil hx hd
/-- a whole number of the module's top -/
theorem pe_num {n : Int} (hg : Gl X x) (hm : ∃ tk, X.mg x = some (.int n tk)) (hd : (x == Str.ofString "__debug__") = false := by rfl) : PE X (.Name x pos) (tC (.int n)) := by
  obtain ⟨tk, hm⟩ := hm
  exact pe_glob hg hm ⟨_, rfl⟩ hd
/-- an object of the module's top -/
theorem pe_obj {a : Addr} (hg : Gl X x) (hm : X.mg x = some (.ref a)) (hd : (x == Str.ofString "__debug__") = false := by rfl) : PE X (.Name x pos) (tC (.ref a)) :=
  pe_glob hg hm rfl hd
end

/-! ### what readings evaluate to: fields, methods -/
section
variable {K : PySem.W.Frag} {σ : L2.St} {H H' : Hp} {ta tb te : TE} {v z : V} {C dx p : Addr} {fs : List (Str × V)} {f m : Str}
theorem ev_fld (h : Ev te σ H (.ref p)) (hp : H p = some (.ins C dx fs)) (c : Cls K C) (n : NoAttr K C f) (l : fs.lookup f = some v) : Ev (tFld K te f) σ H v := fun H1 e Q q =>
  h H1 e _ fun H2 e2 => ⟨p, C, dx, fs, v, rfl, (e.trans e2) p _ hp, c, n, l, q H2 e2⟩
theorem ev_meth {sp : Sp} {vs : List V} {E : XK} {tr : TA} (h : Ev te σ H (.ref p)) (hp : H p = some (.ins C dx fs)) (l : fs.lookup m = none) (ha : EvA tr σ H vs) (hs : SpV sp (.ref p :: vs) H z) : Ev (tMeth C m sp [] E te tr) σ H z := fun H1 e Q q =>
  h H1 e _ fun H2 e2 => ⟨p, dx, fs, rfl, (e.trans e2) p _ hp, l, ha H2 (e.trans e2) _ fun H3 e3 => by
    rw [List.append_nil]
    exact hs H3 ((e.trans e2).trans e3) Q (fun H4 e4 => q H4 ((e2.trans e3).trans e4)) E⟩
theorem el_meth {sp : Sp} {vs xs : List V} {E : XK} {tr : TA} (h : Ev te σ H (.ref p)) (hp : H p = some (.ins C dx fs)) (l : fs.lookup m = none) (ha : EvA tr σ H vs) (hs : SpL sp (.ref p :: vs) H xs) : EvL (tMeth C m sp [] E te tr) σ H xs := fun H1 e Q q =>
  h H1 e _ fun H2 e2 => ⟨p, dx, fs, rfl, (e.trans e2) p _ hp, l, ha H2 (e.trans e2) _ fun H3 e3 => by
    rw [List.append_nil]
    exact hs H3 ((e.trans e2).trans e3) Q (fun a H4 ha e4 h4 => q a H4 (fresh_back (e2.trans e3) ha) ((e2.trans e3).trans e4) h4) E⟩
theorem ev_call1 {sp : Sp} {vs : List V} {E : XK} {tr : TA} (h : EvA tr σ H vs) (hs : SpV sp vs H z) : Ev (tCall sp [] E tr) σ H z := ev_call h (by rw [List.append_nil]; exact hs)
theorem el_call1 {sp : Sp} {vs xs : List V} {E : XK} {tr : TA} (h : EvA tr σ H vs) (hs : SpL sp vs H xs) : EvL (tCall sp [] E tr) σ H xs := el_call h (by rw [List.append_nil]; exact hs)
end
end LS

namespace LS
open PySem PySem.Spec PyProof.Rows L2 Evl
section
variable {K : PySem.W.Frag} {σ : L2.St} {H H' : Hp} {ta tb te : TE} {v z : V} {p q : Addr}
/-! ### lists put together -/
theorem el_catLV {xs ys : List V} (ha : EvL ta σ H xs) (hb : Ev tb σ H (.ref q)) (hq : H q = some (.lst ys)) (hl : xs.length + ys.length ≤ 100000) : EvL (tOp rCat ta tb) σ H (xs ++ ys) := fun H1 e Q k =>
  ha H1 e _ fun p H2 hp e2 h2 => hb H2 (e.trans e2) _ fun H3 e3 => ⟨p, q, xs, ys, rfl, rfl, e3 _ _ h2, ((e.trans e2).trans e3) _ _ hq, sz_of hl, fun r hr =>
    k r _ (fresh_back (e2.trans e3) hr) ((e2.trans e3).trans (Ex.new hr)) upd_same⟩
theorem el_catVL {xs ys : List V} (ha : Ev ta σ H (.ref p)) (hp : H p = some (.lst xs)) (hb : EvL tb σ H ys) (hl : xs.length + ys.length ≤ 100000) : EvL (tOp rCat ta tb) σ H (xs ++ ys) := fun H1 e Q k =>
  ha H1 e _ fun H2 e2 => hb H2 (e.trans e2) _ fun q H3 hq e3 h3 => ⟨p, q, xs, ys, rfl, rfl, ((e.trans e2).trans e3) _ _ hp, h3, sz_of hl, fun r hr =>
    k r _ (fresh_back (e2.trans e3) hr) ((e2.trans e3).trans (Ex.new hr)) upd_same⟩
theorem el_catLL {xs ys : List V} (ha : EvL ta σ H xs) (hb : EvL tb σ H ys) (hl : xs.length + ys.length ≤ 100000) : EvL (tOp rCat ta tb) σ H (xs ++ ys) := fun H1 e Q k =>
  ha H1 e _ fun p H2 hp e2 h2 => hb H2 (e.trans e2) _ fun q H3 hq e3 h3 => ⟨p, q, xs, ys, rfl, rfl, e3 _ _ h2, h3, sz_of hl, fun r hr =>
    k r _ (fresh_back (e2.trans e3) hr) ((e2.trans e3).trans (Ex.new hr)) upd_same⟩
theorem el_catVV {xs ys : List V} (ha : Ev ta σ H (.ref p)) (hp : H p = some (.lst xs)) (hb : Ev tb σ H (.ref q)) (hq : H q = some (.lst ys)) (hl : xs.length + ys.length ≤ 100000) : EvL (tOp rCat ta tb) σ H (xs ++ ys) := fun H1 e Q k =>
  ha H1 e _ fun H2 e2 => hb H2 (e.trans e2) _ fun H3 e3 => ⟨p, q, xs, ys, rfl, rfl, ((e.trans e2).trans e3) _ _ hp, ((e.trans e2).trans e3) _ _ hq, sz_of hl, fun r hr =>
    k r _ (fresh_back (e2.trans e3) hr) ((e2.trans e3).trans (Ex.new hr)) upd_same⟩
/-- [x, ..] * n -/
theorem el_rep {xs : List V} {n : Nat} (ha : EvL ta σ H xs) (hb : Ev tb σ H (.int (n : Int))) (hl : xs.length * n ≤ 100000) (hn : n ≤ 100000) : EvL (tOp rRep ta tb) σ H (List.replicate n xs).flatten := fun H1 e Q k =>
  ha H1 e _ fun p H2 hp e2 h2 => hb H2 (e.trans e2) _ fun H3 e3 => ⟨p, (n : Int), xs, rfl, rfl, e3 _ _ h2, by omega, by omega, sz_of (by simpa using hl), fun r hr =>
    k r _ (fresh_back (e2.trans e3) hr) ((e2.trans e3).trans (Ex.new hr)) upd_same⟩
/-! ### any, all, max, sum -/
theorem ev_anyN {bs : List Bool} (h : EvL te σ H (bs.map V.bl)) : Ev (tCB (rAny K) (tCons te tNil)) σ H (.bl (bs.any id)) := fun H1 e Q k =>
  h H1 e _ fun p H2 _ e2 h2 => ⟨p, bs, rfl, sq_of h2, k H2 e2⟩
theorem ev_allN {bs : List Bool} (h : EvL te σ H (bs.map V.bl)) : Ev (tCB (rAll K) (tCons te tNil)) σ H (.bl (bs.all id)) := fun H1 e Q k =>
  h H1 e _ fun p H2 _ e2 h2 => ⟨p, bs, rfl, sq_of h2, k H2 e2⟩
theorem ev_sumN {ns : List Int} (h : EvL te σ H (ns.map V.int)) : Ev (tCB (rSum K) (tCons te tNil)) σ H (.int ns.sum) := fun H1 e Q k =>
  h H1 e _ fun p H2 _ e2 h2 => ⟨p, ns, rfl, sq_of h2, k H2 e2⟩
theorem ev_sumV {ns : List Int} (h : Ev te σ H (.ref p)) (hp : SqL K H p (ns.map V.int)) : Ev (tCB (rSum K) (tCons te tNil)) σ H (.int ns.sum) := fun H1 e Q k =>
  h H1 e _ fun H2 e2 => ⟨p, ns, rfl, ex_l (e.trans e2) hp, k H2 e2⟩
theorem is_max {ns : List Int} {m m' : Int} (h : m ∈ ns ∧ ∀ y ∈ ns, y ≤ m) (h1 : m' ∈ ns) (h2 : ∀ y, y ∈ ns → y ≤ m') : m' = m := by
  have a := h.2 m' h1
  have b := h2 m h.1
  omega
theorem ev_maxV {ns : List Int} {m : Int} (h : Ev te σ H (.ref p)) (hp : SqL K H p (ns.map V.int)) (hm : m ∈ ns ∧ ∀ y ∈ ns, y ≤ m) : Ev (tCB (rMax K) (tCons te tNil)) σ H (.int m) := fun H1 e Q k =>
  h H1 e _ fun H2 e2 => ⟨p, ns, rfl, ex_l (e.trans e2) hp, List.length_pos_of_mem hm.1, fun m' h1 h2 => by
    rw [is_max hm h1 h2]
    exact k H2 e2⟩
theorem ev_maxN {ns : List Int} {m : Int} (h : EvL te σ H (ns.map V.int)) (hm : m ∈ ns ∧ ∀ y ∈ ns, y ≤ m) : Ev (tCB (rMax K) (tCons te tNil)) σ H (.int m) := fun H1 e Q k =>
  h H1 e _ fun p H2 _ e2 h2 => ⟨p, ns, rfl, sq_of h2, List.length_pos_of_mem hm.1, fun m' h1 h2 => by
    rw [is_max hm h1 h2]
    exact k H2 e2⟩
/-! ### something new of which Pr is told -/
def EvR (te : TE) (σ : L2.St) (H : Hp) (Pr : Addr → Hp → Prop) : Prop := ∀ H1, Ex H H1 → ∀ Q : VK, (∀ p H2, H1 p = none → Ex H1 H2 → Pr p H2 → Q (.ref p) H2) → te σ H1 Q
def RetR (Pr : Addr → Hp → Prop) (H : Hp) (Q : VK) : Prop := ∀ p H2, H p = none → Ex H H2 → Pr p H2 → Q (.ref p) H2
def SpR (sp : Sp) (vs : List V) (H : Hp) (Pr : Addr → Hp → Prop) : Prop := ∀ H1, Ex H H1 → ∀ Q : VK, (∀ p H2, H1 p = none → Ex H1 H2 → Pr p H2 → Q (.ref p) H2) → ∀ E : XK, sp vs H1 Q E
theorem er_call1 {sp : Sp} {vs : List V} {Pr : Addr → Hp → Prop} {E : XK} {tr : TA} (h : EvA tr σ H vs) (hs : SpR sp vs H Pr) : EvR (tCall sp [] E tr) σ H Pr := fun H1 e Q q =>
  h H1 e _ fun H2 e2 => by
    rw [List.append_nil]
    exact hs H2 (e.trans e2) Q (fun p H3 hp e3 h3 => q p H3 (fresh_back e2 hp) (e2.trans e3) h3) E
theorem EvL.r {xs : List V} (h : EvL te σ H xs) : EvR te σ H (fun p H2 => H2 p = some (.lst xs)) := h
theorem s_retR {D : Ends} {Pr : Addr → Hp → Prop} (h : EvR te σ H Pr) (k : RetR Pr H D.rt) : tRet te D σ H := h H (Ex.refl H) _ k
theorem q_asgR {D : Ends} {i : Nat} {tz : TS} {Pr : Addr → Hp → Prop} (h : EvR te σ H Pr) (k : ∀ p H1, H p = none → Ex H H1 → Pr p H1 → tz D (σ.set i (some (.ref p))) H1) : tSeq (tAsg te (gName i)) tz D σ H := h H (Ex.refl H) _ k
theorem s_asgR {D : Ends} {i : Nat} {Pr : Addr → Hp → Prop} (h : EvR te σ H Pr) (k : ∀ p H1, H p = none → Ex H H1 → Pr p H1 → D.nx (σ.set i (some (.ref p))) H1) : tAsg te (gName i) D σ H := h H (Ex.refl H) _ k
/-- what follows an expression that makes something new: for what stands in a call's argument -/
theorem ev_ofR {Pr : Addr → Hp → Prop} {r : List V → Hp → VK → Prop} (h : EvR te σ H Pr) (hr : ∀ p H1, Ex H H1 → Pr p H1 → RC r [.ref p] H1 z) : Ev (tCB r (tCons te tNil)) σ H z := fun H1 e Q k =>
  h H1 e _ fun p H2 _ e2 h2 => hr p H2 (e.trans e2) h2 H2 (Ex.refl H2) Q fun H3 e3 => k H3 (e2.trans e3)
theorem ev_callR {sp : Sp} {Pr : Addr → Hp → Prop} {E : XK} (h : EvR te σ H Pr) (hr : ∀ p H1, Ex H H1 → Pr p H1 → SpV sp [.ref p] H1 z) : Ev (tCall sp [] E (tCons te tNil)) σ H z := fun H1 e Q k =>
  h H1 e _ fun p H2 _ e2 h2 => hr p H2 (e.trans e2) h2 H2 (Ex.refl H2) Q (fun H3 e3 => k H3 (e2.trans e3)) E
theorem el_callR {sp : Sp} {Pr : Addr → Hp → Prop} {E : XK} {xs : List V} (h : EvR te σ H Pr) (hr : ∀ p H1, Ex H H1 → Pr p H1 → SpL sp [.ref p] H1 xs) : EvL (tCall sp [] E (tCons te tNil)) σ H xs := fun H1 e Q k =>
  h H1 e _ fun p H2 _ e2 h2 => hr p H2 (e.trans e2) h2 H2 (Ex.refl H2) Q (fun r H3 hr e3 h3 => k r H3 (fresh_back e2 hr) (e2.trans e3) h3) E
/-- [.. for x in NEW if ..]: what is made is told of the list that was walked -/
theorem er_lcNR {Pr : Addr → Hp → Prop} {Pq : Addr → Hp → Prop} {tl : TE} {t : TT} {j : Nat} {vs : List Nat} (h : EvR tl σ H Pr) (hw : ∀ x, wipe ((wipe σ vs).set j (some x)) vs = wipe σ vs)
    (hk : ∀ p H1, Ex H H1 → Pr p H1 → ∃ (xs : List V) (f : Nat → Bool) (v : Nat → V), H1 p = some (.lst xs) ∧ xs.length ≤ 40000 ∧
      (∀ (i : Nat) (x : V) H2, Ex H1 H2 → xs[i]? = some x → EvT t ((wipe σ vs).set j (some x)) H2 (f i)) ∧ (∀ (i : Nat) (x : V) H2, Ex H1 H2 → xs[i]? = some x → f i = true → Ev te ((wipe σ vs).set j (some x)) H2 (v i)) ∧
      ∀ q H2, Ex H1 H2 → H2 q = some (.lst (given xs.length f v)) → Pq q H2) :
    EvR (tLc (iList K tl) (gName j) t te vs) σ H Pq := fun H0 e Q q => h H0 e _ fun a H1 ha e1 hx => by
  obtain ⟨xs, f, v, hp, hz, ht, he, hq⟩ := hk a H1 (e.trans e1) hx
  exact ⟨a, rfl, ⟨xs, sq_of hp⟩, fun Dl hD =>
    lc_list (xs := xs) (Cw H1 f v Dl) ⟨hD, Ex.new hD, upd_same⟩ (fun i H' _ p => sq_of (p.2.1 a _ hp)) (fun i x H' hi p => ⟨hw x, cw_turn p (by have := (List.getElem?_eq_some_iff.mp hi).1; omega) (ht i x H1 (Ex.refl H1) hi) (fun hf => he i x H1 (Ex.refl H1) hi hf)⟩)
      (fun H' p => q Dl H' (fresh_back e1 p.1) (e1.trans p.2.1) (hq Dl H' p.2.1 p.2.2))⟩
end
end LS
namespace LS
open PySem PySem.Spec PyProof.Rows L2 Evl
section
variable {K : PySem.W.Frag} {σ : L2.St} {H H' : Hp} {ta tb te : TE} {v z : V} {p q : Addr}
/-! ### some object of which Pr is told, new or not -/
def EvX (te : TE) (σ : L2.St) (H : Hp) (Pr : Addr → Hp → Prop) : Prop := ∀ H1, Ex H H1 → ∀ Q : VK, (∀ p H2, Ex H1 H2 → Pr p H2 → Q (.ref p) H2) → te σ H1 Q
def RetX (Pr : Addr → Hp → Prop) (H : Hp) (Q : VK) : Prop := ∀ p H2, Ex H H2 → Pr p H2 → Q (.ref p) H2
def SpX (sp : Sp) (vs : List V) (H : Hp) (Pr : Addr → Hp → Prop) : Prop := ∀ H1, Ex H H1 → ∀ Q : VK, (∀ p H2, Ex H1 H2 → Pr p H2 → Q (.ref p) H2) → ∀ E : XK, sp vs H1 Q E
theorem ex_call1 {sp : Sp} {vs : List V} {Pr : Addr → Hp → Prop} {E : XK} {tr : TA} (h : EvA tr σ H vs) (hs : SpX sp vs H Pr) : EvX (tCall sp [] E tr) σ H Pr := fun H1 e Q q =>
  h H1 e _ fun H2 e2 => by
    rw [List.append_nil]
    exact hs H2 (e.trans e2) Q (fun p H3 e3 h3 => q p H3 (e2.trans e3) h3) E
theorem EvR.x {Pr : Addr → Hp → Prop} (h : EvR te σ H Pr) : EvX te σ H Pr := fun H1 e Q q => h H1 e Q fun p H2 _ e2 h2 => q p H2 e2 h2
theorem ev_callX {sp : Sp} {Pr : Addr → Hp → Prop} {E : XK} (h : EvX te σ H Pr) (hr : ∀ p H1, Ex H H1 → Pr p H1 → SpV sp [.ref p] H1 z) : Ev (tCall sp [] E (tCons te tNil)) σ H z := fun H1 e Q k =>
  h H1 e _ fun p H2 e2 h2 => hr p H2 (e.trans e2) h2 H2 (Ex.refl H2) Q (fun H3 e3 => k H3 (e2.trans e3)) E
theorem q_asgX {D : Ends} {i : Nat} {tz : TS} {Pr : Addr → Hp → Prop} (h : EvX te σ H Pr) (k : ∀ p H1, Ex H H1 → Pr p H1 → tz D (σ.set i (some (.ref p))) H1) : tSeq (tAsg te (gName i)) tz D σ H := h H (Ex.refl H) _ k
theorem s_retX {D : Ends} {Pr : Addr → Hp → Prop} (h : EvX te σ H Pr) (k : RetX Pr H D.rt) : tRet te D σ H := h H (Ex.refl H) _ k
/-- e[i], e something new -/
theorem ev_ixR {Pr : Addr → Hp → Prop} {i : Int} (ha : EvR ta σ H Pr) (hb : ∀ H1, Ex H H1 → Ev tb σ H1 (.int i)) (hr : ∀ p H1, Ex H H1 → Pr p H1 → ∃ xs, H1 p = some (.lst xs) ∧ atI xs i = some v) : Ev (tOp (rIxL K) ta tb) σ H v := fun H1 e Q k =>
  ha H1 e _ fun p H2 _ e2 h2 => hb H2 (e.trans e2) H2 (Ex.refl H2) _ fun H3 e3 => by
    obtain ⟨xs, h4, h5⟩ := hr p H2 (e.trans e2) h2
    exact ⟨p, xs, i, v, rfl, rfl, sq_of (e3 _ _ h4), h5, k H3 (e2.trans e3)⟩
theorem et_yes : EvT tYes σ H true := fun H1 _ _ q => q H1 (Ex.refl H1)
theorem rcL {xs : List V} {p : Addr} (h : SqL K H p xs) : RC (rLenS K) [.ref p] H (.int (xs.length : Int)) := fun H1 e Q q => ⟨p, xs, rfl, Or.inl (ex_l e h), q H1 (Ex.refl H1)⟩
/-- [e], e a new list -/
theorem er_lst1 {xs : List V} (h : EvL te σ H xs) : EvR (tLst (tCons te tNil)) σ H (fun q H2 => ∃ r, H2 q = some (.lst [.ref r]) ∧ H2 r = some (.lst xs)) := fun H1 e Q q =>
  h H1 e _ fun r H2 hr e2 h2 => ⟨sz_of (Nat.le_of_ble_eq_true rfl), fun s hs => q s _ (fresh_back e2 hs) (e2.trans (Ex.new hs)) ⟨r, upd_same, by rw [upd_ne (ne_of_none h2 hs)]; exact h2⟩⟩
end
end LS

namespace LS
open PySem PySem.Spec PyProof.Rows L2 Evl
section
variable {K : PySem.W.Frag} {σ : L2.St} {H H' : Hp} {ta tb te : TE} {t : TT} {v z : V} {p q : Addr}
/-! ### a list of new lists -/
/-- at Dl a list of n new lists, the i-th holds ys i -/
def NewRows (H : Hp) (ys : Nat → List V) (Dl : Addr) (n : Nat) (H' : Hp) : Prop := H Dl = none ∧ Ex H H' ∧ ∃ rs : List Addr, rs.length = n ∧ rs.Nodup ∧ Dl ∉ rs ∧ (∀ r ∈ rs, H r = none) ∧ H' Dl = some (.lst (rs.map V.ref)) ∧ ∀ i r, rs[i]? = some r → H' r = some (.lst (ys i))
theorem NewRows.start {ys : Nat → List V} {Dl : Addr} (h : H Dl = none) : NewRows H ys Dl 0 (upd H Dl (.lst [])) := ⟨h, Ex.new h, [], rfl, List.nodup_nil, by simp, by simp, upd_same, by simp⟩
theorem NewRows.back {ys : Nat → List V} {Dl : Addr} {n : Nat} {H1 H2 : Hp} (e : Ex H H1) (h : NewRows H1 ys Dl n H2) : NewRows H ys Dl n H2 := by
  obtain ⟨h1, h2, rs, h3, h4, h5, h6, h7, h8⟩ := h
  exact ⟨fresh_back e h1, e.trans h2, rs, h3, h4, h5, fun r hr => fresh_back e (h6 r hr), h7, h8⟩
theorem newrows_turn {ys : Nat → List V} {Dl : Addr} {i : Nat} {σ2 : L2.St} {H' : Hp} (p : NewRows H ys Dl i H') (hi : i < 50000) (he : EvL te σ2 H (ys i)) :
    te σ2 H' fun y H4 => ∃ acc, H4 Dl = some (.lst acc) ∧ acc.length < sizeLine ∧ NewRows H ys Dl (i + 1) (upd H4 Dl (.lst (acc ++ [y]))) := by
  obtain ⟨h1, h2, rs, h3, h4, h5, h6, h7, h8⟩ := p
  refine he H' h2 _ fun r H4 hr e4 h9 => ⟨rs.map V.ref, e4 _ _ h7, sz_lt (by rw [List.length_map]; omega), h1, Ex.mut (h2.trans e4) h1, rs ++ [r], by rw [List.length_append, h3]; rfl, ?_, ?_, ?_, ?_, ?_⟩
  · rw [List.nodup_append]
    refine ⟨h4, by simp, fun x hx y hy => ?_⟩
    rw [List.mem_singleton.mp hy]
    obtain ⟨k, hk⟩ := List.mem_iff_getElem?.mp hx
    exact ne_of_none (h8 k x hk) hr
  · rw [List.mem_append, List.mem_singleton]
    rintro (h | h)
    · exact h5 h
    · rw [← h, h7] at hr
      cases hr
  · intro x hx
    rcases List.mem_append.mp hx with hx | hx
    · exact h6 x hx
    · rw [List.mem_singleton.mp hx]
      exact fresh_back h2 hr
  · rw [upd_same, List.map_append]
    rfl
  · intro j x hx
    have hne : x ≠ Dl := fun z => by
      have hm := List.mem_of_getElem? hx
      rw [z] at hm
      rcases List.mem_append.mp hm with hm | hm
      · exact h5 hm
      · rw [← List.mem_singleton.mp hm, h7] at hr
        cases hr
    rw [upd_ne hne]
    by_cases c : j < rs.length
    · rw [List.getElem?_append_left c] at hx
      exact e4 _ _ (h8 j x hx)
    · rw [List.getElem?_append_right (by omega)] at hx
      have hj : j - rs.length = 0 := by
        have := (List.getElem?_eq_some_iff.mp hx).1
        simp at this
        omega
      rw [hj] at hx
      have hx' : r = x := by simpa using hx
      have ej : j = i := by omega
      subst hx' ej
      exact h9
theorem yes_if {A B : Hp → Prop} (h : A H) : tYes σ H fun b H3 => if b = true then A H3 else B H3 := by
  show (if true = true then A H else B H)
  rw [if_pos rfl]
  exact h
theorem er_lcR1N {ta : TA} {j : Nat} {vs : List Nat} {n : Int} (ys : Nat → List V) (h : EvA ta σ H [.int n]) (hn : 0 ≤ n ∧ n ≤ 40000) (hw : ∀ x, wipe ((wipe σ vs).set j (some x)) vs = wipe σ vs)
    (he : ∀ (i : Nat) H1, Ex H H1 → (i : Int) < n → EvL te ((wipe σ vs).set j (some (.int (i : Int)))) H1 (ys i)) :
    EvR (tLc (iRng1 ta) (gName j) tYes te vs) σ H (fun Dl H2 => NewRows H ys Dl n.toNat H2) := fun H0 e Q q => h H0 e _ fun H1 e1 => ⟨n, rfl, by omega, by omega, fun Dl hD =>
  lc_range (lo := 0) (n := n.toNat) (NewRows H1 ys Dl) (NewRows.start hD) (fun i H' hi p => by
    have e0 : (0 : Int) + (i : Int) = (i : Int) := Int.zero_add _
    refine ⟨?_, ?_⟩
    · rw [e0]
      exact hw _
    · rw [e0]
      refine yes_if ?_
      exact newrows_turn p (by omega) (he i H1 (e.trans e1) (by omega))) (fun H' p => q Dl H' (fresh_back e1 p.1) (e1.trans p.2.1) (p.back (e.trans e1)))⟩
theorem er_lcLN {a : Addr} {xs : List V} {tl : TE} {j : Nat} {vs : List Nat} (ys : Nat → List V) (h : Ev tl σ H (.ref a)) (hx : SqL K H a xs) (hz : xs.length ≤ 40000) (hw : ∀ x, wipe ((wipe σ vs).set j (some x)) vs = wipe σ vs)
    (he : ∀ (i : Nat) (x : V) H1, Ex H H1 → xs[i]? = some x → EvL te ((wipe σ vs).set j (some x)) H1 (ys i)) :
    EvR (tLc (iList K tl) (gName j) tYes te vs) σ H (fun Dl H2 => NewRows H ys Dl xs.length H2) := fun H0 e Q q => h H0 e _ fun H1 e1 => ⟨a, rfl, ⟨xs, ex_l (e.trans e1) hx⟩, fun Dl hD =>
  lc_list (xs := xs) (NewRows H1 ys Dl) (NewRows.start hD) (fun i H' _ p => ex_l ((e.trans e1).trans p.2.1) hx) (fun i x H' hi p => by
    refine ⟨hw x, ?_⟩
    refine yes_if ?_
    exact newrows_turn p (by have := (List.getElem?_eq_some_iff.mp hi).1; omega) (he i x H1 (e.trans e1) hi)) (fun H' p => q Dl H' (fresh_back e1 p.1) (e1.trans p.2.1) (p.back (e.trans e1)))⟩
/-! ### statements that change objects -/
variable {D : Ends} {tz : TS} {C dx : Addr} {fs : List (Str × V)} {f m : Str}
/-- o.f = e -/
theorem s_fld {tv : TE} (hv : Ev tv σ H v) (ho : Ev ta σ H (.ref p)) (hp : H p = some (.ins C dx fs)) (c : Cls K C) (n : NoAttr K C f) (hl : fs.length < 1000) (k : ∀ H1, Ex H H1 → D.nx σ (upd H1 p (.ins C dx (putF f v fs)))) : sFld K ta tv f D σ H :=
  hv H (Ex.refl H) _ fun H1 e1 => ho H1 e1 _ fun H2 e2 => ⟨p, C, dx, fs, rfl, (e1.trans e2) _ _ hp, c, n, hl, k H2 (e1.trans e2)⟩
theorem q_fld {tv : TE} (hv : Ev tv σ H v) (ho : Ev ta σ H (.ref p)) (hp : H p = some (.ins C dx fs)) (c : Cls K C) (n : NoAttr K C f) (hl : fs.length < 1000) (k : ∀ H1, Ex H H1 → tz D σ (upd H1 p (.ins C dx (putF f v fs)))) : tSeq (sFld K ta tv f) tz D σ H :=
  s_fld (D := { D with nx := tz D }) hv ho hp c n hl k
theorem s_fldR {tv : TE} {Pr : Addr → Hp → Prop} (hv : EvR tv σ H Pr) (ho : Ev ta σ H (.ref p)) (hp : H p = some (.ins C dx fs)) (c : Cls K C) (n : NoAttr K C f) (hl : fs.length < 1000) (hm : ∀ r H1 H2, Ex H1 H2 → Pr r H1 → Pr r H2) (k : ∀ r H1, Ex H H1 → H r = none → Pr r H1 → D.nx σ (upd H1 p (.ins C dx (putF f (.ref r) fs)))) : sFld K ta tv f D σ H :=
  hv H (Ex.refl H) _ fun r H1 hr e1 h1 => ho H1 e1 _ fun H2 e2 => ⟨p, C, dx, fs, rfl, (e1.trans e2) _ _ hp, c, n, hl, k r H2 (e1.trans e2) hr (hm r H1 H2 e2 h1)⟩
theorem q_fldR {tv : TE} {Pr : Addr → Hp → Prop} (hv : EvR tv σ H Pr) (ho : Ev ta σ H (.ref p)) (hp : H p = some (.ins C dx fs)) (c : Cls K C) (n : NoAttr K C f) (hl : fs.length < 1000) (hm : ∀ r H1 H2, Ex H1 H2 → Pr r H1 → Pr r H2) (k : ∀ r H1, Ex H H1 → H r = none → Pr r H1 → tz D σ (upd H1 p (.ins C dx (putF f (.ref r) fs)))) : tSeq (sFld K ta tv f) tz D σ H :=
  s_fldR (D := { D with nx := tz D }) hv ho hp c n hl hm k
theorem NewRows.mono {ys : Nat → List V} {Dl : Addr} {n : Nat} {H1 H2 : Hp} (e : Ex H1 H2) (h : NewRows H ys Dl n H1) : NewRows H ys Dl n H2 := by
  obtain ⟨h1, h2, rs, h3, h4, h5, h6, h7, h8⟩ := h
  exact ⟨h1, h2.trans e, rs, h3, h4, h5, h6, e _ _ h7, fun i r hr => e _ _ (h8 i r hr)⟩
/-- o.m(..) by itself, m changes what it is told to -/
theorem s_meth {sp : Sp} {vs : List V} {E : XK} {tr : TA} (h : Ev te σ H (.ref p)) (hp : H p = some (.ins C dx fs)) (l : fs.lookup m = none) (ha : EvA tr σ H vs) (hs : ∀ H1, Ex H H1 → sp (.ref p :: vs) H1 (fun _ H2 => D.nx σ H2) E) : tDrop (tMeth C m sp [] E te tr) D σ H :=
  h H (Ex.refl H) _ fun H1 e1 => ⟨p, dx, fs, rfl, e1 _ _ hp, l, ha H1 e1 _ fun H2 e2 => by
    rw [List.append_nil]
    exact hs H2 (e1.trans e2)⟩
theorem q_meth {sp : Sp} {vs : List V} {E : XK} {tr : TA} (h : Ev te σ H (.ref p)) (hp : H p = some (.ins C dx fs)) (l : fs.lookup m = none) (ha : EvA tr σ H vs) (hs : ∀ H1, Ex H H1 → sp (.ref p :: vs) H1 (fun _ H2 => tz D σ H2) E) : tSeq (tDrop (tMeth C m sp [] E te tr)) tz D σ H :=
  s_meth (D := { D with nx := tz D }) h hp l ha hs
/-- return f(..), f changes what it is told to -/
theorem s_retCall {sp : Sp} {vs : List V} {E : XK} {tr : TA} (ha : EvA tr σ H vs) (hs : ∀ H1, Ex H H1 → sp vs H1 D.rt E) : tRet (tCall sp [] E tr) D σ H :=
  ha H (Ex.refl H) _ fun H1 e1 => by
    rw [List.append_nil]
    exact hs H1 e1
theorem s_retMeth {sp : Sp} {vs : List V} {E : XK} {tr : TA} (h : Ev te σ H (.ref p)) (hp : H p = some (.ins C dx fs)) (l : fs.lookup m = none) (ha : EvA tr σ H vs) (hs : ∀ H1, Ex H H1 → sp (.ref p :: vs) H1 D.rt E) : tRet (tMeth C m sp [] E te tr) D σ H :=
  h H (Ex.refl H) _ fun H1 e1 => ⟨p, dx, fs, rfl, e1 _ _ hp, l, ha H1 e1 _ fun H2 e2 => by
    rw [List.append_nil]
    exact hs H2 (e1.trans e2)⟩
/-- x = o.m(..), m changes what it is told to -/
theorem q_asgMeth {i : Nat} {sp : Sp} {vs : List V} {E : XK} {tr : TA} (h : Ev te σ H (.ref p)) (hp : H p = some (.ins C dx fs)) (l : fs.lookup m = none) (ha : EvA tr σ H vs) (hs : ∀ H1, Ex H H1 → sp (.ref p :: vs) H1 (fun v H2 => tz D (σ.set i (some v)) H2) E) : tSeq (tAsg (tMeth C m sp [] E te tr) (gName i)) tz D σ H :=
  h H (Ex.refl H) _ fun H1 e1 => ⟨p, dx, fs, rfl, e1 _ _ hp, l, ha H1 e1 _ fun H2 e2 => by
    rw [List.append_nil]
    exact hs H2 (e1.trans e2)⟩
/-- x = C(..) -/
theorem q_asgMake {i : Nat} {sp : Sp} {vs : List V} {E : XK} {tr : TA} (ha : EvA tr σ H vs) (hs : ∀ H1 x d, Ex H H1 → H1 x = none → H1 d = none → d ≠ x → sp (.ref x :: vs) (upd (upd H1 d (.own x)) x (.ins C d [])) (fun v H2 => v = .non ∧ tz D (σ.set i (some (.ref x))) H2) E) : tSeq (tAsg (tMake C sp [] E tr) (gName i)) tz D σ H :=
  ha H (Ex.refl H) _ fun H1 e1 x d hx hd hn => by
    rw [List.append_nil]
    exact hs H1 x d e1 hx hd hn
/-- xs.append(C(..)) -/
theorem q_appMake {l : Addr} {xs vs : List V} {sp : Sp} {E : XK} {tr : TA} (hl : H l = some (.lst xs)) (ha : Ev ta σ H (.ref l)) (hargs : EvA tr σ H vs) (hz : xs.length < 100000)
    (hs : ∀ H1 x d, Ex H H1 → H1 x = none → H1 d = none → d ≠ x → sp (.ref x :: vs) (upd (upd H1 d (.own x)) x (.ins C d [])) (fun v H2 => v = .non ∧ H2 l = some (.lst xs) ∧ tz D σ (upd H2 l (.lst (xs ++ [.ref x])))) E) (hm : ∀ vs' H' (Q Q' : VK), (∀ v H2, Q v H2 → Q' v H2) → sp vs' H' Q E → sp vs' H' Q' E) :
    tSeq (tDrop (tBM K "list" rAppend ta (tCons (tMake C sp [] E tr) tNil))) tz D σ H := ha H (Ex.refl H) _ fun H1 e1 =>
  ⟨Or.inl ⟨rfl, xs, sq_of (e1 l _ hl)⟩, hargs H1 e1 _ fun H2 e2 x d hx hd hn => by
    rw [List.append_nil]
    refine hm _ _ _ _ (fun v H3 ⟨h1, h2, h3⟩ => ⟨h1, ?_⟩) (hs H2 x d (e1.trans e2) hx hd hn)
    exact ⟨l, xs, .ref x, rfl, rfl, h2, sz_lt hz, h3⟩⟩
/-- o.f = C(..) -/
theorem q_fldMake {vs : List V} {sp : Sp} {E : XK} {tr : TA} (hargs : EvA tr σ H vs)
    (hs : ∀ H1 x d, Ex H H1 → H1 x = none → H1 d = none → d ≠ x → sp (.ref x :: vs) (upd (upd H1 d (.own x)) x (.ins C d [])) (fun v H2 => v = .non ∧ ta σ H2 fun o H3 => ∃ p C' dx fs, o = .ref p ∧ H3 p = some (.ins C' dx fs) ∧ Cls K C' ∧ NoAttr K C' f ∧ fs.length < 1000 ∧ tz D σ (upd H3 p (.ins C' dx (putF f (.ref x) fs)))) E) :
    tSeq (sFld K ta (tMake C sp [] E tr) f) tz D σ H := hargs H (Ex.refl H) _ fun H1 e1 x d hx hd hn => by
  rw [List.append_nil]
  exact hs H1 x d e1 hx hd hn
end
end LS

/-! min(xs, key=f), max(xs, key=f): xs a list, f an own def that gives whole numbers and leaves what is known. -/
namespace LS
open PySem PySem.Spec PyProof.Rows L2 Evl

theorem best_min (kf : Nat → Int) : ∀ m, argBest (fun i j => decide (kf i < kf j)) m ≤ m ∧ ∀ j, j ≤ m → kf (argBest (fun i j => decide (kf i < kf j)) m) ≤ kf j ∧ (j < argBest (fun i j => decide (kf i < kf j)) m → kf (argBest (fun i j => decide (kf i < kf j)) m) < kf j)
  | 0 => ⟨Nat.le_refl 0, fun j hj => by
      have e : j = 0 := by omega
      subst e
      exact ⟨Int.le_refl _, fun h => absurd h (Nat.lt_irrefl _)⟩⟩
  | m + 1 => by
    have ih := best_min kf m
    unfold argBest
    by_cases c : kf (m + 1) < kf (argBest (fun i j => decide (kf i < kf j)) m)
    · rw [if_pos (decide_eq_true c)]
      refine ⟨Nat.le_refl _, fun j hj => ?_⟩
      by_cases e : j = m + 1
      · subst e
        exact ⟨Int.le_refl _, fun h => absurd h (Nat.lt_irrefl _)⟩
      · have h1 := (ih.2 j (by omega)).1
        exact ⟨by omega, fun _ => by omega⟩
    · rw [if_neg (by simpa using c)]
      refine ⟨by omega, fun j hj => ?_⟩
      by_cases e : j = m + 1
      · subst e
        exact ⟨by omega, fun h => by omega⟩
      · exact ih.2 j (by omega)
theorem best_max (kf : Nat → Int) : ∀ m, argBest (fun i j => decide (kf i > kf j)) m ≤ m ∧ ∀ j, j ≤ m → kf j ≤ kf (argBest (fun i j => decide (kf i > kf j)) m) ∧ (j < argBest (fun i j => decide (kf i > kf j)) m → kf j < kf (argBest (fun i j => decide (kf i > kf j)) m))
  | 0 => ⟨Nat.le_refl 0, fun j hj => by
      have e : j = 0 := by omega
      subst e
      exact ⟨Int.le_refl _, fun h => absurd h (Nat.lt_irrefl _)⟩⟩
  | m + 1 => by
    have ih := best_max kf m
    unfold argBest
    by_cases c : kf (m + 1) > kf (argBest (fun i j => decide (kf i > kf j)) m)
    · rw [if_pos (decide_eq_true c)]
      refine ⟨Nat.le_refl _, fun j hj => ?_⟩
      by_cases e : j = m + 1
      · subst e
        exact ⟨Int.le_refl _, fun h => absurd h (Nat.lt_irrefl _)⟩
      · have h1 := (ih.2 j (by omega)).1
        exact ⟨by omega, fun _ => by omega⟩
    · rw [if_neg (by simpa using c)]
      refine ⟨by omega, fun j hj => ?_⟩
      by_cases e : j = m + 1
      · subst e
        exact ⟨by omega, fun h => by omega⟩
      · exact ih.2 j (by omega)

/-- what the key gives, and that it leaves what is known -/
def KeyOf (sp : Sp) (xs : List V) (H : Hp) (kf : Nat → Int) : Prop := ∀ (i : Nat) (x : V) (H2 : Hp), Ex H H2 → xs[i]? = some x → ∀ (Q : VK) (E : XK), (∀ H3, Ex H2 H3 → Q (.int (kf i)) H3) → sp [x] H2 Q E
def rMinKey (K : PySem.W.Frag) (f : Addr) (sp : Sp) : List V → List V → Hp → VK → Prop := fun vs zs H Q => ∃ (p : Addr) (xs : List V) (kf : Nat → Int), vs = [.ref p] ∧ zs = [.ref f] ∧ SqL K H p xs ∧ 0 < xs.length ∧ KeyOf sp xs H kf ∧
  ∀ (i : Nat) (x : V) (H2 : Hp), xs[i]? = some x → (∀ j, j < xs.length → kf i ≤ kf j ∧ (j < i → kf i < kf j)) → Ex H H2 → Q x H2
def rMaxKey (K : PySem.W.Frag) (f : Addr) (sp : Sp) : List V → List V → Hp → VK → Prop := fun vs zs H Q => ∃ (p : Addr) (xs : List V) (kf : Nat → Int), vs = [.ref p] ∧ zs = [.ref f] ∧ SqL K H p xs ∧ 0 < xs.length ∧ KeyOf sp xs H kf ∧
  ∀ (i : Nat) (x : V) (H2 : Hp), xs[i]? = some x → (∀ j, j < xs.length → kf j ≤ kf i ∧ (j < i → kf j < kf i)) → Ex H H2 → Q x H2

section
variable {X : Cx} {pins : List (Addr × Obj)} {σ : L2.St} {H : Hp} {s : Shared}
/-- untracked records of ours at S and it have turned -/
theorem turned2 {h' : Heap} {t' : Nat} {S it : Addr} (I : Inv X pins σ H s) (k : ∀ b o, b ∉ [S, it] → s.heap.get? b = some o → h'.get? b = some o) (nS : H S = none) (ni : H it = none)
    (hch : ∀ b ∈ [S, it], (b ∈ X.ex ∨ X.s_0.heap.objs.size ≤ b) ∧ b ≠ X.env.locals ∧ (∀ x c, X.env.cells.lookup x = some c → c ≠ b) ∧ ∀ p ∈ X.pn ++ pins, p.1 ≠ b) : Inv X pins σ H { s with heap := h', toks := t' } := by
  have nt : ∀ b u, H b = some u → b ∉ [S, it] := fun b u e z => by
    rcases List.mem_cons.mp z with z | z
    · rw [z, nS] at e; cases e
    · rw [List.mem_singleton.mp z, ni] at e; cases e
  refine I.step (g' := s.gens) (d' := s.drawn) (ch := [S, it]) hch (fun b o _ _ hc e _ => k b o hc e) (fun b o _ _ hc e _ => ⟨o.slots, k b o hc e⟩) (fun _ _ _ _ n => n)
    (fun b o hc e => ⟨o, k b o hc e⟩) (fun _ _ e => e) (fun _ _ _ e => e) (fun b ps e => ⟨#[], by rw [e]; simp⟩) (fun m hm => ?_) (fun b u e => ?_) I.bare
  · obtain ⟨o, es, ep, ho, r⟩ := hm
    refine ⟨o, es, ep, k _ o (fun z => ?_) ho, r⟩
    exact (hch _ z).2.1 rfl
  · refine (I.hok b u e).stay (fun c v hc q => k c v ?_ q) (fun _ q => q) fun _ _ q => q
    rcases hc with z | z
    · rw [z]; exact nt b u e
    · exact nt c _ z
/-- what min and max keep while they run -/
def KJ (X : Cx) (pins : List (Addr × Obj)) (σ : L2.St) (H : Hp) (S it : Addr) (s : Shared) : Prop := ∃ H', Inv X pins σ H' s ∧ Ex H H' ∧ H' S = none ∧ H' it = none
def KP (xs : List V) (i : Nat) (v : Value) : Prop := ∃ x, xs[i]? = some x ∧ RelV x v
def KSt (xs : List V) (it p : Addr) (i : Nat) (s : Shared) : Prop := s.heap.IsListIter it p i ∧ ∃ its : List Value, Vals xs its ∧ s.heap.IsList p its.toArray
theorem kwalks {prog : Program} {w : World} {A : Around} (hh : A.handled = none) {it p : Addr} (hne : p ≠ it) (xs : List V) : WalksS prog w A it [it, p] [it] (fun a b => b = a) xs.length (KP xs) (KSt xs it p) where
  sub := fun b hb => by
    rw [List.mem_singleton.mp hb]
    exact List.mem_cons_self
  grefl := fun _ => rfl
  gtrans := fun _ _ _ h1 h2 => h2.trans h1
  frame := fun i s h' tk ⟨h1, its, r, h2⟩ ht hk => by
    have W := (Walks.list (prog := prog) (w := w) (A := A) hh it p hne its.toArray).toS
    obtain ⟨a, b⟩ := W.frame i s h' tk ⟨h1, h2⟩ ht hk
    exact ⟨a, its, r, b⟩
  item := fun i s Q E hi ⟨h1, its, r, h2⟩ h => by
    have W := (Walks.list (prog := prog) (w := w) (A := A) hh it p hne its.toArray).toS
    refine W.item i s Q E (by rw [List.size_toArray, ← r.length]; exact hi) ⟨h1, h2⟩ fun v s' hv st m => ?_
    obtain ⟨x, hx⟩ : ∃ x, xs[i]? = some x := ⟨_, List.getElem?_eq_getElem hi⟩
    obtain ⟨u, hu, ru⟩ := r.get hx
    have hv' : its[i]? = some v := by simpa using hv
    rw [hu] at hv'
    cases hv'
    exact h _ s' ⟨x, hx, ru⟩ ⟨st.1, its, r, st.2⟩ m
  done := fun s Q E ⟨h1, its, r, h2⟩ h => by
    have W := (Walks.list (prog := prog) (w := w) (A := A) hh it p hne its.toArray).toS
    exact W.done s Q E ⟨by rw [List.size_toArray, ← r.length]; exact h1, h2⟩ h
  self := fun i s Q E ⟨h1, its, r, h2⟩ h => by
    have W := (Walks.list (prog := prog) (w := w) (A := A) hh it p hne its.toArray).toS
    exact W.self i s Q E ⟨h1, h2⟩ h
/-- facts of an address that is new at s -/
theorem new_ch (I : Inv X pins σ H s) {b : Addr} (hb : s.heap.objs.size ≤ b) : (b ∈ X.ex ∨ X.s_0.heap.objs.size ≤ b) ∧ b ≠ X.env.locals ∧ (∀ x c, X.env.cells.lookup x = some c → c ≠ b) ∧ ∀ p ∈ X.pn ++ pins, p.1 ≠ b := by
  refine ⟨Or.inr (Nat.le_trans I.sz hb), fun z => ?_, fun x c e z => ?_, fun p hp z => ?_⟩
  · rw [z] at hb
    exact absurd I.lt (Nat.not_lt.mpr hb)
  · obtain ⟨v, o, ho, _⟩ := I.cell x c e
    rw [z] at ho
    exact absurd (Heap.lt_size ho) (Nat.not_lt.mpr hb)
  · obtain ⟨e, _⟩ := I.pin p hp
    rw [z] at e
    exact absurd (Heap.lt_size e) (Nat.not_lt.mpr hb)
theorem keyrun {k : Nat} {f : Addr} {ps : List Str} {sp : Sp} {op : CmpOp} {xs : List V} {kf : Nat → Int} {S it p : Addr} {bt : Nat → Nat → Bool} (G : Ok X.prog X.w X.K X.mg X.base k f ps sp) (hr : Room (k + 1) X.A)
    (nS : (S ∈ X.ex ∨ X.s_0.heap.objs.size ≤ S) ∧ S ≠ X.env.locals ∧ (∀ x c, X.env.cells.lookup x = some c → c ≠ S) ∧ ∀ p ∈ X.pn ++ pins, p.1 ≠ S) (fS : S ∉ X.fs)
    (ni : (it ∈ X.ex ∨ X.s_0.heap.objs.size ≤ it) ∧ it ≠ X.env.locals ∧ (∀ x c, X.env.cells.lookup x = some c → c ≠ it) ∧ ∀ p ∈ X.pn ++ pins, p.1 ≠ it) (fi : it ∉ X.fs)
    (hs : SqL X.K H p xs) (hk : KeyOf sp xs H kf) (hc : CmpOf X.prog X.w X.A.in1 op (fun i v => ∃ t, v = .int (kf i) t) bt) :
    KeyRun X.prog X.w X.A.in1 (.ref f) op S [it] (fun a b => b = a) xs.length (KP xs) (KSt xs it p) (KJ X pins σ H S it) (fun i v _ => ∃ t, v = .int (kf i) t) bt where
  keep := fun s s' ⟨H', I, e, h1, h2⟩ m => by
    obtain ⟨hp, g, d, tk, os⟩ := s'
    obtain rfl : g = s.gens := m.gens
    obtain rfl : d = s.drawn := m.drawn
    obtain rfl : os = s.os := m.os
    refine ⟨H', turned2 I (fun b o hb q => m.heap b o hb q) h1 h2 (fun b hb => ?_), e, h1, h2⟩
    · rcases List.mem_cons.mp hb with z | z
      · rw [z]; exact nS
      · rw [List.mem_singleton.mp z]; exact ni
  keepV := fun _ _ _ _ h _ => h
  turn := fun i v s o Q E hi ⟨x, hx, rx⟩ ⟨H', I, e, h1, h2⟩ st hS h => by
    obtain ⟨kp, fd, F, b⟩ := G
    have rv : Vals [x] [v] := .cons rx .nil
    have hl : [v].length = ps.length := F.len [x] H' (fun _ _ => True) (fun _ _ _ => True) (hk i x H' e hx _ _ fun _ _ => trivial)
    have bb := b s [v] I.kIn (by rw [List.append_nil]; exact hl)
    rw [List.append_nil] at bb
    refine wpAny_call (codeAny_mono (F.run X.A.in1 X.stack s H' ⟨[v], []⟩ [v] [x] (fun z H3 => z = .int (kf i) ∧ Ex H' H3) (fun _ _ _ => True) hr.in1 I.env0.in1 bb rv (hk i x H' e hx _ _ fun H3 e3 => ⟨rfl, e3⟩)) fun r s' hq => ?_)
    cases r with
    | error z => exact False.elim hq
    | ok fl =>
      cases fl with
      | next => exact False.elim hq
      | brk => exact False.elim hq
      | cont => exact False.elim hq
      | ret u =>
        obtain ⟨v', H'', os, bare, un, hok, ru, rfl, e3⟩ := hq
        obtain ⟨oi, hoi, hi1, hi2⟩ := st.1
        have nst : ∀ {c : Addr}, c ≠ X.env.locals → c ∉ X.fs → c ∉ frs X.stack := fun n1 n2 z => (List.mem_cons.mp (I.stkSub _ z)).elim n1 n2
        have kS := un.keep S o hS h1 (nst nS.2.1 fS) (by simp)
        have ki := un.keep it oi hoi h2 (nst ni.2.1 fi) (by simp)
        obtain ⟨hp, g, d, tk, os'⟩ := s'
        obtain rfl : os' = s.os := os
        have I2 : Inv X pins σ H'' { s with heap := hp, gens := g, drawn := d, toks := tk } := I.call (h' := hp) (g' := g) (d' := d) (t' := tk) (ch := []) un hok bare (fun b z => absurd z (by simp))
        obtain ⟨its, ri, hl2, _⟩ := I2.list (ex_l (e.trans e3) hs)
        exact h u _ ⟨H'', I2, e.trans e3, un.free S o hS h1 (by simp), un.free it oi hoi h2 (by simp)⟩ ⟨⟨oi, ki, hi1, hi2⟩, its, ri, hl2.isList⟩ kS ru (fun _ _ z => z)
  cmp := fun i j ki kj s Q E _ hi hj hQ => hc i j ki kj s Q E hi hj hQ
theorem cr_minKey {k : Nat} {f : Addr} {ps : List Str} {sp : Sp} (G : Ok X.prog X.w X.K X.mg X.base k f ps sp) (hr : Room (k + 1) X.A) : CallRK X (.builtin "min") [Str.ofString "key"] (rMinKey X.K f sp) := by
  intro pins s σ H vs zs us ws Q I rv rz h
  obtain ⟨p, xs, kf, rfl, rfl, hs, hn, hk, hq⟩ := h
  obtain rfl := Vals.ref1 rv
  obtain rfl := Vals.ref1 rz
  obtain ⟨its, rr, hl, hz⟩ := I.list hs
  have hpl : p < s.heap.objs.size := by obtain ⟨_, e, _⟩ := hl.isList; exact Heap.lt_size e
  refine call_min_walkK (PySem.W.iter_listW (A := X.A.in1) hr.hd hl.isList fun s₂ e _ st hfp hw hkp => ?_)
  subst e
  have I2 : Inv X pins σ H { s with heap := s.heap.push { cls := .type "list_iterator", data := .fields #[.ref p, .int 0 0] }, toks := s.toks } := I.kept fun b u q => Heap.get?_push_of_some _ q
  have sz : (s.heap.push { cls := .type "list_iterator", data := .fields #[.ref p, .int 0 0] }).objs.size = s.heap.objs.size + 1 := Heap.size_push ..
  have hS : s.heap.objs.size ≤ (s.heap.push { cls := .type "list_iterator", data := .fields #[.ref p, .int 0 0] }).objs.size := by rw [sz]; exact Nat.le_succ _
  refine ⟨_, _, _, _, xs.length, KP xs, KSt xs s.heap.objs.size p, KJ X pins σ H (s.heap.push { cls := .type "list_iterator", data := .fields #[.ref p, .int 0 0] }).objs.size s.heap.objs.size, (fun i v _ => ∃ t, v = .int (kf i) t), _, rfl, kwalks (A := X.A.in1) hr.hd (Nat.ne_of_lt hpl) xs, ⟨st.1, its, rr, st.2⟩, hfp, hn,
    keyrun G hr (new_ch I hS) (I.nofs hS) (new_ch I (Nat.le_refl _)) (I.nofs (Nat.le_refl _)) hs hk (CmpOf.ints_lt kf fun i v h => h), ⟨H, I2, Ex.refl H, I.hok.fresh hS, I.hok.fresh (Nat.le_refl _)⟩, ?_⟩
  intro v s' ⟨x, hx, rx⟩ ⟨H', I', e', _, _⟩
  have hb := best_min kf (xs.length - 1)
  exact ⟨x, H', I', rx, hq _ x H' hx (fun j hj => hb.2 j (by omega)) e'⟩
theorem cr_maxKey {k : Nat} {f : Addr} {ps : List Str} {sp : Sp} (G : Ok X.prog X.w X.K X.mg X.base k f ps sp) (hr : Room (k + 1) X.A) : CallRK X (.builtin "max") [Str.ofString "key"] (rMaxKey X.K f sp) := by
  intro pins s σ H vs zs us ws Q I rv rz h
  obtain ⟨p, xs, kf, rfl, rfl, hs, hn, hk, hq⟩ := h
  obtain rfl := Vals.ref1 rv
  obtain rfl := Vals.ref1 rz
  obtain ⟨its, rr, hl, hz⟩ := I.list hs
  have hpl : p < s.heap.objs.size := by obtain ⟨_, e, _⟩ := hl.isList; exact Heap.lt_size e
  refine call_max_walkK (PySem.W.iter_listW (A := X.A.in1) hr.hd hl.isList fun s₂ e _ st hfp hw hkp => ?_)
  subst e
  have I2 : Inv X pins σ H { s with heap := s.heap.push { cls := .type "list_iterator", data := .fields #[.ref p, .int 0 0] }, toks := s.toks } := I.kept fun b u q => Heap.get?_push_of_some _ q
  have sz : (s.heap.push { cls := .type "list_iterator", data := .fields #[.ref p, .int 0 0] }).objs.size = s.heap.objs.size + 1 := Heap.size_push ..
  have hS : s.heap.objs.size ≤ (s.heap.push { cls := .type "list_iterator", data := .fields #[.ref p, .int 0 0] }).objs.size := by rw [sz]; exact Nat.le_succ _
  refine ⟨_, _, _, _, xs.length, KP xs, KSt xs s.heap.objs.size p, KJ X pins σ H (s.heap.push { cls := .type "list_iterator", data := .fields #[.ref p, .int 0 0] }).objs.size s.heap.objs.size, (fun i v _ => ∃ t, v = .int (kf i) t), _, rfl, kwalks (A := X.A.in1) hr.hd (Nat.ne_of_lt hpl) xs, ⟨st.1, its, rr, st.2⟩, hfp, hn,
    keyrun G hr (new_ch I hS) (I.nofs hS) (new_ch I (Nat.le_refl _)) (I.nofs (Nat.le_refl _)) hs hk (CmpOf.ints_gt kf fun i v h => h), ⟨H, I2, Ex.refl H, I.hok.fresh hS, I.hok.fresh (Nat.le_refl _)⟩, ?_⟩
  intro v s' ⟨x, hx, rx⟩ ⟨H', I', e', _, _⟩
  have hb := best_max kf (xs.length - 1)
  exact ⟨x, H', I', rx, hq _ x H' hx (fun j hj => hb.2 j (by omega)) e'⟩
/-- min(e, key=f), f a def of the top -/
theorem pe_minKey {k j : Nat} {f : Addr} {ps : List Str} {sp : Sp} {e : Expr} {t : TA} {g : Str} {p p2 kp pos : Pos} (G : Ok X.prog X.w X.K X.mg X.base k f ps sp) (hr : Room j X.A) (hk : k + 1 ≤ j) (hg : Gl X "min") (hm : X.mg "min" = none) (hgf : Gl X g) (hmf : X.mg g = some (.ref f)) (ha : PA X [e] t)
    (hd : (g == Str.ofString "__debug__") = false := by rfl)
    (he : backTo pos (starEach [e] X.env) = (false, eval e X.env) :: backTo pos (starEach [] X.env) := by rfl) (hpl : (backTo pos (starEach [e] X.env)).any (·.1) = false := by rfl) :
    PE X (.Call (.Name "min" p) [e] [⟨some (Str.ofString "key"), .Name g p2, kp⟩] pos) (tCKw (rMinKey X.K f sp) t (tCons (tC (.ref f)) tNil)) :=
  pe_callBK (cr_minKey G (hr.mono hk)) hg hm (by decide +kernel) ha (pk_cons (pe_obj hgf hmf hd) pk_nil) (by decide) (by decide) he hpl
theorem pe_maxKey {k j : Nat} {f : Addr} {ps : List Str} {sp : Sp} {e : Expr} {t : TA} {g : Str} {p p2 kp pos : Pos} (G : Ok X.prog X.w X.K X.mg X.base k f ps sp) (hr : Room j X.A) (hk : k + 1 ≤ j) (hg : Gl X "max") (hm : X.mg "max" = none) (hgf : Gl X g) (hmf : X.mg g = some (.ref f)) (ha : PA X [e] t)
    (hd : (g == Str.ofString "__debug__") = false := by rfl)
    (he : backTo pos (starEach [e] X.env) = (false, eval e X.env) :: backTo pos (starEach [] X.env) := by rfl) (hpl : (backTo pos (starEach [e] X.env)).any (·.1) = false := by rfl) :
    PE X (.Call (.Name "max" p) [e] [⟨some (Str.ofString "key"), .Name g p2, kp⟩] pos) (tCKw (rMaxKey X.K f sp) t (tCons (tC (.ref f)) tNil)) :=
  pe_callBK (cr_maxKey G (hr.mono hk)) hg hm (by decide +kernel) ha (pk_cons (pe_obj hgf hmf hd) pk_nil) (by decide) (by decide) he hpl
end
end LS

/-! max(xs, key=len); max(xs, key=lambda y: ..) where the lambda captures names of the def. -/
namespace LS
open PySem PySem.Spec PyProof.Rows L2 Evl
section
variable {X : Cx} {pins : List (Addr × Obj)} {σ : L2.St} {H : Hp} {s : Shared}
/-- what a key's call gives: kf i; what is known stays, and so do records that nobody tracks -/
def KeyGives (X : Cx) (pins : List (Addr × Obj)) (σ : L2.St) (H : Hp) (q : Value) (xs : List V) (kf : Nat → Int) : Prop :=
  ∀ (i : Nat) (x : V) (v : Value) (s : Shared) (H' : Hp) (Q : Value → Shared → Prop) (E : Value → Shared → Prop), Inv X pins σ H' s → Ex H H' → xs[i]? = some x → RelV x v →
    (∀ (k : Value) (s' : Shared) (H'' : Hp), Inv X pins σ H'' s' → Ex H' H'' → (∃ t, k = .int (kf i) t) → (∀ b o, s.heap.get? b = some o → H' b = none → b ∉ frs X.stack → s'.heap.get? b = some o ∧ H'' b = none) → Q k s') →
    wpAny (model X.prog X.w) X.A.in1 (call q [v]) Q E s
theorem keyrun2 {q : Value} {op : CmpOp} {xs : List V} {kf : Nat → Int} {S it p : Addr} {bt : Nat → Nat → Bool}
    (nS : (S ∈ X.ex ∨ X.s_0.heap.objs.size ≤ S) ∧ S ≠ X.env.locals ∧ (∀ x c, X.env.cells.lookup x = some c → c ≠ S) ∧ ∀ p ∈ X.pn ++ pins, p.1 ≠ S) (fS : S ∉ X.fs)
    (ni : (it ∈ X.ex ∨ X.s_0.heap.objs.size ≤ it) ∧ it ≠ X.env.locals ∧ (∀ x c, X.env.cells.lookup x = some c → c ≠ it) ∧ ∀ p ∈ X.pn ++ pins, p.1 ≠ it) (fi : it ∉ X.fs)
    (hs : SqL X.K H p xs) (hk : KeyGives X pins σ H q xs kf) (hc : CmpOf X.prog X.w X.A.in1 op (fun i v => ∃ t, v = .int (kf i) t) bt) :
    KeyRun X.prog X.w X.A.in1 q op S [it] (fun a b => b = a) xs.length (KP xs) (KSt xs it p) (KJ X pins σ H S it) (fun i v _ => ∃ t, v = .int (kf i) t) bt where
  keep := fun s s' ⟨H', I, e, h1, h2⟩ m => by
    obtain ⟨hp, g, d, tk, os⟩ := s'
    obtain rfl : g = s.gens := m.gens
    obtain rfl : d = s.drawn := m.drawn
    obtain rfl : os = s.os := m.os
    refine ⟨H', turned2 I (fun b o hb q => m.heap b o hb q) h1 h2 (fun b hb => ?_), e, h1, h2⟩
    · rcases List.mem_cons.mp hb with z | z
      · rw [z]; exact nS
      · rw [List.mem_singleton.mp z]; exact ni
  keepV := fun _ _ _ _ h _ => h
  turn := fun i v s o Q E hi ⟨x, hx, rx⟩ ⟨H', I, e, h1, h2⟩ st hS h => by
    have nst : ∀ {c : Addr}, c ≠ X.env.locals → c ∉ X.fs → c ∉ frs X.stack := fun n1 n2 z => (List.mem_cons.mp (I.stkSub _ z)).elim n1 n2
    refine hk i x v s H' Q E I e hx rx fun k s' H'' I2 e3 hkf keep => ?_
    obtain ⟨oi, hoi, hi1, hi2⟩ := st.1
    obtain ⟨kS, nS'⟩ := keep S o hS h1 (nst nS.2.1 fS)
    obtain ⟨ki, ni'⟩ := keep it oi hoi h2 (nst ni.2.1 fi)
    obtain ⟨its, ri, hl2, _⟩ := I2.list (ex_l (e.trans e3) hs)
    exact h k s' ⟨H'', I2, e.trans e3, nS', ni'⟩ ⟨⟨oi, ki, hi1, hi2⟩, its, ri, hl2.isList⟩ kS hkf (fun _ _ z => z)
  cmp := fun i j ki kj s Q E _ hi hj hQ => hc i j ki kj s Q E hi hj hQ
/-- max over a list by a key that is called, the first of the greatest -/
theorem max_by {q : Value} {p : Addr} {xs : List V} {kf : Nat → Int} {Q : Value → Shared → Prop} {E : Value → Shared → Prop} (hh : X.A.handled = none) (I : Inv X pins σ H s) (hs : SqL X.K H p xs) (hn : 0 < xs.length) (hk : KeyGives X pins σ H q xs kf)
    (hQ : ∀ (i : Nat) (x : V) (v : Value) (s' : Shared) (H' : Hp), xs[i]? = some x → (∀ j, j < xs.length → kf j ≤ kf i ∧ (j < i → kf j < kf i)) → RelV x v → Inv X pins σ H' s' → Ex H H' → Q v s') :
    wpAny (model X.prog X.w) X.A.in1 (pyIter (.ref p)) (fun it s₂ => ∃ I fp wr G n P St J V bt, it = .ref I ∧ WalksS X.prog X.w X.A.in1 I fp wr G n P St ∧ St 0 s₂ ∧ (∀ b ∈ fp, b < s₂.heap.objs.size) ∧ 0 < n ∧ KeyRun X.prog X.w X.A.in1 q .Gt s₂.heap.objs.size wr G n P St J V bt ∧ J s₂ ∧ ∀ v s', P (argBest bt (n - 1)) v → J s' → Q v s') E s := by
  obtain ⟨its, rr, hl, hz⟩ := I.list hs
  have hpl : p < s.heap.objs.size := by obtain ⟨_, e, _⟩ := hl.isList; exact Heap.lt_size e
  refine PySem.W.iter_listW (A := X.A.in1) hh hl.isList fun s₂ e _ st hfp hw hkp => ?_
  subst e
  have I2 : Inv X pins σ H { s with heap := s.heap.push { cls := .type "list_iterator", data := .fields #[.ref p, .int 0 0] }, toks := s.toks } := I.kept fun b u q => Heap.get?_push_of_some _ q
  have sz : (s.heap.push { cls := .type "list_iterator", data := .fields #[.ref p, .int 0 0] }).objs.size = s.heap.objs.size + 1 := Heap.size_push ..
  have hS : s.heap.objs.size ≤ (s.heap.push { cls := .type "list_iterator", data := .fields #[.ref p, .int 0 0] }).objs.size := by rw [sz]; exact Nat.le_succ _
  refine ⟨_, _, _, _, xs.length, KP xs, KSt xs s.heap.objs.size p, KJ X pins σ H (s.heap.push { cls := .type "list_iterator", data := .fields #[.ref p, .int 0 0] }).objs.size s.heap.objs.size, (fun i v _ => ∃ t, v = .int (kf i) t), _, rfl, kwalks (A := X.A.in1) hh (Nat.ne_of_lt hpl) xs, ⟨st.1, its, rr, st.2⟩, hfp, hn,
    keyrun2 (new_ch I hS) (I.nofs hS) (new_ch I (Nat.le_refl _)) (I.nofs (Nat.le_refl _)) hs hk (CmpOf.ints_gt kf fun i v h => h), ⟨H, I2, Ex.refl H, I.hok.fresh hS, I.hok.fresh (Nat.le_refl _)⟩, ?_⟩
  intro v s' ⟨x, hx, rx⟩ ⟨H', I', e', _, _⟩
  have hb := best_max kf (xs.length - 1)
  exact hQ _ x v s' H' hx (fun j hj => hb.2 j (by omega)) rx I' e'
/-! ### key=len -/
def rMaxLen (K : PySem.W.Frag) : List V → Hp → VK → Prop := fun vs H Q => ∃ (p : Addr) (xs : List V) (kn : Nat → Nat), vs = [.ref p] ∧ SqL K H p xs ∧ 0 < xs.length ∧ (∀ i x, xs[i]? = some x → ∃ r ys, x = .ref r ∧ SqL K H r ys ∧ ys.length = kn i) ∧
  ∀ (i : Nat) (x : V) (H2 : Hp), xs[i]? = some x → (∀ j, j < xs.length → kn j ≤ kn i ∧ (j < i → kn j < kn i)) → Ex H H2 → Q x H2
theorem gives_len {xs : List V} {kn : Nat → Nat} (h : ∀ i x, xs[i]? = some x → ∃ r ys, x = .ref r ∧ SqL X.K H r ys ∧ ys.length = kn i) : KeyGives X pins σ H (.builtin "len") xs (fun i => (kn i : Int)) := by
  intro i x v s H' Q E I e hx rx k
  obtain ⟨r, ys, rfl, hr, hl⟩ := h i x hx
  obtain rfl : v = Value.ref r := rx
  have hn := line63
  obtain ⟨its, r', pl, hz⟩ := I.list (ex_l e hr)
  have hlen := r'.length
  refine Calls.call_len_list pl.isList (by simp only [List.size_toArray] <;> omega) (k _ _ H' (I.tok _) (Ex.refl H') ⟨s.toks + 1, ?_⟩ fun b o hb hn _ => ⟨hb, hn⟩)
  rw [List.size_toArray, ← hlen, hl]
theorem pe_maxLen {e : Expr} {t : TA} {p p2 kp pos : Pos} {j : Nat} (hr : Room j X.A) (hg : Gl X "max") (hm : X.mg "max" = none) (hgl : Gl X "len") (hml : X.mg "len" = none) (ha : PA X [e] t)
    (he : backTo pos (starEach [e] X.env) = (false, eval e X.env) :: backTo pos (starEach [] X.env) := by rfl) (hpl : (backTo pos (starEach [e] X.env)).any (·.1) = false := by rfl) :
    PE X (.Call (.Name "max" p) [e] [⟨some (Str.ofString "key"), .Name "len" p2, kp⟩] pos) (tCB (rMaxLen X.K) t) := by
  refine ⟨fun pins s σ H Q I h => ?_⟩
  refine wpAny_Call_Name_kw (ld_blt I hg hm (show bootBuiltins (Str.ofString "max") = some (.builtin "max") by decide +kernel) ?_ (by decide) (by decide))
  refine PyProof.Rows.callWith_kw (thn (ha.run pos pins s σ H _ I h) fun us s1 ⟨vs, H1, I1, r1, q1⟩ => ?_) he hpl rfl rfl
  refine wpAny_evalAll_cons (wpAny_bind (ld_blt I1 hgl hml PySem.boot_len (wpAny_bind (wpAny_standAt (wpAny_pure (wpAny_evalAll_nil ?_)))) (by decide) (by decide)))
  obtain ⟨q, xs, kn, rfl, hs, hn, hkn, hq⟩ := q1
  obtain rfl := Vals.ref1 r1
  refine call_max_walkKB (max_by hr.hd I1 hs hn (gives_len hkn) fun i x v s' H' hx hmax rx I' e' => ?_)
  exact ⟨x, H', I', rx, hq i x H' hx (fun j hj => ⟨by have := (hmax j hj).1; omega, fun hji => by have := (hmax j hj).2 hji; omega⟩) e'⟩
/-! ### key=a lambda -/
open LamX NdefX
/-- H' is H but for the table at P, which may have grown, and for what is new -/
def ButP (P : Addr) (H H' : Hp) : Prop := (∀ b o, b ≠ P → H b = some o → H' b = some o) ∧ ∀ b, H' b = none → H b = none
theorem butP_refl {P : Addr} : ButP P H H := ⟨fun _ _ _ h => h, fun _ h => h⟩
/-- a lambda is made -/
theorem lam_new {c P : Addr} {params : Arguments} {body : Expr} {scope : Scope} {pos : Pos} {E : Value → Shared → Prop} {Q : Value → Shared → Prop} (I : Inv X pins σ H s) (TB : LamX.TabB X.base X.mg c P) (hcode : X.env.code = .ref c) (hT : TabS H P (X.env.qual ++ "<lambda>"))
    (hdef : defaultsOf params X.env = ([], [])) (hfree : ∀ y ∈ scope.names, y.2 = .free → ∃ c, X.env.cells.lookup y.1 = some c)
    (h : ∀ (f c1 : Addr) (pm ctv : Value) (H1 : Hp) (s1 : Shared), Inv X ((f, PySem.W.kla_obj "<lambda>" (X.env.qual ++ "<lambda>") params body scope (cloFrom X.env.cells scope.names []) pm c1 ctv) :: pins) σ H1 s1 → ButP P H H1 → TabS H1 P (X.env.qual ++ "<lambda>") → H1 c1 = some (CodeO c1 (X.env.qual ++ "<lambda>")) → Q (.ref f) s1) :
    wpAny (model X.prog X.w) X.A (eval (.Lambda params body scope pos) X.env) Q E s := by
  have pinned : ∀ {f : Addr} {o : Obj} {fd : FuncData} {H1 : Hp} {h1 : Heap} {tk : Nat}, Inv X pins σ H1 { s with heap := h1, toks := tk } → h1.get? f = some o → o.data = .func fd → s.heap.objs.size ≤ f → H1 f = none → Inv X ((f, o) :: pins) σ H1 { s with heap := h1, toks := tk } := by
    intro f o fd H1 h1 tk J hf hd hsz hn
    refine ⟨J.ok, J.os, J.bare, J.base, J.loc, J.cell, J.free, J.freeC, fun p hp => ?_, J.hok, J.len⟩
    rcases List.mem_append.mp hp with z | z
    · exact J.pin p (List.mem_append_left _ z)
    · rcases List.mem_cons.mp z with z | z
      · rw [z]
        refine ⟨hf, hn, fun z2 => ?_, I.nofs hsz, fun v z2 => ?_⟩
        · have z2 : f = X.env.locals := z2
          rw [z2] at hsz
          exact Nat.lt_irrefl _ (Nat.lt_of_lt_of_le I.lt hsz)
        · have z2 : o.data = .cell v := z2
          rw [hd] at z2
          cases z2
      · exact J.pin p (List.mem_append_right _ z)
  obtain ⟨ps, hP, ht, ha⟩ := hT
  refine PySem.W.kla_eval hdef ?_
  have bP : s.heap.BuiltinsAt X.mg P := TB.bm.keeps I.bk
  have hP' : s.heap.get? P = some { cls := .none, data := .fields ps } := I.hok P _ hP
  cases hc : codeAmong pos ps.toList with
  | none =>
    refine PySem.W.kla_makeFunction (ps := ps) (closure_ok hfree) I.ok.glob (I.mod.glob.keeps I.bk) hcode (TB.code.keeps I.bk) hP' ht hc TB.gP bP fun c1 ctv h1 tk ext hge hlt hrec htb => ?_
    obtain ⟨c2, oc, vs, t, e2, hoc, hd, hv⟩ := hrec
    cases e2
    have s1 : s.heap.objs.size ≤ h1.objs.size := Nat.le_trans hge (Nat.le_of_lt hlt)
    have n1 : H c1 = none := I.hok.fresh hge
    have J := inv_table (t' := tk) (more := #[rawInt pos.line, rawInt pos.col, .ref c1]) (h' := h1.push (PySem.W.kla_obj "<lambda>" (X.env.qual ++ "<lambda>") params body scope (cloFrom X.env.cells scope.names []) ((X.mg "__name__").getD .none) c1 ctv)) I hP
      (fun b o hb e => Heap.get?_push_of_some _ (ext b o hb e)) (Heap.get?_push_of_some _ htb) hge ⟨oc, vs, t, Heap.get?_push_of_some _ hoc, hd, hv⟩
    have but : ButP P H (upd (upd H P (.tbl (ps ++ #[rawInt pos.line, rawInt pos.col, .ref c1]))) c1 (CodeO c1 (X.env.qual ++ "<lambda>"))) := ⟨fun b o hb e => by
      rw [upd_ne (ne_of_none e n1), upd_ne hb]
      exact e, fun b e => upd_none (upd_none e)⟩
    have tl : (ps ++ #[rawInt pos.line, rawInt pos.col, .ref c1]).toList = ps.toList ++ [rawInt pos.line, rawInt pos.col, .ref c1] := by simp
    refine h h1.objs.size c1 _ ctv _ _ (pinned J (Heap.get?_push_size _ rfl) rfl s1 ?_) but ⟨_, by rw [upd_ne (ne_of_none hP n1), upd_same], by rw [tl]; exact PySem.TriplesOk_snoc _ _ _ _ ht, fun p1 cv hcv => ?_⟩ upd_same
    · rw [upd_ne (Nat.ne_of_gt hlt), upd_ne (Nat.ne_of_gt (Nat.lt_of_lt_of_le (Heap.lt_size hP') s1))]
      exact I.hok.fresh s1
    · rw [tl] at hcv
      rcases among_app _ ht hcv with z | z
      · obtain ⟨c0, e1, e2⟩ := ha p1 cv z
        exact ⟨c0, e1, but.1 _ _ (fun w => by
          rw [w, hP] at e2
          exact codeO_ne ps (Option.some.inj e2).symm) e2⟩
      · exact ⟨c1, z, upd_same⟩
  | some cv =>
    obtain ⟨c1, rfl, hco⟩ := ha pos cv hc
    refine PySem.W.kla_makeFunctionHit (ps := ps) (closure_ok hfree) I.ok.glob (I.mod.glob.keeps I.bk) hcode (TB.code.keeps I.bk) hP' ht hc bP fun ctv h1 tk ext hsz => ?_
    have J : Inv X pins σ H { s with heap := h1.push (PySem.W.kla_obj "<lambda>" (X.env.qual ++ "<lambda>") params body scope (cloFrom X.env.cells scope.names []) ((X.mg "__name__").getD .none) c1 ctv), toks := tk } := I.kept fun b o e => Heap.get?_push_of_some _ (ext b o e)
    exact h h1.objs.size c1 _ ctv H _ (pinned J (Heap.get?_push_size _ rfl) rfl hsz (I.hok.fresh hsz)) butP_refl ⟨ps, hP, ht, ha⟩ hco
theorem unpin {p : Addr × Obj} (I : Inv X (p :: pins) σ H s) : Inv X pins σ H s := ⟨I.ok, I.os, I.bare, I.base, I.loc, I.cell, I.free, I.freeC, fun q hq => by
  rcases List.mem_append.mp hq with z | z
  · exact I.pin q (List.mem_append_left _ z)
  · exact I.pin q (List.mem_append_right _ (List.mem_cons_of_mem _ z)), I.hok, I.len⟩
/-- the lambda is called with one value -/
theorem gives_lam {f c1 : Addr} {q : Str} {params : Arguments} {body : Expr} {scope : Scope} {cl : List (Str × Addr)} {pm ctv : Value} {y : Str} {N fr : List Str} {js : List Nat} {tb : TE} {k : Nat} {xs : List V} {kf : Nat → Int} (hr : Room (k + 2) X.A)
    (S : NScope N [y] fr scope) (cp : X.Ok → Caps X cl fr js) (hbind : ∀ u : Value, bindArgs (PySem.W.kla_fn "<lambda>" q params body scope cl pm (.ref c1) ctv) ⟨[u], []⟩ = pure [(y, u)])
    (hbody : ∀ (A : Around) (outer : List Env) (s : Shared) (H : Hp), Room k (A.deeper (envF ⟨"<lambda>", q, params, [], scope, cl, c1⟩ f s.heap.objs.size)) → PE (ncx CX0 X.prog X.w X.K X.mg X.base N ⟨"<lambda>", q, params, [], scope, cl, c1⟩ f A outer s H E0) body tb)
    (hco : H c1 = some (CodeO c1 q)) (hk : ∀ (i : Nat) (x : V) (H3 : Hp), Ex H H3 → xs[i]? = some x → ∀ Q : VK, (∀ H4, Ex H3 H4 → Q (.int (kf i)) H4) → tb (startF N [x] (js.map (slotAt σ))) H3 Q) :
    KeyGives X ((f, PySem.W.kla_obj "<lambda>" q params body scope cl pm c1 ctv) :: pins) σ H (.ref f) xs kf := by
  intro i x v s H' Q E I e hx rx kq
  obtain ⟨hf, hfn, hfl, hff, _⟩ := I.pin (f, PySem.W.kla_obj "<lambda>" q params body scope cl pm c1 ctv) (List.mem_append_right _ List.mem_cons_self)
  have hco' := e _ _ hco
  have e0 := I.env0.in1
  have hr1 : Room (k + 1) X.A.in1 := hr.in1
  have C : CellsAt cl fr (js.map (slotAt σ)) s.heap H' := cells_of I (cp I.ok)
  have rc : codeAny (model X.prog X.w) X.A.in1 (.call (.ref f) ⟨[v], []⟩) (CR CX0 X.stack X.prog X.w H' s (fun z H3 => z = .int (kf i) ∧ Ex H' H3) E0) s := by
    refine PySem.W.kla_callFunE hr1.depth hf rfl S.co S.gen rfl (codeO_at I.hok hco') ?_
    rw [hbind v]
    refine wpAny_pure (wpAny_newFunctionEnv S.nocell (fun z hz => ?_) (fun h₁ hns hsb => ⟨I.nolimit.fresh _ hsb, ?_⟩) S.kind)
    · rw [List.mem_singleton.mp hz]
      exact S.par y List.mem_cons_self
    · have kp : ∀ b o, s.heap.get? b = some o → h₁.get? b = some o := fun b o e => hsb.extBut b o (Nat.ne_of_lt (Heap.lt_size e)) (Heap.get?_push_of_some _ e)
      show codeAny _ _ (.expr body (envF ⟨"<lambda>", q, params, [], scope, cl, c1⟩ f s.heap.objs.size)) _ _
      have J : Inv (ncx CX0 X.prog X.w X.K X.mg X.base N ⟨"<lambda>", q, params, [], scope, cl, c1⟩ f X.A.in1 X.stack s H' E0) [] (startF N [x] (js.map (slotAt σ))) H' { s with heap := h₁, toks := s.toks + [(y, v)].length } := inv_startN (ps := [y]) (us := [v]) S hr1.hd e0 rfl (.cons rx .nil) C hns kp
      refine PySem.W.kla_codeExpr (wpAny_mono ((hbody X.A.in1 X.stack s H' (hr1.deeper _)).run [] _ _ H' _ J (hk i x H' e hx (fun z H3 => z = .int (kf i) ∧ Ex H' H3) fun H4 e4 => ⟨rfl, e4⟩)) (fun u s' hq => ?_) fun z s' hq => hq)
      obtain ⟨w', H3, J', rv, q3⟩ := hq
      exact ⟨w', H3, J'.os, J'.bare, J'.base, J'.hok, rv, q3⟩
  refine wpAny_call (codeAny_mono rc fun r s' hq => ?_)
  cases r with
  | error z => exact False.elim hq
  | ok fl =>
    cases fl with
    | next => exact False.elim hq
    | brk => exact False.elim hq
    | cont => exact False.elim hq
    | ret u =>
      obtain ⟨v', H'', os, bare, un, hok, ru, rfl, e3⟩ := hq
      obtain ⟨hp, g, d, tk, os'⟩ := s'
      obtain rfl : os' = s.os := os
      have I2 := I.call (h' := hp) (g' := g) (d' := d) (t' := tk) (ch := []) un hok bare (fun b z => absurd z (by simp))
      exact kq u _ H'' I2 e3 ru fun b o hb hn hst => ⟨un.keep b o hb hn hst (by simp), un.free b o hb hn (by simp)⟩
/-- the reading of max(e, key=lambda y: body) -/
def tMaxLam (K : PySem.W.Frag) (P : Addr) (q : Str) (te : TA) (N : List Str) (js : List Nat) (tb : TE) : TE := fun σ H Q => te σ H fun vs H1 => ∃ (p : Addr) (xs : List V) (kf : Nat → Int), vs = [.ref p] ∧ TabS H1 P q ∧ ∀ H2, ButP P H1 H2 → TabS H2 P q →
  SqL K H2 p xs ∧ 0 < xs.length ∧ (∀ (i : Nat) (x : V) (H3 : Hp), Ex H2 H3 → xs[i]? = some x → ∀ Q' : VK, (∀ H4, Ex H3 H4 → Q' (.int (kf i)) H4) → tb (startF N [x] (js.map (slotAt σ))) H3 Q') ∧
  ∀ (i : Nat) (x : V) (H3 : Hp), xs[i]? = some x → (∀ j, j < xs.length → kf j ≤ kf i ∧ (j < i → kf j < kf i)) → Ex H2 H3 → Q x H3
theorem pe_maxLam {c P : Addr} {params : Arguments} {body : Expr} {scope : Scope} {y : Str} {N fr : List Str} {js : List Nat} {tb : TE} {te : TA} {k j : Nat} {e : Expr} {p kp lpos pos : Pos} (TB : LamX.TabB X.base X.mg c P) (hcode : X.env.code = .ref c) (hr : Room j X.A) (hk : k + 2 ≤ j) (hg : Gl X "max") (hm : X.mg "max" = none)
    (S : NScope N [y] fr scope) (hfree : ∀ z ∈ scope.names, z.2 = .free → X.env.scope.names.lookup z.1 = some .cell ∨ X.env.scope.names.lookup z.1 = some .free) (hfr : ∀ z ∈ fr, (z, NameKind.free) ∈ scope.names) (hjs : js.map (fun j => X.N[j]?) = fr.map some) (hdef : defaultsOf params X.env = ([], []))
    (hbind : ∀ (q : Str) (cl : List (Str × Addr)) (pm cv ctv u : Value), bindArgs (PySem.W.kla_fn "<lambda>" q params body scope cl pm cv ctv) ⟨[u], []⟩ = pure [(y, u)]) (ha : PA X [e] te)
    (hbody : ∀ (q : Str) (cl : List (Str × Addr)) (c1 f : Addr) (A : Around) (outer : List Env) (s : Shared) (H : Hp), Room k (A.deeper (envF ⟨"<lambda>", q, params, [], scope, cl, c1⟩ f s.heap.objs.size)) → PE (ncx CX0 X.prog X.w X.K X.mg X.base N ⟨"<lambda>", q, params, [], scope, cl, c1⟩ f A outer s H E0) body tb)
    (he : backTo pos (starEach [e] X.env) = (false, eval e X.env) :: backTo pos (starEach [] X.env) := by rfl) (hpl : (backTo pos (starEach [e] X.env)).any (·.1) = false := by rfl) :
    PE X (.Call (.Name "max" p) [e] [⟨some (Str.ofString "key"), .Lambda params body scope lpos, kp⟩] pos) (tMaxLam X.K P (X.env.qual ++ "<lambda>") te N js tb) := by
  refine ⟨fun pins s σ H Q I h => ?_⟩
  refine wpAny_Call_Name_kw (ld_blt I hg hm (show bootBuiltins (Str.ofString "max") = some (.builtin "max") by decide +kernel) ?_ (by decide) (by decide))
  refine PyProof.Rows.callWith_kw (thn (ha.run pos pins s σ H _ I h) fun us s1 ⟨vs, H1, I1, r1, q1⟩ => ?_) he hpl rfl rfl
  obtain ⟨a, xs, kf, rfl, hT, hq⟩ := q1
  obtain rfl := Vals.ref1 r1
  have hf : ∀ z ∈ scope.names, z.2 = .free → ∃ c, X.env.cells.lookup z.1 = some c := fun z hz ez => (hfree z hz ez).elim (fun w => I.ok.has _ (.inl w)) fun w => I.ok.has _ (.inr w)
  refine wpAny_evalAll_cons (wpAny_bind (lam_new I1 TB hcode hT hdef hf fun f c1 pm ctv H2 s2 I2 but T2 hco => wpAny_bind (wpAny_standAt (wpAny_pure (wpAny_evalAll_nil ?_)))))
  obtain ⟨hs, hn, hkey, hend⟩ := hq H2 but T2
  refine call_max_walkK (max_by hr.hd I2 hs hn (gives_lam (hr.mono hk) S (fun ok => Caps.made ok hfree hfr hjs) (hbind _ _ _ _ _) (hbody _ _ _ _) hco hkey) fun i x v s' H' hx hmax rx I' e' => ?_)
  exact ⟨x, H', unpin I', rx, hend i x H' hx hmax e'⟩
end
/-- the captured names are the maker's cells, by counting -/
def freeB (sc scope : Scope) : Bool := scope.names.all fun z => !decide (z.2 = .free) || decide (sc.names.lookup z.1 = some .cell) || decide (sc.names.lookup z.1 = some .free)
theorem free_by {sc scope : Scope} (h : freeB sc scope = true) : ∀ z ∈ scope.names, z.2 = .free → sc.names.lookup z.1 = some .cell ∨ sc.names.lookup z.1 = some .free := fun z hz e => by
  have q := List.all_eq_true.mp h z hz
  simp only [Bool.or_eq_true, Bool.not_eq_true', decide_eq_true_eq, decide_eq_false_iff_not] at q
  rcases q with (q | q) | q
  · exact absurd e q
  · exact Or.inl q
  · exact Or.inr q
/-! ### a def of which the code object is known by its address -/
structure FunC (K : PySem.W.Frag) (x qual : Str) (st : Stmt) (f : Addr) (fd : FuncData) (cd : Value) : Prop where
  is : ∃ (cls : Value) (dct : Option Addr) (kw doc pm : Value) (ann : Option Addr) (ct : Value) (slots : Array (Option Value)), fd = PySem.W.fnOf x qual (defArgs st) (defBody st) (defScope st) .none kw doc pm ann cd ct ∧ K.lookup f = some ⟨cls, dct, .func fd, slots⟩ ∧ PySem.W.codeIn K cd qual = true
  kp : PySem.W.keepIn K (.ref f) = true
section
variable {P : Program} {w : World} {K : PySem.W.Frag} {mg : Str → Option Value} {base : Heap} {x qual : Str} {st : Stmt} {f : Addr} {fd : FuncData} {cd : Value} {N ps : List Str} {k : Nat} {sp : Sp}
theorem FunC.ok (F : FunC K x qual st f fd cd) (S : FnScope N ps (defScope st)) (len : ∀ vs H Q E, sp vs H Q E → vs.length = ps.length)
    (body : ∀ (A : Around) (outer : List Env) (s : Shared) (H : Hp) (vs : List V) (Q : VK) (E : XK), Room k (A.deeper (envOfC qual (defScope st) s.heap.objs.size f cd)) → sp vs H Q E →
      ∃ t, PSs (cxOf CX0 P w K mg base N qual (defScope st) f cd A outer s H E).nox (defBody st) t ∧ t { nx := fun _ H' => Q .non H', rt := Q } (start N vs) H) : FnOk P w K mg base CX0 (k + 1) f fd ps sp := by
  obtain ⟨cls, dct, kw, doc, pm, ann, ct, slots, rfl, l, c⟩ := F.is
  refine fn_of l c S len fun A outer s H vs Q E hr h => ?_
  obtain ⟨t, h1, h2⟩ := body A outer s H vs Q E hr h
  exact ⟨t, h1.nox, h2⟩
theorem FunC.binds (F : FunC K x qual st f fd cd) (h : ∀ (kw doc pm : Value) (ann : Option Addr) (ct : Value) (us : List Value), us.length = ps.length → bindArgs (PySem.W.fnOf x qual (defArgs st) (defBody st) (defScope st) .none kw doc pm ann cd ct) ⟨us, []⟩ = pure (ps.zip us)) : Binds K fd ps [] := by
  obtain ⟨cls, dct, kw, doc, pm, ann, ct, slots, rfl, _, _⟩ := F.is
  exact .all (h kw doc pm ann ct)
end
end LS

namespace LS
open Kh414 (Abs)
/-! # The mathematics: what the program's defs compute is what the document's functions say. No Python here. -/
structure WF (t : Abs) : Prop where
  a1 : 1 ≤ t.a
  a5 : t.a ≤ 5
  b1 : 1 ≤ t.b
  b5 : t.b ≤ 5
  wl : t.w.length = t.a
  rl : ∀ r ∈ t.w, r.length = t.b
def both (t : Abs) (x z : Nat) : List Nat := (Kh414.ys t).filter fun y => Kh414.may t x y && Kh414.may t z y
def cl2 (t : Abs) (f : List Nat) (x z : Nat) : Option (Nat × Nat × Nat) := if decide (x < z) && (f.getD x 0 == f.getD z 0) then ((Kh414.ys t).find? fun y => Kh414.may t x y && Kh414.may t z y).map fun y => (x, z, y) else none
def cl1 (t : Abs) (f : List Nat) (x : Nat) : Option (Nat × Nat × Nat) := (Kh414.xs t).findSome? (cl2 t f x)
def clash (t : Abs) (f : List Nat) : Option (Nat × Nat × Nat) := (Kh414.xs t).findSome? (cl1 t f)
def clashL (t : Abs) (f : List Nat) : List Nat := match clash t f with
  | none => []
  | some p => [p.1, p.2.1, p.2.2]
def ext (r : List Nat) : List (List Nat) := (List.range (Kh414.used r + 1)).map fun c => r ++ [c]
def longer (rows : List (List Nat)) : List (List Nat) := rows.flatMap ext
def rowsN : Nat → List (List Nat)
  | 0 => [[0]]
  | n + 1 => longer (rowsN n)
/-! ### searches over a range -/
theorem findSome_range {α : Type} {g : Nat → Option α} {n x : Nat} {v : α} (h0 : ∀ i, i < x → g i = none) (hx : x < n) (hv : g x = some v) : (List.range n).findSome? g = some v := by
  induction n with
  | zero => omega
  | succ n ih =>
    rw [List.range_succ, List.findSome?_append]
    by_cases c : x < n
    · rw [ih c]
      rfl
    · have e : x = n := by omega
      subst e
      have hn : (List.range x).findSome? g = none := List.findSome?_eq_none_iff.mpr fun i hi => h0 i (List.mem_range.mp hi)
      rw [hn]
      show [x].findSome? g = some v
      simp [hv]
theorem findSome_none {α : Type} {g : Nat → Option α} {n : Nat} (h0 : ∀ i, i < n → g i = none) : (List.range n).findSome? g = none := List.findSome?_eq_none_iff.mpr fun i hi => h0 i (List.mem_range.mp hi)
theorem both_pos (t : Abs) (x z : Nat) : decide (0 < ((both t x z).length : Int)) = (Kh414.ys t).any fun y => Kh414.may t x y && Kh414.may t z y := by
  unfold both
  rw [Bool.eq_iff_iff, decide_eq_true_iff, List.any_eq_true]
  constructor
  · intro h
    have h' : 0 < ((Kh414.ys t).filter fun y => Kh414.may t x y && Kh414.may t z y).length := by omega
    obtain ⟨y, hy⟩ := List.exists_mem_of_length_pos h'
    obtain ⟨h1, h2⟩ := List.mem_filter.mp hy
    exact ⟨y, h1, h2⟩
  · rintro ⟨y, h1, h2⟩
    have := List.length_pos_of_mem (List.mem_filter (p := fun y => Kh414.may t x y && Kh414.may t z y).mpr ⟨h1, h2⟩)
    omega
theorem both_head (t : Abs) (x z : Nat) : (both t x z).head? = (Kh414.ys t).find? fun y => Kh414.may t x y && Kh414.may t z y := by
  unfold both
  exact List.head?_filter ..
/-- x < z that are mixed and have one letter: the first y of both -/
theorem cl2_yes {t : Abs} {f : List Nat} {x z : Nat} (h : x < z) (hf : f.getD x 0 = f.getD z 0) (hm : Kh414.mixed t x z = true) : ∃ y, (both t x z)[0]? = some y ∧ cl2 t f x z = some (x, z, y) := by
  unfold Kh414.mixed at hm
  rw [Bool.and_eq_true, List.any_eq_true] at hm
  obtain ⟨_, y, hy, hb⟩ := hm
  have he : ((Kh414.ys t).find? fun y => Kh414.may t x y && Kh414.may t z y).isSome = true := List.find?_isSome.mpr ⟨y, hy, hb⟩
  obtain ⟨w, hw⟩ := Option.isSome_iff_exists.mp he
  refine ⟨w, ?_, ?_⟩
  · rw [← List.head?_eq_getElem?, both_head, hw]
  · unfold cl2
    rw [if_pos (by rw [Bool.and_eq_true]; exact ⟨decide_eq_true h, by rw [hf]; exact beq_self_eq_true _⟩), hw]
    rfl
theorem cl2_no {t : Abs} {f : List Nat} {x z : Nat} (h : (f.getD x 0 == f.getD z 0 && Kh414.mixed t x z) = false) : cl2 t f x z = none := by
  unfold cl2
  by_cases c : (decide (x < z) && (f.getD x 0 == f.getD z 0)) = true
  · rw [if_pos c]
    rw [Bool.and_eq_true, decide_eq_true_iff] at c
    rw [c.2, Bool.true_and] at h
    unfold Kh414.mixed at h
    have hne : (x != z) = true := by
      rw [bne_iff_ne]
      omega
    rw [hne, Bool.true_and] at h
    have hn : ((Kh414.ys t).find? fun y => Kh414.may t x y && Kh414.may t z y) = none := by
      rw [List.find?_eq_none]
      intro y hy hb
      rw [List.any_eq_false] at h
      exact h y hy hb
    rw [hn]
    rfl
  · rw [if_neg c]
theorem cl2_le {t : Abs} {f : List Nat} {x z : Nat} (h : z ≤ x) : cl2 t f x z = none := by
  unfold cl2
  rw [if_neg (by rw [Bool.and_eq_true, decide_eq_true_iff]; omega)]
theorem mixed_symm (t : Abs) (x z : Nat) : Kh414.mixed t x z = Kh414.mixed t z x := by
  unfold Kh414.mixed
  have e1 : (x != z) = (z != x) := by
    rw [Bool.eq_iff_iff]
    simp
    omega
  have e2 : (fun y => Kh414.may t x y && Kh414.may t z y) = fun y => Kh414.may t z y && Kh414.may t x y := by
    funext y
    exact Bool.and_comm ..
  rw [e1, e2]
theorem mixed_ne {t : Abs} {x z : Nat} (h : Kh414.mixed t x z = true) : x ≠ z := by
  unfold Kh414.mixed at h
  rw [Bool.and_eq_true, bne_iff_ne] at h
  exact h.1
/-- letters do just if there is no clash -/
theorem good_clash (t : Abs) (f : List Nat) : Kh414.good t f = ((clashL t f).length == 0) := by
  have key : (clashL t f).length = 0 ↔ clash t f = none := by
    unfold clashL
    cases clash t f with
    | none => simp
    | some p => simp
  rw [Bool.eq_iff_iff, beq_iff_eq, key]
  unfold Kh414.good
  rw [List.all_eq_true]
  constructor
  · intro h
    unfold clash Kh414.xs
    refine findSome_none fun x hx => findSome_none fun z hz => cl2_no ?_
    have h1 := h x (List.mem_range.mpr hx)
    rw [List.all_eq_true] at h1
    have h2 := h1 z (List.mem_range.mpr hz)
    rw [Bool.or_eq_true] at h2
    rcases h2 with h2 | h2
    · have : Kh414.mixed t x z = false := by simpa using h2
      rw [this, Bool.and_false]
    · have : (f.getD x 0 == f.getD z 0) = false := by
        rw [bne] at h2
        simpa using h2
      rw [this, Bool.false_and]
  · intro h x hx
    rw [List.all_eq_true]
    intro z hz
    have none_of : ∀ u v : Nat, u < t.a → v < t.a → cl2 t f u v = none := fun u v hu hv => by
      unfold clash at h
      have h1 := List.findSome?_eq_none_iff.mp h u (List.mem_range.mpr hu)
      exact List.findSome?_eq_none_iff.mp h1 v (List.mem_range.mpr hv)
    have hx' := List.mem_range.mp hx
    have hz' := List.mem_range.mp hz
    cases hm : Kh414.mixed t x z with
    | false => rfl
    | true =>
      have hne := mixed_ne hm
      show (f.getD x 0 != f.getD z 0) = true
      rw [bne_iff_ne]
      intro hf
      by_cases c : x < z
      · obtain ⟨y, _, e⟩ := cl2_yes c hf hm
        rw [none_of x z hx' hz'] at e
        cases e
      · obtain ⟨y, _, e⟩ := cl2_yes (t := t) (f := f) (show z < x by omega) hf.symm (by rw [mixed_symm]; exact hm)
        rw [none_of z x hz' hx'] at e
        cases e
/-! ### how many letters -/
theorem used_acc : ∀ (f : List Nat) (k : Nat), f.foldl (fun t c => max t (c + 1)) k = max k (Kh414.used f)
  | [], k => by simp [Kh414.used]
  | c :: f, k => by
    unfold Kh414.used
    rw [List.foldl_cons, List.foldl_cons, used_acc f, used_acc f (max 0 (c + 1))]
    omega
theorem used_cons (c : Nat) (f : List Nat) : Kh414.used (c :: f) = max (c + 1) (Kh414.used f) := by
  show (c :: f).foldl (fun t c => max t (c + 1)) 0 = _
  rw [List.foldl_cons, used_acc]
  omega
theorem used_max : ∀ f : List Nat, f ≠ [] → ∃ m ∈ f, Kh414.used f = m + 1 ∧ ∀ c ∈ f, c ≤ m
  | [], h => absurd rfl h
  | [c], _ => ⟨c, by simp, by rw [used_cons]; simp [Kh414.used], by simp⟩
  | c :: d :: f, _ => by
    obtain ⟨m, hm, e, hle⟩ := used_max (d :: f) (by simp)
    rw [used_cons, e]
    by_cases h : c ≤ m
    · refine ⟨m, List.mem_cons_of_mem _ hm, by omega, fun x hx => ?_⟩
      rcases List.mem_cons.mp hx with rfl | hx
      · exact h
      · exact hle x hx
    · refine ⟨c, by simp, by omega, fun x hx => ?_⟩
      rcases List.mem_cons.mp hx with rfl | hx
      · omega
      · have := hle x hx
        omega
theorem rows_is : ∀ n : Nat, n < 5 → rowsN n = Kh414.rows (n + 1) 0 := by decide +kernel
theorem rows_fine : ∀ n : Nat, n < 5 → ((rowsN n).all fun r => decide (r.length = n + 1) && decide (Kh414.used r ≤ 100)) = true ∧ (longer (rowsN n)).length ≤ 1000 := by decide +kernel
theorem rows_head : ∀ n : Nat, n < 5 → ((rowsN n).head?.map List.length) = some (n + 1) := by decide +kernel
/-! ### the first best -/
theorem foldl_min_le {α : Type} (g : α → Nat) : ∀ (l : List α) (k : Nat), l.foldl (fun r f => min r (g f)) k ≤ k ∧ ∀ f ∈ l, l.foldl (fun r f => min r (g f)) k ≤ g f
  | [], k => ⟨Nat.le_refl k, fun _ h => absurd h (by simp)⟩
  | x :: l, k => by
    obtain ⟨h1, h2⟩ := foldl_min_le g l (min k (g x))
    rw [List.foldl_cons]
    refine ⟨by omega, fun f hf => ?_⟩
    rcases List.mem_cons.mp hf with rfl | hf
    · omega
    · exact h2 f hf
theorem foldl_min_is {α : Type} (g : α → Nat) : ∀ (l : List α) (k : Nat), l.foldl (fun r f => min r (g f)) k = k ∨ ∃ f ∈ l, l.foldl (fun r f => min r (g f)) k = g f
  | [], k => Or.inl rfl
  | x :: l, k => by
    rw [List.foldl_cons]
    rcases foldl_min_is g l (min k (g x)) with h | ⟨f, hf, h⟩
    · by_cases c : k ≤ g x
      · left
        rw [h]
        omega
      · right
        exact ⟨x, by simp, by rw [h]; omega⟩
    · exact Or.inr ⟨f, List.mem_cons_of_mem _ hf, h⟩
/-- the first of the least, by its place -/
theorem find_first {α : Type} (g : α → Nat) (k : Nat) : ∀ (l : List α) (i : Nat) (x : α), l[i]? = some x → g x = k → (∀ j y, j < i → l[j]? = some y → g y ≠ k) → (l.find? fun f => g f == k) = some x
  | [], i, x, h, _, _ => by simp at h
  | y :: l, 0, x, h, hk, _ => by
    obtain rfl : y = x := by simpa using h
    rw [List.find?_cons, hk, beq_self_eq_true]
  | y :: l, i + 1, x, h, hk, hn => by
    have h0 : (g y == k) = false := by
      have := hn 0 y (by omega) rfl
      simpa using this
    rw [List.find?_cons, h0]
    exact find_first g k l i x (by simpa using h) hk fun j z hj hz => hn (j + 1) z (by omega) (by simpa using hz)
theorem rows_all : ∀ n : Nat, n < 6 → ((Kh414.rows n 0).all fun r => decide (r.length = n) && decide (Kh414.used r ≤ n)) = true ∧ List.range n ∈ Kh414.rows n 0 ∧ (Kh414.rows n 0).length ≤ 1000 := by decide +kernel
theorem rows_at {n : Nat} (hn : n < 6) {r : List Nat} (h : r ∈ Kh414.rows n 0) : r.length = n ∧ Kh414.used r ≤ n := by
  have h1 := List.all_eq_true.mp (rows_all n hn).1 r h
  rw [Bool.and_eq_true, decide_eq_true_iff, decide_eq_true_iff] at h1
  exact h1
theorem good_range {t : Abs} : Kh414.good t (List.range t.a) = true := by
  unfold Kh414.good
  rw [List.all_eq_true]
  intro x hx
  rw [List.all_eq_true]
  intro z hz
  cases hm : Kh414.mixed t x z with
  | false => rfl
  | true =>
    have hne := mixed_ne hm
    show ((List.range t.a).getD x 0 != (List.range t.a).getD z 0) = true
    rw [bne_iff_ne, List.getD_eq_getElem?_getD, List.getD_eq_getElem?_getD, List.getElem?_range (List.mem_range.mp hx), List.getElem?_range (List.mem_range.mp hz)]
    exact hne
theorem ways_pos {t : Abs} (wf : WF t) : 0 < (Kh414.ways t).length := by
  have h5 := wf.a5
  exact List.length_pos_of_mem (List.mem_filter.mpr ⟨(rows_all t.a (by omega)).2.1, good_range⟩)
theorem ways_at {t : Abs} (wf : WF t) {r : List Nat} (h : r ∈ Kh414.ways t) : r.length = t.a ∧ Kh414.used r ≤ t.a := by
  have h5 := wf.a5
  exact rows_at (by omega) (List.mem_filter.mp h).1
theorem best_is {t : Abs} (wf : WF t) {i : Nat} {f : List Nat} (hi : (Kh414.ways t)[i]? = some f) (hm : ∀ j y, (Kh414.ways t)[j]? = some y → Kh414.used f ≤ Kh414.used y ∧ (j < i → Kh414.used f < Kh414.used y)) : Kh414.best t = f := by
  have hf : f ∈ Kh414.ways t := List.mem_of_getElem? hi
  have hk : (Kh414.ways t).foldl (fun r f => min r (Kh414.used f)) t.a = Kh414.used f := by
    have h1 := (foldl_min_le Kh414.used (Kh414.ways t) t.a).2 f hf
    have h3 := (ways_at wf hf).2
    rcases foldl_min_is Kh414.used (Kh414.ways t) t.a with h | ⟨g, hg, h⟩
    · omega
    · obtain ⟨j, hj⟩ := List.mem_iff_getElem?.mp hg
      have h2 := (hm j g hj).1
      omega
  unfold Kh414.best
  show (((Kh414.ways t).find? fun f' => Kh414.used f' == (Kh414.ways t).foldl (fun r f => min r (Kh414.used f)) t.a).getD []) = f
  rw [hk, find_first Kh414.used (Kh414.used f) (Kh414.ways t) i f hi rfl fun j y hj hy => by
    have := (hm j y hy).2 hj
    omega]
  rfl
end LS

namespace LS
open Kh414 (Abs)
/-! # The mathematics of the second stage -/
def okN (n : Nat) (f : List Nat) : Bool := decide (f.length = n) && f.all fun c => decide (c < n)
theorem okN_len {n : Nat} {f : List Nat} (h : okN n f = true) : f.length = n := by
  unfold okN at h
  rw [Bool.and_eq_true, decide_eq_true_iff] at h
  exact h.1
theorem okN_lt {n : Nat} {f : List Nat} (h : okN n f = true) : ∀ c ∈ f, c < n := by
  unfold okN at h
  rw [Bool.and_eq_true, List.all_eq_true] at h
  exact fun c hc => of_decide_eq_true (h.2 c hc)
def withY (t : Abs) (y : Nat) : List Nat := (Kh414.xs t).filter fun x => Kh414.may t x y
/-! ### groups -/
def groupsN : Nat → List (List Nat)
  | 0 => [[]]
  | n + 1 => groupsN n ++ (groupsN n).map (· ++ [n])
theorem groups_is : ∀ n : Nat, n < 6 → groupsN n = (List.range (2 ^ n)).map (Kh414.members n) := by decide +kernel
theorem groups_fine : ∀ n : Nat, n < 6 → ((groupsN n).all fun g => decide (g.length ≤ 5) && g.all (fun x => decide (x < n)) && decide g.Nodup) = true ∧ (groupsN n).length ≤ 32 := by decide +kernel
theorem group_at {n : Nat} (hn : n < 6) {g : List Nat} (h : g ∈ groupsN n) : g.length ≤ 5 ∧ (∀ x ∈ g, x < n) ∧ g.Nodup := by
  have h1 := List.all_eq_true.mp (groups_fine n hn).1 g h
  rw [Bool.and_eq_true, Bool.and_eq_true, decide_eq_true_iff, decide_eq_true_iff, List.all_eq_true] at h1
  exact ⟨h1.1.1, fun x hx => of_decide_eq_true (h1.1.2 x hx), h1.2⟩
def mw (t : Abs) (g : List Nat) : Nat := (g.map fun x => (g.filter (Kh414.mixed t x)).length).sum
def allM (t : Abs) (g : List Nat) : Bool := g.all fun x => g.all fun z => x == z || Kh414.mixed t x z
def noneM (t : Abs) (g : List Nat) : Bool := g.all fun x => g.all fun z => !Kh414.mixed t x z
theorem parts3 (p q r : Nat → Bool) (h : ∀ z, (if p z then 1 else 0) + (if q z then 1 else 0) + (if r z then 1 else 0) = 1) : ∀ l : List Nat, (l.filter p).length + (l.filter q).length + (l.filter r).length = l.length
  | [] => rfl
  | z :: l => by
    have ih := parts3 p q r h l
    have hz := h z
    rw [List.filter_cons, List.filter_cons, List.filter_cons, List.length_cons]
    by_cases hp : p z = true <;> by_cases hq : q z = true <;> by_cases hr : r z = true <;> simp [hp, hq, hr] at hz ⊢ <;> omega
theorem one_of {x : Nat} : ∀ {l : List Nat}, l.Nodup → x ∈ l → (l.filter fun z => x == z).length = 1
  | [], _, h => by simp at h
  | z :: l, nd, h => by
    obtain ⟨n1, n2⟩ := List.nodup_cons.mp nd
    rw [List.filter_cons]
    by_cases c : x = z
    · subst c
      have : (l.filter fun z => x == z) = [] := List.filter_eq_nil_iff.mpr fun y hy hb => n1 (by rw [beq_iff_eq] at hb; rw [hb]; exact hy)
      rw [if_pos (beq_self_eq_true x), this]
      rfl
    · rw [if_neg (by simpa using c)]
      exact one_of n2 ((List.mem_cons.mp h).resolve_left c)
theorem sum_zero {α : Type} (f : α → Nat) : ∀ l : List α, (l.map f).sum = 0 ↔ ∀ x ∈ l, f x = 0
  | [] => by simp
  | x :: l => by
    rw [List.map_cons, List.sum_cons, List.forall_mem_cons, ← sum_zero f l]
    omega
theorem sum_three {α : Type} (f g : α → Nat) (n : Nat) : ∀ l : List α, (∀ x ∈ l, f x + 1 + g x = n) → (l.map f).sum + l.length + (l.map g).sum = l.length * n
  | [], _ => by simp
  | x :: l, h => by
    have ih := sum_three f g n l fun y hy => h y (List.mem_cons_of_mem _ hy)
    have hx := h x List.mem_cons_self
    rw [List.map_cons, List.sum_cons, List.map_cons, List.sum_cons, List.length_cons, Nat.succ_mul]
    omega
theorem allM_is (t : Abs) {g : List Nat} (nd : g.Nodup) : decide ((mw t g : Int) = (g.length : Int) * ((g.length : Int) - 1)) = allM t g := by
  have key : ∀ x ∈ g, (g.filter (Kh414.mixed t x)).length + 1 + (g.filter fun z => !(x == z || Kh414.mixed t x z)).length = g.length := fun x hx => by
    have h1 := parts3 (Kh414.mixed t x) (fun z => x == z) (fun z => !(x == z || Kh414.mixed t x z)) (fun z => by
      by_cases c : x = z
      · subst c
        have : Kh414.mixed t x x = false := by
          cases hm : Kh414.mixed t x x with
          | false => rfl
          | true => exact absurd rfl (mixed_ne hm)
        simp [this]
      · have : (x == z) = false := by simpa using c
        rw [this]
        cases Kh414.mixed t x z <;> simp) g
    rw [one_of nd hx] at h1
    exact h1
  have h2 := sum_three _ _ _ g key
  have e : (mw t g : Int) = (g.length : Int) * ((g.length : Int) - 1) ↔ (g.map fun x => (g.filter fun z => !(x == z || Kh414.mixed t x z)).length).sum = 0 := by
    have e3 : (g.length : Int) * ((g.length : Int) - 1) = ((g.length * g.length : Nat) : Int) - (g.length : Int) := by
      rw [Int.mul_sub, Int.mul_one, Int.natCast_mul]
    rw [e3]
    have e4 : (g.map fun x => (g.filter (Kh414.mixed t x)).length).sum = mw t g := rfl
    rw [e4] at h2
    generalize g.length * g.length = L2 at *
    omega
  rw [Bool.eq_iff_iff, decide_eq_true_iff, e, sum_zero]
  unfold allM
  rw [List.all_eq_true]
  constructor
  · intro h x hx
    rw [List.all_eq_true]
    intro z hz
    have h3 := h x hx
    rw [List.length_eq_zero_iff, List.filter_eq_nil_iff] at h3
    have h4 := h3 z hz
    cases h6 : (x == z || Kh414.mixed t x z) with
    | true => rfl
    | false => exact absurd (by rw [h6]; rfl) h4
  · intro h x hx
    rw [List.length_eq_zero_iff, List.filter_eq_nil_iff]
    intro z hz
    have h4 := List.all_eq_true.mp (h x hx) z hz
    rw [h4]
    decide
theorem noneM_is (t : Abs) (g : List Nat) : (mw t g == 0) = noneM t g := by
  unfold mw noneM
  rw [Bool.eq_iff_iff, beq_iff_eq, sum_zero, List.all_eq_true]
  constructor
  · intro h x hx
    rw [List.all_eq_true]
    intro z hz
    have h3 := h x hx
    rw [List.length_eq_zero_iff, List.filter_eq_nil_iff] at h3
    have h4 := h3 z hz
    simpa using h4
  · intro h x hx
    rw [List.length_eq_zero_iff, List.filter_eq_nil_iff]
    intro z hz
    have h4 := List.all_eq_true.mp (h x hx) z hz
    intro h5
    rw [h5] at h4
    cases h4
theorem foldl_max_ge {α : Type} (g : α → Nat) : ∀ (l : List α) (k : Nat), k ≤ l.foldl (fun r f => max r (g f)) k ∧ ∀ f ∈ l, g f ≤ l.foldl (fun r f => max r (g f)) k
  | [], k => ⟨Nat.le_refl k, fun _ h => absurd h (by simp)⟩
  | x :: l, k => by
    obtain ⟨h1, h2⟩ := foldl_max_ge g l (max k (g x))
    rw [List.foldl_cons]
    refine ⟨by omega, fun f hf => ?_⟩
    rcases List.mem_cons.mp hf with rfl | hf
    · omega
    · exact h2 f hf
theorem foldl_max_is {α : Type} (g : α → Nat) : ∀ (l : List α) (k : Nat), l.foldl (fun r f => max r (g f)) k = k ∨ ∃ f ∈ l, l.foldl (fun r f => max r (g f)) k = g f
  | [], k => Or.inl rfl
  | x :: l, k => by
    rw [List.foldl_cons]
    rcases foldl_max_is g l (max k (g x)) with h | ⟨f, hf, h⟩
    · by_cases c : g x ≤ k
      · left
        rw [h]
        omega
      · right
        exact ⟨x, by simp, by rw [h]; omega⟩
    · exact Or.inr ⟨f, List.mem_cons_of_mem _ hf, h⟩
/-- the first of the greatest: the fold tells how great, the search finds it -/
theorem max_find {α : Type} (g : α → Nat) {l : List α} {i : Nat} {x : α} (hi : l[i]? = some x) (hm : ∀ j y, l[j]? = some y → g y ≤ g x ∧ (j < i → g y < g x)) : l.foldl (fun r f => max r (g f)) 0 = g x ∧ (l.find? fun f => g f == g x) = some x := by
  have hx : x ∈ l := List.mem_of_getElem? hi
  refine ⟨?_, find_first g (g x) l i x hi rfl fun j y hj hy => by have := (hm j y hy).2 hj; omega⟩
  have h1 := (foldl_max_ge g l 0).2 x hx
  rcases foldl_max_is g l 0 with h | ⟨f, hf, h⟩
  · omega
  · obtain ⟨j, hj⟩ := List.mem_iff_getElem?.mp hf
    have h2 := (hm j f hj).1
    omega
theorem greatest_is {t : Abs} {p : Nat → Bool} {i s : Nat} (hi : ((List.range (2 ^ t.a)).filter p)[i]? = some s) (hm : ∀ j y, ((List.range (2 ^ t.a)).filter p)[j]? = some y → (Kh414.members t.a y).length ≤ (Kh414.members t.a s).length ∧ (j < i → (Kh414.members t.a y).length < (Kh414.members t.a s).length)) : Kh414.greatest t p = s := by
  obtain ⟨h1, h2⟩ := max_find (fun s => (Kh414.members t.a s).length) hi hm
  unfold Kh414.greatest
  dsimp only
  rw [h1]
  rw [List.find?_filter] at h2
  have e : (fun a => p a && (Kh414.members t.a a).length == (Kh414.members t.a s).length) = fun a => decide (p a = true ∧ ((Kh414.members t.a a).length == (Kh414.members t.a s).length) = true) := by
    funext a
    rw [Bool.eq_iff_iff]
    simp
  rw [e, h2]
  rfl
/-- the groups that pass, the greatest of them -/
theorem great_group {t : Abs} (h5 : t.a ≤ 5) {P : List Nat → Bool} {p : Nat → Bool} (hp : ∀ s, p s = P (Kh414.members t.a s)) {i : Nat} {g : List Nat} (hi : ((groupsN t.a).filter P)[i]? = some g)
    (hm : ∀ j y, ((groupsN t.a).filter P)[j]? = some y → y.length ≤ g.length ∧ (j < i → y.length < g.length)) : Kh414.members t.a (Kh414.greatest t p) = g := by
  have e : (groupsN t.a).filter P = ((List.range (2 ^ t.a)).filter p).map (Kh414.members t.a) := by
    rw [groups_is t.a (by omega), List.filter_map]
    have : P ∘ Kh414.members t.a = p := funext fun s => (hp s).symm
    rw [this]
  rw [e] at hi hm
  rw [List.getElem?_map] at hi
  obtain ⟨s, hs, rfl⟩ := Option.map_eq_some_iff.mp hi
  rw [greatest_is (i := i) (s := s) hs fun j y hj => hm j _ (by rw [List.getElem?_map, hj]; rfl)]
theorem empty_group (n : Nat) (hn : n < 6) : [] ∈ groupsN n := by
  have : ∀ n : Nat, n < 6 → ([] : List Nat) ∈ groupsN n := by decide +kernel
  exact this n hn
theorem allMixed_is (t : Abs) (s : Nat) : Kh414.allMixed t s = allM t (Kh414.members t.a s) := rfl
theorem noneMixed_is (t : Abs) (s : Nat) : Kh414.noneMixed t s = noneM t (Kh414.members t.a s) := rfl
/-! ### the whole table -/
theorem w_rows {t : Abs} (wf : WF t) : t.w = (Kh414.xs t).map fun x => t.w.getD x [] := by
  refine List.ext_getElem? fun i => ?_
  unfold Kh414.xs
  rw [List.getElem?_map]
  by_cases h : i < t.a
  · have h' : i < t.w.length := by rw [wf.wl]; exact h
    rw [List.getElem?_range h, List.getElem?_eq_getElem h']
    show _ = some (t.w.getD i [])
    rw [List.getD_eq_getElem?_getD, List.getElem?_eq_getElem h']
    rfl
  · rw [List.getElem?_eq_none (by rw [wf.wl]; omega), List.getElem?_eq_none (by rw [List.length_range]; omega)]
    rfl
theorem row_ws {t : Abs} (wf : WF t) {x : Nat} (hx : x < t.a) : t.w.getD x [] = (Kh414.ys t).map (Kh414.weight t x) := by
  have h' : x < t.w.length := by rw [wf.wl]; exact hx
  have hl : (t.w.getD x []).length = t.b := by
    rw [List.getD_eq_getElem?_getD, List.getElem?_eq_getElem h']
    exact wf.rl _ (List.getElem_mem h')
  refine List.ext_getElem? fun i => ?_
  unfold Kh414.ys
  rw [List.getElem?_map]
  by_cases h : i < t.b
  · rw [List.getElem?_range h]
    show _ = some (Kh414.weight t x i)
    unfold Kh414.weight
    rw [List.getD_eq_getElem?_getD (l := t.w.getD x []), List.getElem?_eq_getElem (by rw [hl]; exact h)]
    rfl
  · rw [List.getElem?_eq_none (by rw [hl]; omega), List.getElem?_eq_none (by rw [List.length_range]; omega)]
    rfl
theorem sum_flat : ∀ l : List (List Nat), (l.flatMap id).sum = (l.map List.sum).sum
  | [] => rfl
  | r :: l => by
    rw [List.flatMap_cons, List.sum_append, List.map_cons, List.sum_cons, sum_flat l]
    rfl
theorem total_is {t : Abs} (wf : WF t) : (t.w.flatMap id).sum = Kh414.total t := by
  rw [sum_flat]
  conv => lhs; rw [w_rows wf]
  unfold Kh414.total
  rw [List.map_map]
  refine congrArg List.sum (List.map_congr_left fun x hx => ?_)
  show (t.w.getD x []).sum = _
  rw [row_ws wf (List.mem_range.mp hx)]
theorem comes_is {t : Abs} (wf : WF t) {x : Nat} (hx : x < t.a) : decide (0 < ((t.w.getD x []).sum : Int)) = Kh414.comes t x := by
  have h := sum_zero (Kh414.weight t x) (Kh414.ys t)
  rw [← row_ws wf hx] at h
  unfold Kh414.comes
  rw [Bool.eq_iff_iff, decide_eq_true_iff, List.any_eq_true]
  constructor
  · intro h1
    have h2 : ¬ ∀ y ∈ Kh414.ys t, Kh414.weight t x y = 0 := fun h3 => by
      have := h.mpr h3
      omega
    have h4 : ∃ y, ¬ (y ∈ Kh414.ys t → Kh414.weight t x y = 0) := Classical.not_forall.mp h2
    obtain ⟨y, hy⟩ := h4
    have h5 : y ∈ Kh414.ys t ∧ Kh414.weight t x y ≠ 0 := Classical.not_imp.mp hy
    exact ⟨y, h5.1, decide_eq_true (by have := h5.2; omega)⟩
  · rintro ⟨y, hy, hb⟩
    have h2 : (t.w.getD x []).sum ≠ 0 := fun h3 => by
      have h4 := h.mp h3 y hy
      have := of_decide_eq_true hb
      omega
    omega
/-! ### right -/
def rightY (t : Abs) (f : List Nat) (y : Nat) : Nat := ((List.range t.a).map fun c => (((Kh414.xs t).filter fun x => f.getD x 0 == c).map fun x => Kh414.weight t x y).foldl max 0).sum
theorem right_is (t : Abs) (f : List Nat) : Kh414.right t f = ((Kh414.ys t).map (rightY t f)).sum := rfl
def oft (t : Abs) (f : List Nat) (y i c : Nat) : Nat := (((List.range i).filter fun x => f.getD x 0 == c).map fun x => Kh414.weight t x y).foldl max 0
theorem oft_zero (t : Abs) (f : List Nat) (y c : Nat) : oft t f y 0 c = 0 := rfl
theorem oft_more (t : Abs) (f : List Nat) (y i c : Nat) : oft t f y (i + 1) c = if f.getD i 0 = c then max (oft t f y i c) (Kh414.weight t i y) else oft t f y i c := by
  unfold oft
  rw [List.range_succ, List.filter_append, List.map_append, List.foldl_append]
  by_cases h : f.getD i 0 = c
  · rw [if_pos h, List.filter_cons, if_pos (by rw [h]; exact beq_self_eq_true c)]
    rfl
  · rw [if_neg h, List.filter_cons, if_neg (by simpa using h)]
    rfl
def ofts (t : Abs) (f : List Nat) (y i : Nat) : List Nat := (List.range t.a).map (oft t f y i)
theorem ofts_zero (t : Abs) (f : List Nat) (y : Nat) : ofts t f y 0 = List.replicate t.a 0 := by
  unfold ofts
  refine List.ext_getElem? fun i => ?_
  rw [List.getElem?_map, List.getElem?_replicate]
  by_cases h : i < t.a
  · rw [List.getElem?_range h, if_pos h]
    rfl
  · rw [List.getElem?_eq_none (by rw [List.length_range]; omega), if_neg h]
    rfl
theorem ofts_len (t : Abs) (f : List Nat) (y i : Nat) : (ofts t f y i).length = t.a := by
  unfold ofts
  rw [List.length_map, List.length_range]
theorem ofts_get (t : Abs) (f : List Nat) (y i : Nat) {c : Nat} (h : c < t.a) : (ofts t f y i).getD c 0 = oft t f y i c := by
  unfold ofts
  rw [List.getD_eq_getElem?_getD, List.getElem?_map, List.getElem?_range h]
  rfl
theorem ofts_more (t : Abs) (f : List Nat) (y i : Nat) (h : f.getD i 0 < t.a) : (ofts t f y i).set (f.getD i 0) (max (oft t f y i (f.getD i 0)) (Kh414.weight t i y)) = ofts t f y (i + 1) := by
  refine List.ext_getElem? fun c => ?_
  rw [List.getElem?_set]
  by_cases hc : c < t.a
  · have e1 : (ofts t f y (i + 1))[c]? = some (oft t f y (i + 1) c) := by
      unfold ofts
      rw [List.getElem?_map, List.getElem?_range hc]
      rfl
    have e2 : (ofts t f y i)[c]? = some (oft t f y i c) := by
      unfold ofts
      rw [List.getElem?_map, List.getElem?_range hc]
      rfl
    rw [e1, e2, oft_more]
    by_cases z : f.getD i 0 = c
    · rw [if_pos z, if_pos z, if_pos (by rw [ofts_len]; exact h), z]
    · rw [if_neg z, if_neg z]
  · have n1 : (ofts t f y (i + 1))[c]? = none := List.getElem?_eq_none (by rw [ofts_len]; omega)
    have n2 : (ofts t f y i)[c]? = none := List.getElem?_eq_none (by rw [ofts_len]; omega)
    rw [n1, n2, if_neg (by omega)]
theorem ofts_sum (t : Abs) (f : List Nat) (y : Nat) : (ofts t f y t.a).sum = rightY t f y := rfl
/-! ### two uses -/
def tw (t : Abs) (i : Nat) : Nat × Nat := (Kh414.twos t).getD i (0, 0)
theorem twos_len : ∀ n : Nat, n < 6 → (((List.range n).flatMap fun x => (List.range n).map fun z => (x, z)).length = n * n ∧ ((List.range n).flatMap fun x => (List.range n).map fun z => (x, z)).Nodup) := by decide +kernel
theorem twos_n {t : Abs} (wf : WF t) : (Kh414.twos t).length = t.a * t.a := (twos_len t.a (by have := wf.a5; omega)).1
theorem twos_nd {t : Abs} (wf : WF t) : (Kh414.twos t).Nodup := (twos_len t.a (by have := wf.a5; omega)).2
theorem twos_lt {t : Abs} {p : Nat × Nat} (h : p ∈ Kh414.twos t) : p.1 < t.a ∧ p.2 < t.a := by
  obtain ⟨x, hx, h2⟩ := List.mem_flatMap.mp h
  obtain ⟨z, hz, rfl⟩ := List.mem_map.mp h2
  exact ⟨List.mem_range.mp hx, List.mem_range.mp hz⟩
theorem tw_get {t : Abs} {i : Nat} (h : i < (Kh414.twos t).length) : (Kh414.twos t)[i]? = some (tw t i) := by
  unfold tw
  rw [List.getD_eq_getElem?_getD, List.getElem?_eq_getElem h]
  rfl
theorem tw_lt {t : Abs} {i : Nat} (h : i < (Kh414.twos t).length) : (tw t i).1 < t.a ∧ (tw t i).2 < t.a := twos_lt (List.mem_of_getElem? (tw_get h))
def opn (t : Abs) (x z : Nat) : Bool := (x == z && Kh414.comes t x) || Kh414.mixed t x z
theorem mixed_self (t : Abs) (x : Nat) : Kh414.mixed t x x = false := by
  cases hm : Kh414.mixed t x x with
  | false => rfl
  | true => exact absurd rfl (mixed_ne hm)
theorem opn_same (t : Abs) (x : Nat) : opn t x x = Kh414.comes t x := by
  unfold opn
  rw [mixed_self, beq_self_eq_true, Bool.true_and, Bool.or_false]
theorem opn_diff (t : Abs) {x z : Nat} (h : x ≠ z) : opn t x z = Kh414.mixed t x z := by
  unfold opn
  have : (x == z) = false := by simpa using h
  rw [this, Bool.false_and, Bool.false_or]
theorem two_is (t : Abs) (p q : Nat × Nat) : Kh414.mixedTwo t p q = (p != q && (opn t p.1 q.1 && opn t p.2 q.2)) := rfl
theorem opn_symm (t : Abs) (x z : Nat) : opn t x z = opn t z x := by
  by_cases h : x = z
  · rw [h]
  · rw [opn_diff t h, opn_diff t (Ne.symm h), mixed_symm]
theorem two_symm (t : Abs) (p q : Nat × Nat) : Kh414.mixedTwo t p q = Kh414.mixedTwo t q p := by
  rw [two_is, two_is, opn_symm t p.1, opn_symm t p.2]
  have : (p != q) = (q != p) := by
    rw [Bool.eq_iff_iff, bne_iff_ne, bne_iff_ne]
    exact ne_comm
  rw [this]
/-- letters of the mixed ones ahead of the i-th two -/
def aheadL (t : Abs) (f : List Nat) (i : Nat) : List Nat := ((List.range i).filter fun j => Kh414.mixedTwo t (tw t j) (tw t i)).map fun j => f.getD j 0
theorem ahead_len (t : Abs) (f : List Nat) (i : Nat) : (aheadL t f i).length ≤ i := by
  unfold aheadL
  rw [List.length_map]
  have := List.length_filter_le (fun j => Kh414.mixedTwo t (tw t j) (tw t i)) (List.range i)
  rwa [List.length_range] at this
theorem ahead_mem {t : Abs} {f : List Nat} {i c : Nat} : c ∈ aheadL t f i ↔ ∃ j, j < i ∧ Kh414.mixedTwo t (tw t j) (tw t i) = true ∧ f.getD j 0 = c := by
  unfold aheadL
  rw [List.mem_map]
  constructor
  · rintro ⟨j, hj, e⟩
    obtain ⟨h1, h2⟩ := List.mem_filter.mp hj
    exact ⟨j, List.mem_range.mp h1, h2, e⟩
  · rintro ⟨j, h1, h2, e⟩
    exact ⟨j, List.mem_filter.mpr ⟨List.mem_range.mpr h1, h2⟩, e⟩
theorem two_self (t : Abs) (p : Nat × Nat) : Kh414.mixedTwo t p p = false := by
  rw [two_is]
  simp
theorem goodTwo_is (t : Abs) (f : List Nat) : Kh414.goodTwo t f = (List.range (Kh414.twos t).length).all fun i => !(aheadL t f i).contains (f.getD i 0) := by
  unfold Kh414.goodTwo
  dsimp only
  rw [Bool.eq_iff_iff, List.all_eq_true, List.all_eq_true]
  constructor
  · intro h i hi
    have hi := List.mem_range.mp hi
    rw [Bool.not_eq_true', ← Bool.not_eq_true, List.contains_iff_mem, ahead_mem]
    rintro ⟨j, hj, hm, e⟩
    have h1 := List.all_eq_true.mp (h (tw t j, j) (List.mk_mem_zipIdx_iff_getElem?.mpr (tw_get (by omega)))) (tw t i, i) (List.mk_mem_zipIdx_iff_getElem?.mpr (tw_get hi))
    dsimp only at h1
    rw [hm, e] at h1
    simp at h1
  · intro h p hp
    rw [List.all_eq_true]
    intro q hq
    have hp' : (Kh414.twos t)[p.2]? = some p.1 := List.mk_mem_zipIdx_iff_getElem?.mp hp
    have hq' : (Kh414.twos t)[q.2]? = some q.1 := List.mk_mem_zipIdx_iff_getElem?.mp hq
    have lp := (List.getElem?_eq_some_iff.mp hp').1
    have lq := (List.getElem?_eq_some_iff.mp hq').1
    have ep : tw t p.2 = p.1 := Option.some.inj ((tw_get lp).symm.trans hp')
    have eq : tw t q.2 = q.1 := Option.some.inj ((tw_get lq).symm.trans hq')
    have no : ∀ i j, j < i → i < (Kh414.twos t).length → Kh414.mixedTwo t (tw t j) (tw t i) = true → f.getD j 0 ≠ f.getD i 0 := fun i j hj hi hm e => by
      have h1 := h i (List.mem_range.mpr hi)
      rw [Bool.not_eq_true', ← Bool.not_eq_true, List.contains_iff_mem, ahead_mem] at h1
      exact h1 ⟨j, hj, hm, e⟩
    cases hm : Kh414.mixedTwo t p.1 q.1 with
    | false => rfl
    | true =>
      show (f.getD p.2 0 != f.getD q.2 0) = true
      rw [bne_iff_ne]
      intro e
      by_cases c : p.2 < q.2
      · exact no q.2 p.2 c lq (by rw [ep, eq]; exact hm) e
      · by_cases c2 : q.2 < p.2
        · exact no p.2 q.2 c2 lp (by rw [ep, eq, two_symm]; exact hm) e.symm
        · have e2 : p.2 = q.2 := by omega
          rw [← ep, ← eq, e2, two_self] at hm
          cases hm
/-- the least number that isn't there -/
theorem many_in : ∀ (n : Nat) (l : List Nat), (∀ c, c < n → c ∈ l) → n ≤ l.length
  | 0, _, _ => Nat.zero_le _
  | n + 1, l, h => by
    have hn := h n (by omega)
    have h1 := many_in n (l.erase n) fun c hc => (List.mem_erase_of_ne (by omega)).mpr (h c (by omega))
    have h2 := List.length_erase_of_mem hn
    have h3 := List.length_pos_of_mem hn
    omega
def LeastNot (l : List Nat) (c : Nat) : Prop := c ∉ l ∧ ∀ d, d < c → d ∈ l
theorem LeastNot.le {l : List Nat} {c : Nat} (h : LeastNot l c) : c ≤ l.length := many_in c l h.2
theorem find_least {p : Nat → Bool} {n c : Nat} (h1 : p c = true) (h2 : ∀ d, d < c → p d = false) (hn : c < n) : (List.range n).find? p = some c := by
  induction n with
  | zero => omega
  | succ n ih =>
    rw [List.range_succ, List.find?_append]
    by_cases z : c < n
    · rw [ih z]
      rfl
    · have e : c = n := by omega
      subst e
      have h3 : (List.range c).find? p = none := List.find?_eq_none.mpr fun d hd => by
        rw [h2 d (List.mem_range.mp hd)]
        decide
      rw [h3, List.find?_cons, h1]
      rfl
def gstep (t : Abs) (f : List Nat) (p : (Nat × Nat) × Nat) : List Nat := f ++ [((List.range (t.a * t.a)).find? fun c => ((Kh414.twos t).zipIdx.take p.2).all fun q => !Kh414.mixedTwo t p.1 q.1 || f.getD q.2 0 != c).getD 0]
def greedyN (t : Abs) (i : Nat) : List Nat := ((Kh414.twos t).zipIdx.take i).foldl (gstep t) []
theorem greedy_is (t : Abs) : Kh414.greedyTwo t = greedyN t (Kh414.twos t).length := by
  unfold greedyN
  rw [List.take_of_length_le (by rw [List.length_zipIdx]; exact Nat.le_refl _)]
  rfl
theorem zip_get {t : Abs} {i : Nat} (h : i < (Kh414.twos t).length) : (Kh414.twos t).zipIdx[i]? = some (tw t i, i) := by
  rw [List.getElem?_zipIdx, tw_get h]
  simp
theorem greedy_more {t : Abs} (wf : WF t) {i c : Nat} (h : i < (Kh414.twos t).length) (hc : LeastNot (aheadL t (greedyN t i) i) c) : greedyN t (i + 1) = greedyN t i ++ [c] := by
  have e : (Kh414.twos t).zipIdx.take (i + 1) = (Kh414.twos t).zipIdx.take i ++ [(tw t i, i)] := by
    rw [List.take_succ, zip_get h]
    rfl
  have e2 : greedyN t (i + 1) = gstep t (greedyN t i) (tw t i, i) := by
    unfold greedyN
    rw [e, List.foldl_append]
    rfl
  rw [e2]
  unfold gstep
  dsimp only
  have key : ∀ d, (((Kh414.twos t).zipIdx.take i).all fun q => !Kh414.mixedTwo t (tw t i) q.1 || (greedyN t i).getD q.2 0 != d) = true ↔ d ∉ aheadL t (greedyN t i) i := fun d => by
    rw [List.all_eq_true, ahead_mem]
    constructor
    · rintro h1 ⟨j, hj, hm, ed⟩
      have h2 := h1 (tw t j, j) (by
        refine List.mem_iff_getElem?.mpr ⟨j, ?_⟩
        rw [List.getElem?_take_of_lt hj]
        exact zip_get (by omega))
      dsimp only at h2
      rw [two_symm, hm, ed] at h2
      simp at h2
    · intro h1 q hq
      obtain ⟨j, hj⟩ := List.mem_iff_getElem?.mp hq
      rw [List.getElem?_take] at hj
      by_cases z : j < i
      · rw [if_pos z, zip_get (by omega)] at hj
        obtain rfl := Option.some.inj hj
        dsimp only
        cases hm : Kh414.mixedTwo t (tw t i) (tw t j) with
        | false => rfl
        | true =>
          show ((greedyN t i).getD j 0 != d) = true
          rw [bne_iff_ne]
          intro ed
          exact h1 ⟨j, z, by rw [two_symm]; exact hm, ed⟩
      · rw [if_neg z] at hj
        cases hj
  have hlt : c < t.a * t.a := by
    have h1 := hc.le
    have h2 := ahead_len t (greedyN t i) i
    have h3 := twos_n wf
    omega
  rw [find_least ((key c).mpr hc.1) (fun d hd => by
    rw [← Bool.not_eq_true]
    intro z
    exact (key d).mp z (hc.2 d hd)) hlt]
  rfl
/-! ### crowd, likeliest -/
theorem crowd_is (t : Abs) {i : Nat} (hi : i < t.b) (hm : ∀ j, j < t.b → Kh414.crowd t j ≤ Kh414.crowd t i ∧ (j < i → Kh414.crowd t j < Kh414.crowd t i)) : (Kh414.does t .crowd).2 = Kh414.nats (Kh414.crowd t i) [i] := by
  have h := max_find (Kh414.crowd t) (l := Kh414.ys t) (i := i) (x := i) (List.getElem?_range hi) (fun j y hj => by
    unfold Kh414.ys at hj
    have hl : j < t.b := by
      have := (List.getElem?_eq_some_iff.mp hj).1
      rwa [List.length_range] at this
    rw [List.getElem?_range hl] at hj
    obtain rfl := Option.some.inj hj
    exact hm j hl)
  show (let k := ((Kh414.ys t).map (Kh414.crowd t)).foldl max 0
    match (Kh414.ys t).find? fun y => Kh414.crowd t y == k with
    | none => Kh414.say (-33)
    | some y => Kh414.nats k [y]) = _
  dsimp only
  rw [List.foldl_map, h.1, h.2]
theorem likeliest_is (t : Abs) {k i : Nat} {g : List Nat} (hk : ¬ (k < 1 ∨ t.a < k)) (hi : (Kh414.rowsOf k t.a)[i]? = some g) (hm : ∀ j y, (Kh414.rowsOf k t.a)[j]? = some y → Kh414.right t y ≤ Kh414.right t g ∧ (j < i → Kh414.right t y < Kh414.right t g)) :
    (Kh414.does t (.likeliest k)).2 = Kh414.nats (Kh414.right t g) g := by
  have h := max_find (Kh414.right t) hi hm
  show (if k < 1 ∨ t.a < k then Kh414.say (-22) else let l := Kh414.rowsOf k t.a
      let m := l.foldl (fun r g => max r (Kh414.right t g)) 0
      match l.find? fun g => Kh414.right t g == m with
      | none => Kh414.say (-33)
      | some g => Kh414.nats m g) = _
  rw [if_neg hk]
  dsimp only
  rw [h.1, h.2]
theorem rows_ok : ∀ n : Nat, n < 6 → ((Kh414.rows n 0).all fun r => okN n r) = true ∧ ((Kh414.rows n 0).head?.map Kh414.used = some (min n 1)) := by decide +kernel
theorem row_ok {n : Nat} (hn : n < 6) {r : List Nat} (h : r ∈ Kh414.rows n 0) : okN n r = true := List.all_eq_true.mp (rows_ok n hn).1 r h
theorem rowsOf_pos {n k : Nat} (hn : n < 6) (hk : 1 ≤ k) : 0 < (Kh414.rowsOf k n).length := by
  have h := (rows_ok n hn).2
  cases hh : (Kh414.rows n 0).head? with
  | none =>
    rw [hh] at h
    cases h
  | some r =>
    rw [hh] at h
    have hu : Kh414.used r = min n 1 := by simpa using h
    refine List.length_pos_of_mem (a := r) (List.mem_filter.mpr ⟨List.mem_of_mem_head? (by rw [hh]; exact rfl), decide_eq_true ?_⟩)
    omega
end LS

namespace LS
open PySem PySem.Spec PyProof.Rows L2 Evl

def top (i : Nat) : Stmt := PySem.Challenge.pw_lettersent_s01_answers.main.body.getD i (.Pass ⟨0, 0, 0, 0⟩)
abbrev s_Call_init : Stmt := inClass (top 24) 0
abbrev s_read_calls : Stmt := top 25
abbrev s_all_groups : Stmt := top 32
abbrev s_mixed_within : Stmt := top 33
abbrev s_is_all_mixed : Stmt := top 34
abbrev s_is_none_mixed : Stmt := top 35
abbrev s_greatest_all_mixed : Stmt := top 36
abbrev s_greatest_none_mixed : Stmt := top 37
abbrev s_first_clash : Stmt := top 39
abbrev s_letters_do : Stmt := top 40
abbrev s_letter_count : Stmt := top 41
abbrev s_longer_rows : Stmt := top 42
abbrev s_all_numbered_rows : Stmt := top 43
abbrev s_rows_that_do : Stmt := top 44
abbrev s_best_row : Stmt := top 45
abbrev s_ways_with : Stmt := top 46
abbrev s_right_with_y : Stmt := top 48
abbrev s_how_often_right : Stmt := top 49
abbrev s_likeliest_row : Stmt := top 50
abbrev s_Table_init : Stmt := inClass (top 54) 0
abbrev s_Table_has_x : Stmt := inClass (top 54) 1
abbrev s_Table_has_y : Stmt := inClass (top 54) 2
abbrev s_Table_put : Stmt := inClass (top 54) 3
abbrev s_Table_put_row : Stmt := inClass (top 54) 4
abbrev s_Table_drop_y : Stmt := inClass (top 54) 5
abbrev s_Table_comes : Stmt := inClass (top 54) 6
abbrev s_Table_ys_with_both : Stmt := inClass (top 54) 7
abbrev s_Table_are_mixed : Stmt := inClass (top 54) 8
abbrev s_Table_mixed_with : Stmt := inClass (top 54) 9
abbrev s_Table_xs_with : Stmt := inClass (top 54) 10
abbrev s_Table_ever_comes : Stmt := inClass (top 54) 11
abbrev s_Table_row_by_row : Stmt := inClass (top 54) 12
abbrev s_all_twos : Stmt := top 56
abbrev s_is_open_between : Stmt := top 57
abbrev s_are_twos_mixed : Stmt := top 58
abbrev s_letters_of_mixed_ahead : Stmt := top 59
abbrev s_letters_do_for_two : Stmt := top 60
abbrev s_least_not_in : Stmt := top 61
abbrev s_letters_two_by_two : Stmt := top 62
abbrev s_yes_or_no : Stmt := top 64
abbrev s_counted : Stmt := top 65
abbrev s_any_above : Stmt := top 66
abbrev s_wrong_letters : Stmt := top 67
abbrev s_reply_set : Stmt := top 68
abbrev s_reply_row : Stmt := top 69
abbrev s_reply_forget : Stmt := top 70
abbrev s_reply_may : Stmt := top 71
abbrev s_reply_mixed : Stmt := top 72
abbrev s_reply_mixed_with : Stmt := top 73
abbrev s_reply_good : Stmt := top 74
abbrev s_reply_clash : Stmt := top 75
abbrev s_reply_fewest : Stmt := top 76
abbrev s_reply_best : Stmt := top 77
abbrev s_reply_ways : Stmt := top 78
abbrev s_reply_crowd : Stmt := top 79
abbrev s_reply_why : Stmt := top 80
abbrev s_reply_apart : Stmt := top 81
abbrev s_reply_told : Stmt := top 82
abbrev s_reply_sure : Stmt := top 83
abbrev s_reply_good_two : Stmt := top 84
abbrev s_reply_greedy_two : Stmt := top 85
abbrev s_reply_mixed_two : Stmt := top 86
abbrev s_reply_often : Stmt := top 87
abbrev s_reply_likeliest : Stmt := top 88
abbrev s_reply_all_told : Stmt := top 89
abbrev s_answer_change : Stmt := top 91
abbrev s_answer_mixed : Stmt := top 92
abbrev s_answer_letters : Stmt := top 93
abbrev s_answer_sets : Stmt := top 94
abbrev s_answer_twos : Stmt := top 95
abbrev s_answer_right : Stmt := top 96
abbrev s_answer_begun : Stmt := top 97
abbrev s_Line_init : Stmt := inClass (top 98) 0
abbrev s_Line_begin : Stmt := inClass (top 98) 1
abbrev s_Line_answer : Stmt := inClass (top 98) 2
abbrev s_answers : Stmt := top 99
/-- where the defs, classes and written objects of the top stand -/
structure Ad where
  f_Call_init : Addr
  f_read_calls : Addr
  f_all_groups : Addr
  f_mixed_within : Addr
  f_is_all_mixed : Addr
  f_is_none_mixed : Addr
  f_greatest_all_mixed : Addr
  f_greatest_none_mixed : Addr
  f_first_clash : Addr
  f_letters_do : Addr
  f_letter_count : Addr
  f_longer_rows : Addr
  f_all_numbered_rows : Addr
  f_rows_that_do : Addr
  f_best_row : Addr
  f_ways_with : Addr
  f_right_with_y : Addr
  f_how_often_right : Addr
  f_likeliest_row : Addr
  f_Table_init : Addr
  f_Table_has_x : Addr
  f_Table_has_y : Addr
  f_Table_put : Addr
  f_Table_put_row : Addr
  f_Table_drop_y : Addr
  f_Table_comes : Addr
  f_Table_ys_with_both : Addr
  f_Table_are_mixed : Addr
  f_Table_mixed_with : Addr
  f_Table_xs_with : Addr
  f_Table_ever_comes : Addr
  f_Table_row_by_row : Addr
  f_all_twos : Addr
  f_is_open_between : Addr
  f_are_twos_mixed : Addr
  f_letters_of_mixed_ahead : Addr
  f_letters_do_for_two : Addr
  f_least_not_in : Addr
  f_letters_two_by_two : Addr
  f_yes_or_no : Addr
  f_counted : Addr
  f_any_above : Addr
  f_wrong_letters : Addr
  f_reply_set : Addr
  f_reply_row : Addr
  f_reply_forget : Addr
  f_reply_may : Addr
  f_reply_mixed : Addr
  f_reply_mixed_with : Addr
  f_reply_good : Addr
  f_reply_clash : Addr
  f_reply_fewest : Addr
  f_reply_best : Addr
  f_reply_ways : Addr
  f_reply_crowd : Addr
  f_reply_why : Addr
  f_reply_apart : Addr
  f_reply_told : Addr
  f_reply_sure : Addr
  f_reply_good_two : Addr
  f_reply_greedy_two : Addr
  f_reply_mixed_two : Addr
  f_reply_often : Addr
  f_reply_likeliest : Addr
  f_reply_all_told : Addr
  f_answer_change : Addr
  f_answer_mixed : Addr
  f_answer_letters : Addr
  f_answer_sets : Addr
  f_answer_twos : Addr
  f_answer_right : Addr
  f_answer_begun : Addr
  f_Line_init : Addr
  f_Line_begin : Addr
  f_Line_answer : Addr
  f_answers : Addr
  C_Call : Addr
  C_Table : Addr
  C_Line : Addr
  o_SHAPES : Addr
  P_likeliest_row : Addr
  c_likeliest_row : Addr
/-- of each call at its place: how many whole numbers, whether a row -/
def shapes : List (Nat × Bool) := [(2, false), (3, false), (1, true), (1, false), (2, false), (2, false), (1, false), (0, true), (0, true), (0, false), (0, false), (1, false), (0, false), (0, false), (0, false), (2, true), (1, false), (0, true), (0, false), (4, false), (0, true), (1, false), (0, false)]
def Is_SHAPES (K : PySem.W.Frag) (o : Addr) : Prop := ∃ rs : List Addr, SqT K (fun _ => none) o (rs.map V.ref) ∧ rs.length = shapes.length ∧ ∀ i (h : i < rs.length) (h2 : i < shapes.length), SqT K (fun _ => none) rs[i] [.int (shapes[i].1 : Int), .bl shapes[i].2]
/-- what the top has written -/
structure Txt (K : PySem.W.Frag) (mg : Str → Option Value) (a : Ad) : Prop where
  F_Call_init : ∃ fd, Fun K "__init__" "Call.__init__" s_Call_init a.f_Call_init fd
  g_read_calls : mg "read_calls" = some (.ref a.f_read_calls)
  F_read_calls : ∃ fd, Fun K "read_calls" "read_calls" s_read_calls a.f_read_calls fd
  g_all_groups : mg "all_groups" = some (.ref a.f_all_groups)
  F_all_groups : ∃ fd, Fun K "all_groups" "all_groups" s_all_groups a.f_all_groups fd
  g_mixed_within : mg "mixed_within" = some (.ref a.f_mixed_within)
  F_mixed_within : ∃ fd, Fun K "mixed_within" "mixed_within" s_mixed_within a.f_mixed_within fd
  g_is_all_mixed : mg "is_all_mixed" = some (.ref a.f_is_all_mixed)
  F_is_all_mixed : ∃ fd, Fun K "is_all_mixed" "is_all_mixed" s_is_all_mixed a.f_is_all_mixed fd
  g_is_none_mixed : mg "is_none_mixed" = some (.ref a.f_is_none_mixed)
  F_is_none_mixed : ∃ fd, Fun K "is_none_mixed" "is_none_mixed" s_is_none_mixed a.f_is_none_mixed fd
  g_greatest_all_mixed : mg "greatest_all_mixed" = some (.ref a.f_greatest_all_mixed)
  F_greatest_all_mixed : ∃ fd, Fun K "greatest_all_mixed" "greatest_all_mixed" s_greatest_all_mixed a.f_greatest_all_mixed fd
  g_greatest_none_mixed : mg "greatest_none_mixed" = some (.ref a.f_greatest_none_mixed)
  F_greatest_none_mixed : ∃ fd, Fun K "greatest_none_mixed" "greatest_none_mixed" s_greatest_none_mixed a.f_greatest_none_mixed fd
  g_first_clash : mg "first_clash" = some (.ref a.f_first_clash)
  F_first_clash : ∃ fd, Fun K "first_clash" "first_clash" s_first_clash a.f_first_clash fd
  g_letters_do : mg "letters_do" = some (.ref a.f_letters_do)
  F_letters_do : ∃ fd, Fun K "letters_do" "letters_do" s_letters_do a.f_letters_do fd
  g_letter_count : mg "letter_count" = some (.ref a.f_letter_count)
  F_letter_count : ∃ fd, Fun K "letter_count" "letter_count" s_letter_count a.f_letter_count fd
  g_longer_rows : mg "longer_rows" = some (.ref a.f_longer_rows)
  F_longer_rows : ∃ fd, Fun K "longer_rows" "longer_rows" s_longer_rows a.f_longer_rows fd
  g_all_numbered_rows : mg "all_numbered_rows" = some (.ref a.f_all_numbered_rows)
  F_all_numbered_rows : ∃ fd, Fun K "all_numbered_rows" "all_numbered_rows" s_all_numbered_rows a.f_all_numbered_rows fd
  g_rows_that_do : mg "rows_that_do" = some (.ref a.f_rows_that_do)
  F_rows_that_do : ∃ fd, Fun K "rows_that_do" "rows_that_do" s_rows_that_do a.f_rows_that_do fd
  g_best_row : mg "best_row" = some (.ref a.f_best_row)
  F_best_row : ∃ fd, Fun K "best_row" "best_row" s_best_row a.f_best_row fd
  g_ways_with : mg "ways_with" = some (.ref a.f_ways_with)
  F_ways_with : ∃ fd, Fun K "ways_with" "ways_with" s_ways_with a.f_ways_with fd
  g_right_with_y : mg "right_with_y" = some (.ref a.f_right_with_y)
  F_right_with_y : ∃ fd, Fun K "right_with_y" "right_with_y" s_right_with_y a.f_right_with_y fd
  g_how_often_right : mg "how_often_right" = some (.ref a.f_how_often_right)
  F_how_often_right : ∃ fd, Fun K "how_often_right" "how_often_right" s_how_often_right a.f_how_often_right fd
  g_likeliest_row : mg "likeliest_row" = some (.ref a.f_likeliest_row)
  F_likeliest_row : ∃ fd, FunC K "likeliest_row" "likeliest_row" s_likeliest_row a.f_likeliest_row fd (.ref a.c_likeliest_row)
  F_Table_init : ∃ fd, Fun K "__init__" "Table.__init__" s_Table_init a.f_Table_init fd
  m_Table_has_x : PySem.W.findIn K (.ref a.C_Table) "has_x" = some (some (.ref a.f_Table_has_x)) ∧ PySem.W.isFn K (.ref a.f_Table_has_x) = true
  F_Table_has_x : ∃ fd, Fun K "has_x" "Table.has_x" s_Table_has_x a.f_Table_has_x fd
  m_Table_has_y : PySem.W.findIn K (.ref a.C_Table) "has_y" = some (some (.ref a.f_Table_has_y)) ∧ PySem.W.isFn K (.ref a.f_Table_has_y) = true
  F_Table_has_y : ∃ fd, Fun K "has_y" "Table.has_y" s_Table_has_y a.f_Table_has_y fd
  m_Table_put : PySem.W.findIn K (.ref a.C_Table) "put" = some (some (.ref a.f_Table_put)) ∧ PySem.W.isFn K (.ref a.f_Table_put) = true
  F_Table_put : ∃ fd, Fun K "put" "Table.put" s_Table_put a.f_Table_put fd
  m_Table_put_row : PySem.W.findIn K (.ref a.C_Table) "put_row" = some (some (.ref a.f_Table_put_row)) ∧ PySem.W.isFn K (.ref a.f_Table_put_row) = true
  F_Table_put_row : ∃ fd, Fun K "put_row" "Table.put_row" s_Table_put_row a.f_Table_put_row fd
  m_Table_drop_y : PySem.W.findIn K (.ref a.C_Table) "drop_y" = some (some (.ref a.f_Table_drop_y)) ∧ PySem.W.isFn K (.ref a.f_Table_drop_y) = true
  F_Table_drop_y : ∃ fd, Fun K "drop_y" "Table.drop_y" s_Table_drop_y a.f_Table_drop_y fd
  m_Table_comes : PySem.W.findIn K (.ref a.C_Table) "comes" = some (some (.ref a.f_Table_comes)) ∧ PySem.W.isFn K (.ref a.f_Table_comes) = true
  F_Table_comes : ∃ fd, Fun K "comes" "Table.comes" s_Table_comes a.f_Table_comes fd
  m_Table_ys_with_both : PySem.W.findIn K (.ref a.C_Table) "ys_with_both" = some (some (.ref a.f_Table_ys_with_both)) ∧ PySem.W.isFn K (.ref a.f_Table_ys_with_both) = true
  F_Table_ys_with_both : ∃ fd, Fun K "ys_with_both" "Table.ys_with_both" s_Table_ys_with_both a.f_Table_ys_with_both fd
  m_Table_are_mixed : PySem.W.findIn K (.ref a.C_Table) "are_mixed" = some (some (.ref a.f_Table_are_mixed)) ∧ PySem.W.isFn K (.ref a.f_Table_are_mixed) = true
  F_Table_are_mixed : ∃ fd, Fun K "are_mixed" "Table.are_mixed" s_Table_are_mixed a.f_Table_are_mixed fd
  m_Table_mixed_with : PySem.W.findIn K (.ref a.C_Table) "mixed_with" = some (some (.ref a.f_Table_mixed_with)) ∧ PySem.W.isFn K (.ref a.f_Table_mixed_with) = true
  F_Table_mixed_with : ∃ fd, Fun K "mixed_with" "Table.mixed_with" s_Table_mixed_with a.f_Table_mixed_with fd
  m_Table_xs_with : PySem.W.findIn K (.ref a.C_Table) "xs_with" = some (some (.ref a.f_Table_xs_with)) ∧ PySem.W.isFn K (.ref a.f_Table_xs_with) = true
  F_Table_xs_with : ∃ fd, Fun K "xs_with" "Table.xs_with" s_Table_xs_with a.f_Table_xs_with fd
  m_Table_ever_comes : PySem.W.findIn K (.ref a.C_Table) "ever_comes" = some (some (.ref a.f_Table_ever_comes)) ∧ PySem.W.isFn K (.ref a.f_Table_ever_comes) = true
  F_Table_ever_comes : ∃ fd, Fun K "ever_comes" "Table.ever_comes" s_Table_ever_comes a.f_Table_ever_comes fd
  m_Table_row_by_row : PySem.W.findIn K (.ref a.C_Table) "row_by_row" = some (some (.ref a.f_Table_row_by_row)) ∧ PySem.W.isFn K (.ref a.f_Table_row_by_row) = true
  F_Table_row_by_row : ∃ fd, Fun K "row_by_row" "Table.row_by_row" s_Table_row_by_row a.f_Table_row_by_row fd
  g_all_twos : mg "all_twos" = some (.ref a.f_all_twos)
  F_all_twos : ∃ fd, Fun K "all_twos" "all_twos" s_all_twos a.f_all_twos fd
  g_is_open_between : mg "is_open_between" = some (.ref a.f_is_open_between)
  F_is_open_between : ∃ fd, Fun K "is_open_between" "is_open_between" s_is_open_between a.f_is_open_between fd
  g_are_twos_mixed : mg "are_twos_mixed" = some (.ref a.f_are_twos_mixed)
  F_are_twos_mixed : ∃ fd, Fun K "are_twos_mixed" "are_twos_mixed" s_are_twos_mixed a.f_are_twos_mixed fd
  g_letters_of_mixed_ahead : mg "letters_of_mixed_ahead" = some (.ref a.f_letters_of_mixed_ahead)
  F_letters_of_mixed_ahead : ∃ fd, Fun K "letters_of_mixed_ahead" "letters_of_mixed_ahead" s_letters_of_mixed_ahead a.f_letters_of_mixed_ahead fd
  g_letters_do_for_two : mg "letters_do_for_two" = some (.ref a.f_letters_do_for_two)
  F_letters_do_for_two : ∃ fd, Fun K "letters_do_for_two" "letters_do_for_two" s_letters_do_for_two a.f_letters_do_for_two fd
  g_least_not_in : mg "least_not_in" = some (.ref a.f_least_not_in)
  F_least_not_in : ∃ fd, Fun K "least_not_in" "least_not_in" s_least_not_in a.f_least_not_in fd
  g_letters_two_by_two : mg "letters_two_by_two" = some (.ref a.f_letters_two_by_two)
  F_letters_two_by_two : ∃ fd, Fun K "letters_two_by_two" "letters_two_by_two" s_letters_two_by_two a.f_letters_two_by_two fd
  g_yes_or_no : mg "yes_or_no" = some (.ref a.f_yes_or_no)
  F_yes_or_no : ∃ fd, Fun K "yes_or_no" "yes_or_no" s_yes_or_no a.f_yes_or_no fd
  g_counted : mg "counted" = some (.ref a.f_counted)
  F_counted : ∃ fd, Fun K "counted" "counted" s_counted a.f_counted fd
  g_any_above : mg "any_above" = some (.ref a.f_any_above)
  F_any_above : ∃ fd, Fun K "any_above" "any_above" s_any_above a.f_any_above fd
  g_wrong_letters : mg "wrong_letters" = some (.ref a.f_wrong_letters)
  F_wrong_letters : ∃ fd, Fun K "wrong_letters" "wrong_letters" s_wrong_letters a.f_wrong_letters fd
  g_reply_set : mg "reply_set" = some (.ref a.f_reply_set)
  F_reply_set : ∃ fd, Fun K "reply_set" "reply_set" s_reply_set a.f_reply_set fd
  g_reply_row : mg "reply_row" = some (.ref a.f_reply_row)
  F_reply_row : ∃ fd, Fun K "reply_row" "reply_row" s_reply_row a.f_reply_row fd
  g_reply_forget : mg "reply_forget" = some (.ref a.f_reply_forget)
  F_reply_forget : ∃ fd, Fun K "reply_forget" "reply_forget" s_reply_forget a.f_reply_forget fd
  g_reply_may : mg "reply_may" = some (.ref a.f_reply_may)
  F_reply_may : ∃ fd, Fun K "reply_may" "reply_may" s_reply_may a.f_reply_may fd
  g_reply_mixed : mg "reply_mixed" = some (.ref a.f_reply_mixed)
  F_reply_mixed : ∃ fd, Fun K "reply_mixed" "reply_mixed" s_reply_mixed a.f_reply_mixed fd
  g_reply_mixed_with : mg "reply_mixed_with" = some (.ref a.f_reply_mixed_with)
  F_reply_mixed_with : ∃ fd, Fun K "reply_mixed_with" "reply_mixed_with" s_reply_mixed_with a.f_reply_mixed_with fd
  g_reply_good : mg "reply_good" = some (.ref a.f_reply_good)
  F_reply_good : ∃ fd, Fun K "reply_good" "reply_good" s_reply_good a.f_reply_good fd
  g_reply_clash : mg "reply_clash" = some (.ref a.f_reply_clash)
  F_reply_clash : ∃ fd, Fun K "reply_clash" "reply_clash" s_reply_clash a.f_reply_clash fd
  g_reply_fewest : mg "reply_fewest" = some (.ref a.f_reply_fewest)
  F_reply_fewest : ∃ fd, Fun K "reply_fewest" "reply_fewest" s_reply_fewest a.f_reply_fewest fd
  g_reply_best : mg "reply_best" = some (.ref a.f_reply_best)
  F_reply_best : ∃ fd, Fun K "reply_best" "reply_best" s_reply_best a.f_reply_best fd
  g_reply_ways : mg "reply_ways" = some (.ref a.f_reply_ways)
  F_reply_ways : ∃ fd, Fun K "reply_ways" "reply_ways" s_reply_ways a.f_reply_ways fd
  g_reply_crowd : mg "reply_crowd" = some (.ref a.f_reply_crowd)
  F_reply_crowd : ∃ fd, Fun K "reply_crowd" "reply_crowd" s_reply_crowd a.f_reply_crowd fd
  g_reply_why : mg "reply_why" = some (.ref a.f_reply_why)
  F_reply_why : ∃ fd, Fun K "reply_why" "reply_why" s_reply_why a.f_reply_why fd
  g_reply_apart : mg "reply_apart" = some (.ref a.f_reply_apart)
  F_reply_apart : ∃ fd, Fun K "reply_apart" "reply_apart" s_reply_apart a.f_reply_apart fd
  g_reply_told : mg "reply_told" = some (.ref a.f_reply_told)
  F_reply_told : ∃ fd, Fun K "reply_told" "reply_told" s_reply_told a.f_reply_told fd
  g_reply_sure : mg "reply_sure" = some (.ref a.f_reply_sure)
  F_reply_sure : ∃ fd, Fun K "reply_sure" "reply_sure" s_reply_sure a.f_reply_sure fd
  g_reply_good_two : mg "reply_good_two" = some (.ref a.f_reply_good_two)
  F_reply_good_two : ∃ fd, Fun K "reply_good_two" "reply_good_two" s_reply_good_two a.f_reply_good_two fd
  g_reply_greedy_two : mg "reply_greedy_two" = some (.ref a.f_reply_greedy_two)
  F_reply_greedy_two : ∃ fd, Fun K "reply_greedy_two" "reply_greedy_two" s_reply_greedy_two a.f_reply_greedy_two fd
  g_reply_mixed_two : mg "reply_mixed_two" = some (.ref a.f_reply_mixed_two)
  F_reply_mixed_two : ∃ fd, Fun K "reply_mixed_two" "reply_mixed_two" s_reply_mixed_two a.f_reply_mixed_two fd
  g_reply_often : mg "reply_often" = some (.ref a.f_reply_often)
  F_reply_often : ∃ fd, Fun K "reply_often" "reply_often" s_reply_often a.f_reply_often fd
  g_reply_likeliest : mg "reply_likeliest" = some (.ref a.f_reply_likeliest)
  F_reply_likeliest : ∃ fd, Fun K "reply_likeliest" "reply_likeliest" s_reply_likeliest a.f_reply_likeliest fd
  g_reply_all_told : mg "reply_all_told" = some (.ref a.f_reply_all_told)
  F_reply_all_told : ∃ fd, Fun K "reply_all_told" "reply_all_told" s_reply_all_told a.f_reply_all_told fd
  g_answer_change : mg "answer_change" = some (.ref a.f_answer_change)
  F_answer_change : ∃ fd, Fun K "answer_change" "answer_change" s_answer_change a.f_answer_change fd
  g_answer_mixed : mg "answer_mixed" = some (.ref a.f_answer_mixed)
  F_answer_mixed : ∃ fd, Fun K "answer_mixed" "answer_mixed" s_answer_mixed a.f_answer_mixed fd
  g_answer_letters : mg "answer_letters" = some (.ref a.f_answer_letters)
  F_answer_letters : ∃ fd, Fun K "answer_letters" "answer_letters" s_answer_letters a.f_answer_letters fd
  g_answer_sets : mg "answer_sets" = some (.ref a.f_answer_sets)
  F_answer_sets : ∃ fd, Fun K "answer_sets" "answer_sets" s_answer_sets a.f_answer_sets fd
  g_answer_twos : mg "answer_twos" = some (.ref a.f_answer_twos)
  F_answer_twos : ∃ fd, Fun K "answer_twos" "answer_twos" s_answer_twos a.f_answer_twos fd
  g_answer_right : mg "answer_right" = some (.ref a.f_answer_right)
  F_answer_right : ∃ fd, Fun K "answer_right" "answer_right" s_answer_right a.f_answer_right fd
  g_answer_begun : mg "answer_begun" = some (.ref a.f_answer_begun)
  F_answer_begun : ∃ fd, Fun K "answer_begun" "answer_begun" s_answer_begun a.f_answer_begun fd
  F_Line_init : ∃ fd, Fun K "__init__" "Line.__init__" s_Line_init a.f_Line_init fd
  m_Line_begin : PySem.W.findIn K (.ref a.C_Line) "begin" = some (some (.ref a.f_Line_begin)) ∧ PySem.W.isFn K (.ref a.f_Line_begin) = true
  F_Line_begin : ∃ fd, Fun K "begin" "Line.begin" s_Line_begin a.f_Line_begin fd
  m_Line_answer : PySem.W.findIn K (.ref a.C_Line) "answer" = some (some (.ref a.f_Line_answer)) ∧ PySem.W.isFn K (.ref a.f_Line_answer) = true
  F_Line_answer : ∃ fd, Fun K "answer" "Line.answer" s_Line_answer a.f_Line_answer fd
  g_answers : mg "answers" = some (.ref a.f_answers)
  F_answers : ∃ fd, Fun K "answers" "answers" s_answers a.f_answers fd
  gC_Call : mg "Call" = some (.ref a.C_Call)
  cl_Call : Cls K a.C_Call
  mk_Call : Mk K a.C_Call a.f_Call_init
  n_Call_number : NoAttr K a.C_Call "number"
  n_Call_numbers : NoAttr K a.C_Call "numbers"
  n_Call_row : NoAttr K a.C_Call "row"
  gC_Table : mg "Table" = some (.ref a.C_Table)
  cl_Table : Cls K a.C_Table
  mk_Table : Mk K a.C_Table a.f_Table_init
  n_Table_x_count : NoAttr K a.C_Table "x_count"
  n_Table_y_count : NoAttr K a.C_Table "y_count"
  n_Table_often : NoAttr K a.C_Table "often"
  gC_Line : mg "Line" = some (.ref a.C_Line)
  cl_Line : Cls K a.C_Line
  mk_Line : Mk K a.C_Line a.f_Line_init
  n_Line_table : NoAttr K a.C_Line "table"
  c_BEGIN : ∃ tk, mg "BEGIN" = some (.int 0 tk)
  c_SET_OFTEN : ∃ tk, mg "SET_OFTEN" = some (.int 1 tk)
  c_ROW : ∃ tk, mg "ROW" = some (.int 2 tk)
  c_FORGET : ∃ tk, mg "FORGET" = some (.int 3 tk)
  c_MAY : ∃ tk, mg "MAY" = some (.int 4 tk)
  c_MIXED : ∃ tk, mg "MIXED" = some (.int 5 tk)
  c_MIXED_WITH : ∃ tk, mg "MIXED_WITH" = some (.int 6 tk)
  c_GOOD : ∃ tk, mg "GOOD" = some (.int 7 tk)
  c_CLASH : ∃ tk, mg "CLASH" = some (.int 8 tk)
  c_FEWEST : ∃ tk, mg "FEWEST" = some (.int 9 tk)
  c_BEST : ∃ tk, mg "BEST" = some (.int 10 tk)
  c_WAYS : ∃ tk, mg "WAYS" = some (.int 11 tk)
  c_CROWD : ∃ tk, mg "CROWD" = some (.int 12 tk)
  c_WHY : ∃ tk, mg "WHY" = some (.int 13 tk)
  c_APART : ∃ tk, mg "APART" = some (.int 14 tk)
  c_TOLD : ∃ tk, mg "TOLD" = some (.int 15 tk)
  c_SURE : ∃ tk, mg "SURE" = some (.int 16 tk)
  c_GOOD_TWO : ∃ tk, mg "GOOD_TWO" = some (.int 17 tk)
  c_GREEDY_TWO : ∃ tk, mg "GREEDY_TWO" = some (.int 18 tk)
  c_MIXED_TWO : ∃ tk, mg "MIXED_TWO" = some (.int 19 tk)
  c_OFTEN : ∃ tk, mg "OFTEN" = some (.int 20 tk)
  c_LIKELIEST : ∃ tk, mg "LIKELIEST" = some (.int 21 tk)
  c_NO_SUCH : ∃ tk, mg "NO_SUCH" = some (.int (-2) tk)
  c_ONE_ALONE : ∃ tk, mg "ONE_ALONE" = some (.int (-6) tk)
  c_WRONG : ∃ tk, mg "WRONG" = some (.int (-22) tk)
  c_THEY_DO : ∃ tk, mg "THEY_DO" = some (.int (-33) tk)
  c_NOT_BEGUN : ∃ tk, mg "NOT_BEGUN" = some (.int (-61) tk)
  c_MOST_THINGS : ∃ tk, mg "MOST_THINGS" = some (.int 5 tk)
  c_MOST_OFTEN : ∃ tk, mg "MOST_OFTEN" = some (.int 9 tk)
  g_SHAPES : mg "SHAPES" = some (.ref a.o_SHAPES)
  t_SHAPES : Is_SHAPES K a.o_SHAPES
  n_all : mg "all" = none
  n_any : mg "any" = none
  n_len : mg "len" = none
  n_list : mg "list" = none
  n_max : mg "max" = none
  n_min : mg "min" = none
  n_range : mg "range" = none
  n_sum : mg "sum" = none
abbrev N_Call_init : List Str := ["self", "number", "numbers", "row"]
theorem sc_Call_init : FnScope ["self", "number", "numbers", "row"] ["self", "number", "numbers", "row"] (defScope s_Call_init) := ⟨rfl, rfl, rfl, by decide +kernel, rfl, by decide +kernel, by decide +kernel⟩
abbrev N_read_calls : List Str := ["calls", "found", "at", "shape", "behind", "numbers", "row", "row_start", "row_end"]
theorem sc_read_calls : FnScope ["calls", "found", "at", "shape", "behind", "numbers", "row", "row_start", "row_end"] ["calls"] (defScope s_read_calls) := ⟨rfl, rfl, rfl, by decide +kernel, rfl, by decide +kernel, by decide +kernel⟩
abbrev N_all_groups : List Str := ["x_count", "found", "x", "group"]
theorem sc_all_groups : FnScope ["x_count", "found", "x", "group"] ["x_count"] (defScope s_all_groups) := ⟨rfl, rfl, rfl, by decide +kernel, rfl, by decide +kernel, by decide +kernel⟩
abbrev N_mixed_within : List Str := ["table", "group", "found", "x", "z"]
theorem sc_mixed_within : FnScope ["table", "group", "found", "x", "z"] ["table", "group"] (defScope s_mixed_within) := ⟨rfl, rfl, rfl, by decide +kernel, rfl, by decide +kernel, by decide +kernel⟩
abbrev N_is_all_mixed : List Str := ["table", "group"]
theorem sc_is_all_mixed : FnScope ["table", "group"] ["table", "group"] (defScope s_is_all_mixed) := ⟨rfl, rfl, rfl, by decide +kernel, rfl, by decide +kernel, by decide +kernel⟩
abbrev N_is_none_mixed : List Str := ["table", "group"]
theorem sc_is_none_mixed : FnScope ["table", "group"] ["table", "group"] (defScope s_is_none_mixed) := ⟨rfl, rfl, rfl, by decide +kernel, rfl, by decide +kernel, by decide +kernel⟩
abbrev N_greatest_all_mixed : List Str := ["table", "group"]
theorem sc_greatest_all_mixed : FnScope ["table", "group"] ["table"] (defScope s_greatest_all_mixed) := ⟨rfl, rfl, rfl, by decide +kernel, rfl, by decide +kernel, by decide +kernel⟩
abbrev N_greatest_none_mixed : List Str := ["table", "group"]
theorem sc_greatest_none_mixed : FnScope ["table", "group"] ["table"] (defScope s_greatest_none_mixed) := ⟨rfl, rfl, rfl, by decide +kernel, rfl, by decide +kernel, by decide +kernel⟩
abbrev N_first_clash : List Str := ["table", "letters", "x", "z"]
theorem sc_first_clash : FnScope ["table", "letters", "x", "z"] ["table", "letters"] (defScope s_first_clash) := ⟨rfl, rfl, rfl, by decide +kernel, rfl, by decide +kernel, by decide +kernel⟩
abbrev N_letters_do : List Str := ["table", "letters"]
theorem sc_letters_do : FnScope ["table", "letters"] ["table", "letters"] (defScope s_letters_do) := ⟨rfl, rfl, rfl, by decide +kernel, rfl, by decide +kernel, by decide +kernel⟩
abbrev N_letter_count : List Str := ["numbered_row"]
theorem sc_letter_count : FnScope ["numbered_row"] ["numbered_row"] (defScope s_letter_count) := ⟨rfl, rfl, rfl, by decide +kernel, rfl, by decide +kernel, by decide +kernel⟩
abbrev N_longer_rows : List Str := ["numbered_rows", "longer", "row", "letter"]
theorem sc_longer_rows : FnScope ["numbered_rows", "longer", "row", "letter"] ["numbered_rows"] (defScope s_longer_rows) := ⟨rfl, rfl, rfl, by decide +kernel, rfl, by decide +kernel, by decide +kernel⟩
abbrev N_all_numbered_rows : List Str := ["x_count", "found"]
theorem sc_all_numbered_rows : FnScope ["x_count", "found"] ["x_count"] (defScope s_all_numbered_rows) := ⟨rfl, rfl, rfl, by decide +kernel, rfl, by decide +kernel, by decide +kernel⟩
abbrev N_rows_that_do : List Str := ["table", "row"]
theorem sc_rows_that_do : FnScope ["table", "row"] ["table"] (defScope s_rows_that_do) := ⟨rfl, rfl, rfl, by decide +kernel, rfl, by decide +kernel, by decide +kernel⟩
abbrev N_best_row : List Str := ["table"]
theorem sc_best_row : FnScope ["table"] ["table"] (defScope s_best_row) := ⟨rfl, rfl, rfl, by decide +kernel, rfl, by decide +kernel, by decide +kernel⟩
abbrev N_ways_with : List Str := ["table", "k", "row"]
theorem sc_ways_with : FnScope ["table", "k", "row"] ["table", "k"] (defScope s_ways_with) := ⟨rfl, rfl, rfl, by decide +kernel, rfl, by decide +kernel, by decide +kernel⟩
abbrev N_right_with_y : List Str := ["table", "letters", "y", "oftenest", "x"]
theorem sc_right_with_y : FnScope ["table", "letters", "y", "oftenest", "x"] ["table", "letters", "y"] (defScope s_right_with_y) := ⟨rfl, rfl, rfl, by decide +kernel, rfl, by decide +kernel, by decide +kernel⟩
abbrev N_how_often_right : List Str := ["table", "letters", "y"]
theorem sc_how_often_right : FnScope ["table", "letters", "y"] ["table", "letters"] (defScope s_how_often_right) := ⟨rfl, rfl, rfl, by decide +kernel, rfl, by decide +kernel, by decide +kernel⟩
abbrev N_likeliest_row : List Str := ["table", "k", "rows", "row"]
theorem sc_likeliest_row : FnScope ["table", "k", "rows", "row"] ["table", "k"] (defScope s_likeliest_row) := ⟨rfl, rfl, rfl, by decide +kernel, rfl, by decide +kernel, by decide +kernel⟩
abbrev N_Table_init : List Str := ["self", "x_count", "y_count", "x"]
theorem sc_Table_init : FnScope ["self", "x_count", "y_count", "x"] ["self", "x_count", "y_count"] (defScope s_Table_init) := ⟨rfl, rfl, rfl, by decide +kernel, rfl, by decide +kernel, by decide +kernel⟩
abbrev N_Table_has_x : List Str := ["self", "x"]
theorem sc_Table_has_x : FnScope ["self", "x"] ["self", "x"] (defScope s_Table_has_x) := ⟨rfl, rfl, rfl, by decide +kernel, rfl, by decide +kernel, by decide +kernel⟩
abbrev N_Table_has_y : List Str := ["self", "y"]
theorem sc_Table_has_y : FnScope ["self", "y"] ["self", "y"] (defScope s_Table_has_y) := ⟨rfl, rfl, rfl, by decide +kernel, rfl, by decide +kernel, by decide +kernel⟩
abbrev N_Table_put : List Str := ["self", "x", "y", "w"]
theorem sc_Table_put : FnScope ["self", "x", "y", "w"] ["self", "x", "y", "w"] (defScope s_Table_put) := ⟨rfl, rfl, rfl, by decide +kernel, rfl, by decide +kernel, by decide +kernel⟩
abbrev N_Table_put_row : List Str := ["self", "x", "how_often"]
theorem sc_Table_put_row : FnScope ["self", "x", "how_often"] ["self", "x", "how_often"] (defScope s_Table_put_row) := ⟨rfl, rfl, rfl, by decide +kernel, rfl, by decide +kernel, by decide +kernel⟩
abbrev N_Table_drop_y : List Str := ["self", "y", "row"]
theorem sc_Table_drop_y : FnScope ["self", "y", "row"] ["self", "y"] (defScope s_Table_drop_y) := ⟨rfl, rfl, rfl, by decide +kernel, rfl, by decide +kernel, by decide +kernel⟩
abbrev N_Table_comes : List Str := ["self", "x", "y"]
theorem sc_Table_comes : FnScope ["self", "x", "y"] ["self", "x", "y"] (defScope s_Table_comes) := ⟨rfl, rfl, rfl, by decide +kernel, rfl, by decide +kernel, by decide +kernel⟩
abbrev N_Table_ys_with_both : List Str := ["self", "x", "z", "y"]
theorem sc_Table_ys_with_both : FnScope ["self", "x", "z", "y"] ["self", "x", "z"] (defScope s_Table_ys_with_both) := ⟨rfl, rfl, rfl, by decide +kernel, rfl, by decide +kernel, by decide +kernel⟩
abbrev N_Table_are_mixed : List Str := ["self", "x", "z"]
theorem sc_Table_are_mixed : FnScope ["self", "x", "z"] ["self", "x", "z"] (defScope s_Table_are_mixed) := ⟨rfl, rfl, rfl, by decide +kernel, rfl, by decide +kernel, by decide +kernel⟩
abbrev N_Table_mixed_with : List Str := ["self", "x", "z"]
theorem sc_Table_mixed_with : FnScope ["self", "x", "z"] ["self", "x"] (defScope s_Table_mixed_with) := ⟨rfl, rfl, rfl, by decide +kernel, rfl, by decide +kernel, by decide +kernel⟩
abbrev N_Table_xs_with : List Str := ["self", "y", "x"]
theorem sc_Table_xs_with : FnScope ["self", "y", "x"] ["self", "y"] (defScope s_Table_xs_with) := ⟨rfl, rfl, rfl, by decide +kernel, rfl, by decide +kernel, by decide +kernel⟩
abbrev N_Table_ever_comes : List Str := ["self", "x"]
theorem sc_Table_ever_comes : FnScope ["self", "x"] ["self", "x"] (defScope s_Table_ever_comes) := ⟨rfl, rfl, rfl, by decide +kernel, rfl, by decide +kernel, by decide +kernel⟩
abbrev N_Table_row_by_row : List Str := ["self", "found", "row"]
theorem sc_Table_row_by_row : FnScope ["self", "found", "row"] ["self"] (defScope s_Table_row_by_row) := ⟨rfl, rfl, rfl, by decide +kernel, rfl, by decide +kernel, by decide +kernel⟩
abbrev N_all_twos : List Str := ["x_count", "found", "x", "z"]
theorem sc_all_twos : FnScope ["x_count", "found", "x", "z"] ["x_count"] (defScope s_all_twos) := ⟨rfl, rfl, rfl, by decide +kernel, rfl, by decide +kernel, by decide +kernel⟩
abbrev N_is_open_between : List Str := ["table", "x", "z"]
theorem sc_is_open_between : FnScope ["table", "x", "z"] ["table", "x", "z"] (defScope s_is_open_between) := ⟨rfl, rfl, rfl, by decide +kernel, rfl, by decide +kernel, by decide +kernel⟩
abbrev N_are_twos_mixed : List Str := ["table", "two", "other"]
theorem sc_are_twos_mixed : FnScope ["table", "two", "other"] ["table", "two", "other"] (defScope s_are_twos_mixed) := ⟨rfl, rfl, rfl, by decide +kernel, rfl, by decide +kernel, by decide +kernel⟩
abbrev N_letters_of_mixed_ahead : List Str := ["table", "twos", "letters", "at", "ahead"]
theorem sc_letters_of_mixed_ahead : FnScope ["table", "twos", "letters", "at", "ahead"] ["table", "twos", "letters", "at"] (defScope s_letters_of_mixed_ahead) := ⟨rfl, rfl, rfl, by decide +kernel, rfl, by decide +kernel, by decide +kernel⟩
abbrev N_letters_do_for_two : List Str := ["table", "letters", "twos", "at"]
theorem sc_letters_do_for_two : FnScope ["table", "letters", "twos", "at"] ["table", "letters"] (defScope s_letters_do_for_two) := ⟨rfl, rfl, rfl, by decide +kernel, rfl, by decide +kernel, by decide +kernel⟩
abbrev N_least_not_in : List Str := ["taken", "letter"]
theorem sc_least_not_in : FnScope ["taken", "letter"] ["taken"] (defScope s_least_not_in) := ⟨rfl, rfl, rfl, by decide +kernel, rfl, by decide +kernel, by decide +kernel⟩
abbrev N_letters_two_by_two : List Str := ["table", "twos", "letters", "at"]
theorem sc_letters_two_by_two : FnScope ["table", "twos", "letters", "at"] ["table"] (defScope s_letters_two_by_two) := ⟨rfl, rfl, rfl, by decide +kernel, rfl, by decide +kernel, by decide +kernel⟩
abbrev N_yes_or_no : List Str := ["holds"]
theorem sc_yes_or_no : FnScope ["holds"] ["holds"] (defScope s_yes_or_no) := ⟨rfl, rfl, rfl, by decide +kernel, rfl, by decide +kernel, by decide +kernel⟩
abbrev N_counted : List Str := ["found"]
theorem sc_counted : FnScope ["found"] ["found"] (defScope s_counted) := ⟨rfl, rfl, rfl, by decide +kernel, rfl, by decide +kernel, by decide +kernel⟩
abbrev N_any_above : List Str := ["numbers", "most", "number"]
theorem sc_any_above : FnScope ["numbers", "most", "number"] ["numbers", "most"] (defScope s_any_above) := ⟨rfl, rfl, rfl, by decide +kernel, rfl, by decide +kernel, by decide +kernel⟩
abbrev N_wrong_letters : List Str := ["letters", "count"]
theorem sc_wrong_letters : FnScope ["letters", "count"] ["letters", "count"] (defScope s_wrong_letters) := ⟨rfl, rfl, rfl, by decide +kernel, rfl, by decide +kernel, by decide +kernel⟩
abbrev N_reply_set : List Str := ["table", "x", "y", "w", "before"]
theorem sc_reply_set : FnScope ["table", "x", "y", "w", "before"] ["table", "x", "y", "w"] (defScope s_reply_set) := ⟨rfl, rfl, rfl, by decide +kernel, rfl, by decide +kernel, by decide +kernel⟩
abbrev N_reply_row : List Str := ["table", "x", "how_often"]
theorem sc_reply_row : FnScope ["table", "x", "how_often"] ["table", "x", "how_often"] (defScope s_reply_row) := ⟨rfl, rfl, rfl, by decide +kernel, rfl, by decide +kernel, by decide +kernel⟩
abbrev N_reply_forget : List Str := ["table", "y"]
theorem sc_reply_forget : FnScope ["table", "y"] ["table", "y"] (defScope s_reply_forget) := ⟨rfl, rfl, rfl, by decide +kernel, rfl, by decide +kernel, by decide +kernel⟩
abbrev N_reply_may : List Str := ["table", "x", "y"]
theorem sc_reply_may : FnScope ["table", "x", "y"] ["table", "x", "y"] (defScope s_reply_may) := ⟨rfl, rfl, rfl, by decide +kernel, rfl, by decide +kernel, by decide +kernel⟩
abbrev N_reply_mixed : List Str := ["table", "x", "z"]
theorem sc_reply_mixed : FnScope ["table", "x", "z"] ["table", "x", "z"] (defScope s_reply_mixed) := ⟨rfl, rfl, rfl, by decide +kernel, rfl, by decide +kernel, by decide +kernel⟩
abbrev N_reply_mixed_with : List Str := ["table", "x"]
theorem sc_reply_mixed_with : FnScope ["table", "x"] ["table", "x"] (defScope s_reply_mixed_with) := ⟨rfl, rfl, rfl, by decide +kernel, rfl, by decide +kernel, by decide +kernel⟩
abbrev N_reply_good : List Str := ["table", "letters"]
theorem sc_reply_good : FnScope ["table", "letters"] ["table", "letters"] (defScope s_reply_good) := ⟨rfl, rfl, rfl, by decide +kernel, rfl, by decide +kernel, by decide +kernel⟩
abbrev N_reply_clash : List Str := ["table", "letters", "clash"]
theorem sc_reply_clash : FnScope ["table", "letters", "clash"] ["table", "letters"] (defScope s_reply_clash) := ⟨rfl, rfl, rfl, by decide +kernel, rfl, by decide +kernel, by decide +kernel⟩
abbrev N_reply_fewest : List Str := ["table"]
theorem sc_reply_fewest : FnScope ["table"] ["table"] (defScope s_reply_fewest) := ⟨rfl, rfl, rfl, by decide +kernel, rfl, by decide +kernel, by decide +kernel⟩
abbrev N_reply_best : List Str := ["table", "row"]
theorem sc_reply_best : FnScope ["table", "row"] ["table"] (defScope s_reply_best) := ⟨rfl, rfl, rfl, by decide +kernel, rfl, by decide +kernel, by decide +kernel⟩
abbrev N_reply_ways : List Str := ["table", "k"]
theorem sc_reply_ways : FnScope ["table", "k"] ["table", "k"] (defScope s_reply_ways) := ⟨rfl, rfl, rfl, by decide +kernel, rfl, by decide +kernel, by decide +kernel⟩
abbrev N_reply_crowd : List Str := ["table", "counts", "most", "y"]
theorem sc_reply_crowd : FnScope ["table", "counts", "most", "y"] ["table"] (defScope s_reply_crowd) := ⟨rfl, rfl, rfl, by decide +kernel, rfl, by decide +kernel, by decide +kernel⟩
abbrev N_reply_why : List Str := ["table"]
theorem sc_reply_why : FnScope ["table"] ["table"] (defScope s_reply_why) := ⟨rfl, rfl, rfl, by decide +kernel, rfl, by decide +kernel, by decide +kernel⟩
abbrev N_reply_apart : List Str := ["table"]
theorem sc_reply_apart : FnScope ["table"] ["table"] (defScope s_reply_apart) := ⟨rfl, rfl, rfl, by decide +kernel, rfl, by decide +kernel, by decide +kernel⟩
abbrev N_reply_told : List Str := ["table", "c", "y", "letters", "x"]
theorem sc_reply_told : FnScope ["table", "c", "y", "letters", "x"] ["table", "c", "y", "letters"] (defScope s_reply_told) := ⟨rfl, rfl, rfl, by decide +kernel, rfl, by decide +kernel, by decide +kernel⟩
abbrev N_reply_sure : List Str := ["table", "y"]
theorem sc_reply_sure : FnScope ["table", "y"] ["table", "y"] (defScope s_reply_sure) := ⟨rfl, rfl, rfl, by decide +kernel, rfl, by decide +kernel, by decide +kernel⟩
abbrev N_reply_good_two : List Str := ["table", "letters"]
theorem sc_reply_good_two : FnScope ["table", "letters"] ["table", "letters"] (defScope s_reply_good_two) := ⟨rfl, rfl, rfl, by decide +kernel, rfl, by decide +kernel, by decide +kernel⟩
abbrev N_reply_greedy_two : List Str := ["table", "letters"]
theorem sc_reply_greedy_two : FnScope ["table", "letters"] ["table"] (defScope s_reply_greedy_two) := ⟨rfl, rfl, rfl, by decide +kernel, rfl, by decide +kernel, by decide +kernel⟩
abbrev N_reply_mixed_two : List Str := ["table", "x", "z", "u", "v", "each"]
theorem sc_reply_mixed_two : FnScope ["table", "x", "z", "u", "v", "each"] ["table", "x", "z", "u", "v"] (defScope s_reply_mixed_two) := ⟨rfl, rfl, rfl, by decide +kernel, rfl, by decide +kernel, by decide +kernel⟩
abbrev N_reply_often : List Str := ["table", "letters"]
theorem sc_reply_often : FnScope ["table", "letters"] ["table", "letters"] (defScope s_reply_often) := ⟨rfl, rfl, rfl, by decide +kernel, rfl, by decide +kernel, by decide +kernel⟩
abbrev N_reply_likeliest : List Str := ["table", "k", "row"]
theorem sc_reply_likeliest : FnScope ["table", "k", "row"] ["table", "k"] (defScope s_reply_likeliest) := ⟨rfl, rfl, rfl, by decide +kernel, rfl, by decide +kernel, by decide +kernel⟩
abbrev N_reply_all_told : List Str := ["table"]
theorem sc_reply_all_told : FnScope ["table"] ["table"] (defScope s_reply_all_told) := ⟨rfl, rfl, rfl, by decide +kernel, rfl, by decide +kernel, by decide +kernel⟩
abbrev N_answer_change : List Str := ["table", "number", "numbers", "row"]
theorem sc_answer_change : FnScope ["table", "number", "numbers", "row"] ["table", "number", "numbers", "row"] (defScope s_answer_change) := ⟨rfl, rfl, rfl, by decide +kernel, rfl, by decide +kernel, by decide +kernel⟩
abbrev N_answer_mixed : List Str := ["table", "number", "numbers"]
theorem sc_answer_mixed : FnScope ["table", "number", "numbers"] ["table", "number", "numbers"] (defScope s_answer_mixed) := ⟨rfl, rfl, rfl, by decide +kernel, rfl, by decide +kernel, by decide +kernel⟩
abbrev N_answer_letters : List Str := ["table", "number", "numbers", "row"]
theorem sc_answer_letters : FnScope ["table", "number", "numbers", "row"] ["table", "number", "numbers", "row"] (defScope s_answer_letters) := ⟨rfl, rfl, rfl, by decide +kernel, rfl, by decide +kernel, by decide +kernel⟩
abbrev N_answer_sets : List Str := ["table", "number", "numbers", "row"]
theorem sc_answer_sets : FnScope ["table", "number", "numbers", "row"] ["table", "number", "numbers", "row"] (defScope s_answer_sets) := ⟨rfl, rfl, rfl, by decide +kernel, rfl, by decide +kernel, by decide +kernel⟩
abbrev N_answer_twos : List Str := ["table", "number", "numbers", "row"]
theorem sc_answer_twos : FnScope ["table", "number", "numbers", "row"] ["table", "number", "numbers", "row"] (defScope s_answer_twos) := ⟨rfl, rfl, rfl, by decide +kernel, rfl, by decide +kernel, by decide +kernel⟩
abbrev N_answer_right : List Str := ["table", "number", "numbers", "row"]
theorem sc_answer_right : FnScope ["table", "number", "numbers", "row"] ["table", "number", "numbers", "row"] (defScope s_answer_right) := ⟨rfl, rfl, rfl, by decide +kernel, rfl, by decide +kernel, by decide +kernel⟩
abbrev N_answer_begun : List Str := ["table", "number", "numbers", "row"]
theorem sc_answer_begun : FnScope ["table", "number", "numbers", "row"] ["table", "number", "numbers", "row"] (defScope s_answer_begun) := ⟨rfl, rfl, rfl, by decide +kernel, rfl, by decide +kernel, by decide +kernel⟩
abbrev N_Line_init : List Str := ["self"]
theorem sc_Line_init : FnScope ["self"] ["self"] (defScope s_Line_init) := ⟨rfl, rfl, rfl, by decide +kernel, rfl, by decide +kernel, by decide +kernel⟩
abbrev N_Line_begin : List Str := ["self", "x_count", "y_count"]
theorem sc_Line_begin : FnScope ["self", "x_count", "y_count"] ["self", "x_count", "y_count"] (defScope s_Line_begin) := ⟨rfl, rfl, rfl, by decide +kernel, rfl, by decide +kernel, by decide +kernel⟩
abbrev N_Line_answer : List Str := ["self", "call"]
theorem sc_Line_answer : FnScope ["self", "call"] ["self", "call"] (defScope s_Line_answer) := ⟨rfl, rfl, rfl, by decide +kernel, rfl, by decide +kernel, by decide +kernel⟩
abbrev N_answers : List Str := ["calls", "line", "given", "call", "answer"]
theorem sc_answers : FnScope ["calls", "line", "given", "call", "answer"] ["calls"] (defScope s_answers) := ⟨rfl, rfl, rfl, by decide +kernel, rfl, by decide +kernel, by decide +kernel⟩
end LS

namespace LS
open PySem PySem.Spec PyProof.Rows L2 Evl
open Kh414 (Abs)

/-! ### how the table lies in the heap -/
abbrev vI (n : Nat) : V := V.int (n : Int)
def nums (l : List Nat) : List V := l.map vI
def tF (t : Abs) (q : Addr) : List (Str × V) := [("x_count", vI t.a), ("y_count", vI t.b), ("often", .ref q)]
/-- a table t at p; O: the objects that are its own -/
structure Tab (a : Ad) (H : Hp) (p : Addr) (t : Abs) (O : Addr → Prop) : Prop where
  wf : WF t
  ex : ∃ (dx q : Addr) (rs : List Addr), H p = some (.ins a.C_Table dx (tF t q)) ∧ H q = some (.lst (rs.map V.ref)) ∧ rs.length = t.a ∧ rs.Nodup ∧
    (∀ i r, rs[i]? = some r → H r = some (.lst (nums (t.w.getD i [])))) ∧ ∀ b, O b ↔ b = p ∨ b = q ∨ b ∈ rs
theorem Tab.mono {a : Ad} {H H' : Hp} {p : Addr} {t : Abs} {O : Addr → Prop} (e : Ex H H') (h : Tab a H p t O) : Tab a H' p t O := by
  obtain ⟨wf, dx, q, rs, h1, h2, h3, h4, h5, h6⟩ := h
  exact ⟨wf, dx, q, rs, e _ _ h1, e _ _ h2, h3, h4, fun i r hi => e _ _ (h5 i r hi), h6⟩
/-- what a call that may change the table leaves: the answer at r, new; the table t'; what is not the table's stands -/
def Left (a : Ad) (H : Hp) (p : Addr) (O : Addr → Prop) (t' : Abs) (ans : List V) (Q : VK) : Prop := ∀ (H' : Hp) (O' : Addr → Prop) (r : Addr), H r = none → H' r = some (.lst ans) → Tab a H' p t' O' → (∀ b, O' b → O b ∨ H b = none) →
  (∀ b o, H b = some o → ¬ O b → H' b = some o) → Q (.ref r) H'
/-- the same without an answer -/
def Left0 (a : Ad) (H : Hp) (p : Addr) (O : Addr → Prop) (t' : Abs) (Q : VK) : Prop := ∀ (H' : Hp) (O' : Addr → Prop), Tab a H' p t' O' → (∀ b, O' b → O b ∨ H b = none) →
  (∀ b o, H b = some o → ¬ O b → H' b = some o) → (∀ b, H' b = none → H b = none) → Q .non H'
def ansL (r : Kh414.Ans) : List V := (r.ret :: r.out).map V.int

/-! ### the promises -/
def sp_Table_has_x (a : Ad) (K : PySem.W.Frag) : Sp := fun vs H Q _ => ∃ p t O x, vs = [.ref p, vI x] ∧ Tab a H p t O ∧ RetV (.bl (decide (x < t.a))) H Q
def sp_Table_has_y (a : Ad) (K : PySem.W.Frag) : Sp := fun vs H Q _ => ∃ p t O y, vs = [.ref p, vI y] ∧ Tab a H p t O ∧ RetV (.bl (decide (y < t.b))) H Q
def sp_Table_comes (a : Ad) (K : PySem.W.Frag) : Sp := fun vs H Q _ => ∃ p t O x y, vs = [.ref p, vI x, vI y] ∧ Tab a H p t O ∧ x < t.a ∧ y < t.b ∧ RetV (.bl (Kh414.may t x y)) H Q
def sp_Table_ys_with_both (a : Ad) (K : PySem.W.Frag) : Sp := fun vs H Q _ => ∃ p t O x z, vs = [.ref p, vI x, vI z] ∧ Tab a H p t O ∧ x < t.a ∧ z < t.a ∧ RetL (nums (both t x z)) H Q
def sp_Table_are_mixed (a : Ad) (K : PySem.W.Frag) : Sp := fun vs H Q _ => ∃ p t O x z, vs = [.ref p, vI x, vI z] ∧ Tab a H p t O ∧ x < t.a ∧ z < t.a ∧ RetV (.bl (Kh414.mixed t x z)) H Q
def sp_Table_mixed_with (a : Ad) (K : PySem.W.Frag) : Sp := fun vs H Q _ => ∃ p t O x, vs = [.ref p, vI x] ∧ Tab a H p t O ∧ x < t.a ∧ RetL (nums ((Kh414.xs t).filter (Kh414.mixed t x))) H Q
def sp_yes_or_no (a : Ad) (K : PySem.W.Frag) : Sp := fun vs H Q _ => ∃ b : Bool, vs = [.bl b] ∧ RetL [.int (if b then 1 else 0)] H Q
def sp_counted (a : Ad) (K : PySem.W.Frag) : Sp := fun vs H Q _ => ∃ p xs, vs = [.ref p] ∧ H p = some (.lst xs) ∧ xs.length ≤ 1000 ∧ RetL (.int xs.length :: xs) H Q
def sp_any_above (a : Ad) (K : PySem.W.Frag) : Sp := fun vs H Q _ => ∃ (p : Addr) (ns : List Nat) (m : Int), vs = [.ref p, .int m] ∧ SqL K H p (nums ns) ∧ ns.length ≤ 2000 ∧ RetV (.bl (ns.any fun n => decide (m < (n : Int)))) H Q
def sp_wrong_letters (a : Ad) (K : PySem.W.Frag) : Sp := fun vs H Q _ => ∃ (l : Addr) (f : List Nat) (n : Nat), vs = [.ref l, vI n] ∧ SqL K H l (nums f) ∧ f.length ≤ 2000 ∧ RetV (.bl (!okN n f)) H Q

/-! ### rows of letters -/
/-- a list of lists of whole numbers -/
def RowsAt (H : Hp) (p : Addr) (rows : List (List Nat)) : Prop := ∃ ps : List (Addr × List Nat), H p = some (.lst (ps.map fun q => V.ref q.1)) ∧ ps.map (·.2) = rows ∧ ∀ q ∈ ps, H q.1 = some (.lst (nums q.2))
theorem RowsAt.mono {H H' : Hp} {p : Addr} {rows : List (List Nat)} (e : Ex H H') (h : RowsAt H p rows) : RowsAt H' p rows := by
  obtain ⟨ps, h1, h2, h3⟩ := h
  exact ⟨ps, e _ _ h1, h2, fun q hq => e _ _ (h3 q hq)⟩
def sp_first_clash (a : Ad) (K : PySem.W.Frag) : Sp := fun vs H Q _ => ∃ p t O l f, vs = [.ref p, .ref l] ∧ Tab a H p t O ∧ SqL K H l (nums f) ∧ f.length = t.a ∧ RetL (nums (clashL t f)) H Q
def sp_letters_do (a : Ad) (K : PySem.W.Frag) : Sp := fun vs H Q _ => ∃ p t O l f, vs = [.ref p, .ref l] ∧ Tab a H p t O ∧ SqL K H l (nums f) ∧ f.length = t.a ∧ RetV (.bl (Kh414.good t f)) H Q
def sp_letter_count (a : Ad) (K : PySem.W.Frag) : Sp := fun vs H Q _ => ∃ l f, vs = [.ref l] ∧ SqL K H l (nums f) ∧ f ≠ [] ∧ RetV (vI (Kh414.used f)) H Q
def sp_longer_rows (a : Ad) (K : PySem.W.Frag) : Sp := fun vs H Q _ => ∃ p rows, vs = [.ref p] ∧ RowsAt H p rows ∧ (∀ r ∈ rows, r ≠ [] ∧ r.length ≤ 100 ∧ Kh414.used r ≤ 100) ∧ (longer rows).length ≤ 1000 ∧ RetR (fun q H2 => RowsAt H2 q (longer rows)) H Q
def sp_all_numbered_rows (a : Ad) (K : PySem.W.Frag) : Sp := fun vs H Q _ => ∃ n : Nat, vs = [vI n] ∧ 1 ≤ n ∧ n ≤ 5 ∧ RetR (fun q H2 => RowsAt H2 q (Kh414.rows n 0)) H Q
def sp_rows_that_do (a : Ad) (K : PySem.W.Frag) : Sp := fun vs H Q _ => ∃ p t O, vs = [.ref p] ∧ Tab a H p t O ∧ RetR (fun q H2 => RowsAt H2 q (Kh414.ways t)) H Q
def sp_best_row (a : Ad) (K : PySem.W.Frag) : Sp := fun vs H Q _ => ∃ p t O, vs = [.ref p] ∧ Tab a H p t O ∧ RetX (fun q H2 => H2 q = some (.lst (nums (Kh414.best t)))) H Q
def sp_ways_with (a : Ad) (K : PySem.W.Frag) : Sp := fun vs H Q _ => ∃ p t O k, vs = [.ref p, vI k] ∧ Tab a H p t O ∧ RetV (vI ((Kh414.ways t).filter fun f => Kh414.used f == k).length) H Q

/-! ### what changes the table -/
def newT (x y : Nat) : Abs := ⟨x, y, List.replicate x (List.replicate y 0)⟩
def setT (t : Abs) (x y w : Nat) : Abs := { t with w := t.w.set x ((t.w.getD x []).set y w) }
def rowT (t : Abs) (x : Nat) (r : List Nat) : Abs := { t with w := t.w.set x r }
def dropT (t : Abs) (y : Nat) : Abs := { t with b := t.b - 1, w := t.w.map fun r => r.eraseIdx y }
def sp_Table_init (a : Ad) (K : PySem.W.Frag) : Sp := fun vs H Q _ => ∃ p dx x y, vs = [.ref p, vI x, vI y] ∧ H p = some (.ins a.C_Table dx []) ∧ 1 ≤ x ∧ x ≤ 5 ∧ 1 ≤ y ∧ y ≤ 5 ∧
  ∀ (H' : Hp) (O' : Addr → Prop), Tab a H' p (newT x y) O' → (∀ b, O' b → b = p ∨ H b = none) → (∀ b o, H b = some o → b ≠ p → H' b = some o) → Q .non H'
def sp_Table_put (a : Ad) (K : PySem.W.Frag) : Sp := fun vs H Q _ => ∃ p t O x y w, vs = [.ref p, vI x, vI y, vI w] ∧ Tab a H p t O ∧ x < t.a ∧ y < t.b ∧ Left0 a H p O (setT t x y w) Q
def sp_Table_put_row (a : Ad) (K : PySem.W.Frag) : Sp := fun vs H Q _ => ∃ p t O x l r, vs = [.ref p, vI x, .ref l] ∧ Tab a H p t O ∧ x < t.a ∧ SqL K H l (nums r) ∧ r.length = t.b ∧ Left0 a H p O (rowT t x r) Q
def sp_Table_drop_y (a : Ad) (K : PySem.W.Frag) : Sp := fun vs H Q _ => ∃ p t O y, vs = [.ref p, vI y] ∧ Tab a H p t O ∧ y < t.b ∧ 2 ≤ t.b ∧ Left0 a H p O (dropT t y) Q
/-! ### the replies -/
def sp_reply_set (a : Ad) (K : PySem.W.Frag) : Sp := fun vs H Q _ => ∃ p t O x y w, vs = [.ref p, vI x, vI y, vI w] ∧ Tab a H p t O ∧ Left a H p O (Kh414.does t (.set x y w)).1 (ansL (Kh414.does t (.set x y w)).2) Q
def sp_reply_row (a : Ad) (K : PySem.W.Frag) : Sp := fun vs H Q _ => ∃ p t O x l r, vs = [.ref p, vI x, .ref l] ∧ Tab a H p t O ∧ SqL K H l (nums r) ∧ r.length ≤ 2000 ∧ Left a H p O (Kh414.does t (.row x r)).1 (ansL (Kh414.does t (.row x r)).2) Q
def sp_reply_forget (a : Ad) (K : PySem.W.Frag) : Sp := fun vs H Q _ => ∃ p t O y, vs = [.ref p, vI y] ∧ Tab a H p t O ∧ Left a H p O (Kh414.does t (.forget y)).1 (ansL (Kh414.does t (.forget y)).2) Q
def sp_reply_may (a : Ad) (K : PySem.W.Frag) : Sp := fun vs H Q _ => ∃ p t O x y, vs = [.ref p, vI x, vI y] ∧ Tab a H p t O ∧ RetL (ansL (Kh414.does t (.may x y)).2) H Q
def sp_reply_mixed (a : Ad) (K : PySem.W.Frag) : Sp := fun vs H Q _ => ∃ p t O x z, vs = [.ref p, vI x, vI z] ∧ Tab a H p t O ∧ RetL (ansL (Kh414.does t (.mixed x z)).2) H Q
def sp_reply_mixed_with (a : Ad) (K : PySem.W.Frag) : Sp := fun vs H Q _ => ∃ p t O x, vs = [.ref p, vI x] ∧ Tab a H p t O ∧ RetL (ansL (Kh414.does t (.with_ x)).2) H Q
def sp_reply_good (a : Ad) (K : PySem.W.Frag) : Sp := fun vs H Q _ => ∃ p t O l f, vs = [.ref p, .ref l] ∧ Tab a H p t O ∧ SqL K H l (nums f) ∧ f.length ≤ 2000 ∧ RetL (ansL (Kh414.does t (.good f)).2) H Q
def sp_reply_clash (a : Ad) (K : PySem.W.Frag) : Sp := fun vs H Q _ => ∃ p t O l f, vs = [.ref p, .ref l] ∧ Tab a H p t O ∧ SqL K H l (nums f) ∧ f.length ≤ 2000 ∧ RetL (ansL (Kh414.does t (.clash f)).2) H Q
def sp_reply_fewest (a : Ad) (K : PySem.W.Frag) : Sp := fun vs H Q _ => ∃ p t O, vs = [.ref p] ∧ Tab a H p t O ∧ RetL (ansL (Kh414.does t .fewest).2) H Q
def sp_reply_best (a : Ad) (K : PySem.W.Frag) : Sp := fun vs H Q _ => ∃ p t O, vs = [.ref p] ∧ Tab a H p t O ∧ RetL (ansL (Kh414.does t .best).2) H Q
def sp_reply_ways (a : Ad) (K : PySem.W.Frag) : Sp := fun vs H Q _ => ∃ p t O k, vs = [.ref p, vI k] ∧ Tab a H p t O ∧ RetL (ansL (Kh414.does t (.ways k)).2) H Q

/-! ### the code table of the def that makes a lambda -/
abbrev lamQ : Str := ("likeliest_row" ++ ".<locals>.") ++ "<lambda>"
def Cod (a : Ad) (H : Hp) : Prop := LamX.TabS H a.P_likeliest_row lamQ
/-- what is known stays, but for the table of code, which stays one -/
def ExP (a : Ad) (H H' : Hp) : Prop := ButP a.P_likeliest_row H H' ∧ Cod a H'
def RetP (a : Ad) (xs : List V) (H : Hp) (Q : VK) : Prop := ∀ r H', H r = none → ExP a H H' → H' r = some (.lst xs) → Q (.ref r) H'
/-- a change, or the table of code grown -/
def LeftP (a : Ad) (H : Hp) (p : Addr) (O : Addr → Prop) (t' : Abs) (ans : List V) (Q : VK) : Prop := ∀ (H' : Hp) (O' : Addr → Prop) (r : Addr), H r = none → H' r = some (.lst ans) → Tab a H' p t' O' → (∀ b, O' b → O b ∨ H b = none) →
  (∀ b o, b ≠ a.P_likeliest_row → H b = some o → ¬ O b → H' b = some o) → Cod a H' → Q (.ref r) H'
/-! ### sets of x -/
def sp_Table_xs_with (a : Ad) (K : PySem.W.Frag) : Sp := fun vs H Q _ => ∃ p t O y, vs = [.ref p, vI y] ∧ Tab a H p t O ∧ y < t.b ∧ RetL (nums (withY t y)) H Q
def sp_Table_ever_comes (a : Ad) (K : PySem.W.Frag) : Sp := fun vs H Q _ => ∃ p t O x, vs = [.ref p, vI x] ∧ Tab a H p t O ∧ x < t.a ∧ RetV (.bl (Kh414.comes t x)) H Q
def sp_Table_row_by_row (a : Ad) (K : PySem.W.Frag) : Sp := fun vs H Q _ => ∃ p t O, vs = [.ref p] ∧ Tab a H p t O ∧ RetL (nums (t.w.flatMap id)) H Q
def sp_all_groups (a : Ad) (K : PySem.W.Frag) : Sp := fun vs H Q _ => ∃ n : Nat, vs = [vI n] ∧ n ≤ 5 ∧ RetR (fun q H2 => RowsAt H2 q (groupsN n)) H Q
def sp_mixed_within (a : Ad) (K : PySem.W.Frag) : Sp := fun vs H Q _ => ∃ p t O l g, vs = [.ref p, .ref l] ∧ Tab a H p t O ∧ SqL K H l (nums g) ∧ (∀ x ∈ g, x < t.a) ∧ g.length ≤ 5 ∧ RetV (vI (mw t g)) H Q
def sp_is_all_mixed (a : Ad) (K : PySem.W.Frag) : Sp := fun vs H Q _ => ∃ p t O l g, vs = [.ref p, .ref l] ∧ Tab a H p t O ∧ SqL K H l (nums g) ∧ (∀ x ∈ g, x < t.a) ∧ g.length ≤ 5 ∧ g.Nodup ∧ RetV (.bl (allM t g)) H Q
def sp_is_none_mixed (a : Ad) (K : PySem.W.Frag) : Sp := fun vs H Q _ => ∃ p t O l g, vs = [.ref p, .ref l] ∧ Tab a H p t O ∧ SqL K H l (nums g) ∧ (∀ x ∈ g, x < t.a) ∧ g.length ≤ 5 ∧ RetV (.bl (noneM t g)) H Q
def sp_greatest_all_mixed (a : Ad) (K : PySem.W.Frag) : Sp := fun vs H Q _ => ∃ p t O, vs = [.ref p] ∧ Tab a H p t O ∧ RetX (fun q H2 => H2 q = some (.lst (nums (Kh414.members t.a (Kh414.greatest t (Kh414.allMixed t)))))) H Q
def sp_greatest_none_mixed (a : Ad) (K : PySem.W.Frag) : Sp := fun vs H Q _ => ∃ p t O, vs = [.ref p] ∧ Tab a H p t O ∧ RetX (fun q H2 => H2 q = some (.lst (nums (Kh414.members t.a (Kh414.greatest t (Kh414.noneMixed t)))))) H Q
/-! ### right -/
def sp_right_with_y (a : Ad) (K : PySem.W.Frag) : Sp := fun vs H Q _ => ∃ p t O l f y, vs = [.ref p, .ref l, vI y] ∧ Tab a H p t O ∧ SqL K H l (nums f) ∧ okN t.a f = true ∧ y < t.b ∧ RetV (vI (rightY t f y)) H Q
def sp_how_often_right (a : Ad) (K : PySem.W.Frag) : Sp := fun vs H Q _ => ∃ p t O l f, vs = [.ref p, .ref l] ∧ Tab a H p t O ∧ SqL K H l (nums f) ∧ okN t.a f = true ∧ RetV (vI (Kh414.right t f)) H Q
def sp_likeliest_row (a : Ad) (K : PySem.W.Frag) : Sp := fun vs H Q _ => ∃ p t O k, vs = [.ref p, vI k] ∧ Tab a H p t O ∧ Cod a H ∧ 1 ≤ k ∧ k ≤ t.a ∧ ∀ q H' g, ExP a H H' → H' q = some (.lst (nums g)) → okN t.a g = true → (Kh414.does t (.likeliest k)).2 = Kh414.nats (Kh414.right t g) g → Q (.ref q) H'
/-! ### two uses -/
def PairsAt (H : Hp) (p : Addr) (l : List (Nat × Nat)) : Prop := ∃ ps : List (Addr × (Nat × Nat)), H p = some (.lst (ps.map fun q => V.ref q.1)) ∧ ps.map (·.2) = l ∧ ∀ q ∈ ps, H q.1 = some (.tup [vI q.2.1, vI q.2.2])
theorem PairsAt.mono {H H' : Hp} {p : Addr} {l : List (Nat × Nat)} (e : Ex H H') (h : PairsAt H p l) : PairsAt H' p l := by
  obtain ⟨ps, h1, h2, h3⟩ := h
  exact ⟨ps, e _ _ h1, h2, fun q hq => e _ _ (h3 q hq)⟩
def sp_all_twos (a : Ad) (K : PySem.W.Frag) : Sp := fun vs H Q _ => ∃ n : Nat, vs = [vI n] ∧ n ≤ 5 ∧ RetR (fun q H2 => PairsAt H2 q ((List.range n).flatMap fun x => (List.range n).map fun z => (x, z))) H Q
def sp_is_open_between (a : Ad) (K : PySem.W.Frag) : Sp := fun vs H Q _ => ∃ p t O x z, vs = [.ref p, vI x, vI z] ∧ Tab a H p t O ∧ x < t.a ∧ z < t.a ∧ RetV (.bl (opn t x z)) H Q
def sp_are_twos_mixed (a : Ad) (K : PySem.W.Frag) : Sp := fun vs H Q _ => ∃ p t O u v x z, vs = [.ref p, .ref u, .ref v] ∧ Tab a H p t O ∧ SqT K H u [vI x.1, vI x.2] ∧ SqT K H v [vI z.1, vI z.2] ∧ (x.1 < t.a ∧ x.2 < t.a) ∧ (z.1 < t.a ∧ z.2 < t.a) ∧ RetV (.bl (Kh414.mixedTwo t x z)) H Q
def sp_letters_of_mixed_ahead (a : Ad) (K : PySem.W.Frag) : Sp := fun vs H Q _ => ∃ p t O q l f i, vs = [.ref p, .ref q, .ref l, vI i] ∧ Tab a H p t O ∧ PairsAt H q (Kh414.twos t) ∧ SqL K H l (nums f) ∧ i < (Kh414.twos t).length ∧ i ≤ f.length ∧ RetL (nums (aheadL t f i)) H Q
def sp_letters_do_for_two (a : Ad) (K : PySem.W.Frag) : Sp := fun vs H Q _ => ∃ p t O l f, vs = [.ref p, .ref l] ∧ Tab a H p t O ∧ SqL K H l (nums f) ∧ f.length = (Kh414.twos t).length ∧ RetV (.bl (Kh414.goodTwo t f)) H Q
def sp_least_not_in (a : Ad) (K : PySem.W.Frag) : Sp := fun vs H Q _ => ∃ l f, vs = [.ref l] ∧ SqL K H l (nums f) ∧ f.length ≤ 1000 ∧ ∀ c, LeastNot f c → RetV (vI c) H Q
def sp_letters_two_by_two (a : Ad) (K : PySem.W.Frag) : Sp := fun vs H Q _ => ∃ p t O, vs = [.ref p] ∧ Tab a H p t O ∧ RetL (nums (Kh414.greedyTwo t)) H Q
/-! ### the second stage's replies -/
def sp_reply_crowd (a : Ad) (K : PySem.W.Frag) : Sp := fun vs H Q _ => ∃ p t O, vs = [.ref p] ∧ Tab a H p t O ∧ RetL (ansL (Kh414.does t .crowd).2) H Q
def sp_reply_why (a : Ad) (K : PySem.W.Frag) : Sp := fun vs H Q _ => ∃ p t O, vs = [.ref p] ∧ Tab a H p t O ∧ RetL (ansL (Kh414.does t .why).2) H Q
def sp_reply_apart (a : Ad) (K : PySem.W.Frag) : Sp := fun vs H Q _ => ∃ p t O, vs = [.ref p] ∧ Tab a H p t O ∧ RetL (ansL (Kh414.does t .apart).2) H Q
def sp_reply_told (a : Ad) (K : PySem.W.Frag) : Sp := fun vs H Q _ => ∃ p t O c y l f, vs = [.ref p, vI c, vI y, .ref l] ∧ Tab a H p t O ∧ SqL K H l (nums f) ∧ f.length ≤ 2000 ∧ RetL (ansL (Kh414.does t (.told c y f)).2) H Q
def sp_reply_sure (a : Ad) (K : PySem.W.Frag) : Sp := fun vs H Q _ => ∃ p t O y, vs = [.ref p, vI y] ∧ Tab a H p t O ∧ RetL (ansL (Kh414.does t (.sure y)).2) H Q
def sp_reply_good_two (a : Ad) (K : PySem.W.Frag) : Sp := fun vs H Q _ => ∃ p t O l f, vs = [.ref p, .ref l] ∧ Tab a H p t O ∧ SqL K H l (nums f) ∧ f.length ≤ 2000 ∧ RetL (ansL (Kh414.does t (.goodTwo f)).2) H Q
def sp_reply_greedy_two (a : Ad) (K : PySem.W.Frag) : Sp := fun vs H Q _ => ∃ p t O, vs = [.ref p] ∧ Tab a H p t O ∧ RetL (ansL (Kh414.does t .greedyTwo).2) H Q
def sp_reply_mixed_two (a : Ad) (K : PySem.W.Frag) : Sp := fun vs H Q _ => ∃ p t O x z u v, vs = [.ref p, vI x, vI z, vI u, vI v] ∧ Tab a H p t O ∧ RetL (ansL (Kh414.does t (.mixedTwo x z u v)).2) H Q
def sp_reply_often (a : Ad) (K : PySem.W.Frag) : Sp := fun vs H Q _ => ∃ p t O l f, vs = [.ref p, .ref l] ∧ Tab a H p t O ∧ SqL K H l (nums f) ∧ f.length ≤ 2000 ∧ RetL (ansL (Kh414.does t (.often f)).2) H Q
def sp_reply_likeliest (a : Ad) (K : PySem.W.Frag) : Sp := fun vs H Q _ => ∃ p t O k, vs = [.ref p, vI k] ∧ Tab a H p t O ∧ Cod a H ∧ RetP a (ansL (Kh414.does t (.likeliest k)).2) H Q
def sp_reply_all_told (a : Ad) (K : PySem.W.Frag) : Sp := fun vs H Q _ => ∃ p t O, vs = [.ref p] ∧ Tab a H p t O ∧ RetL (ansL (Kh414.does t .all_).2) H Q
/-! ### calls: its number, its whole numbers, its row -/
abbrev CallN : Type := Nat × List Nat × List Nat
def hasRow (n : Nat) : Bool := (shapes.getD n (0, false)).2
def wr (k : CallN) : List Nat := k.1 :: (k.2.1 ++ if hasRow k.1 then k.2.2.length :: k.2.2 else [])
structure Fits (k : CallN) : Prop where
  n : k.1 < 23
  g : k.2.1.length = (shapes.getD k.1 (0, false)).1
  r : hasRow k.1 = false → k.2.2 = []
  most : k.2.2.length ≤ 1700
def cF (n : Nat) (g r : Addr) : List (Str × V) := [("number", vI n), ("numbers", .ref g), ("row", .ref r)]
def CallAt (a : Ad) (H : Hp) (c : Addr) (k : CallN) : Prop := ∃ dx g r, H c = some (.ins a.C_Call dx (cF k.1 g r)) ∧ H g = some (.lst (nums k.2.1)) ∧ H r = some (.lst (nums k.2.2))
theorem CallAt.mono {a : Ad} {H H' : Hp} {c : Addr} {k : CallN} (e : Ex H H') (h : CallAt a H c k) : CallAt a H' c k := by
  obtain ⟨dx, g, r, h1, h2, h3⟩ := h
  exact ⟨dx, g, r, e _ _ h1, e _ _ h2, e _ _ h3⟩
/-- a call whose lists are new since H0 -/
def CallNew (a : Ad) (H0 H : Hp) (c : Addr) (k : CallN) : Prop := H0 c = none ∧ ∃ dx g r, H c = some (.ins a.C_Call dx (cF k.1 g r)) ∧ H g = some (.lst (nums k.2.1)) ∧ H r = some (.lst (nums k.2.2)) ∧ H0 g = none ∧ H0 r = none
theorem CallNew.mono {a : Ad} {H0 H H' : Hp} {c : Addr} {k : CallN} (e : Ex H H') (h : CallNew a H0 H c k) : CallNew a H0 H' c k := by
  obtain ⟨h0, dx, g, r, h1, h2, h3, h4⟩ := h
  exact ⟨h0, dx, g, r, e _ _ h1, e _ _ h2, e _ _ h3, h4⟩
def CallsAt (a : Ad) (H0 H : Hp) (p : Addr) (cs : List CallN) : Prop := ∃ ps : List (Addr × CallN), H p = some (.lst (ps.map fun q => V.ref q.1)) ∧ ps.map (·.2) = cs ∧ ∀ q ∈ ps, CallNew a H0 H q.1 q.2
def sp_Call_init (a : Ad) (K : PySem.W.Frag) : Sp := fun vs H Q _ => ∃ p dx n g r, vs = [.ref p, vI n, .ref g, .ref r] ∧ H p = some (.ins a.C_Call dx []) ∧
  ∀ H' : Hp, H' p = some (.ins a.C_Call dx (cF n g r)) → (∀ b o, H b = some o → b ≠ p → H' b = some o) → (∀ b, H' b = none → H b = none) → Q .non H'
def sp_read_calls (a : Ad) (K : PySem.W.Frag) : Sp := fun vs H Q _ => ∃ l cs, vs = [.ref l] ∧ SqL K H l (nums (cs.flatMap wr)) ∧ (∀ k ∈ cs, Fits k) ∧ (cs.flatMap wr).length ≤ 1620 ∧ RetR (fun q H2 => CallsAt a H H2 q cs) H Q
/-! ### the line -/
def tabV : Option Addr → V
  | none => .non
  | some p => .ref p
/-- a line at l; O: the objects that are its own -/
def LineAt (a : Ad) (H : Hp) (l : Addr) (s : Option Abs) (O : Addr → Prop) : Prop := ∃ dx, match s with
  | none => H l = some (.ins a.C_Line dx [("table", .non)]) ∧ ∀ b, O b ↔ b = l
  | some t => ∃ p O', H l = some (.ins a.C_Line dx [("table", .ref p)]) ∧ Tab a H p t O' ∧ ¬ O' l ∧ ∀ b, O b ↔ b = l ∨ O' b
theorem LineAt.mono {a : Ad} {H H' : Hp} {l : Addr} {s : Option Abs} {O : Addr → Prop} (e : Ex H H') (h : LineAt a H l s O) : LineAt a H' l s O := by
  obtain ⟨dx, h⟩ := h
  cases s with
  | none => exact ⟨dx, e _ _ h.1, h.2⟩
  | some t =>
    obtain ⟨p, O', h1, h2, h3, h4⟩ := h
    exact ⟨dx, p, O', e _ _ h1, h2.mono e, h3, h4⟩
/-- what a call leaves of a line -/
def LeftL (a : Ad) (H : Hp) (l : Addr) (O : Addr → Prop) (r : Option Abs × Kh414.Ans) (Q : VK) : Prop := ∀ (H' : Hp) (O' : Addr → Prop) (q : Addr), H q = none → H' q = some (.lst (ansL r.2)) → LineAt a H' l r.1 O' → (∀ b, O' b → O b ∨ H b = none) →
  (∀ b o, H b = some o → ¬ O b → H' b = some o) → Q (.ref q) H'
/-- the document's call -/
def rawOf (k : CallN) : List (List Int) := (((k.1 : Int) :: k.2.1.map fun (n : Nat) => (n : Int))) :: if hasRow k.1 then [k.2.2.map fun (n : Nat) => (n : Int)] else []
def theCall (k : CallN) : Kh414.Call := Kh414Neutral.callOf1 (rawOf k)
def sp_Line_init (a : Ad) (K : PySem.W.Frag) : Sp := fun vs H Q _ => ∃ p dx, vs = [.ref p] ∧ H p = some (.ins a.C_Line dx []) ∧ ∀ H' : Hp, H' p = some (.ins a.C_Line dx [("table", .non)]) → (∀ b o, H b = some o → b ≠ p → H' b = some o) → Q .non H'
def sp_Line_begin (a : Ad) (K : PySem.W.Frag) : Sp := fun vs H Q _ => ∃ l s O x y, vs = [.ref l, vI x, vI y] ∧ LineAt a H l s O ∧ LeftL a H l O (Kh414.doing s (.begin_ x y)) Q
/-- .. the table of code may grow besides -/
def LeftLP (a : Ad) (H : Hp) (l : Addr) (O : Addr → Prop) (r : Option Abs × Kh414.Ans) (Q : VK) : Prop := ∀ (H' : Hp) (O' : Addr → Prop) (q : Addr), H q = none → H' q = some (.lst (ansL r.2)) → LineAt a H' l r.1 O' → (∀ b, O' b → O b ∨ H b = none) →
  (∀ b o, b ≠ a.P_likeliest_row → H b = some o → ¬ O b → H' b = some o) → Cod a H' → Q (.ref q) H'
def sp_Line_answer (a : Ad) (K : PySem.W.Frag) : Sp := fun vs H Q _ => ∃ l c s O k, vs = [.ref l, .ref c] ∧ LineAt a H l s O ∧ Cod a H ∧ CallAt a H c k ∧ Fits k ∧ LeftLP a H l O (Kh414.doing s (theCall k)) Q
/-- what the whole answers -/
def played (s : Option Abs) : List CallN → List Int
  | [] => []
  | k :: ks => (((Kh414.doing s (theCall k)).2.ret :: (Kh414.doing s (theCall k)).2.out).length : Int) :: ((Kh414.doing s (theCall k)).2.ret :: (Kh414.doing s (theCall k)).2.out) ++ played (Kh414.doing s (theCall k)).1 ks
def sp_answers (a : Ad) (K : PySem.W.Frag) : Sp := fun vs H Q _ => ∃ l cs, vs = [.ref l] ∧ SqL K H l (nums (cs.flatMap wr)) ∧ (∀ k ∈ cs, Fits k) ∧ (cs.flatMap wr).length ≤ 1620 ∧ (played none cs).length ≤ 10000000 ∧ Cod a H ∧
  ∀ p H', H' p = some (.lst ((played none cs).map V.int)) → Q (.ref p) H'
/-! ### which reply goes with which call -/
def sp_answer_change (a : Ad) (K : PySem.W.Frag) : Sp := fun vs H Q _ => ∃ p t O k g r, vs = [.ref p, vI k.1, .ref g, .ref r] ∧ Tab a H p t O ∧ H g = some (.lst (nums k.2.1)) ∧ H r = some (.lst (nums k.2.2)) ∧ Fits k ∧ 1 ≤ k.1 ∧ k.1 ≤ 3 ∧ Left a H p O (Kh414.does t (theCall k)).1 (ansL (Kh414.does t (theCall k)).2) Q
def sp_answer_mixed (a : Ad) (K : PySem.W.Frag) : Sp := fun vs H Q _ => ∃ p t O k g, vs = [.ref p, vI k.1, .ref g] ∧ Tab a H p t O ∧ H g = some (.lst (nums k.2.1)) ∧ Fits k ∧ 4 ≤ k.1 ∧ k.1 ≤ 6 ∧ RetL (ansL (Kh414.does t (theCall k)).2) H Q
def sp_answer_letters (a : Ad) (K : PySem.W.Frag) : Sp := fun vs H Q _ => ∃ p t O k g r, vs = [.ref p, vI k.1, .ref g, .ref r] ∧ Tab a H p t O ∧ H g = some (.lst (nums k.2.1)) ∧ H r = some (.lst (nums k.2.2)) ∧ Fits k ∧ 7 ≤ k.1 ∧ k.1 ≤ 11 ∧ RetL (ansL (Kh414.does t (theCall k)).2) H Q
def sp_answer_sets (a : Ad) (K : PySem.W.Frag) : Sp := fun vs H Q _ => ∃ p t O k g r, vs = [.ref p, vI k.1, .ref g, .ref r] ∧ Tab a H p t O ∧ H g = some (.lst (nums k.2.1)) ∧ H r = some (.lst (nums k.2.2)) ∧ Fits k ∧ 12 ≤ k.1 ∧ k.1 ≤ 16 ∧ RetL (ansL (Kh414.does t (theCall k)).2) H Q
def sp_answer_twos (a : Ad) (K : PySem.W.Frag) : Sp := fun vs H Q _ => ∃ p t O k g r, vs = [.ref p, vI k.1, .ref g, .ref r] ∧ Tab a H p t O ∧ H g = some (.lst (nums k.2.1)) ∧ H r = some (.lst (nums k.2.2)) ∧ Fits k ∧ 17 ≤ k.1 ∧ k.1 ≤ 19 ∧ RetL (ansL (Kh414.does t (theCall k)).2) H Q
def sp_answer_right (a : Ad) (K : PySem.W.Frag) : Sp := fun vs H Q _ => ∃ p t O k g r, vs = [.ref p, vI k.1, .ref g, .ref r] ∧ Tab a H p t O ∧ Cod a H ∧ H g = some (.lst (nums k.2.1)) ∧ H r = some (.lst (nums k.2.2)) ∧ Fits k ∧ 20 ≤ k.1 ∧ k.1 ≤ 21 ∧ RetP a (ansL (Kh414.does t (theCall k)).2) H Q
def sp_answer_begun (a : Ad) (K : PySem.W.Frag) : Sp := fun vs H Q _ => ∃ p t O k g r, vs = [.ref p, vI k.1, .ref g, .ref r] ∧ Tab a H p t O ∧ Cod a H ∧ H g = some (.lst (nums k.2.1)) ∧ H r = some (.lst (nums k.2.2)) ∧ Fits k ∧ 1 ≤ k.1 ∧ LeftP a H p O (Kh414.does t (theCall k)).1 (ansL (Kh414.does t (theCall k)).2) Q
end LS

namespace LS
open PySem PySem.Spec PyProof.Rows L2 Evl

def t_Call_init (a : Ad) (K : PySem.W.Frag) : TS := (tSeq (sFld K (tVar 0) (tVar 1) "number") (tSeq (sFld K (tVar 0) (tVar 2) "numbers") (sFld K (tVar 0) (tVar 3) "row")))
def t_read_calls (a : Ad) (K : PySem.W.Frag) : TS := (tSeq (tAsg (tLst tNil) (gName 1)) (tSeq (tAsg (tC (.int 0)) (gName 2)) (tSeq (tWhile (tTest (tOp rLt (tVar 2) (tCB (rLenS K) (tCons (tVar 0) tNil)))) (tSeq (tAsg (tOp (rIxT K) (tC (.ref a.o_SHAPES)) (tOp (rIxL K) (tVar 0) (tVar 2))) (gName 3)) (tSeq (tAsg (tOp rAdd (tOp rAdd (tVar 2) (tC (.int 1))) (tOp (rIxT K) (tVar 3) (tC (.int 0)))) (gName 4)) (tSeq (tAsg (tSl (rSlL K) (tVar 0) (tPart (tOp rAdd (tVar 2) (tC (.int 1)))) (tPart (tVar 4))) (gName 5)) (tSeq (tAsg (tLst tNil) (gName 6)) (tCut (tIfS (tB (tOp (rIxT K) (tVar 3) (tC (.int 1)))) (tSeq (tAsg (tOp rAdd (tVar 4) (tC (.int 1))) (gName 7)) (tSeq (tAsg (tOp rAdd (tVar 7) (tOp (rIxL K) (tVar 0) (tVar 4))) (gName 8)) (tSeq (tAsg (tSl (rSlL K) (tVar 0) (tPart (tVar 7)) (tPart (tVar 8))) (gName 6)) (tAsg (tVar 8) (gName 4))))) tNext) (tSeq (tDrop (tBM K "list" rAppend (tVar 1) (tCons (tMake a.C_Call (sp_Call_init a K) [] E0 (tCons (tOp (rIxL K) (tVar 0) (tVar 2)) (tCons (tVar 5) (tCons (tVar 6) tNil)))) tNil))) (tAsg (tVar 4) (gName 2))))))))) (tRet (tVar 1)))))
def t_all_groups (a : Ad) (K : PySem.W.Frag) : TS := (tSeq (tAsg (tLst (tCons (tLst tNil) tNil)) (gName 1)) (tSeq (tFor (iRng1 (tCons (tVar 0) tNil)) (gName 2) (tAsg (tOp rCat (tVar 1) (tLc (iList K (tVar 1)) (gName 3) tYes (tOp rCat (tVar 3) (tLst (tCons (tVar 2) tNil))) [3])) (gName 1))) (tRet (tVar 1))))
def t_mixed_within (a : Ad) (K : PySem.W.Frag) : TS := (tSeq (tAsg (tC (.int 0)) (gName 2)) (tSeq (tFor (iList K (tVar 1)) (gName 3) (tAsg (tOp rAdd (tVar 2) (tCB (rLenS K) (tCons (tLc (iList K (tVar 1)) (gName 4) (tB (tMeth a.C_Table "are_mixed" (sp_Table_are_mixed a K) [] E0 (tVar 0) (tCons (tVar 3) (tCons (tVar 4) tNil)))) (tVar 4) [4]) tNil))) (gName 2))) (tRet (tVar 2))))
def t_is_all_mixed (a : Ad) (K : PySem.W.Frag) : TS := (tRet (tOp rEq (tCall (sp_mixed_within a K) [] E0 (tCons (tVar 0) (tCons (tVar 1) tNil))) (tOp rMul (tCB (rLenS K) (tCons (tVar 1) tNil)) (tOp rSub (tCB (rLenS K) (tCons (tVar 1) tNil)) (tC (.int 1))))))
def t_is_none_mixed (a : Ad) (K : PySem.W.Frag) : TS := (tRet (tOp rEq (tCall (sp_mixed_within a K) [] E0 (tCons (tVar 0) (tCons (tVar 1) tNil))) (tC (.int 0))))
def t_greatest_all_mixed (a : Ad) (K : PySem.W.Frag) : TS := (tRet (tCB (rMaxLen K) (tCons (tLc (iList K (tCall (sp_all_groups a K) [] E0 (tCons (tFld K (tVar 0) "x_count") tNil))) (gName 1) (tB (tCall (sp_is_all_mixed a K) [] E0 (tCons (tVar 0) (tCons (tVar 1) tNil)))) (tVar 1) [1]) tNil)))
def t_greatest_none_mixed (a : Ad) (K : PySem.W.Frag) : TS := (tRet (tCB (rMaxLen K) (tCons (tLc (iList K (tCall (sp_all_groups a K) [] E0 (tCons (tFld K (tVar 0) "x_count") tNil))) (gName 1) (tB (tCall (sp_is_none_mixed a K) [] E0 (tCons (tVar 0) (tCons (tVar 1) tNil)))) (tVar 1) [1]) tNil)))
def t_first_clash (a : Ad) (K : PySem.W.Frag) : TS := (tSeq (tFor (iRng1 (tCons (tFld K (tVar 0) "x_count") tNil)) (gName 2) (tFor (iRng2 (tCons (tOp rAdd (tVar 2) (tC (.int 1))) (tCons (tFld K (tVar 0) "x_count") tNil))) (gName 3) (tIfS (tAnd (tTest (tOp rEq (tOp (rIxL K) (tVar 1) (tVar 2)) (tOp (rIxL K) (tVar 1) (tVar 3)))) (tB (tMeth a.C_Table "are_mixed" (sp_Table_are_mixed a K) [] E0 (tVar 0) (tCons (tVar 2) (tCons (tVar 3) tNil))))) (tRet (tLst (tCons (tVar 2) (tCons (tVar 3) (tCons (tOp (rIxL K) (tMeth a.C_Table "ys_with_both" (sp_Table_ys_with_both a K) [] E0 (tVar 0) (tCons (tVar 2) (tCons (tVar 3) tNil))) (tC (.int 0))) tNil))))) tNext))) (tRet (tLst tNil)))
def t_letters_do (a : Ad) (K : PySem.W.Frag) : TS := (tRet (tOp rEq (tCB (rLenS K) (tCons (tCall (sp_first_clash a K) [] E0 (tCons (tVar 0) (tCons (tVar 1) tNil))) tNil)) (tC (.int 0))))
def t_letter_count (a : Ad) (K : PySem.W.Frag) : TS := (tRet (tOp rAdd (tCB (rMax K) (tCons (tVar 0) tNil)) (tC (.int 1))))
def t_longer_rows (a : Ad) (K : PySem.W.Frag) : TS := (tSeq (tAsg (tLst tNil) (gName 1)) (tSeq (tFor (iList K (tVar 0)) (gName 2) (tFor (iRng1 (tCons (tOp rAdd (tCall (sp_letter_count a K) [] E0 (tCons (tVar 2) tNil)) (tC (.int 1))) tNil)) (gName 3) (tDrop (tBM K "list" rAppend (tVar 1) (tCons (tOp rCat (tVar 2) (tLst (tCons (tVar 3) tNil))) tNil))))) (tRet (tVar 1))))
def t_all_numbered_rows (a : Ad) (K : PySem.W.Frag) : TS := (tSeq (tAsg (tLst (tCons (tLst (tCons (tC (.int 0)) tNil)) tNil)) (gName 1)) (tSeq (tWhile (tTest (tOp rLt (tCB (rLenS K) (tCons (tOp (rIxL K) (tVar 1) (tC (.int 0))) tNil)) (tVar 0))) (tAsg (tCall (sp_longer_rows a K) [] E0 (tCons (tVar 1) tNil)) (gName 1))) (tRet (tVar 1))))
def t_rows_that_do (a : Ad) (K : PySem.W.Frag) : TS := (tRet (tLc (iList K (tCall (sp_all_numbered_rows a K) [] E0 (tCons (tFld K (tVar 0) "x_count") tNil))) (gName 1) (tB (tCall (sp_letters_do a K) [] E0 (tCons (tVar 0) (tCons (tVar 1) tNil)))) (tVar 1) [1]))
def t_best_row (a : Ad) (K : PySem.W.Frag) : TS := (tRet (tCKw (rMinKey K a.f_letter_count (sp_letter_count a K)) (tCons (tCall (sp_rows_that_do a K) [] E0 (tCons (tVar 0) tNil)) tNil) (tCons (tC (.ref a.f_letter_count)) tNil)))
def t_ways_with (a : Ad) (K : PySem.W.Frag) : TS := (tRet (tCB (rLenS K) (tCons (tLc (iList K (tCall (sp_rows_that_do a K) [] E0 (tCons (tVar 0) tNil))) (gName 2) (tTest (tOp rEq (tCall (sp_letter_count a K) [] E0 (tCons (tVar 2) tNil)) (tVar 1))) (tVar 2) [2]) tNil)))
def t_right_with_y (a : Ad) (K : PySem.W.Frag) : TS := (tSeq (tAsg (tOp rRep (tLst (tCons (tC (.int 0)) tNil)) (tFld K (tVar 0) "x_count")) (gName 3)) (tSeq (tFor (iRng1 (tCons (tFld K (tVar 0) "x_count") tNil)) (gName 4) (tAsg (tCB rMax2 (tCons (tOp (rIxL K) (tVar 3) (tOp (rIxL K) (tVar 1) (tVar 4))) (tCons (tOp (rIxL K) (tOp (rIxL K) (tFld K (tVar 0) "often") (tVar 4)) (tVar 2)) tNil))) (gSub (tVar 3) (tOp (rIxL K) (tVar 1) (tVar 4)) rSetL))) (tRet (tCB (rSum K) (tCons (tVar 3) tNil)))))
def t_how_often_right (a : Ad) (K : PySem.W.Frag) : TS := (tRet (tCB (rSum K) (tCons (tLc (iRng1 (tCons (tFld K (tVar 0) "y_count") tNil)) (gName 2) tYes (tCall (sp_right_with_y a K) [] E0 (tCons (tVar 0) (tCons (tVar 1) (tCons (tVar 2) tNil)))) [2]) tNil)))
def t_likeliest_row (a : Ad) (K : PySem.W.Frag) : TS := (tSeq (tAsg (tLc (iList K (tCall (sp_all_numbered_rows a K) [] E0 (tCons (tFld K (tVar 0) "x_count") tNil))) (gName 3) (tTest (tOp rLe (tCall (sp_letter_count a K) [] E0 (tCons (tVar 3) tNil)) (tVar 1))) (tVar 3) [3]) (gName 2)) (tRet (tMaxLam K a.P_likeliest_row (("likeliest_row" ++ ".<locals>.") ++ "<lambda>") (tCons (tVar 2) tNil) ["row", "table"] [0] (tCall (sp_how_often_right a K) [] E0 (tCons (tVar 1) (tCons (tVar 0) tNil))))))
def t_Table_init (a : Ad) (K : PySem.W.Frag) : TS := (tSeq (sFld K (tVar 0) (tVar 1) "x_count") (tSeq (sFld K (tVar 0) (tVar 2) "y_count") (sFld K (tVar 0) (tLc (iRng1 (tCons (tVar 1) tNil)) (gName 3) tYes (tOp rRep (tLst (tCons (tC (.int 0)) tNil)) (tVar 2)) [3]) "often")))
def t_Table_has_x (a : Ad) (K : PySem.W.Frag) : TS := (tRet (tOp rLt (tVar 1) (tFld K (tVar 0) "x_count")))
def t_Table_has_y (a : Ad) (K : PySem.W.Frag) : TS := (tRet (tOp rLt (tVar 1) (tFld K (tVar 0) "y_count")))
def t_Table_put (a : Ad) (K : PySem.W.Frag) : TS := (tAsg (tVar 3) (gSub (tOp (rIxL K) (tFld K (tVar 0) "often") (tVar 1)) (tVar 2) rSetL))
def t_Table_put_row (a : Ad) (K : PySem.W.Frag) : TS := (tAsg (tCB (rListS K) (tCons (tVar 2) tNil)) (gSub (tFld K (tVar 0) "often") (tVar 1) rSetL))
def t_Table_drop_y (a : Ad) (K : PySem.W.Frag) : TS := (tSeq (sFld K (tVar 0) (tLc (iList K (tFld K (tVar 0) "often")) (gName 2) tYes (tOp rCat (tSl (rSlL K) (tVar 2) tNoPart (tPart (tVar 1))) (tSl (rSlL K) (tVar 2) (tPart (tOp rAdd (tVar 1) (tC (.int 1)))) tNoPart)) [2]) "often") (sFld K (tVar 0) (tOp rSub (tFld K (tVar 0) "y_count") (tC (.int 1))) "y_count"))
def t_Table_comes (a : Ad) (K : PySem.W.Frag) : TS := (tRet (tOp rGt (tOp (rIxL K) (tOp (rIxL K) (tFld K (tVar 0) "often") (tVar 1)) (tVar 2)) (tC (.int 0))))
def t_Table_ys_with_both (a : Ad) (K : PySem.W.Frag) : TS := (tRet (tLc (iRng1 (tCons (tFld K (tVar 0) "y_count") tNil)) (gName 3) (tAnd (tB (tMeth a.C_Table "comes" (sp_Table_comes a K) [] E0 (tVar 0) (tCons (tVar 1) (tCons (tVar 3) tNil)))) (tB (tMeth a.C_Table "comes" (sp_Table_comes a K) [] E0 (tVar 0) (tCons (tVar 2) (tCons (tVar 3) tNil))))) (tVar 3) [3]))
def t_Table_are_mixed (a : Ad) (K : PySem.W.Frag) : TS := (tRet (tAndV (tOp rNe (tVar 1) (tVar 2)) (tOp rGt (tCB (rLenS K) (tCons (tMeth a.C_Table "ys_with_both" (sp_Table_ys_with_both a K) [] E0 (tVar 0) (tCons (tVar 1) (tCons (tVar 2) tNil))) tNil)) (tC (.int 0)))))
def t_Table_mixed_with (a : Ad) (K : PySem.W.Frag) : TS := (tRet (tLc (iRng1 (tCons (tFld K (tVar 0) "x_count") tNil)) (gName 2) (tB (tMeth a.C_Table "are_mixed" (sp_Table_are_mixed a K) [] E0 (tVar 0) (tCons (tVar 1) (tCons (tVar 2) tNil)))) (tVar 2) [2]))
def t_Table_xs_with (a : Ad) (K : PySem.W.Frag) : TS := (tRet (tLc (iRng1 (tCons (tFld K (tVar 0) "x_count") tNil)) (gName 2) (tB (tMeth a.C_Table "comes" (sp_Table_comes a K) [] E0 (tVar 0) (tCons (tVar 2) (tCons (tVar 1) tNil)))) (tVar 2) [2]))
def t_Table_ever_comes (a : Ad) (K : PySem.W.Frag) : TS := (tRet (tOp rGt (tCB (rSum K) (tCons (tOp (rIxL K) (tFld K (tVar 0) "often") (tVar 1)) tNil)) (tC (.int 0))))
def t_Table_row_by_row (a : Ad) (K : PySem.W.Frag) : TS := (tSeq (tAsg (tLst tNil) (gName 1)) (tSeq (tFor (iList K (tFld K (tVar 0) "often")) (gName 2) (tDrop (tBM K "list" rExtend (tVar 1) (tCons (tVar 2) tNil)))) (tRet (tVar 1))))
def t_all_twos (a : Ad) (K : PySem.W.Frag) : TS := (tSeq (tAsg (tLst tNil) (gName 1)) (tSeq (tFor (iRng1 (tCons (tVar 0) tNil)) (gName 2) (tFor (iRng1 (tCons (tVar 0) tNil)) (gName 3) (tDrop (tBM K "list" rAppend (tVar 1) (tCons (tTup (tCons (tVar 2) (tCons (tVar 3) tNil))) tNil))))) (tRet (tVar 1))))
def t_is_open_between (a : Ad) (K : PySem.W.Frag) : TS := (tSeq (tIfS (tTest (tOp rEq (tVar 1) (tVar 2))) (tRet (tMeth a.C_Table "ever_comes" (sp_Table_ever_comes a K) [] E0 (tVar 0) (tCons (tVar 1) tNil))) tNext) (tRet (tMeth a.C_Table "are_mixed" (sp_Table_are_mixed a K) [] E0 (tVar 0) (tCons (tVar 1) (tCons (tVar 2) tNil)))))
def t_are_twos_mixed (a : Ad) (K : PySem.W.Frag) : TS := (tSeq (tIfS (tTest (tOp (rEqD K) (tVar 1) (tVar 2))) (tRet (tC (.bl false))) tNext) (tRet (tAndV (tCall (sp_is_open_between a K) [] E0 (tCons (tVar 0) (tCons (tOp (rIxT K) (tVar 1) (tC (.int 0))) (tCons (tOp (rIxT K) (tVar 2) (tC (.int 0))) tNil)))) (tCall (sp_is_open_between a K) [] E0 (tCons (tVar 0) (tCons (tOp (rIxT K) (tVar 1) (tC (.int 1))) (tCons (tOp (rIxT K) (tVar 2) (tC (.int 1))) tNil)))))))
def t_letters_of_mixed_ahead (a : Ad) (K : PySem.W.Frag) : TS := (tRet (tLc (iRng1 (tCons (tVar 3) tNil)) (gName 4) (tB (tCall (sp_are_twos_mixed a K) [] E0 (tCons (tVar 0) (tCons (tOp (rIxL K) (tVar 1) (tVar 4)) (tCons (tOp (rIxL K) (tVar 1) (tVar 3)) tNil))))) (tOp (rIxL K) (tVar 2) (tVar 4)) [4]))
def t_letters_do_for_two (a : Ad) (K : PySem.W.Frag) : TS := (tSeq (tAsg (tCall (sp_all_twos a K) [] E0 (tCons (tFld K (tVar 0) "x_count") tNil)) (gName 2)) (tSeq (tFor (iRng1 (tCons (tCB (rLenS K) (tCons (tVar 2) tNil)) tNil)) (gName 3) (tIfS (tTest (tOp (rIn K false) (tOp (rIxL K) (tVar 1) (tVar 3)) (tCall (sp_letters_of_mixed_ahead a K) [] E0 (tCons (tVar 0) (tCons (tVar 2) (tCons (tVar 1) (tCons (tVar 3) tNil))))))) (tRet (tC (.bl false))) tNext)) (tRet (tC (.bl true)))))
def t_least_not_in (a : Ad) (K : PySem.W.Frag) : TS := (tSeq (tAsg (tC (.int 0)) (gName 1)) (tSeq (tWhile (tTest (tOp (rIn K false) (tVar 1) (tVar 0))) (tAsg (tOp rAdd (tVar 1) (tC (.int 1))) (gName 1))) (tRet (tVar 1))))
def t_letters_two_by_two (a : Ad) (K : PySem.W.Frag) : TS := (tSeq (tAsg (tCall (sp_all_twos a K) [] E0 (tCons (tFld K (tVar 0) "x_count") tNil)) (gName 1)) (tSeq (tAsg (tLst tNil) (gName 2)) (tSeq (tFor (iRng1 (tCons (tCB (rLenS K) (tCons (tVar 1) tNil)) tNil)) (gName 3) (tDrop (tBM K "list" rAppend (tVar 2) (tCons (tCall (sp_least_not_in a K) [] E0 (tCons (tCall (sp_letters_of_mixed_ahead a K) [] E0 (tCons (tVar 0) (tCons (tVar 1) (tCons (tVar 2) (tCons (tVar 3) tNil))))) tNil)) tNil)))) (tRet (tVar 2)))))
def t_yes_or_no (a : Ad) (K : PySem.W.Frag) : TS := (tRet (tLst (tCons (tIf (tB (tVar 0)) (tC (.int 1)) (tC (.int 0))) tNil)))
def t_counted (a : Ad) (K : PySem.W.Frag) : TS := (tRet (tOp rCat (tLst (tCons (tCB (rLenS K) (tCons (tVar 0) tNil)) tNil)) (tVar 0)))
def t_any_above (a : Ad) (K : PySem.W.Frag) : TS := (tRet (tCB (rAny K) (tCons (tLc (iList K (tVar 0)) (gName 2) tYes (tOp rGt (tVar 2) (tVar 1)) [2]) tNil)))
def t_wrong_letters (a : Ad) (K : PySem.W.Frag) : TS := (tRet (tOrV (tOp rNe (tCB (rLenS K) (tCons (tVar 0) tNil)) (tVar 1)) (tCall (sp_any_above a K) [] E0 (tCons (tVar 0) (tCons (tOp rSub (tVar 1) (tC (.int 1))) tNil)))))
def t_reply_set (a : Ad) (K : PySem.W.Frag) : TS := (tSeq (tIfS (tOr (tNot (tB (tMeth a.C_Table "has_x" (sp_Table_has_x a K) [] E0 (tVar 0) (tCons (tVar 1) tNil)))) (tNot (tB (tMeth a.C_Table "has_y" (sp_Table_has_y a K) [] E0 (tVar 0) (tCons (tVar 2) tNil))))) (tRet (tLst (tCons (tC (.int (-2))) tNil))) tNext) (tSeq (tIfS (tTest (tOp rGt (tVar 3) (tC (.int 9)))) (tRet (tLst (tCons (tC (.int (-22))) tNil))) tNext) (tSeq (tAsg (tOp (rIxL K) (tOp (rIxL K) (tFld K (tVar 0) "often") (tVar 1)) (tVar 2)) (gName 4)) (tSeq (tDrop (tMeth a.C_Table "put" (sp_Table_put a K) [] E0 (tVar 0) (tCons (tVar 1) (tCons (tVar 2) (tCons (tVar 3) tNil))))) (tRet (tLst (tCons (tVar 4) tNil)))))))
def t_reply_row (a : Ad) (K : PySem.W.Frag) : TS := (tSeq (tIfS (tNot (tB (tMeth a.C_Table "has_x" (sp_Table_has_x a K) [] E0 (tVar 0) (tCons (tVar 1) tNil)))) (tRet (tLst (tCons (tC (.int (-2))) tNil))) tNext) (tSeq (tIfS (tOr (tTest (tOp rNe (tCB (rLenS K) (tCons (tVar 2) tNil)) (tFld K (tVar 0) "y_count"))) (tB (tCall (sp_any_above a K) [] E0 (tCons (tVar 2) (tCons (tC (.int 9)) tNil))))) (tRet (tLst (tCons (tC (.int (-22))) tNil))) tNext) (tSeq (tDrop (tMeth a.C_Table "put_row" (sp_Table_put_row a K) [] E0 (tVar 0) (tCons (tVar 1) (tCons (tVar 2) tNil)))) (tRet (tLst (tCons (tC (.int 0)) tNil))))))
def t_reply_forget (a : Ad) (K : PySem.W.Frag) : TS := (tSeq (tIfS (tNot (tB (tMeth a.C_Table "has_y" (sp_Table_has_y a K) [] E0 (tVar 0) (tCons (tVar 1) tNil)))) (tRet (tLst (tCons (tC (.int (-2))) tNil))) tNext) (tSeq (tIfS (tTest (tOp rEq (tFld K (tVar 0) "y_count") (tC (.int 1)))) (tRet (tLst (tCons (tC (.int (-6))) tNil))) tNext) (tSeq (tDrop (tMeth a.C_Table "drop_y" (sp_Table_drop_y a K) [] E0 (tVar 0) (tCons (tVar 1) tNil))) (tRet (tLst (tCons (tFld K (tVar 0) "y_count") tNil))))))
def t_reply_may (a : Ad) (K : PySem.W.Frag) : TS := (tSeq (tIfS (tOr (tNot (tB (tMeth a.C_Table "has_x" (sp_Table_has_x a K) [] E0 (tVar 0) (tCons (tVar 1) tNil)))) (tNot (tB (tMeth a.C_Table "has_y" (sp_Table_has_y a K) [] E0 (tVar 0) (tCons (tVar 2) tNil))))) (tRet (tLst (tCons (tC (.int (-2))) tNil))) tNext) (tRet (tCall (sp_yes_or_no a K) [] E0 (tCons (tMeth a.C_Table "comes" (sp_Table_comes a K) [] E0 (tVar 0) (tCons (tVar 1) (tCons (tVar 2) tNil))) tNil))))
def t_reply_mixed (a : Ad) (K : PySem.W.Frag) : TS := (tSeq (tIfS (tOr (tNot (tB (tMeth a.C_Table "has_x" (sp_Table_has_x a K) [] E0 (tVar 0) (tCons (tVar 1) tNil)))) (tNot (tB (tMeth a.C_Table "has_x" (sp_Table_has_x a K) [] E0 (tVar 0) (tCons (tVar 2) tNil))))) (tRet (tLst (tCons (tC (.int (-2))) tNil))) tNext) (tRet (tCall (sp_yes_or_no a K) [] E0 (tCons (tMeth a.C_Table "are_mixed" (sp_Table_are_mixed a K) [] E0 (tVar 0) (tCons (tVar 1) (tCons (tVar 2) tNil))) tNil))))
def t_reply_mixed_with (a : Ad) (K : PySem.W.Frag) : TS := (tSeq (tIfS (tNot (tB (tMeth a.C_Table "has_x" (sp_Table_has_x a K) [] E0 (tVar 0) (tCons (tVar 1) tNil)))) (tRet (tLst (tCons (tC (.int (-2))) tNil))) tNext) (tRet (tCall (sp_counted a K) [] E0 (tCons (tMeth a.C_Table "mixed_with" (sp_Table_mixed_with a K) [] E0 (tVar 0) (tCons (tVar 1) tNil)) tNil))))
def t_reply_good (a : Ad) (K : PySem.W.Frag) : TS := (tSeq (tIfS (tB (tCall (sp_wrong_letters a K) [] E0 (tCons (tVar 1) (tCons (tFld K (tVar 0) "x_count") tNil)))) (tRet (tLst (tCons (tC (.int (-22))) tNil))) tNext) (tRet (tCall (sp_yes_or_no a K) [] E0 (tCons (tCall (sp_letters_do a K) [] E0 (tCons (tVar 0) (tCons (tVar 1) tNil))) tNil))))
def t_reply_clash (a : Ad) (K : PySem.W.Frag) : TS := (tSeq (tIfS (tB (tCall (sp_wrong_letters a K) [] E0 (tCons (tVar 1) (tCons (tFld K (tVar 0) "x_count") tNil)))) (tRet (tLst (tCons (tC (.int (-22))) tNil))) tNext) (tSeq (tAsg (tCall (sp_first_clash a K) [] E0 (tCons (tVar 0) (tCons (tVar 1) tNil))) (gName 2)) (tSeq (tIfS (tTest (tOp rEq (tCB (rLenS K) (tCons (tVar 2) tNil)) (tC (.int 0)))) (tRet (tLst (tCons (tC (.int (-33))) tNil))) tNext) (tRet (tVar 2)))))
def t_reply_fewest (a : Ad) (K : PySem.W.Frag) : TS := (tRet (tLst (tCons (tCall (sp_letter_count a K) [] E0 (tCons (tCall (sp_best_row a K) [] E0 (tCons (tVar 0) tNil)) tNil)) tNil)))
def t_reply_best (a : Ad) (K : PySem.W.Frag) : TS := (tSeq (tAsg (tCall (sp_best_row a K) [] E0 (tCons (tVar 0) tNil)) (gName 1)) (tRet (tOp rCat (tLst (tCons (tCall (sp_letter_count a K) [] E0 (tCons (tVar 1) tNil)) tNil)) (tVar 1))))
def t_reply_ways (a : Ad) (K : PySem.W.Frag) : TS := (tRet (tLst (tCons (tCall (sp_ways_with a K) [] E0 (tCons (tVar 0) (tCons (tVar 1) tNil))) tNil)))
def t_reply_crowd (a : Ad) (K : PySem.W.Frag) : TS := (tSeq (tAsg (tLc (iRng1 (tCons (tFld K (tVar 0) "y_count") tNil)) (gName 3) tYes (tCB (rLenS K) (tCons (tMeth a.C_Table "xs_with" (sp_Table_xs_with a K) [] E0 (tVar 0) (tCons (tVar 3) tNil)) tNil)) [3]) (gName 1)) (tSeq (tAsg (tCB (rMax K) (tCons (tVar 1) tNil)) (gName 2)) (tRet (tLst (tCons (tVar 2) (tCons (tBM K "list" (rIndex K) (tVar 1) (tCons (tVar 2) tNil)) tNil))))))
def t_reply_why (a : Ad) (K : PySem.W.Frag) : TS := (tRet (tCall (sp_counted a K) [] E0 (tCons (tCall (sp_greatest_all_mixed a K) [] E0 (tCons (tVar 0) tNil)) tNil)))
def t_reply_apart (a : Ad) (K : PySem.W.Frag) : TS := (tRet (tCall (sp_counted a K) [] E0 (tCons (tCall (sp_greatest_none_mixed a K) [] E0 (tCons (tVar 0) tNil)) tNil)))
def t_reply_told (a : Ad) (K : PySem.W.Frag) : TS := (tSeq (tIfS (tB (tCall (sp_wrong_letters a K) [] E0 (tCons (tVar 3) (tCons (tFld K (tVar 0) "x_count") tNil)))) (tRet (tLst (tCons (tC (.int (-22))) tNil))) tNext) (tSeq (tIfS (tNot (tB (tMeth a.C_Table "has_y" (sp_Table_has_y a K) [] E0 (tVar 0) (tCons (tVar 2) tNil)))) (tRet (tLst (tCons (tC (.int (-2))) tNil))) tNext) (tRet (tCall (sp_counted a K) [] E0 (tCons (tLc (iList K (tMeth a.C_Table "xs_with" (sp_Table_xs_with a K) [] E0 (tVar 0) (tCons (tVar 2) tNil))) (gName 4) (tTest (tOp rEq (tOp (rIxL K) (tVar 3) (tVar 4)) (tVar 1))) (tVar 4) [4]) tNil)))))
def t_reply_sure (a : Ad) (K : PySem.W.Frag) : TS := (tSeq (tIfS (tNot (tB (tMeth a.C_Table "has_y" (sp_Table_has_y a K) [] E0 (tVar 0) (tCons (tVar 1) tNil)))) (tRet (tLst (tCons (tC (.int (-2))) tNil))) tNext) (tRet (tCall (sp_counted a K) [] E0 (tCons (tMeth a.C_Table "xs_with" (sp_Table_xs_with a K) [] E0 (tVar 0) (tCons (tVar 1) tNil)) tNil))))
def t_reply_good_two (a : Ad) (K : PySem.W.Frag) : TS := (tSeq (tIfS (tB (tCall (sp_wrong_letters a K) [] E0 (tCons (tVar 1) (tCons (tOp rMul (tFld K (tVar 0) "x_count") (tFld K (tVar 0) "x_count")) tNil)))) (tRet (tLst (tCons (tC (.int (-22))) tNil))) tNext) (tRet (tCall (sp_yes_or_no a K) [] E0 (tCons (tCall (sp_letters_do_for_two a K) [] E0 (tCons (tVar 0) (tCons (tVar 1) tNil))) tNil))))
def t_reply_greedy_two (a : Ad) (K : PySem.W.Frag) : TS := (tSeq (tAsg (tCall (sp_letters_two_by_two a K) [] E0 (tCons (tVar 0) tNil)) (gName 1)) (tRet (tOp rCat (tLst (tCons (tCall (sp_letter_count a K) [] E0 (tCons (tVar 1) tNil)) tNil)) (tVar 1))))
def t_reply_mixed_two (a : Ad) (K : PySem.W.Frag) : TS := (tSeq (tIfS (tNot (tB (tCB (rAll K) (tCons (tLc (iTup K (tTup (tCons (tVar 1) (tCons (tVar 2) (tCons (tVar 3) (tCons (tVar 4) tNil)))))) (gName 5) tYes (tMeth a.C_Table "has_x" (sp_Table_has_x a K) [] E0 (tVar 0) (tCons (tVar 5) tNil)) [5]) tNil)))) (tRet (tLst (tCons (tC (.int (-2))) tNil))) tNext) (tRet (tCall (sp_yes_or_no a K) [] E0 (tCons (tCall (sp_are_twos_mixed a K) [] E0 (tCons (tVar 0) (tCons (tTup (tCons (tVar 1) (tCons (tVar 2) tNil))) (tCons (tTup (tCons (tVar 3) (tCons (tVar 4) tNil))) tNil)))) tNil))))
def t_reply_often (a : Ad) (K : PySem.W.Frag) : TS := (tSeq (tIfS (tB (tCall (sp_wrong_letters a K) [] E0 (tCons (tVar 1) (tCons (tFld K (tVar 0) "x_count") tNil)))) (tRet (tLst (tCons (tC (.int (-22))) tNil))) tNext) (tRet (tLst (tCons (tCall (sp_how_often_right a K) [] E0 (tCons (tVar 0) (tCons (tVar 1) tNil))) (tCons (tCB (rSum K) (tCons (tMeth a.C_Table "row_by_row" (sp_Table_row_by_row a K) [] E0 (tVar 0) tNil) tNil)) tNil)))))
def t_reply_likeliest (a : Ad) (K : PySem.W.Frag) : TS := (tSeq (tIfS (tOr (tTest (tOp rLt (tVar 1) (tC (.int 1)))) (tTest (tOp rGt (tVar 1) (tFld K (tVar 0) "x_count")))) (tRet (tLst (tCons (tC (.int (-22))) tNil))) tNext) (tSeq (tAsg (tCall (sp_likeliest_row a K) [] E0 (tCons (tVar 0) (tCons (tVar 1) tNil))) (gName 2)) (tRet (tOp rCat (tLst (tCons (tCall (sp_how_often_right a K) [] E0 (tCons (tVar 0) (tCons (tVar 2) tNil))) tNil)) (tVar 2)))))
def t_reply_all_told (a : Ad) (K : PySem.W.Frag) : TS := (tRet (tOp rCat (tLst (tCons (tFld K (tVar 0) "x_count") (tCons (tFld K (tVar 0) "y_count") tNil))) (tMeth a.C_Table "row_by_row" (sp_Table_row_by_row a K) [] E0 (tVar 0) tNil)))
def t_answer_change (a : Ad) (K : PySem.W.Frag) : TS := (tSeq (tIfS (tTest (tOp rEq (tVar 1) (tC (.int 1)))) (tRet (tCall (sp_reply_set a K) [] E0 (tCons (tVar 0) (tCons (tOp (rIxL K) (tVar 2) (tC (.int 0))) (tCons (tOp (rIxL K) (tVar 2) (tC (.int 1))) (tCons (tOp (rIxL K) (tVar 2) (tC (.int 2))) tNil)))))) tNext) (tSeq (tIfS (tTest (tOp rEq (tVar 1) (tC (.int 2)))) (tRet (tCall (sp_reply_row a K) [] E0 (tCons (tVar 0) (tCons (tOp (rIxL K) (tVar 2) (tC (.int 0))) (tCons (tVar 3) tNil))))) tNext) (tRet (tCall (sp_reply_forget a K) [] E0 (tCons (tVar 0) (tCons (tOp (rIxL K) (tVar 2) (tC (.int 0))) tNil))))))
def t_answer_mixed (a : Ad) (K : PySem.W.Frag) : TS := (tSeq (tIfS (tTest (tOp rEq (tVar 1) (tC (.int 4)))) (tRet (tCall (sp_reply_may a K) [] E0 (tCons (tVar 0) (tCons (tOp (rIxL K) (tVar 2) (tC (.int 0))) (tCons (tOp (rIxL K) (tVar 2) (tC (.int 1))) tNil))))) tNext) (tSeq (tIfS (tTest (tOp rEq (tVar 1) (tC (.int 5)))) (tRet (tCall (sp_reply_mixed a K) [] E0 (tCons (tVar 0) (tCons (tOp (rIxL K) (tVar 2) (tC (.int 0))) (tCons (tOp (rIxL K) (tVar 2) (tC (.int 1))) tNil))))) tNext) (tRet (tCall (sp_reply_mixed_with a K) [] E0 (tCons (tVar 0) (tCons (tOp (rIxL K) (tVar 2) (tC (.int 0))) tNil))))))
def t_answer_letters (a : Ad) (K : PySem.W.Frag) : TS := (tSeq (tIfS (tTest (tOp rEq (tVar 1) (tC (.int 7)))) (tRet (tCall (sp_reply_good a K) [] E0 (tCons (tVar 0) (tCons (tVar 3) tNil)))) tNext) (tSeq (tIfS (tTest (tOp rEq (tVar 1) (tC (.int 8)))) (tRet (tCall (sp_reply_clash a K) [] E0 (tCons (tVar 0) (tCons (tVar 3) tNil)))) tNext) (tSeq (tIfS (tTest (tOp rEq (tVar 1) (tC (.int 9)))) (tRet (tCall (sp_reply_fewest a K) [] E0 (tCons (tVar 0) tNil))) tNext) (tSeq (tIfS (tTest (tOp rEq (tVar 1) (tC (.int 10)))) (tRet (tCall (sp_reply_best a K) [] E0 (tCons (tVar 0) tNil))) tNext) (tRet (tCall (sp_reply_ways a K) [] E0 (tCons (tVar 0) (tCons (tOp (rIxL K) (tVar 2) (tC (.int 0))) tNil))))))))
def t_answer_sets (a : Ad) (K : PySem.W.Frag) : TS := (tSeq (tIfS (tTest (tOp rEq (tVar 1) (tC (.int 12)))) (tRet (tCall (sp_reply_crowd a K) [] E0 (tCons (tVar 0) tNil))) tNext) (tSeq (tIfS (tTest (tOp rEq (tVar 1) (tC (.int 13)))) (tRet (tCall (sp_reply_why a K) [] E0 (tCons (tVar 0) tNil))) tNext) (tSeq (tIfS (tTest (tOp rEq (tVar 1) (tC (.int 14)))) (tRet (tCall (sp_reply_apart a K) [] E0 (tCons (tVar 0) tNil))) tNext) (tSeq (tIfS (tTest (tOp rEq (tVar 1) (tC (.int 15)))) (tRet (tCall (sp_reply_told a K) [] E0 (tCons (tVar 0) (tCons (tOp (rIxL K) (tVar 2) (tC (.int 0))) (tCons (tOp (rIxL K) (tVar 2) (tC (.int 1))) (tCons (tVar 3) tNil)))))) tNext) (tRet (tCall (sp_reply_sure a K) [] E0 (tCons (tVar 0) (tCons (tOp (rIxL K) (tVar 2) (tC (.int 0))) tNil))))))))
def t_answer_twos (a : Ad) (K : PySem.W.Frag) : TS := (tSeq (tIfS (tTest (tOp rEq (tVar 1) (tC (.int 17)))) (tRet (tCall (sp_reply_good_two a K) [] E0 (tCons (tVar 0) (tCons (tVar 3) tNil)))) tNext) (tSeq (tIfS (tTest (tOp rEq (tVar 1) (tC (.int 18)))) (tRet (tCall (sp_reply_greedy_two a K) [] E0 (tCons (tVar 0) tNil))) tNext) (tRet (tCall (sp_reply_mixed_two a K) [] E0 (tCons (tVar 0) (tCons (tOp (rIxL K) (tVar 2) (tC (.int 0))) (tCons (tOp (rIxL K) (tVar 2) (tC (.int 1))) (tCons (tOp (rIxL K) (tVar 2) (tC (.int 2))) (tCons (tOp (rIxL K) (tVar 2) (tC (.int 3))) tNil)))))))))
def t_answer_right (a : Ad) (K : PySem.W.Frag) : TS := (tSeq (tIfS (tTest (tOp rEq (tVar 1) (tC (.int 20)))) (tRet (tCall (sp_reply_often a K) [] E0 (tCons (tVar 0) (tCons (tVar 3) tNil)))) tNext) (tRet (tCall (sp_reply_likeliest a K) [] E0 (tCons (tVar 0) (tCons (tOp (rIxL K) (tVar 2) (tC (.int 0))) tNil)))))
def t_answer_begun (a : Ad) (K : PySem.W.Frag) : TS := (tSeq (tIfS (tTest (tOp rLe (tVar 1) (tC (.int 3)))) (tRet (tCall (sp_answer_change a K) [] E0 (tCons (tVar 0) (tCons (tVar 1) (tCons (tVar 2) (tCons (tVar 3) tNil)))))) tNext) (tSeq (tIfS (tTest (tOp rLe (tVar 1) (tC (.int 6)))) (tRet (tCall (sp_answer_mixed a K) [] E0 (tCons (tVar 0) (tCons (tVar 1) (tCons (tVar 2) tNil))))) tNext) (tSeq (tIfS (tTest (tOp rLe (tVar 1) (tC (.int 11)))) (tRet (tCall (sp_answer_letters a K) [] E0 (tCons (tVar 0) (tCons (tVar 1) (tCons (tVar 2) (tCons (tVar 3) tNil)))))) tNext) (tSeq (tIfS (tTest (tOp rLe (tVar 1) (tC (.int 16)))) (tRet (tCall (sp_answer_sets a K) [] E0 (tCons (tVar 0) (tCons (tVar 1) (tCons (tVar 2) (tCons (tVar 3) tNil)))))) tNext) (tSeq (tIfS (tTest (tOp rLe (tVar 1) (tC (.int 19)))) (tRet (tCall (sp_answer_twos a K) [] E0 (tCons (tVar 0) (tCons (tVar 1) (tCons (tVar 2) (tCons (tVar 3) tNil)))))) tNext) (tSeq (tIfS (tTest (tOp rLe (tVar 1) (tC (.int 21)))) (tRet (tCall (sp_answer_right a K) [] E0 (tCons (tVar 0) (tCons (tVar 1) (tCons (tVar 2) (tCons (tVar 3) tNil)))))) tNext) (tRet (tCall (sp_reply_all_told a K) [] E0 (tCons (tVar 0) tNil)))))))))
def t_Line_init (a : Ad) (K : PySem.W.Frag) : TS := (sFld K (tVar 0) (tC .non) "table")
def t_Line_begin (a : Ad) (K : PySem.W.Frag) : TS := (tSeq (tIfS (tOr (tTest (tOp rLt (tVar 1) (tC (.int 1)))) (tOr (tTest (tOp rGt (tVar 1) (tC (.int 5)))) (tOr (tTest (tOp rLt (tVar 2) (tC (.int 1)))) (tTest (tOp rGt (tVar 2) (tC (.int 5))))))) (tRet (tLst (tCons (tC (.int (-22))) tNil))) tNext) (tSeq (sFld K (tVar 0) (tMake a.C_Table (sp_Table_init a K) [] E0 (tCons (tVar 1) (tCons (tVar 2) tNil))) "table") (tRet (tLst (tCons (tC (.int 0)) tNil)))))
def t_Line_answer (a : Ad) (K : PySem.W.Frag) : TS := (tSeq (tIfS (tTest (tOp rEq (tFld K (tVar 1) "number") (tC (.int 0)))) (tRet (tMeth a.C_Line "begin" (sp_Line_begin a K) [] E0 (tVar 0) (tCons (tOp (rIxL K) (tFld K (tVar 1) "numbers") (tC (.int 0))) (tCons (tOp (rIxL K) (tFld K (tVar 1) "numbers") (tC (.int 1))) tNil)))) tNext) (tSeq (tIfS (tTest (tOp rIsN (tFld K (tVar 0) "table") (tC .non))) (tRet (tLst (tCons (tC (.int (-61))) tNil))) tNext) (tRet (tCall (sp_answer_begun a K) [] E0 (tCons (tFld K (tVar 0) "table") (tCons (tFld K (tVar 1) "number") (tCons (tFld K (tVar 1) "numbers") (tCons (tFld K (tVar 1) "row") tNil))))))))
def t_answers (a : Ad) (K : PySem.W.Frag) : TS := (tSeq (tAsg (tMake a.C_Line (sp_Line_init a K) [] E0 tNil) (gName 1)) (tSeq (tAsg (tLst tNil) (gName 2)) (tSeq (tFor (iList K (tCall (sp_read_calls a K) [] E0 (tCons (tVar 0) tNil))) (gName 3) (tSeq (tAsg (tMeth a.C_Line "answer" (sp_Line_answer a K) [] E0 (tVar 1) (tCons (tVar 3) tNil)) (gName 4)) (tSeq (tDrop (tBM K "list" rAppend (tVar 2) (tCons (tCB (rLenS K) (tCons (tVar 4) tNil)) tNil))) (tDrop (tBM K "list" rExtend (tVar 2) (tCons (tVar 4) tNil)))))) (tRet (tVar 2)))))
end LS

namespace LS
open PySem PySem.Spec PyProof.Rows L2 Evl
open Kh414 (Abs)

/-! ### fields -/
theorem lk_here {k : Str} {v : V} {r : List (Str × V)} : List.lookup k ((k, v) :: r) = some v := by
  have e : (k == k) = true := beq_self_eq_true k
  simp only [List.lookup, e]
theorem lk_past {k g : Str} {v : V} {r : List (Str × V)} (h : (k == g) = false) : List.lookup k ((g, v) :: r) = List.lookup k r := by
  simp only [List.lookup, h]
theorem put_here {f : Str} {v x : V} {r : List (Str × V)} : putF f v ((f, x) :: r) = (f, v) :: r := if_pos rfl
theorem put_past {f g : Str} {v x : V} {r : List (Str × V)} (h : ¬ g = f) : putF f v ((g, x) :: r) = (g, x) :: putF f v r := if_neg h
theorem tF_x (t : Abs) (q : Addr) : (tF t q).lookup ("x_count" : Str) = some (vI t.a) := lk_here
theorem tF_y (t : Abs) (q : Addr) : (tF t q).lookup ("y_count" : Str) = some (vI t.b) := (lk_past (by decide +kernel)).trans lk_here
theorem tF_o (t : Abs) (q : Addr) : (tF t q).lookup ("often" : Str) = some (.ref q) := (lk_past (by decide +kernel)).trans ((lk_past (by decide +kernel)).trans lk_here)
theorem tF_no (t : Abs) (q : Addr) (m : Str) (h : (m == "x_count") = false ∧ (m == "y_count") = false ∧ (m == "often") = false) : (tF t q).lookup m = none :=
  (lk_past h.1).trans ((lk_past h.2.1).trans ((lk_past h.2.2).trans rfl))

section
variable {K : PySem.W.Frag} {mg : Str → Option Value} {a : Ad} {σ : L2.St} {H : Hp} {p : Addr} {t : Abs} {O : Addr → Prop} {te tx ty : TE} {x y : Nat}
theorem ev_xc (T : Txt K mg a) (h : Tab a H p t O) (he : Ev te σ H (.ref p)) : Ev (tFld K te "x_count") σ H (vI t.a) := by
  obtain ⟨_, dx, q, rs, h1, _⟩ := h
  exact ev_fld he h1 T.cl_Table T.n_Table_x_count (tF_x t q)
theorem ev_yc (T : Txt K mg a) (h : Tab a H p t O) (he : Ev te σ H (.ref p)) : Ev (tFld K te "y_count") σ H (vI t.b) := by
  obtain ⟨_, dx, q, rs, h1, _⟩ := h
  exact ev_fld he h1 T.cl_Table T.n_Table_y_count (tF_y t q)
theorem atI_get {α : Type} {l : List α} {i : Nat} {v : α} (h : l[i]? = some v) : atI l (i : Int) = some v := by
  unfold atI
  rw [ixN_nat (List.getElem?_eq_some_iff.mp h).1]
  exact h
theorem nums_get {l : List Nat} {i : Nat} (h : i < l.length) : (nums l)[i]? = some (vI (l.getD i 0)) := by
  unfold nums
  rw [List.getElem?_map, List.getElem?_eq_getElem h, List.getD_eq_getElem?_getD, List.getElem?_eq_getElem h]
  rfl
theorem row_len (wf : WF t) {x : Nat} (hx : x < t.a) : (t.w.getD x []).length = t.b := by
  have h : x < t.w.length := by rw [wf.wl]; exact hx
  rw [List.getD_eq_getElem?_getD, List.getElem?_eq_getElem h]
  exact wf.rl _ (List.getElem_mem h)
/-- self.often[x] -/
theorem Tab.row (h : Tab a H p t O) {x : Nat} (hx : x < t.a) : ∃ r, O r ∧ H r = some (.lst (nums (t.w.getD x []))) ∧ ∀ {K : PySem.W.Frag} {mg : Str → Option Value} {σ : L2.St} {te tx : TE}, Txt K mg a → Ev te σ H (.ref p) → Ev tx σ H (vI x) → Ev (tOp (rIxL K) (tFld K te "often") tx) σ H (.ref r) := by
  obtain ⟨wf, dx, q, rs, h1, h2, h3, h4, h5, h6⟩ := h
  have hl : x < rs.length := by rw [h3]; exact hx
  refine ⟨rs[x], (h6 _).mpr (Or.inr (Or.inr (List.getElem_mem hl))), h5 x _ (List.getElem?_eq_getElem hl), fun T he hx => ?_⟩
  exact ev_op (ev_fld he h1 T.cl_Table T.n_Table_often (tF_o t q)) hx (rv_ixL (sq_of h2) (atI_get (by rw [List.getElem?_map, List.getElem?_eq_getElem hl]; rfl)))
/-- self.often[x][y] -/
theorem ev_cell (T : Txt K mg a) (h : Tab a H p t O) (he : Ev te σ H (.ref p)) (hx : Ev tx σ H (vI x)) (hy : Ev ty σ H (vI y)) (lx : x < t.a) (ly : y < t.b) :
    Ev (tOp (rIxL K) (tOp (rIxL K) (tFld K te "often") tx) ty) σ H (vI (Kh414.weight t x y)) := by
  obtain ⟨r, _, hr, hv⟩ := h.row lx
  exact ev_op (hv T he hx) hy (rv_ixL (sq_of hr) (atI_get (nums_get (by rw [row_len h.wf lx]; exact ly))))
theorem Tab.no (h : Tab a H p t O) (m : Str) (hm : (m == "x_count") = false ∧ (m == "y_count") = false ∧ (m == "often") = false) : ∃ dx fs, H p = some (.ins a.C_Table dx fs) ∧ fs.lookup m = none := by
  obtain ⟨_, dx, q, rs, h1, _⟩ := h
  exact ⟨dx, _, h1, tF_no t q m hm⟩
/-- a method of the table -/
theorem ev_tab {m : Str} {sp : Sp} {vs : List V} {z : V} {E : XK} {tr : TA} (h : Tab a H p t O) (he : Ev te σ H (.ref p)) (ha : EvA tr σ H vs) (hs : SpV sp (.ref p :: vs) H z)
    (hm : (m == "x_count") = false ∧ (m == "y_count") = false ∧ (m == "often") = false := by decide +kernel) : Ev (tMeth a.C_Table m sp [] E te tr) σ H z := by
  obtain ⟨dx, fs, h1, h2⟩ := h.no m hm
  exact ev_meth he h1 h2 ha hs
theorem el_tab {m : Str} {sp : Sp} {vs xs : List V} {E : XK} {tr : TA} (h : Tab a H p t O) (he : Ev te σ H (.ref p)) (ha : EvA tr σ H vs) (hs : SpL sp (.ref p :: vs) H xs)
    (hm : (m == "x_count") = false ∧ (m == "y_count") = false ∧ (m == "often") = false := by decide +kernel) : EvL (tMeth a.C_Table m sp [] E te tr) σ H xs := by
  obtain ⟨dx, fs, h1, h2⟩ := h.no m hm
  exact el_meth he h1 h2 ha hs
end
abbrev ends (Q : VK) : Ends := { nx := fun _ H' => Q .non H', rt := Q }
section
variable {K : PySem.W.Frag} {mg : Str → Option Value} {a : Ad}
theorem dlt {x y : Nat} : decide ((x : Int) < (y : Int)) = decide (x < y) := by
  rw [Bool.eq_iff_iff]; simp
/-! ### Table.has_x, has_y -/
theorem len_Table_has_x (a : Ad) (K : PySem.W.Frag) (vs : List V) (H : Hp) (Q : VK) (E : XK) (h : sp_Table_has_x a K vs H Q E) : vs.length = 2 := by
  obtain ⟨p, t, O, x, rfl, _⟩ := h
  rfl
theorem pure_Table_has_x (T : Txt K mg a) (vs : List V) (H : Hp) (Q : VK) (E : XK) (h : sp_Table_has_x a K vs H Q E) : t_Table_has_x a K (ends Q) (start N_Table_has_x vs) H := by
  obtain ⟨p, t, O, x, rfl, tb, k⟩ := h
  exact s_ret (ev_is (ev_op (ev_var rfl) (ev_xc T tb (ev_var rfl)) rv_I0) (congrArg V.bl dlt)) k
theorem len_Table_has_y (a : Ad) (K : PySem.W.Frag) (vs : List V) (H : Hp) (Q : VK) (E : XK) (h : sp_Table_has_y a K vs H Q E) : vs.length = 2 := by
  obtain ⟨p, t, O, x, rfl, _⟩ := h
  rfl
theorem pure_Table_has_y (T : Txt K mg a) (vs : List V) (H : Hp) (Q : VK) (E : XK) (h : sp_Table_has_y a K vs H Q E) : t_Table_has_y a K (ends Q) (start N_Table_has_y vs) H := by
  obtain ⟨p, t, O, x, rfl, tb, k⟩ := h
  exact s_ret (ev_is (ev_op (ev_var rfl) (ev_yc T tb (ev_var rfl)) rv_I0) (congrArg V.bl dlt)) k
/-! ### Table.comes -/
theorem len_Table_comes (a : Ad) (K : PySem.W.Frag) (vs : List V) (H : Hp) (Q : VK) (E : XK) (h : sp_Table_comes a K vs H Q E) : vs.length = 3 := by
  obtain ⟨p, t, O, x, y, rfl, _⟩ := h
  rfl
theorem pure_Table_comes (T : Txt K mg a) (vs : List V) (H : Hp) (Q : VK) (E : XK) (h : sp_Table_comes a K vs H Q E) : t_Table_comes a K (ends Q) (start N_Table_comes vs) H := by
  obtain ⟨p, t, O, x, y, rfl, tb, lx, ly, k⟩ := h
  refine s_ret (ev_is (ev_op (ev_cell T tb (ev_var rfl) (ev_var rfl) (ev_var rfl) lx ly) ev_c rv_I0) (congrArg V.bl ?_)) k
  unfold Kh414.may
  rw [Bool.eq_iff_iff]
  simp
  omega
theorem sv_comes {H : Hp} {p : Addr} {t : Abs} {O : Addr → Prop} {x y : Nat} (tb : Tab a H p t O) (lx : x < t.a) (ly : y < t.b) : SpV (sp_Table_comes a K) [.ref p, vI x, vI y] H (.bl (Kh414.may t x y)) :=
  fun H1 e Q q _ => ⟨p, t, O, x, y, rfl, tb.mono e, lx, ly, q⟩
/-! ### Table.ys_with_both, are_mixed, mixed_with -/
theorem given_nums (n : Nat) (f : Nat → Bool) : given n f vI = nums ((List.range n).filter f) := rfl
theorem len_Table_ys_with_both (a : Ad) (K : PySem.W.Frag) (vs : List V) (H : Hp) (Q : VK) (E : XK) (h : sp_Table_ys_with_both a K vs H Q E) : vs.length = 3 := by
  obtain ⟨p, t, O, x, y, rfl, _⟩ := h
  rfl
theorem pure_Table_ys_with_both (T : Txt K mg a) (vs : List V) (H : Hp) (Q : VK) (E : XK) (h : sp_Table_ys_with_both a K vs H Q E) : t_Table_ys_with_both a K (ends Q) (start N_Table_ys_with_both vs) H := by
  obtain ⟨p, t, O, x, z, rfl, tb, lx, lz, k⟩ := h
  have b5 := tb.wf.b5
  refine s_retL (el_lcR1 (n := (t.b : Int)) (fun y => Kh414.may t x y && Kh414.may t z y) vI (ea_cons (ev_yc T tb (ev_var rfl)) ea_nil) (by omega) (fun _ => rfl) (fun i H1 e hi => ?_) (fun i H1 e hi _ => ev_var rfl)) k
  have hi : i < t.b := by omega
  exact et_and (et_B (ev_tab (tb.mono e) (ev_var rfl) (ea_cons (ev_var rfl) (ea_cons (ev_var rfl) ea_nil)) (sv_comes (tb.mono e) lx hi)))
    (fun _ => et_B (ev_tab (tb.mono e) (ev_var rfl) (ea_cons (ev_var rfl) (ea_cons (ev_var rfl) ea_nil)) (sv_comes (tb.mono e) lz hi)))
theorem sl_both {H : Hp} {p : Addr} {t : Abs} {O : Addr → Prop} {x z : Nat} (tb : Tab a H p t O) (lx : x < t.a) (lz : z < t.a) : SpL (sp_Table_ys_with_both a K) [.ref p, vI x, vI z] H (nums (both t x z)) :=
  fun H1 e Q q _ => ⟨p, t, O, x, z, rfl, tb.mono e, lx, lz, q⟩
theorem nums_len (l : List Nat) : (nums l).length = l.length := by
  unfold nums
  exact List.length_map ..
theorem dec_vI {x z : Nat} : decide (vI x = vI z) = (x == z) := by
  rw [Bool.eq_iff_iff]
  simp
  omega
theorem len_Table_are_mixed (a : Ad) (K : PySem.W.Frag) (vs : List V) (H : Hp) (Q : VK) (E : XK) (h : sp_Table_are_mixed a K vs H Q E) : vs.length = 3 := by
  obtain ⟨p, t, O, x, y, rfl, _⟩ := h
  rfl
theorem pure_Table_are_mixed (T : Txt K mg a) (vs : List V) (H : Hp) (Q : VK) (E : XK) (h : sp_Table_are_mixed a K vs H Q E) : t_Table_are_mixed a K (ends Q) (start N_Table_are_mixed vs) H := by
  obtain ⟨p, t, O, x, z, rfl, tb, lx, lz, k⟩ := h
  refine s_ret (ev_is (ev_andV (ev_op (ev_var rfl) (ev_var rfl) (rv_ne rfl)) fun _ => ev_op (ev_lenN (el_tab tb (ev_var rfl) (ea_cons (ev_var rfl) (ea_cons (ev_var rfl) ea_nil)) (sl_both tb lx lz))) ev_c rv_I0) (congrArg V.bl ?_)) k
  rw [nums_len, both_pos, dec_vI] <;> rfl
theorem sv_mixed {H : Hp} {p : Addr} {t : Abs} {O : Addr → Prop} {x z : Nat} (tb : Tab a H p t O) (lx : x < t.a) (lz : z < t.a) : SpV (sp_Table_are_mixed a K) [.ref p, vI x, vI z] H (.bl (Kh414.mixed t x z)) :=
  fun H1 e Q q _ => ⟨p, t, O, x, z, rfl, tb.mono e, lx, lz, q⟩
theorem len_Table_mixed_with (a : Ad) (K : PySem.W.Frag) (vs : List V) (H : Hp) (Q : VK) (E : XK) (h : sp_Table_mixed_with a K vs H Q E) : vs.length = 2 := by
  obtain ⟨p, t, O, x, rfl, _⟩ := h
  rfl
theorem pure_Table_mixed_with (T : Txt K mg a) (vs : List V) (H : Hp) (Q : VK) (E : XK) (h : sp_Table_mixed_with a K vs H Q E) : t_Table_mixed_with a K (ends Q) (start N_Table_mixed_with vs) H := by
  obtain ⟨p, t, O, x, rfl, tb, lx, k⟩ := h
  have a5 := tb.wf.a5
  refine s_retL (el_lcR1 (n := (t.a : Int)) (fun z => Kh414.mixed t x z) vI (ea_cons (ev_xc T tb (ev_var rfl)) ea_nil) (by omega) (fun _ => rfl) (fun i H1 e hi => ?_) (fun i H1 e hi _ => ev_var rfl)) k
  exact et_B (ev_tab (tb.mono e) (ev_var rfl) (ea_cons (ev_var rfl) (ea_cons (ev_var rfl) ea_nil)) (sv_mixed (tb.mono e) lx (by omega)))
theorem sl_mixed_with {H : Hp} {p : Addr} {t : Abs} {O : Addr → Prop} {x : Nat} (tb : Tab a H p t O) (lx : x < t.a) : SpL (sp_Table_mixed_with a K) [.ref p, vI x] H (nums ((Kh414.xs t).filter (Kh414.mixed t x))) :=
  fun H1 e Q q _ => ⟨p, t, O, x, rfl, tb.mono e, lx, q⟩
theorem sv_has_x {H : Hp} {p : Addr} {t : Abs} {O : Addr → Prop} {x : Nat} (tb : Tab a H p t O) : SpV (sp_Table_has_x a K) [.ref p, vI x] H (.bl (decide (x < t.a))) :=
  fun H1 e Q q _ => ⟨p, t, O, x, rfl, tb.mono e, q⟩
theorem sv_has_y {H : Hp} {p : Addr} {t : Abs} {O : Addr → Prop} {x : Nat} (tb : Tab a H p t O) : SpV (sp_Table_has_y a K) [.ref p, vI x] H (.bl (decide (x < t.b))) :=
  fun H1 e Q q _ => ⟨p, t, O, x, rfl, tb.mono e, q⟩
/-! ### yes_or_no, counted, any_above, wrong_letters -/
theorem len_yes_or_no (a : Ad) (K : PySem.W.Frag) (vs : List V) (H : Hp) (Q : VK) (E : XK) (h : sp_yes_or_no a K vs H Q E) : vs.length = 1 := by
  obtain ⟨b, rfl, _⟩ := h
  rfl
theorem pure_yes_or_no (T : Txt K mg a) (vs : List V) (H : Hp) (Q : VK) (E : XK) (h : sp_yes_or_no a K vs H Q E) : t_yes_or_no a K (ends Q) (start N_yes_or_no vs) H := by
  obtain ⟨b, rfl, k⟩ := h
  refine s_retL (el_lst (ea_cons (ev_if (b := b) (et_B (ev_var rfl)) (fun hb => ?_) (fun hb => ?_)) ea_nil) (Nat.le_of_ble_eq_true rfl)) k
  · subst hb
    exact ev_c
  · subst hb
    exact ev_c
theorem sl_yes {H : Hp} {b : Bool} : SpL (sp_yes_or_no a K) [.bl b] H [.int (if b then 1 else 0)] := fun H1 e Q q _ => ⟨b, rfl, q⟩
theorem len_counted (a : Ad) (K : PySem.W.Frag) (vs : List V) (H : Hp) (Q : VK) (E : XK) (h : sp_counted a K vs H Q E) : vs.length = 1 := by
  obtain ⟨p, xs, rfl, _⟩ := h
  rfl
theorem pure_counted (T : Txt K mg a) (vs : List V) (H : Hp) (Q : VK) (E : XK) (h : sp_counted a K vs H Q E) : t_counted a K (ends Q) (start N_counted vs) H := by
  obtain ⟨p, xs, rfl, hp, hl, k⟩ := h
  exact s_retL (el_catLV (el_lst (ea_cons (ev_len (ev_var rfl) (sq_of hp)) ea_nil) (Nat.le_of_ble_eq_true rfl)) (ev_var rfl) hp (by show 1 + xs.length ≤ 100000; omega)) k
theorem sl_counted {H : Hp} {p : Addr} {xs : List V} (hp : H p = some (.lst xs)) (hl : xs.length ≤ 1000) : SpL (sp_counted a K) [.ref p] H (.int xs.length :: xs) := fun H1 e Q q _ => ⟨p, xs, rfl, e _ _ hp, hl, q⟩
theorem len_any_above (a : Ad) (K : PySem.W.Frag) (vs : List V) (H : Hp) (Q : VK) (E : XK) (h : sp_any_above a K vs H Q E) : vs.length = 2 := by
  obtain ⟨p, xs, m, rfl, _⟩ := h
  rfl
theorem given_all {α : Type} (l : List α) (d : α) (v : α → V) : given l.length (fun _ => true) (fun i => v (l.getD i d)) = l.map v := by
  unfold given
  rw [List.filter_eq_self.mpr (fun _ _ => rfl)]
  refine List.ext_getElem? fun i => ?_
  rw [List.getElem?_map, List.getElem?_map]
  by_cases h : i < l.length
  · rw [List.getElem?_range h, List.getElem?_eq_getElem h]
    show some (v (l.getD i d)) = some (v l[i])
    rw [List.getD_eq_getElem?_getD, List.getElem?_eq_getElem h]
    rfl
  · rw [List.getElem?_eq_none (by rw [List.length_range]; omega), List.getElem?_eq_none (by omega)]
    rfl
theorem nums_at {l : List Nat} {i : Nat} {x : V} (h : (nums l)[i]? = some x) : i < l.length ∧ x = vI (l.getD i 0) := by
  have hi : i < l.length := by
    have := (List.getElem?_eq_some_iff.mp h).1
    rwa [nums_len] at this
  rw [nums_get hi] at h
  exact ⟨hi, (Option.some.inj h).symm⟩
theorem pure_any_above (T : Txt K mg a) (vs : List V) (H : Hp) (Q : VK) (E : XK) (h : sp_any_above a K vs H Q E) : t_any_above a K (ends Q) (start N_any_above vs) H := by
  obtain ⟨p, ns, m, rfl, hp, hl, k⟩ := h
  have key : EvL (tLc (iList K (tVar 0)) (gName 2) tYes (tOp rGt (tVar 2) (tVar 1)) [2]) (start N_any_above [.ref p, .int m]) H ((ns.map fun (n : Nat) => decide (m < (n : Int))).map V.bl) := by
    have e : ((ns.map fun (n : Nat) => decide (m < (n : Int))).map V.bl) = given (nums ns).length (fun _ => true) (fun i => V.bl (decide (m < ((ns.getD i 0 : Nat) : Int)))) := by
      rw [nums_len, given_all ns 0 (fun n => V.bl (decide (m < (n : Int)))), List.map_map]
      rfl
    rw [e]
    refine el_lcL (fun _ => true) _ (ev_var rfl) hp (by rw [nums_len]; omega) (fun _ => rfl) (fun i x H1 e hi => fun H2 _ Q q => q H2 (Ex.refl H2)) (fun i x H1 e hi _ => ?_)
    obtain ⟨_, rfl⟩ := nums_at hi
    exact ev_op (ev_var rfl) (ev_var rfl) rv_I0
  refine s_ret (ev_is (ev_anyN key) (congrArg V.bl ?_)) k
  rw [List.any_map]
  rfl
theorem sv_any_above {H : Hp} {p : Addr} {ns : List Nat} {m : Int} (hp : SqL K H p (nums ns)) (hl : ns.length ≤ 2000) : SpV (sp_any_above a K) [.ref p, .int m] H (.bl (ns.any fun (n : Nat) => decide (m < (n : Int)))) :=
  fun H1 e Q q _ => ⟨p, ns, m, rfl, ex_l e hp, hl, q⟩
theorem len_wrong_letters (a : Ad) (K : PySem.W.Frag) (vs : List V) (H : Hp) (Q : VK) (E : XK) (h : sp_wrong_letters a K vs H Q E) : vs.length = 2 := by
  obtain ⟨l, f, n, rfl, _⟩ := h
  rfl
theorem pure_wrong_letters (T : Txt K mg a) (vs : List V) (H : Hp) (Q : VK) (E : XK) (h : sp_wrong_letters a K vs H Q E) : t_wrong_letters a K (ends Q) (start N_wrong_letters vs) H := by
  obtain ⟨l, f, n, rfl, hf, hl, k⟩ := h
  refine s_ret (ev_is (ev_orV (ev_op (ev_len (ev_var rfl) hf) (ev_var rfl) (rv_ne rfl)) fun _ => ev_call1 (ea_cons (ev_var rfl) (ea_cons (ev_op (ev_var rfl) ev_c rv_I0) ea_nil)) (sv_any_above hf hl)) (congrArg V.bl ?_)) k
  rw [nums_len, dec_vI]
  unfold okN
  rw [Bool.not_and, List.not_all_eq_any_not]
  have e : (fun (m : Nat) => decide ((n : Int) - 1 < (m : Int))) = fun c => !decide (c < n) := by
    funext m
    rw [Bool.eq_iff_iff]
    simp
    omega
  have e2 : (!(f.length == n)) = !decide (f.length = n) := by
    rw [Bool.eq_iff_iff]
    simp
  rw [e, e2]
theorem sv_wrong {H : Hp} {l : Addr} {n : Nat} {f : List Nat} (hf : SqL K H l (nums f)) (hl : f.length ≤ 2000) : SpV (sp_wrong_letters a K) [.ref l, vI n] H (.bl (!okN n f)) :=
  fun H1 e Q q _ => ⟨l, f, n, rfl, ex_l e hf, hl, q⟩
end
end LS

namespace LS
open PySem PySem.Spec PyProof.Rows L2 Evl
open Kh414 (Abs)
section
variable {K : PySem.W.Frag} {mg : Str → Option Value} {a : Ad}
/-! ### first_clash -/
theorem len_first_clash (a : Ad) (K : PySem.W.Frag) (vs : List V) (H : Hp) (Q : VK) (E : XK) (h : sp_first_clash a K vs H Q E) : vs.length = 2 := by
  obtain ⟨p, t, O, l, f, rfl, _⟩ := h
  rfl
theorem ev_letter {σ : L2.St} {H : Hp} {l : Addr} {f : List Nat} {tl tx : TE} {x : Nat} (hl : Ev tl σ H (.ref l)) (hf : SqL K H l (nums f)) (hx : Ev tx σ H (vI x)) (h : x < f.length) : Ev (tOp (rIxL K) tl tx) σ H (vI (f.getD x 0)) :=
  ev_op hl hx (rv_ixL hf (atI_get (nums_get h)))
theorem pure_first_clash (T : Txt K mg a) (vs : List V) (H : Hp) (Q : VK) (E : XK) (h : sp_first_clash a K vs H Q E) : t_first_clash a K (ends Q) (start N_first_clash vs) H := by
  obtain ⟨p, t, O, l, f, rfl, tb, hf, hl, k⟩ := h
  have a5 := tb.wf.a5
  refine q_forR1 (n := (t.a : Int)) (ea_cons (ev_xc T tb (ev_var rfl)) ea_nil) (by omega)
    (fun i σ' H' => (∃ vx vz, σ' = [some (.ref p), some (.ref l), vx, vz]) ∧ Ex H H' ∧ ∀ x, x < i → cl1 t f x = none) (fun H1 e => ⟨⟨none, none, rfl⟩, e, fun x hx => absurd hx (Nat.not_lt_zero x)⟩) ?_ ?_
  · rintro i σ' H' hi ⟨⟨vx, vz, rfl⟩, e, h0⟩
    have tb' := tb.mono e
    have hf' := ex_l e hf
    have hi' : i < t.a := by omega
    refine s_forR2 (lo := ((i + 1 : Nat) : Int)) (n := (t.a : Int)) (ea_cons (ev_is (ev_op (ev_var rfl) ev_c rv_I0) (congrArg V.int (Int.natCast_succ i).symm)) (ea_cons (ev_xc T tb' (ev_var rfl)) ea_nil)) (by omega)
      (fun j σ'' H'' => (∃ vz, σ'' = [some (.ref p), some (.ref l), some (vI i), vz]) ∧ Ex H H'' ∧ ∀ z, z < i + 1 + j → cl2 t f i z = none) (fun H1 e1 => ⟨⟨_, rfl⟩, e.trans e1, fun z hz => cl2_le (by omega)⟩) ?_ ?_
    · rintro j σ'' H'' hj ⟨⟨vz', rfl⟩, e2, h2⟩
      have tb2 := tb.mono e2
      have hf2 := ex_l e2 hf
      have ez : ((i + 1 : Nat) : Int) + (j : Int) = ((i + 1 + j : Nat) : Int) := by omega
      have hz : i + 1 + j < t.a := by omega
      rw [ez]
      refine s_when (b := f.getD i 0 == f.getD (i + 1 + j) 0 && Kh414.mixed t i (i + 1 + j)) (et_and (et_is (et_test (ev_op (ev_letter (ev_var rfl) hf2 (ev_var rfl) (by omega)) (ev_letter (ev_var rfl) hf2 (ev_var rfl) (by omega)) (rv_eq rfl))) dec_vI) fun _ => et_B (ev_tab tb2 (ev_var rfl) (ea_cons (ev_var rfl) (ea_cons (ev_var rfl) ea_nil)) (sv_mixed tb2 hi' hz))) ?_ ?_
      · intro hb H3 e3
        rw [Bool.and_eq_true, beq_iff_eq] at hb
        obtain ⟨y, hy, hc⟩ := cl2_yes (t := t) (f := f) (show i < i + 1 + j by omega) hb.1 hb.2
        have tb3 := tb2.mono e3
        refine s_retL (el_lst (ea_cons (ev_var rfl) (ea_cons (ev_var rfl) (ea_cons (ev_ixR (EvL.r (el_tab tb3 (ev_var rfl) (ea_cons (ev_var rfl) (ea_cons (ev_var rfl) ea_nil)) (sl_both tb3 hi' hz))) (fun _ _ => ev_c) fun q H4 _ h4 => ⟨_, h4, atI_get (i := 0) (v := vI y) (by unfold nums; rw [List.getElem?_map, hy]; rfl)⟩) ea_nil))) (Nat.le_of_ble_eq_true rfl)) ?_
        intro r H5 hr e5 h5
        refine k.go (e2.trans e3) hr e5 ?_
        have hcl : clash t f = some (i, i + 1 + j, y) := findSome_range h0 hi' (findSome_range h2 hz hc)
        unfold clashL
        rw [hcl]
        exact h5
      · intro hb H3 e3
        refine ⟨⟨_, rfl⟩, e2.trans e3, fun z hz' => ?_⟩
        by_cases c : z < i + 1 + j
        · exact h2 z c
        · obtain rfl : z = i + 1 + j := by omega
          exact cl2_no hb
    · rintro σ'' H'' ⟨⟨vz', rfl⟩, e2, h2⟩
      refine ⟨⟨_, _, rfl⟩, e2, fun x hx => ?_⟩
      by_cases c : x < i
      · exact h0 x c
      · obtain rfl : x = i := by omega
        exact findSome_none fun z hz => h2 z (by omega)
  · rintro σ' H' ⟨⟨vx, vz, rfl⟩, e, h0⟩
    refine s_retL (el_lst ea_nil (Nat.le_of_ble_eq_true rfl)) ?_
    intro r H5 hr e5 h5
    refine k.go e hr e5 ?_
    have hcl : clash t f = none := findSome_none fun x hx => h0 x (by omega)
    unfold clashL
    rw [hcl]
    exact h5
theorem sl_clash {H : Hp} {p l : Addr} {t : Abs} {O : Addr → Prop} {f : List Nat} (tb : Tab a H p t O) (hf : SqL K H l (nums f)) (hl : f.length = t.a) : SpL (sp_first_clash a K) [.ref p, .ref l] H (nums (clashL t f)) :=
  fun H1 e Q q _ => ⟨p, t, O, l, f, rfl, tb.mono e, ex_l e hf, hl, q⟩
/-! ### letters_do, letter_count -/
theorem len_letters_do (a : Ad) (K : PySem.W.Frag) (vs : List V) (H : Hp) (Q : VK) (E : XK) (h : sp_letters_do a K vs H Q E) : vs.length = 2 := by
  obtain ⟨p, t, O, l, f, rfl, _⟩ := h
  rfl
theorem pure_letters_do (T : Txt K mg a) (vs : List V) (H : Hp) (Q : VK) (E : XK) (h : sp_letters_do a K vs H Q E) : t_letters_do a K (ends Q) (start N_letters_do vs) H := by
  obtain ⟨p, t, O, l, f, rfl, tb, hf, hl, k⟩ := h
  refine s_ret (ev_is (ev_op (ev_lenN (el_call1 (ea_cons (ev_var rfl) (ea_cons (ev_var rfl) ea_nil)) (sl_clash tb hf hl))) ev_c (rv_eq rfl)) (congrArg V.bl ?_)) k
  rw [nums_len, good_clash]
  exact dec_vI (z := 0)
theorem sv_do {H : Hp} {p l : Addr} {t : Abs} {O : Addr → Prop} {f : List Nat} (tb : Tab a H p t O) (hf : SqL K H l (nums f)) (hl : f.length = t.a) : SpV (sp_letters_do a K) [.ref p, .ref l] H (.bl (Kh414.good t f)) :=
  fun H1 e Q q _ => ⟨p, t, O, l, f, rfl, tb.mono e, ex_l e hf, hl, q⟩
theorem len_letter_count (a : Ad) (K : PySem.W.Frag) (vs : List V) (H : Hp) (Q : VK) (E : XK) (h : sp_letter_count a K vs H Q E) : vs.length = 1 := by
  obtain ⟨l, f, rfl, _⟩ := h
  rfl
theorem nums_int (f : List Nat) : nums f = (f.map fun (n : Nat) => (n : Int)).map V.int := by
  unfold nums
  rw [List.map_map]
  rfl
theorem pure_letter_count (T : Txt K mg a) (vs : List V) (H : Hp) (Q : VK) (E : XK) (h : sp_letter_count a K vs H Q E) : t_letter_count a K (ends Q) (start N_letter_count vs) H := by
  obtain ⟨l, f, rfl, hf, hne, k⟩ := h
  obtain ⟨m, hm, e, hle⟩ := used_max f hne
  rw [nums_int] at hf
  refine s_ret (ev_is (ev_op (ev_maxV (m := (m : Int)) (ev_var rfl) hf ⟨List.mem_map.mpr ⟨m, hm, rfl⟩, fun y hy => ?_⟩) ev_c rv_I0) (congrArg V.int ?_)) k
  · obtain ⟨c, hc, rfl⟩ := List.mem_map.mp hy
    have := hle c hc
    omega
  · rw [e]
    rfl
theorem sv_count {H : Hp} {l : Addr} {f : List Nat} (hf : SqL K H l (nums f)) (hne : f ≠ []) : SpV (sp_letter_count a K) [.ref l] H (vI (Kh414.used f)) := fun H1 e Q q _ => ⟨l, f, rfl, ex_l e hf, hne, q⟩
/-! ### longer_rows, all_numbered_rows -/
/-- a list that is being filled with rows -/
def Filled (L : Addr) (acc : List (Addr × List Nat)) (H : Hp) : Prop := H L = some (.lst (acc.map fun q => V.ref q.1)) ∧ ∀ q ∈ acc, q.1 ≠ L ∧ H q.1 = some (.lst (nums q.2))
theorem Filled.mono {L : Addr} {acc : List (Addr × List Nat)} {H H' : Hp} (e : Ex H H') (h : Filled L acc H) : Filled L acc H' := ⟨e _ _ h.1, fun q hq => ⟨(h.2 q hq).1, e _ _ (h.2 q hq).2⟩⟩
theorem Filled.more {L r : Addr} {acc : List (Addr × List Nat)} {H : Hp} {f : List Nat} (h : Filled L acc H) (hr : H r = some (.lst (nums f))) (hne : r ≠ L) : Filled L (acc ++ [(r, f)]) (upd H L (.lst ((acc.map fun q => V.ref q.1) ++ [.ref r]))) := by
  refine ⟨?_, fun q hq => ?_⟩
  · rw [upd_same, List.map_append]
    rfl
  · rcases List.mem_append.mp hq with hq | hq
    · exact ⟨(h.2 q hq).1, by rw [upd_ne (h.2 q hq).1]; exact (h.2 q hq).2⟩
    · rw [List.mem_singleton.mp hq]
      exact ⟨hne, by rw [upd_ne hne]; exact hr⟩
theorem len_longer_rows (a : Ad) (K : PySem.W.Frag) (vs : List V) (H : Hp) (Q : VK) (E : XK) (h : sp_longer_rows a K vs H Q E) : vs.length = 1 := by
  obtain ⟨p, rows, rfl, _⟩ := h
  rfl
theorem take_more {α : Type} {l : List α} {i : Nat} {x : α} (h : l[i]? = some x) : l.take (i + 1) = l.take i ++ [x] := by
  rw [List.take_succ, h]
  rfl
theorem pure_longer_rows (T : Txt K mg a) (vs : List V) (H : Hp) (Q : VK) (E : XK) (h : sp_longer_rows a K vs H Q E) : t_longer_rows a K (ends Q) (start N_longer_rows vs) H := by
  obtain ⟨p, rows, rfl, ⟨ps, h1, h2, h3⟩, hr, hn, k⟩ := h
  refine q_asgL (el_lst ea_nil (Nat.le_of_ble_eq_true rfl)) fun L H1 hL e1 hL1 => ?_
  have lenle : ∀ i, (longer (rows.take i)).length ≤ 1000 := fun i => by
    refine Nat.le_trans ?_ hn
    unfold longer
    conv => rhs; rw [← List.take_append_drop i rows]
    rw [List.flatMap_append, List.length_append]
    omega
  refine q_forLn (K := K) (a := p) (xs := ps.map fun q => V.ref q.1) (ev_var rfl) (sq_of (e1 _ _ h1))
    (fun i σ' H' => (∃ vr vl, σ' = [some (.ref p), some (.ref L), vr, vl]) ∧ Ex H H' ∧ ∃ acc, Filled L acc H' ∧ acc.map (·.2) = longer (rows.take i)) (fun H2 e2 => ⟨⟨none, none, rfl⟩, e1.trans e2, [], ⟨e2 _ _ hL1, fun _ h => absurd h (by simp)⟩, rfl⟩) (fun i σ' H' _ h => sq_of (h.2.1 _ _ h1)) ?_ ?_
  · rintro i x σ' H' hi ⟨⟨vr, vl, rfl⟩, e, acc, hF, hacc⟩
    rw [List.getElem?_map] at hi
    obtain ⟨q, hq, rfl⟩ := Option.map_eq_some_iff.mp hi
    have hqm : q ∈ ps := List.mem_of_getElem? hq
    have hrow : rows[i]? = some q.2 := by rw [← h2, List.getElem?_map, hq]; rfl
    obtain ⟨hne, _, hus⟩ := hr q.2 (List.mem_of_getElem? hrow)
    have hH := e _ _ (h3 q hqm)
    refine s_forR1 (n := ((Kh414.used q.2 + 1 : Nat) : Int)) (ea_cons (ev_is (ev_op (ev_call1 (ea_cons (ev_var rfl) ea_nil) (sv_count (sq_of hH) hne)) ev_c rv_I0) (congrArg V.int (Int.natCast_succ _).symm)) ea_nil) (by omega)
      (fun j σ'' H'' => (∃ vl, σ'' = [some (.ref p), some (.ref L), some (.ref q.1), vl]) ∧ Ex H H'' ∧ ∃ acc, Filled L acc H'' ∧ acc.map (·.2) = longer (rows.take i) ++ (List.range j).map fun c => q.2 ++ [c])
      (fun H2 e2 => ⟨⟨_, rfl⟩, e.trans e2, acc, hF.mono e2, by rw [hacc]; simp⟩) ?_ ?_
    · rintro j σ'' H'' hj ⟨⟨vl', rfl⟩, e2, acc2, hF2, hacc2⟩
      have hlen : acc2.length ≤ 1200 := by
        have e3 := congrArg List.length hacc2
        rw [List.length_map, List.length_append, List.length_map, List.length_range] at e3
        have := lenle i
        omega
      refine s_appL (xs := acc2.map fun q => V.ref q.1) (ys := nums (q.2 ++ [j])) hF2.1 (ev_var rfl) ?_ (by rw [List.length_map]; omega) fun r H3 hr3 e3 hr3' => ?_
      · have ec := el_catVL (H := H'') (σ := [some (.ref p), some (.ref L), some (.ref q.1), some (vI j)]) (ta := tVar 2) (tb := tLst (tCons (tVar 3) tNil)) (xs := nums q.2) (ys := [vI j]) (ev_var rfl) (e2 _ _ (h3 q hqm)) (el_lst (ea_cons (ev_var rfl) ea_nil) (Nat.le_of_ble_eq_true rfl)) (by
          have := (hr q.2 (List.mem_of_getElem? hrow)).2.1
          rw [nums_len]
          show q.2.length + 1 ≤ 100000
          omega)
        have e4 : nums q.2 ++ [vI j] = nums (q.2 ++ [j]) := by
          unfold nums
          rw [List.map_append]
          rfl
        rw [e4] at ec
        exact ec
      · have hne' : r ≠ L := fun z => by
          rw [z, hF2.1] at hr3
          cases hr3
        refine ⟨⟨_, rfl⟩, Ex.mut (e2.trans e3) hL, acc2 ++ [(r, q.2 ++ [j])], (hF2.mono e3).more hr3' hne', ?_⟩
        rw [List.map_append, hacc2, List.range_succ, List.map_append, List.append_assoc]
        rfl
    · rintro σ'' H'' ⟨⟨vl', rfl⟩, e2, acc2, hF2, hacc2⟩
      refine ⟨⟨_, _, rfl⟩, e2, acc2, hF2, ?_⟩
      rw [hacc2, take_more hrow]
      unfold longer
      rw [List.flatMap_append, List.flatMap_cons, List.flatMap_nil, List.append_nil]
      rfl
  · rintro σ' H' ⟨⟨vr, vl, rfl⟩, e, acc, hF, hacc⟩
    refine s_ret (v := .ref L) (ev_var rfl) fun H2 e2 => k L H2 hL (e.trans e2) ⟨acc, e2 _ _ hF.1, ?_, fun q hq => e2 _ _ (hF.2 q hq).2⟩
    rw [hacc, List.length_map, ← List.length_map (f := (·.2)), h2, List.take_length]
theorem sr_longer {H : Hp} {p : Addr} {rows : List (List Nat)} (h : RowsAt H p rows) (hr : ∀ r ∈ rows, r ≠ [] ∧ r.length ≤ 100 ∧ Kh414.used r ≤ 100) (hn : (longer rows).length ≤ 1000) : SpR (sp_longer_rows a K) [.ref p] H (fun q H2 => RowsAt H2 q (longer rows)) :=
  fun H1 e Q q _ => ⟨p, rows, rfl, h.mono e, hr, hn, q⟩
theorem len_all_numbered_rows (a : Ad) (K : PySem.W.Frag) (vs : List V) (H : Hp) (Q : VK) (E : XK) (h : sp_all_numbered_rows a K vs H Q E) : vs.length = 1 := by
  obtain ⟨n, rfl, _⟩ := h
  rfl
theorem pure_all_numbered_rows (T : Txt K mg a) (vs : List V) (H : Hp) (Q : VK) (E : XK) (h : sp_all_numbered_rows a K vs H Q E) : t_all_numbered_rows a K (ends Q) (start N_all_numbered_rows vs) H := by
  obtain ⟨n, rfl, h1, h5, k⟩ := h
  have first : EvR (tLst (tCons (tLst (tCons (tC (.int 0)) tNil)) tNil)) (start N_all_numbered_rows [vI n]) H (fun q H2 => RowsAt H2 q (rowsN 0)) := by
    intro H1 e1 Q1 q1
    refine er_lst1 (xs := [.int 0]) (el_lst (ea_cons ev_c ea_nil) (Nat.le_of_ble_eq_true rfl)) H1 e1 Q1 fun s H2 hs e2 ⟨r, h3, h4⟩ => q1 s H2 hs e2 ⟨[(r, [0])], h3, rfl, fun q hq => ?_⟩
    rw [List.mem_singleton.mp hq]
    exact h4
  refine q_asgR first fun p0 H0 hp0 e0 hr0 => ?_
  refine q_while (fun m σ' H' => ∃ (i : Nat) (p : Addr), m = n - i ∧ i < n ∧ σ' = [some (vI n), some (.ref p)] ∧ H p = none ∧ Ex H H' ∧ RowsAt H' p (rowsN i)) n ⟨0, p0, rfl, by omega, rfl, hp0, e0, hr0⟩ ?_
  rintro m σ' H' ⟨i, p, rfl, hi, rfl, hp, e, hR⟩
  obtain ⟨ps, h6, h7, h8⟩ := hR
  have hh := rows_head i (by omega)
  have hfine := rows_fine i (by omega)
  obtain ⟨q, hq0, hq1⟩ : ∃ q, ps[0]? = some q ∧ q.2.length = i + 1 := by
    rw [← h7, List.head?_map] at hh
    cases hps : ps.head? with
    | none =>
      rw [hps] at hh
      cases hh
    | some q =>
      rw [hps] at hh
      exact ⟨q, by rw [← List.head?_eq_getElem?]; exact hps, by simpa using hh⟩
  refine ⟨decide (i + 1 < n), et_is (et_test (ev_op (ev_len (p := q.1) (xs := nums q.2) (ev_op (ev_var rfl) ev_c (rv_ixL (sq_of h6) (atI_get (i := 0) (by rw [List.getElem?_map, hq0]; rfl)))) (sq_of (h8 q (List.mem_of_getElem? hq0)))) (ev_var rfl) rv_I0)) (by rw [nums_len, hq1]; exact dlt), fun hb H1 e1 => ?_, fun hb H1 e1 => ?_⟩
  · have hb' : i + 1 < n := of_decide_eq_true hb
    have fine : ∀ r ∈ rowsN i, r ≠ [] ∧ r.length ≤ 100 ∧ Kh414.used r ≤ 100 := fun r hr => by
      have z := List.all_eq_true.mp hfine.1 r hr
      rw [Bool.and_eq_true, decide_eq_true_iff, decide_eq_true_iff] at z
      exact ⟨fun c => by rw [c] at z; simp at z, by omega, z.2⟩
    refine ⟨fun σ2 H2 => ∃ p2, σ2 = [some (vI n), some (.ref p2)] ∧ H p2 = none ∧ Ex H H2 ∧ RowsAt H2 p2 (rowsN (i + 1)), fun σ2 H2 ⟨p2, h9, h10, h11, h12⟩ => ⟨n - (i + 1), by omega, i + 1, p2, rfl, hb', h9, h10, h11, h12⟩, ?_⟩
    exact s_asgR (er_call1 (ea_cons (ev_var rfl) ea_nil) (sr_longer (RowsAt.mono e1 ⟨ps, h6, h7, h8⟩) fine hfine.2)) fun p2 H2 hp2 e2 hr2 => ⟨p2, rfl, fresh_back (e.trans e1) hp2, (e.trans e1).trans e2, hr2⟩
  · have hb' : n = i + 1 := by
      have := of_decide_eq_false hb
      omega
    refine s_ret (v := .ref p) (ev_var rfl) fun H2 e2 => k p H2 hp ((e.trans e1).trans e2) ?_
    subst hb'
    rw [← rows_is i (by omega)]
    exact RowsAt.mono (e1.trans e2) ⟨ps, h6, h7, h8⟩
theorem sr_all {H : Hp} {n : Nat} (h1 : 1 ≤ n) (h5 : n ≤ 5) : SpR (sp_all_numbered_rows a K) [vI n] H (fun q H2 => RowsAt H2 q (Kh414.rows n 0)) := fun H1 e Q q _ => ⟨n, rfl, h1, h5, q⟩
end
end LS

namespace LS
open PySem PySem.Spec PyProof.Rows L2 Evl
open Kh414 (Abs)
section
variable {K : PySem.W.Frag} {mg : Str → Option Value} {a : Ad}
/-! ### rows_that_do, best_row, ways_with -/
theorem len_rows_that_do (a : Ad) (K : PySem.W.Frag) (vs : List V) (H : Hp) (Q : VK) (E : XK) (h : sp_rows_that_do a K vs H Q E) : vs.length = 1 := by
  obtain ⟨p, t, O, rfl, _⟩ := h
  rfl
/-- the items that pass, by their places -/
theorem given_take {α : Type} (l : List α) (d : α) (pr : α → Bool) (v : α → V) : ∀ n, n ≤ l.length → given n (fun i => pr (l.getD i d)) (fun i => v (l.getD i d)) = ((l.take n).filter pr).map v
  | 0, _ => by simp [given]
  | n + 1, h => by
    have hx : l[n]? = some (l[n]'(by omega)) := List.getElem?_eq_getElem (by omega)
    have hd : l.getD n d = l[n]'(by omega) := by
      rw [List.getD_eq_getElem?_getD, hx]
      rfl
    have ih := given_take l d pr v n (by omega)
    rw [take_more hx, List.filter_append, List.map_append, ← ih]
    cases hp : pr (l[n]'(by omega)) with
    | true =>
      rw [given_yes (by rw [hd]; exact hp), hd]
      simp [hp]
    | false =>
      rw [given_no (by rw [hd]; exact hp)]
      simp [hp]
theorem given_filter {α : Type} (l : List α) (d : α) (pr : α → Bool) (v : α → V) : given l.length (fun i => pr (l.getD i d)) (fun i => v (l.getD i d)) = (l.filter pr).map v := by
  rw [given_take l d pr v l.length (Nat.le_refl _), List.take_length]
/-- a row of a list of rows -/
theorem rows_item {ps : List (Addr × List Nat)} {i : Nat} {x : V} (h : (ps.map fun q => V.ref q.1)[i]? = some x) : ∃ q, ps[i]? = some q ∧ x = .ref q.1 ∧ q ∈ ps ∧ ps.getD i (0, []) = q := by
  rw [List.getElem?_map] at h
  obtain ⟨q, hq, rfl⟩ := Option.map_eq_some_iff.mp h
  exact ⟨q, hq, rfl, List.mem_of_getElem? hq, by rw [List.getD_eq_getElem?_getD, hq]; rfl⟩
theorem map_filter_snd (ps : List (Addr × List Nat)) (pr : List Nat → Bool) : (ps.filter fun q => pr q.2).map (·.2) = (ps.map (·.2)).filter pr := by
  rw [List.filter_map]
  rfl
theorem pure_rows_that_do (T : Txt K mg a) (vs : List V) (H : Hp) (Q : VK) (E : XK) (h : sp_rows_that_do a K vs H Q E) : t_rows_that_do a K (ends Q) (start N_rows_that_do vs) H := by
  obtain ⟨p, t, O, rfl, tb, k⟩ := h
  have a5 := tb.wf.a5
  refine s_retR (er_lcNR (Pq := fun q H2 => RowsAt H2 q (Kh414.ways t)) (er_call1 (ea_cons (ev_xc T tb (ev_var rfl)) ea_nil) (sr_all tb.wf.a1 a5)) (fun _ => rfl) fun r H1 e1 ⟨ps, h1, h2, h3⟩ => ?_) k
  have hrow : ∀ q ∈ ps, q.2.length = t.a := fun q hq => (rows_at (by omega) (by rw [← h2]; exact List.mem_map.mpr ⟨q, hq, rfl⟩)).1
  refine ⟨ps.map fun q => V.ref q.1, fun i => Kh414.good t (ps.getD i (0, [])).2, fun i => V.ref (ps.getD i (0, [])).1, h1, ?_, fun i x H2 e2 hi => ?_, fun i x H2 e2 hi _ => ?_, fun q H2 e2 h4 => ⟨ps.filter fun q => Kh414.good t q.2, ?_, ?_, fun q hq => ?_⟩⟩
  · have := (rows_all t.a (by omega)).2.2
    rw [← h2, List.length_map] at this
    rw [List.length_map]
    omega
  · obtain ⟨q, hq, rfl, hm, hg⟩ := rows_item hi
    show EvT _ _ _ (Kh414.good t (ps.getD i (0, [])).2)
    rw [hg]
    exact et_B (ev_call1 (ea_cons (ev_var rfl) (ea_cons (ev_var rfl) ea_nil)) (sv_do (tb.mono (e1.trans e2)) (sq_of (e2 _ _ (h3 q hm))) (hrow q hm)))
  · obtain ⟨q, hq, rfl, hm, hg⟩ := rows_item hi
    show Ev _ _ _ (V.ref (ps.getD i (0, [])).1)
    rw [hg]
    exact ev_var rfl
  · rw [h4, List.length_map, given_filter ps (0, []) (fun q => Kh414.good t q.2) (fun q => V.ref q.1)]
  · rw [map_filter_snd ps (Kh414.good t), h2]
    rfl
  · exact e2 _ _ (h3 q (List.mem_filter.mp hq).1)
theorem sr_ways {H : Hp} {p : Addr} {t : Abs} {O : Addr → Prop} (tb : Tab a H p t O) : SpR (sp_rows_that_do a K) [.ref p] H (fun q H2 => RowsAt H2 q (Kh414.ways t)) := fun H1 e Q q _ => ⟨p, t, O, rfl, tb.mono e, q⟩
theorem ways_ne {t : Abs} (wf : WF t) {f : List Nat} (h : f ∈ Kh414.ways t) : f ≠ [] := fun e => by
  have h1 := (ways_at wf h).1
  have h2 := wf.a1
  rw [e] at h1
  simp at h1
  omega
theorem len_best_row (a : Ad) (K : PySem.W.Frag) (vs : List V) (H : Hp) (Q : VK) (E : XK) (h : sp_best_row a K vs H Q E) : vs.length = 1 := by
  obtain ⟨p, t, O, rfl, _⟩ := h
  rfl
theorem pure_best_row (T : Txt K mg a) (vs : List V) (H : Hp) (Q : VK) (E : XK) (h : sp_best_row a K vs H Q E) : t_best_row a K (ends Q) (start N_best_row vs) H := by
  obtain ⟨p, t, O, rfl, tb, k⟩ := h
  refine er_call1 (ea_cons (ev_var rfl) ea_nil) (sr_ways tb) H (Ex.refl H) _ fun r H1 hr e1 hR => ?_
  obtain ⟨ps, h1, h2, h3⟩ := hR
  have inw : ∀ q ∈ ps, q.2 ∈ Kh414.ways t := fun q hq => by
    rw [← h2]
    exact List.mem_map.mpr ⟨q, hq, rfl⟩
  refine ⟨r, ps.map fun q => V.ref q.1, fun i => (Kh414.used (ps.getD i (0, [])).2 : Int), rfl, rfl, sq_of h1, ?_, fun i x H2 e2 hi Q' E' q' => ?_, fun i x H2 hi hmin e2 => ?_⟩
  · rw [List.length_map, ← List.length_map (f := (·.2)), h2]
    exact ways_pos tb.wf
  · obtain ⟨q, hq, rfl, hm, hg⟩ := rows_item hi
    have q2 : ∀ H3, Ex H2 H3 → Q' (vI (Kh414.used q.2)) H3 := fun H3 e3 => by
      have z := q' H3 e3
      dsimp only at z
      rw [hg] at z
      exact z
    exact ⟨q.1, q.2, rfl, sq_of (e2 _ _ (h3 q hm)), ways_ne tb.wf (inw q hm), q2⟩
  · obtain ⟨q, hq, rfl, hm, hg⟩ := rows_item hi
    refine k q.1 H2 (e1.trans e2) ?_
    have hb : Kh414.best t = q.2 := by
      refine best_is tb.wf (i := i) (by rw [← h2, List.getElem?_map, hq]; rfl) fun j y hj => ?_
      rw [← h2, List.getElem?_map] at hj
      obtain ⟨q', hq', rfl⟩ := Option.map_eq_some_iff.mp hj
      have hjl : j < ps.length := (List.getElem?_eq_some_iff.mp hq').1
      have hg' : ps.getD j (0, []) = q' := by rw [List.getD_eq_getElem?_getD, hq']; rfl
      have z := hmin j (by rw [List.length_map]; exact hjl)
      dsimp only at z
      rw [hg, hg'] at z
      exact ⟨by omega, fun h => by have := z.2 h; omega⟩
    rw [hb]
    exact e2 _ _ (h3 q hm)
theorem sx_best {H : Hp} {p : Addr} {t : Abs} {O : Addr → Prop} (tb : Tab a H p t O) : SpX (sp_best_row a K) [.ref p] H (fun q H2 => H2 q = some (.lst (nums (Kh414.best t)))) := fun H1 e Q q _ => ⟨p, t, O, rfl, tb.mono e, q⟩
theorem len_ways_with (a : Ad) (K : PySem.W.Frag) (vs : List V) (H : Hp) (Q : VK) (E : XK) (h : sp_ways_with a K vs H Q E) : vs.length = 2 := by
  obtain ⟨p, t, O, k, rfl, _⟩ := h
  rfl
theorem pure_ways_with (T : Txt K mg a) (vs : List V) (H : Hp) (Q : VK) (E : XK) (h : sp_ways_with a K vs H Q E) : t_ways_with a K (ends Q) (start N_ways_with vs) H := by
  obtain ⟨p, t, O, n, rfl, tb, k⟩ := h
  have a5 := tb.wf.a5
  refine s_ret (ev_ofR (z := vI ((Kh414.ways t).filter fun f => Kh414.used f == n).length) (er_lcNR (Pq := fun q H2 => ∃ xs, H2 q = some (.lst xs) ∧ xs.length = ((Kh414.ways t).filter fun f => Kh414.used f == n).length) (er_call1 (ea_cons (ev_var rfl) ea_nil) (sr_ways tb)) (fun _ => rfl) fun r H1 e1 ⟨ps, h1, h2, h3⟩ => ?_) fun q H1 e1 ⟨xs, h4, h5⟩ => ?_) k
  · have inw : ∀ q ∈ ps, q.2 ∈ Kh414.ways t := fun q hq => by
      rw [← h2]
      exact List.mem_map.mpr ⟨q, hq, rfl⟩
    refine ⟨ps.map fun q => V.ref q.1, fun i => Kh414.used (ps.getD i (0, [])).2 == n, fun i => V.ref (ps.getD i (0, [])).1, h1, ?_, fun i x H2 e2 hi => ?_, fun i x H2 e2 hi _ => ?_, fun q H2 e2 h4 => ⟨_, h4, ?_⟩⟩
    · have h5 := (rows_all t.a (by omega)).2.2
      have h6 : (Kh414.ways t).length ≤ (Kh414.rows t.a 0).length := List.length_filter_le ..
      rw [← h2, List.length_map] at h6
      rw [List.length_map]
      omega
    · obtain ⟨q, hq, rfl, hm, hg⟩ := rows_item hi
      show EvT _ _ _ (Kh414.used (ps.getD i (0, [])).2 == n)
      rw [hg]
      exact et_is (et_test (ev_op (ev_call1 (ea_cons (ev_var rfl) ea_nil) (sv_count (sq_of (e2 _ _ (h3 q hm))) (ways_ne tb.wf (inw q hm)))) (ev_var rfl) (rv_eq rfl))) dec_vI
    · obtain ⟨q, hq, rfl, hm, hg⟩ := rows_item hi
      show Ev _ _ _ (V.ref (ps.getD i (0, [])).1)
      rw [hg]
      exact ev_var rfl
    · rw [List.length_map, given_filter ps (0, []) (fun q => Kh414.used q.2 == n) (fun q => V.ref q.1), List.length_map, ← List.length_map (f := (·.2)), map_filter_snd ps (fun f => Kh414.used f == n), h2]
  · have z := rcL (K := K) (sq_of (K := K) h4)
    rw [h5] at z
    exact z
theorem sv_ways {H : Hp} {p : Addr} {t : Abs} {O : Addr → Prop} {n : Nat} (tb : Tab a H p t O) : SpV (sp_ways_with a K) [.ref p, vI n] H (vI ((Kh414.ways t).filter fun f => Kh414.used f == n).length) := fun H1 e Q q _ => ⟨p, t, O, n, rfl, tb.mono e, q⟩
end
end LS

namespace LS
open PySem PySem.Spec PyProof.Rows L2 Evl
open Kh414 (Abs)
section
variable {K : PySem.W.Frag} {mg : Str → Option Value} {a : Ad}
/-! ### Table.put, put_row, drop_y, __init__ -/
theorem len_Table_put (a : Ad) (K : PySem.W.Frag) (vs : List V) (H : Hp) (Q : VK) (E : XK) (h : sp_Table_put a K vs H Q E) : vs.length = 4 := by
  obtain ⟨p, t, O, x, y, w, rfl, _⟩ := h
  rfl
theorem nums_set (l : List Nat) (i w : Nat) : (nums l).set i (vI w) = nums (l.set i w) := by
  unfold nums
  rw [List.map_set]
/-- the outer list is none of the rows -/
theorem q_not {H : Hp} {q : Addr} {rs : List Addr} {w : List (List Nat)} (h1 : 1 ≤ rs.length) (h2 : H q = some (.lst (rs.map V.ref))) (h5 : ∀ i r, rs[i]? = some r → H r = some (.lst (nums (w.getD i [])))) : q ∉ rs := fun hq => by
  obtain ⟨i, hi⟩ := List.mem_iff_getElem?.mp hq
  have e := h2.symm.trans (h5 i q hi)
  cases rs with
  | nil => simp at h1
  | cons r rs =>
    have e' : (V.ref r :: rs.map V.ref) = nums (w.getD i []) := by simpa using e
    unfold nums at e'
    cases hw : w.getD i [] with
    | nil =>
      rw [hw] at e'
      cases e'
    | cons n l =>
      rw [hw] at e'
      cases e'
theorem wf_set {t : Abs} (wf : WF t) {x : Nat} {r : List Nat} (hr : r.length = t.b) : WF { t with w := t.w.set x r } := by
  refine ⟨wf.a1, wf.a5, wf.b1, wf.b5, ?_, fun s hs => ?_⟩
  · show (t.w.set x r).length = t.a
    rw [List.length_set]
    exact wf.wl
  · rcases List.mem_or_eq_of_mem_set hs with h | h
    · exact wf.rl s h
    · rw [h]
      exact hr
theorem getD_set {t : Abs} {x i : Nat} {r : List Nat} (hx : x < t.w.length) : (t.w.set x r).getD i [] = if x = i then r else t.w.getD i [] := by
  rw [List.getD_eq_getElem?_getD, List.getElem?_set]
  by_cases c : x = i
  · subst c
    simp [hx]
  · rw [if_neg c, if_neg c, List.getD_eq_getElem?_getD]
theorem nodup_set {α : Type} {s : α} : ∀ {l : List α} {x : Nat}, l.Nodup → s ∉ l → (l.set x s).Nodup
  | [], _, _, _ => by simp
  | y :: l, 0, h, hs => by
    rw [List.set_cons_zero, List.nodup_cons]
    exact ⟨fun h2 => hs (List.mem_cons_of_mem _ h2), (List.nodup_cons.mp h).2⟩
  | y :: l, x + 1, h, hs => by
    rw [List.set_cons_succ, List.nodup_cons]
    refine ⟨fun h2 => ?_, nodup_set (List.nodup_cons.mp h).2 (fun h2 => hs (List.mem_cons_of_mem _ h2))⟩
    rcases List.mem_or_eq_of_mem_set h2 with h2 | h2
    · exact (List.nodup_cons.mp h).1 h2
    · exact hs (by rw [h2]; exact List.mem_cons_self)
theorem none_upd {H : Hp} {p b : Addr} {o : HO} (h : upd H p o b = none) : H b = none := by
  by_cases c : b = p
  · rw [c, upd_same] at h
    cases h
  · rw [upd_ne c] at h
    exact h
theorem pure_Table_put (T : Txt K mg a) (vs : List V) (H : Hp) (Q : VK) (E : XK) (h : sp_Table_put a K vs H Q E) : t_Table_put a K (ends Q) (start N_Table_put vs) H := by
  obtain ⟨p, t, O, x, y, w, rfl, tb, lx, ly, k⟩ := h
  obtain ⟨wf, dx, q, rs, h1, h2, h3, h4, h5, h6⟩ := id tb
  have hl : x < rs.length := by rw [h3]; exact lx
  have hr : rs[x]? = some rs[x] := List.getElem?_eq_getElem hl
  have hw : x < t.w.length := by rw [wf.wl]; exact lx
  have hlen := row_len wf lx
  refine s_setL (l := rs[x]) (xs := nums (t.w.getD x [])) (j := y) (v := vI w) (h5 x _ hr) (ev_var rfl) (ev_op (ev_fld (ev_var rfl) h1 T.cl_Table T.n_Table_often (tF_o t q)) (ev_var rfl) (rv_ixL (sq_of h2) (atI_get (by rw [List.getElem?_map, hr]; rfl)))) (ev_var rfl) (by rw [nums_len, hlen]; exact ly) fun H1 e1 => ?_
  rw [nums_set]
  have hq : q ∉ rs := q_not (by rw [h3]; exact wf.a1) h2 h5
  refine k _ O ⟨wf_set wf (by rw [List.length_set]; exact hlen), dx, q, rs, ?_, ?_, h3, h4, fun i r hi => ?_, h6⟩ (fun b hb => Or.inl hb) (fun b o hb nb => ?_) fun b hb => fresh_back e1 (none_upd hb)
  · rw [upd_ne (ne_of (e1 _ _ h1) (e1 _ _ (h5 x _ hr)) (by intro z; cases z))]
    exact e1 _ _ h1
  · rw [upd_ne (fun (z : q = rs[x]) => hq (by rw [z]; exact List.getElem_mem hl))]
    exact e1 _ _ h2
  · show upd H1 rs[x] _ r = some (.lst (nums ((t.w.set x ((t.w.getD x []).set y w)).getD i [])))
    rw [getD_set hw]
    by_cases c : x = i
    · subst c
      rw [hr] at hi
      cases hi
      rw [if_pos rfl]
      exact upd_same
    · rw [if_neg c, upd_ne (fun z => c ?_)]
      · exact e1 _ _ (h5 i r hi)
      · obtain ⟨hi', e⟩ := List.getElem?_eq_some_iff.mp hi
        exact ((List.getElem_inj h4).mp (e.trans z)).symm
  · rw [upd_ne (fun (z : b = rs[x]) => nb ((h6 b).mpr (Or.inr (Or.inr (by rw [z]; exact List.getElem_mem hl)))))]
    exact e1 _ _ hb
theorem len_Table_put_row (a : Ad) (K : PySem.W.Frag) (vs : List V) (H : Hp) (Q : VK) (E : XK) (h : sp_Table_put_row a K vs H Q E) : vs.length = 3 := by
  obtain ⟨p, t, O, x, l, r, rfl, _⟩ := h
  rfl
theorem pure_Table_put_row (T : Txt K mg a) (vs : List V) (H : Hp) (Q : VK) (E : XK) (h : sp_Table_put_row a K vs H Q E) : t_Table_put_row a K (ends Q) (start N_Table_put_row vs) H := by
  obtain ⟨p, t, O, x, l, f, rfl, tb, lx, hf, hfl, k⟩ := h
  obtain ⟨wf, dx, q, rs, h1, h2, h3, h4, h5, h6⟩ := id tb
  have hl : x < rs.length := by rw [h3]; exact lx
  have hw : x < t.w.length := by rw [wf.wl]; exact lx
  have hq : q ∉ rs := q_not (by rw [h3]; exact wf.a1) h2 h5
  refine el_list (ev_var rfl) hf H (Ex.refl H) _ fun s H1 hs e1 hs1 => ?_
  refine s_setL (D := { nx := fun _ H' => Q .non H', rt := Q }) (te := tC (.ref s)) (l := q) (xs := rs.map V.ref) (j := x) (v := .ref s) (H := H1) (e1 _ _ h2) ev_c (ev_fld (ev_var rfl) (e1 _ _ h1) T.cl_Table T.n_Table_often (tF_o t q)) (ev_var rfl) (by rw [List.length_map]; exact hl) fun H2 e2 => ?_
  have e12 := e1.trans e2
  have sq : s ≠ q := ne_of_none h2 hs |>.symm
  have sr : ∀ r ∈ rs, s ≠ r := fun r hr => by
    obtain ⟨i, hi⟩ := List.mem_iff_getElem?.mp hr
    exact (ne_of_none (h5 i r hi) hs).symm
  refine k _ (fun b => b = p ∨ b = q ∨ b ∈ rs.set x s) ⟨wf_set wf hfl, dx, q, rs.set x s, ?_, ?_, by rw [List.length_set]; exact h3, ?_, fun i r hi => ?_, fun b => Iff.rfl⟩ (fun b hb => ?_) (fun b o hb nb => ?_) fun b hb => fresh_back e12 (none_upd hb)
  · rw [upd_ne (ne_of (e12 _ _ h1) (e12 _ _ h2) (by intro z; cases z))]
    exact e12 _ _ h1
  · rw [upd_same, List.map_set]
  · exact nodup_set h4 (fun hm => sr s hm rfl)
  · show upd H2 q _ r = some (.lst (nums ((t.w.set x f).getD i [])))
    rw [getD_set hw]
    rw [List.getElem?_set] at hi
    by_cases c : x = i
    · subst c
      rw [if_pos rfl, if_pos hl] at hi
      cases hi
      rw [if_pos rfl, upd_ne sq]
      exact e2 _ _ hs1
    · rw [if_neg c] at hi
      rw [if_neg c, upd_ne (fun (z : r = q) => hq (by rw [← z]; exact List.mem_of_getElem? hi))]
      exact e12 _ _ (h5 i r hi)
  · rcases hb with hb | hb | hb
    · exact Or.inl ((h6 b).mpr (Or.inl hb))
    · exact Or.inl ((h6 b).mpr (Or.inr (Or.inl hb)))
    · rcases List.mem_or_eq_of_mem_set hb with hb | hb
      · exact Or.inl ((h6 b).mpr (Or.inr (Or.inr hb)))
      · rw [hb]
        exact Or.inr hs
  · rw [upd_ne (fun z => nb ((h6 b).mpr (Or.inr (Or.inl z))))]
    exact e12 _ _ hb
/-! ### slices -/
theorem cut_to (xs : List V) (k : Nat) : cutV xs none (some (k : Int)) = xs.take k := by
  unfold cutV
  rw [HT.sIx_none, HT.sIx_nat, List.drop_zero, Nat.sub_zero]
  by_cases h : k ≤ xs.length
  · rw [Nat.min_eq_left h]
  · rw [Nat.min_eq_right (by omega), List.take_length, List.take_of_length_le (by omega)]
theorem cut_from (xs : List V) (k : Nat) : cutV xs (some (k : Int)) none = xs.drop k := by
  unfold cutV
  rw [HT.sIx_none, HT.sIx_nat]
  by_cases h : k ≤ xs.length
  · rw [Nat.min_eq_left h, List.take_of_length_le (by rw [List.length_drop]; omega)]
  · rw [Nat.min_eq_right (by omega), Nat.sub_self, List.take_zero, List.drop_of_length_le (by omega)]
theorem cut_mid (xs : List V) (i k : Nat) (h : i + k ≤ xs.length) : cutV xs (some (i : Int)) (some ((i + k : Nat) : Int)) = (xs.drop i).take k := by
  unfold cutV
  rw [HT.sIx_nat, HT.sIx_nat, Nat.min_eq_left h, Nat.min_eq_left (show i ≤ xs.length by omega)]
  congr 1
  omega
theorem nums_erase (l : List Nat) (y : Nat) : (nums l).take y ++ (nums l).drop (y + 1) = nums (l.eraseIdx y) := by
  unfold nums
  rw [List.eraseIdx_eq_take_drop_succ, List.map_append, List.map_take, List.map_drop]
theorem put_o (t : Abs) (q D : Addr) : putF "often" (.ref D) (tF t q) = tF t D := (put_past (by decide +kernel)).trans (congrArg _ ((put_past (by decide +kernel)).trans (congrArg _ put_here)))
theorem put_y (t : Abs) (q : Addr) (n : Nat) : putF "y_count" (vI n) (tF t q) = ([("x_count", vI t.a), ("y_count", vI n), ("often", .ref q)] : List (Str × V)) := (put_past (by decide +kernel)).trans (congrArg _ put_here)
theorem len_Table_drop_y (a : Ad) (K : PySem.W.Frag) (vs : List V) (H : Hp) (Q : VK) (E : XK) (h : sp_Table_drop_y a K vs H Q E) : vs.length = 2 := by
  obtain ⟨p, t, O, y, rfl, _⟩ := h
  rfl
theorem pure_Table_drop_y (T : Txt K mg a) (vs : List V) (H : Hp) (Q : VK) (E : XK) (h : sp_Table_drop_y a K vs H Q E) : t_Table_drop_y a K (ends Q) (start N_Table_drop_y vs) H := by
  obtain ⟨p, t, O, y, rfl, tb, ly, hb2, k⟩ := h
  obtain ⟨wf, dx, q, rs, h1, h2, h3, h4, h5, h6⟩ := id tb
  have a5 := wf.a5
  have b5 := wf.b5
  refine q_fldR (Pr := fun Dl H2 => NewRows H (fun i => nums ((t.w.getD i []).eraseIdx y)) Dl (rs.map V.ref).length H2) (er_lcLN (K := K) (a := q) (xs := rs.map V.ref) _ (ev_fld (ev_var rfl) h1 T.cl_Table T.n_Table_often (tF_o t q)) (sq_of h2) (by rw [List.length_map]; omega) (fun _ => rfl) fun i x H1 e1 hi => ?_)
    (ev_var rfl) h1 T.cl_Table T.n_Table_often (Nat.le_of_ble_eq_true rfl) (fun r H1 H2 e h => h.mono e) fun D H1 e1 hD hN => ?_
  · rw [List.getElem?_map] at hi
    obtain ⟨r, hr, rfl⟩ := Option.map_eq_some_iff.mp hi
    have hH := e1 _ _ (h5 i r hr)
    have key := el_catLL (H := H1) (σ := ((wipe (start N_Table_drop_y [.ref p, vI y]) [2]).set 2 (some (.ref r)))) (el_sl (K := K) (te := tVar 2) (ev_var rfl) eo_none (eo_some (te := tVar 1) (ev_var rfl)) (sq_of hH)) (el_sl (K := K) (te := tVar 2) (ev_var rfl) (eo_some (te := tOp rAdd (tVar 1) (tC (.int 1))) (ev_op (ev_var rfl) ev_c rv_I0)) eo_none (sq_of hH)) (by
      have e1 := cutV_length (nums (t.w.getD i [])) none (some (y : Int))
      have e2 := cutV_length (nums (t.w.getD i [])) (some ((y : Int) + 1)) none
      have hlen : (t.w.getD i []).length = t.b := row_len wf (by rw [← h3]; exact (List.getElem?_eq_some_iff.mp hr).1)
      rw [nums_len, hlen] at e1 e2
      omega)
    have e2 : (y : Int) + 1 = ((y + 1 : Nat) : Int) := rfl
    rw [cut_to, e2, cut_from, nums_erase] at key
    exact key
  · rw [put_o]
    have hp1 : upd H1 p (.ins a.C_Table dx (tF t D)) p = some (.ins a.C_Table dx (tF t D)) := upd_same
    obtain ⟨n1, n2, rs', n3, n4, n5, n6, n7, n8⟩ := hN
    rw [List.length_map, h3] at n3
    refine s_fld (v := vI (t.b - 1)) (ev_is (ev_op (ev_fld (ev_var rfl) hp1 T.cl_Table T.n_Table_y_count (tF_y t D)) ev_c rv_I0) (congrArg V.int ?_)) (ev_var rfl) hp1 T.cl_Table T.n_Table_y_count (Nat.le_of_ble_eq_true rfl) fun H2 e2 => ?_
    · omega
    · rw [put_y]
      have pD : D ≠ p := (ne_of_none h1 hD).symm
      have pr : ∀ r ∈ rs', r ≠ p := fun r hr => (ne_of_none h1 (n6 r hr)).symm
      refine k _ (fun b => b = p ∨ b = D ∨ b ∈ rs') ⟨⟨wf.a1, wf.a5, ?_, ?_, ?_, fun r hr => ?_⟩, dx, D, rs', ?_, ?_, n3, n4, fun i r hi => ?_, fun b => Iff.rfl⟩ (fun b hb => ?_) (fun b o hb nb => ?_) fun b hb => fresh_back n2 (none_upd (fresh_back e2 (none_upd hb)))
      · show 1 ≤ t.b - 1
        omega
      · show t.b - 1 ≤ 5
        omega
      · show (t.w.map fun r => r.eraseIdx y).length = t.a
        rw [List.length_map]
        exact wf.wl
      · obtain ⟨s, hs, rfl⟩ := List.mem_map.mp hr
        show (s.eraseIdx y).length = t.b - 1
        rw [List.length_eraseIdx_of_lt (by rw [wf.rl s hs]; exact ly), wf.rl s hs]
      · rw [upd_same]
        rfl
      · rw [upd_ne pD]
        exact e2 _ _ (by rw [upd_ne pD]; exact n7)
      · have hm := List.mem_of_getElem? hi
        rw [upd_ne (pr r hm)]
        refine e2 _ _ ?_
        rw [upd_ne (pr r hm), n8 i r hi]
        have e3 : (dropT t y).w.getD i [] = (t.w.getD i []).eraseIdx y := by
          show (t.w.map fun r => r.eraseIdx y).getD i [] = _
          rw [List.getD_eq_getElem?_getD, List.getElem?_map, List.getD_eq_getElem?_getD]
          cases t.w[i]? with
          | none => rfl
          | some s => rfl
        rw [e3]
      · rcases hb with hb | hb | hb
        · exact Or.inl ((h6 b).mpr (Or.inl hb))
        · rw [hb]
          exact Or.inr hD
        · exact Or.inr (n6 b hb)
      · have hbp : b ≠ p := fun z => nb ((h6 b).mpr (Or.inl z))
        rw [upd_ne hbp]
        refine e2 _ _ ?_
        rw [upd_ne hbp]
        exact n2 _ _ hb
theorem len_Table_init (a : Ad) (K : PySem.W.Frag) (vs : List V) (H : Hp) (Q : VK) (E : XK) (h : sp_Table_init a K vs H Q E) : vs.length = 3 := by
  obtain ⟨p, dx, x, y, rfl, _⟩ := h
  rfl
theorem rep_nums (y : Nat) : (List.replicate y [V.int 0]).flatten = nums (List.replicate y 0) := by
  unfold nums
  induction y with
  | zero => rfl
  | succ y ih =>
    rw [List.replicate_succ, List.flatten_cons, ih, List.replicate_succ, List.map_cons]
    rfl
theorem pure_Table_init (T : Txt K mg a) (vs : List V) (H : Hp) (Q : VK) (E : XK) (h : sp_Table_init a K vs H Q E) : t_Table_init a K (ends Q) (start N_Table_init vs) H := by
  obtain ⟨p, dx, x, y, rfl, hp, x1, x5, y1, y5, k⟩ := h
  refine q_fld (v := vI x) (ev_var rfl) (ev_var rfl) hp T.cl_Table T.n_Table_x_count (Nat.le_of_ble_eq_true rfl) fun H1 e1 => ?_
  refine q_fld (v := vI y) (ev_var rfl) (ev_var rfl) upd_same T.cl_Table T.n_Table_y_count (Nat.le_of_ble_eq_true rfl) fun H2 e2 => ?_
  refine s_fldR (Pr := fun Dl H3 => NewRows (upd H2 p (.ins a.C_Table dx (putF "y_count" (vI y) (putF "x_count" (vI x) [])))) (fun _ => nums (List.replicate y 0)) Dl (x : Int).toNat H3) (er_lcR1N _ (ea_cons (ev_var rfl) ea_nil) (by omega) (fun _ => rfl) fun i H3 e3 hi => ?_) (ev_var rfl) upd_same T.cl_Table T.n_Table_often (Nat.le_of_ble_eq_true rfl) (fun r H1 H2 e h => h.mono e) fun D H3 e3 hD hN => ?_
  · have key := el_rep (H := H3) (σ := ((wipe (start N_Table_init [.ref p, vI x, vI y]) [3]).set 3 (some (vI i)))) (ta := tLst (tCons (tC (.int 0)) tNil)) (tb := tVar 2) (xs := [.int 0]) (n := y) (el_lst (ea_cons ev_c ea_nil) (Nat.le_of_ble_eq_true rfl)) (ev_var rfl) (by show 1 * y ≤ 100000; omega) (by omega)
    rw [rep_nums] at key
    exact key
  · obtain ⟨n1, n2, rs', n3, n4, n5, n6, n7, n8⟩ := hN
    rw [Int.toNat_natCast] at n3
    have kept : ∀ b o, H b = some o → b ≠ p → upd H2 p (.ins a.C_Table dx (putF "y_count" (vI y) (putF "x_count" (vI x) []))) b = some o := fun b o hb hbp => by
      rw [upd_ne hbp]
      refine e2 _ _ ?_
      rw [upd_ne hbp]
      exact e1 _ _ hb
    have fresh : ∀ b, upd H2 p (.ins a.C_Table dx (putF "y_count" (vI y) (putF "x_count" (vI x) []))) b = none → H b = none ∧ b ≠ p := fun b hb => by
      have hbp : b ≠ p := fun z => by
        rw [z, upd_same] at hb
        cases hb
      refine ⟨?_, hbp⟩
      cases e : H b with
      | none => rfl
      | some o =>
        rw [kept b o e hbp] at hb
        cases hb
    have pf : putF "often" (.ref D) (putF "y_count" (vI y) (putF "x_count" (vI x) [])) = tF (newT x y) D := by
      have e1 : putF "y_count" (vI y) (putF "x_count" (vI x) []) = ([("x_count", vI x), ("y_count", vI y)] : List (Str × V)) := (put_past (by decide +kernel)).trans rfl
      rw [e1]
      exact (put_past (by decide +kernel)).trans (congrArg _ ((put_past (by decide +kernel)).trans rfl))
    rw [pf]
    refine k _ (fun b => b = p ∨ b = D ∨ b ∈ rs') ⟨⟨x1, x5, y1, y5, List.length_replicate .., fun r hr => ?_⟩, dx, D, rs', upd_same, ?_, n3, n4, fun i r hi => ?_, fun b => Iff.rfl⟩ (fun b hb => ?_) fun b o hb nb => ?_
    · have hr' : r ∈ List.replicate x (List.replicate y 0) := hr
      rw [(List.mem_replicate.mp hr').2]
      exact List.length_replicate ..
    · rw [upd_ne (fresh D n1).2]
      exact n7
    · have hm := List.mem_of_getElem? hi
      rw [upd_ne (fresh r (n6 r hm)).2, n8 i r hi]
      have e4 : (newT x y).w.getD i [] = List.replicate y 0 := by
        show (List.replicate x (List.replicate y 0)).getD i [] = _
        have : i < x := by rw [← n3]; exact (List.getElem?_eq_some_iff.mp hi).1
        rw [List.getD_eq_getElem?_getD, List.getElem?_replicate, if_pos this]
        rfl
      rw [e4]
    · rcases hb with hb | hb | hb
      · exact Or.inl hb
      · rw [hb]
        exact Or.inr (fresh D n1).1
      · exact Or.inr (fresh b (n6 b hb)).1
    · rw [upd_ne nb]
      exact n2 _ _ (kept b o hb nb)
end
end LS

namespace LS
open PySem PySem.Spec PyProof.Rows L2 Evl
open Kh414 (Abs)
section
variable {K : PySem.W.Frag} {mg : Str → Option Value} {a : Ad}
/-! ### the replies -/
theorem ansL_say (z : Int) : ansL (Kh414.say z) = [.int z] := rfl
theorem ansL_yes (b : Bool) : ansL (Kh414.yes b) = [.int (if b then 1 else 0)] := by cases b <;> rfl
theorem ansL_nats (h : Nat) (l : List Nat) : ansL (Kh414.nats h l) = vI h :: nums l := by
  unfold ansL Kh414.nats nums
  rw [List.map_cons, List.map_map]
  rfl
/-- return [n], n written -/
theorem s_no {σ : L2.St} {H : Hp} {D : Ends} {z : Int} {ans : List V} (e : ans = [.int z]) (k : RetL ans H D.rt) : tRet (tLst (tCons (tC (.int z)) tNil)) D σ H := by
  subst e
  exact s_retL (el_lst (ea_cons ev_c ea_nil) (Nat.le_of_ble_eq_true rfl)) k
theorem _root_.Evl.RetL.mono {xs : List V} {H H' : Hp} {Q : VK} (e : Ex H H') (k : RetL xs H Q) : RetL xs H' Q := fun p H2 hp e2 h2 => k p H2 (fresh_back e hp) (e.trans e2) h2
theorem _root_.Evl.RetL.as {xs ys : List V} {H : Hp} {Q : VK} (k : RetL xs H Q) (e : xs = ys) : RetL ys H Q := e ▸ k
/-- a refusal of what may change the table: nothing has changed -/
theorem Left.same {H : Hp} {p : Addr} {t : Abs} {O : Addr → Prop} {ans : List V} {Q : VK} (tb : Tab a H p t O) (k : Left a H p O t ans Q) : RetL ans H Q := fun r H2 hr e2 h2 => k H2 O r hr h2 (tb.mono e2) (fun b hb => Or.inl hb) fun b o hb _ => e2 b o hb
theorem Left.as {H : Hp} {p : Addr} {t t' : Abs} {O : Addr → Prop} {ans ans' : List V} {Q : VK} (k : Left a H p O t ans Q) (e : t = t') (e' : ans = ans') : Left a H p O t' ans' Q := e ▸ e' ▸ k
section
variable {σ : L2.St} {H : Hp} {p : Addr} {t : Abs} {O : Addr → Prop} {te tx ty : TE} {x y : Nat}
theorem et_hasx (tb : Tab a H p t O) (h : Ev te σ H (.ref p)) (hx : Ev tx σ H (vI x)) : EvT (tB (tMeth a.C_Table "has_x" (sp_Table_has_x a K) [] E0 te (tCons tx tNil))) σ H (decide (x < t.a)) := et_B (ev_tab tb h (ea_cons hx ea_nil) (sv_has_x tb))
theorem et_hasy (tb : Tab a H p t O) (h : Ev te σ H (.ref p)) (hx : Ev tx σ H (vI x)) : EvT (tB (tMeth a.C_Table "has_y" (sp_Table_has_y a K) [] E0 te (tCons tx tNil))) σ H (decide (x < t.b)) := et_B (ev_tab tb h (ea_cons hx ea_nil) (sv_has_y tb))
end
theorem not_or {x a y b : Nat} : (!decide (x < a) || !decide (y < b)) = true ↔ a ≤ x ∨ b ≤ y := by
  simp
theorem not_or' {x a y b : Nat} (h : (!decide (x < a) || !decide (y < b)) = false) : x < a ∧ y < b := by
  simpa using h
theorem len_reply_may (a : Ad) (K : PySem.W.Frag) (vs : List V) (H : Hp) (Q : VK) (E : XK) (h : sp_reply_may a K vs H Q E) : vs.length = 3 := by
  obtain ⟨p, t, O, x, y, rfl, _⟩ := h
  rfl
theorem pure_reply_may (T : Txt K mg a) (vs : List V) (H : Hp) (Q : VK) (E : XK) (h : sp_reply_may a K vs H Q E) : t_reply_may a K (ends Q) (start N_reply_may vs) H := by
  obtain ⟨p, t, O, x, y, rfl, tb, k⟩ := h
  refine q_when (et_or (et_not (et_hasx tb (ev_var rfl) (ev_var rfl))) fun _ => et_not (et_hasy tb (ev_var rfl) (ev_var rfl))) (fun hb H1 e1 => ?_) (fun hb H1 e1 => ?_)
  · refine s_no ?_ (k.mono e1)
    show ansL (if t.a ≤ x ∨ t.b ≤ y then _ else _) = _
    rw [if_pos (not_or.mp hb)]
    rfl
  · obtain ⟨lx, ly⟩ := not_or' hb
    have tb1 := tb.mono e1
    refine s_retL (el_call1 (ea_cons (ev_tab tb1 (ev_var rfl) (ea_cons (ev_var rfl) (ea_cons (ev_var rfl) ea_nil)) (sv_comes tb1 lx ly)) ea_nil) sl_yes) ((k.mono e1).as ?_)
    show ansL (if t.a ≤ x ∨ t.b ≤ y then _ else _) = _
    rw [if_neg (by omega), ansL_yes]
theorem len_reply_mixed (a : Ad) (K : PySem.W.Frag) (vs : List V) (H : Hp) (Q : VK) (E : XK) (h : sp_reply_mixed a K vs H Q E) : vs.length = 3 := by
  obtain ⟨p, t, O, x, y, rfl, _⟩ := h
  rfl
theorem pure_reply_mixed (T : Txt K mg a) (vs : List V) (H : Hp) (Q : VK) (E : XK) (h : sp_reply_mixed a K vs H Q E) : t_reply_mixed a K (ends Q) (start N_reply_mixed vs) H := by
  obtain ⟨p, t, O, x, y, rfl, tb, k⟩ := h
  refine q_when (et_or (et_not (et_hasx tb (ev_var rfl) (ev_var rfl))) fun _ => et_not (et_hasx tb (ev_var rfl) (ev_var rfl))) (fun hb H1 e1 => ?_) (fun hb H1 e1 => ?_)
  · refine s_no ?_ (k.mono e1)
    show ansL (if t.a ≤ x ∨ t.a ≤ y then _ else _) = _
    rw [if_pos (not_or.mp hb)]
    rfl
  · obtain ⟨lx, ly⟩ := not_or' hb
    have tb1 := tb.mono e1
    refine s_retL (el_call1 (ea_cons (ev_tab tb1 (ev_var rfl) (ea_cons (ev_var rfl) (ea_cons (ev_var rfl) ea_nil)) (sv_mixed tb1 lx ly)) ea_nil) sl_yes) ((k.mono e1).as ?_)
    show ansL (if t.a ≤ x ∨ t.a ≤ y then _ else _) = _
    rw [if_neg (by omega), ansL_yes]
theorem len_reply_mixed_with (a : Ad) (K : PySem.W.Frag) (vs : List V) (H : Hp) (Q : VK) (E : XK) (h : sp_reply_mixed_with a K vs H Q E) : vs.length = 2 := by
  obtain ⟨p, t, O, x, rfl, _⟩ := h
  rfl
theorem filter_small {t : Abs} (wf : WF t) (f : Nat → Bool) : ((Kh414.xs t).filter f).length ≤ 5 := by
  have h1 := List.length_filter_le f (Kh414.xs t)
  unfold Kh414.xs at *
  rw [List.length_range] at h1
  have := wf.a5
  omega
/-- return counted(e), e a new list of whole numbers -/
theorem el_counted {σ : L2.St} {H : Hp} {te : TE} {l : List Nat} (h : EvL te σ H (nums l)) (hl : l.length ≤ 1000) : EvL (tCall (sp_counted a K) [] E0 (tCons te tNil)) σ H (vI l.length :: nums l) := by
  refine el_callR (EvL.r h) fun q H1 e1 h1 => ?_
  have z := sl_counted (a := a) (K := K) h1 (by rw [nums_len]; exact hl)
  rw [nums_len] at z
  exact z
theorem pure_reply_mixed_with (T : Txt K mg a) (vs : List V) (H : Hp) (Q : VK) (E : XK) (h : sp_reply_mixed_with a K vs H Q E) : t_reply_mixed_with a K (ends Q) (start N_reply_mixed_with vs) H := by
  obtain ⟨p, t, O, x, rfl, tb, k⟩ := h
  refine q_when (et_not (et_hasx tb (ev_var rfl) (ev_var rfl))) (fun hb H1 e1 => ?_) (fun hb H1 e1 => ?_)
  · refine s_no ?_ (k.mono e1)
    show ansL (if t.a ≤ x then _ else _) = _
    rw [if_pos (by simpa using hb)]
    rfl
  · have lx : x < t.a := by simpa using hb
    have tb1 := tb.mono e1
    refine s_retL (el_counted (el_tab tb1 (ev_var rfl) (ea_cons (ev_var rfl) ea_nil) (sl_mixed_with tb1 lx)) (by have := filter_small tb.wf (Kh414.mixed t x); omega)) ((k.mono e1).as ?_)
    show ansL (if t.a ≤ x then _ else _) = _
    rw [if_neg (by omega), ansL_nats]
theorem len_reply_good (a : Ad) (K : PySem.W.Frag) (vs : List V) (H : Hp) (Q : VK) (E : XK) (h : sp_reply_good a K vs H Q E) : vs.length = 2 := by
  obtain ⟨p, t, O, l, f, rfl, _⟩ := h
  rfl
theorem okF_len {t : Abs} {f : List Nat} (h : Kh414.okF t f = true) : f.length = t.a := by
  unfold Kh414.okF at h
  rw [Bool.and_eq_true, decide_eq_true_iff] at h
  exact h.1
theorem et_wrong {σ : L2.St} {H : Hp} {p l : Addr} {t : Abs} {O : Addr → Prop} {f : List Nat} {te tl : TE} (T : Txt K mg a) (tb : Tab a H p t O) (hf : SqL K H l (nums f)) (hl : f.length ≤ 2000) (h1 : Ev tl σ H (.ref l)) (h2 : Ev te σ H (.ref p)) : EvT (tB (tCall (sp_wrong_letters a K) [] E0 (tCons tl (tCons (tFld K te "x_count") tNil)))) σ H (!Kh414.okF t f) :=
  et_B (ev_call1 (ea_cons h1 (ea_cons (ev_xc T tb h2) ea_nil)) (sv_wrong hf hl))
theorem pure_reply_good (T : Txt K mg a) (vs : List V) (H : Hp) (Q : VK) (E : XK) (h : sp_reply_good a K vs H Q E) : t_reply_good a K (ends Q) (start N_reply_good vs) H := by
  obtain ⟨p, t, O, l, f, rfl, tb, hf, hl, k⟩ := h
  refine q_when (et_wrong T tb hf hl (ev_var rfl) (ev_var rfl)) (fun hb H1 e1 => ?_) (fun hb H1 e1 => ?_)
  · refine s_no ?_ (k.mono e1)
    show ansL (if Kh414.okF t f = false then _ else _) = _
    rw [if_pos (by simpa using hb)]
    rfl
  · have ok : Kh414.okF t f = true := by simpa using hb
    refine s_retL (el_call1 (ea_cons (ev_call1 (ea_cons (ev_var rfl) (ea_cons (ev_var rfl) ea_nil)) (sv_do (tb.mono e1) (ex_l e1 hf) (okF_len ok))) ea_nil) sl_yes) ((k.mono e1).as ?_)
    show ansL (if Kh414.okF t f = false then _ else _) = _
    rw [if_neg (by rw [ok]; decide), ansL_yes]
theorem len_reply_clash (a : Ad) (K : PySem.W.Frag) (vs : List V) (H : Hp) (Q : VK) (E : XK) (h : sp_reply_clash a K vs H Q E) : vs.length = 2 := by
  obtain ⟨p, t, O, l, f, rfl, _⟩ := h
  rfl
theorem does_clash (t : Abs) (f : List Nat) (h : Kh414.okF t f = true) : ansL (Kh414.does t (.clash f)).2 = if (clashL t f).length = 0 then [.int (-33)] else nums (clashL t f) := by
  have e : (Kh414.does t (.clash f)).2 = match clash t f with
    | none => Kh414.say (-33)
    | some p => Kh414.nats p.1 [p.2.1, p.2.2] := by
    show (if Kh414.okF t f = false then _ else _) = _
    rw [if_neg (by rw [h]; decide)]
    rfl
  rw [e]
  unfold clashL
  cases clash t f with
  | none => rfl
  | some p =>
    rw [if_neg (by simp)]
    show ansL (Kh414.nats p.1 [p.2.1, p.2.2]) = _
    rw [ansL_nats]
    rfl
theorem pure_reply_clash (T : Txt K mg a) (vs : List V) (H : Hp) (Q : VK) (E : XK) (h : sp_reply_clash a K vs H Q E) : t_reply_clash a K (ends Q) (start N_reply_clash vs) H := by
  obtain ⟨p, t, O, l, f, rfl, tb, hf, hl, k⟩ := h
  refine q_when (et_wrong T tb hf hl (ev_var rfl) (ev_var rfl)) (fun hb H1 e1 => ?_) (fun hb H1 e1 => ?_)
  · refine s_no ?_ (k.mono e1)
    show ansL (if Kh414.okF t f = false then _ else _) = _
    rw [if_pos (by simpa using hb)]
    rfl
  · have ok : Kh414.okF t f = true := by simpa using hb
    rw [does_clash t f ok] at k
    refine q_asgL (el_call1 (ea_cons (ev_var rfl) (ea_cons (ev_var rfl) ea_nil)) (sl_clash (tb.mono e1) (ex_l e1 hf) (okF_len ok))) fun r H2 hr e2 h2 => ?_
    have e12 := e1.trans e2
    refine q_when (b := (clashL t f).length == 0) (et_is (et_test (ev_op (ev_len (ev_var rfl) (sq_of h2)) ev_c (rv_eq rfl))) (by rw [nums_len]; exact dec_vI (z := 0))) (fun hc H3 e3 => ?_) (fun hc H3 e3 => ?_)
    · rw [if_pos (by simpa using hc)] at k
      exact s_no rfl (k.mono (e12.trans e3))
    · rw [if_neg (by simpa using hc)] at k
      exact s_ret (v := .ref r) (ev_var rfl) fun H4 e4 => k r H4 (fresh_back e1 hr) ((e12.trans e3).trans e4) (e4 _ _ (e3 _ _ h2))
theorem len_reply_fewest (a : Ad) (K : PySem.W.Frag) (vs : List V) (H : Hp) (Q : VK) (E : XK) (h : sp_reply_fewest a K vs H Q E) : vs.length = 1 := by
  obtain ⟨p, t, O, rfl, _⟩ := h
  rfl
theorem best_ne {t : Abs} (wf : WF t) : Kh414.best t ≠ [] ∧ (Kh414.best t).length = t.a := by
  have hp := ways_pos wf
  obtain ⟨hk1, hk2⟩ := foldl_min_le Kh414.used (Kh414.ways t) t.a
  have hs : ((Kh414.ways t).find? fun f => Kh414.used f == (Kh414.ways t).foldl (fun r f => min r (Kh414.used f)) t.a).isSome = true := by
    rw [List.find?_isSome]
    rcases foldl_min_is Kh414.used (Kh414.ways t) t.a with h | ⟨f, hf, h⟩
    · obtain ⟨f, hf⟩ := List.exists_mem_of_length_pos hp
      refine ⟨f, hf, ?_⟩
      have h1 := hk2 f hf
      have h2 := (ways_at wf hf).2
      rw [beq_iff_eq]
      omega
    · exact ⟨f, hf, by rw [h]; exact beq_self_eq_true _⟩
  obtain ⟨f, hf⟩ := Option.isSome_iff_exists.mp hs
  have e : Kh414.best t = f := by
    unfold Kh414.best
    show (((Kh414.ways t).find? fun f' => Kh414.used f' == (Kh414.ways t).foldl (fun r f => min r (Kh414.used f)) t.a).getD []) = f
    rw [hf]
    rfl
  have hm := List.mem_of_find?_eq_some hf
  rw [e]
  exact ⟨ways_ne wf hm, (ways_at wf hm).1⟩
theorem pure_reply_fewest (T : Txt K mg a) (vs : List V) (H : Hp) (Q : VK) (E : XK) (h : sp_reply_fewest a K vs H Q E) : t_reply_fewest a K (ends Q) (start N_reply_fewest vs) H := by
  obtain ⟨p, t, O, rfl, tb, k⟩ := h
  exact s_retL (el_lst (ea_cons (ev_callX (z := vI (Kh414.used (Kh414.best t))) (ex_call1 (ea_cons (ev_var rfl) ea_nil) (sx_best tb)) fun q H1 e1 h1 => sv_count (sq_of h1) (best_ne tb.wf).1) ea_nil) (Nat.le_of_ble_eq_true rfl)) k
theorem len_reply_best (a : Ad) (K : PySem.W.Frag) (vs : List V) (H : Hp) (Q : VK) (E : XK) (h : sp_reply_best a K vs H Q E) : vs.length = 1 := by
  obtain ⟨p, t, O, rfl, _⟩ := h
  rfl
theorem pure_reply_best (T : Txt K mg a) (vs : List V) (H : Hp) (Q : VK) (E : XK) (h : sp_reply_best a K vs H Q E) : t_reply_best a K (ends Q) (start N_reply_best vs) H := by
  obtain ⟨p, t, O, rfl, tb, k⟩ := h
  have k : RetL (ansL (Kh414.nats (Kh414.fewest t) (Kh414.best t))) H Q := k
  rw [ansL_nats] at k
  refine q_asgX (ex_call1 (ea_cons (ev_var rfl) ea_nil) (sx_best tb)) fun q H1 e1 h1 => ?_
  exact s_retL (el_catLV (el_lst (ea_cons (ev_call1 (ea_cons (ev_var rfl) ea_nil) (sv_count (sq_of h1) (best_ne tb.wf).1)) ea_nil) (Nat.le_of_ble_eq_true rfl)) (ev_var rfl) h1 (by
    rw [nums_len, (best_ne tb.wf).2]
    have := tb.wf.a5
    show 1 + t.a ≤ 100000
    omega)) (k.mono e1)
theorem len_reply_ways (a : Ad) (K : PySem.W.Frag) (vs : List V) (H : Hp) (Q : VK) (E : XK) (h : sp_reply_ways a K vs H Q E) : vs.length = 2 := by
  obtain ⟨p, t, O, n, rfl, _⟩ := h
  rfl
theorem pure_reply_ways (T : Txt K mg a) (vs : List V) (H : Hp) (Q : VK) (E : XK) (h : sp_reply_ways a K vs H Q E) : t_reply_ways a K (ends Q) (start N_reply_ways vs) H := by
  obtain ⟨p, t, O, n, rfl, tb, k⟩ := h
  exact s_retL (el_lst (ea_cons (ev_call1 (ea_cons (ev_var rfl) (ea_cons (ev_var rfl) ea_nil)) (sv_ways tb)) ea_nil) (Nat.le_of_ble_eq_true rfl)) k
end
end LS

namespace LS
open PySem PySem.Spec PyProof.Rows L2 Evl
open Kh414 (Abs)
section
variable {K : PySem.W.Frag} {mg : Str → Option Value} {a : Ad}
theorem Left.mono {H H' : Hp} {p : Addr} {t : Abs} {O : Addr → Prop} {ans : List V} {Q : VK} (e : Ex H H') (k : Left a H p O t ans Q) : Left a H' p O t ans Q := fun H2 O' r hr h2 tb own kept =>
  k H2 O' r (fresh_back e hr) h2 tb (fun b hb => (own b hb).imp id fun h => fresh_back e h) fun b o hb nb => kept b o (e b o hb) nb
/-- behind a change: the answer is a new list -/
theorem left_ret {H H1 : Hp} {p : Addr} {t' : Abs} {O O' : Addr → Prop} {ans : List V} {Q : VK} {σ : L2.St} {te : TE} {nx : L2.St → Hp → Prop} (k : Left a H p O t' ans Q) (tb : Tab a H1 p t' O') (own : ∀ b, O' b → O b ∨ H b = none) (kept : ∀ b o, H b = some o → ¬ O b → H1 b = some o)
    (stay : ∀ b, H1 b = none → H b = none) (h : EvL te σ H1 ans) : tRet te { nx := nx, rt := Q } σ H1 :=
  s_retL h fun r H2 hr e2 h2 => k H2 O' r (stay r hr) h2 (tb.mono e2) own fun b o hb nb => e2 _ _ (kept b o hb nb)
theorem Tab.no' {H : Hp} {p : Addr} {t : Abs} {O : Addr → Prop} (h : Tab a H p t O) (m : Str) (hm : (m == "x_count") = false ∧ (m == "y_count") = false ∧ (m == "often") = false) : ∃ dx fs, H p = some (.ins a.C_Table dx fs) ∧ fs.lookup m = none := h.no m hm
theorem len_reply_set (a : Ad) (K : PySem.W.Frag) (vs : List V) (H : Hp) (Q : VK) (E : XK) (h : sp_reply_set a K vs H Q E) : vs.length = 4 := by
  obtain ⟨p, t, O, x, y, w, rfl, _⟩ := h
  rfl
theorem pure_reply_set (T : Txt K mg a) (vs : List V) (H : Hp) (Q : VK) (E : XK) (h : sp_reply_set a K vs H Q E) : t_reply_set a K (ends Q) (start N_reply_set vs) H := by
  obtain ⟨p, t, O, x, y, w, rfl, tb, k⟩ := h
  refine q_when (et_or (et_not (et_hasx tb (ev_var rfl) (ev_var rfl))) fun _ => et_not (et_hasy tb (ev_var rfl) (ev_var rfl))) (fun hb H1 e1 => ?_) (fun hb H1 e1 => ?_)
  · have e : Kh414.does t (.set x y w) = (t, Kh414.say (-2)) := if_pos (not_or.mp hb)
    rw [e] at k
    exact s_no rfl ((k.same tb).mono e1)
  · obtain ⟨lx, ly⟩ := not_or' hb
    have tb1 := tb.mono e1
    refine q_when (b := decide (9 < w)) (et_is (et_test (ev_op (ev_var rfl) ev_c rv_I0)) (dlt (x := 9) (y := w))) (fun hc H2 e2 => ?_) (fun hc H2 e2 => ?_)
    · have e : Kh414.does t (.set x y w) = (t, Kh414.say (-22)) := (if_neg (by omega)).trans (if_pos (of_decide_eq_true hc))
      rw [e] at k
      exact s_no rfl ((k.same tb).mono (e1.trans e2))
    · have e : Kh414.does t (.set x y w) = (setT t x y w, Kh414.say (Kh414.weight t x y)) := (if_neg (by omega)).trans (if_neg (of_decide_eq_false hc))
      rw [e] at k
      have tb2 := tb1.mono e2
      refine q_asg (ev_cell T tb2 (ev_var rfl) (ev_var rfl) (ev_var rfl) lx ly) fun H3 e3 => ?_
      have tb3 := tb2.mono e3
      have e13 := (e1.trans e2).trans e3
      obtain ⟨dx, fs, h1, h2⟩ := tb3.no "put" (by decide +kernel)
      refine q_meth (ev_var rfl) h1 h2 (ea_cons (ev_var rfl) (ea_cons (ev_var rfl) (ea_cons (ev_var rfl) ea_nil))) fun H4 e4 => ?_
      refine ⟨p, t, O, x, y, w, rfl, tb3.mono e4, lx, ly, fun H5 O5 tb5 own5 kept5 stay5 => ?_⟩
      exact left_ret (k.mono (e13.trans e4)) tb5 own5 kept5 stay5 (el_lst (ea_cons (ev_var rfl) ea_nil) (Nat.le_of_ble_eq_true rfl))
theorem len_reply_row (a : Ad) (K : PySem.W.Frag) (vs : List V) (H : Hp) (Q : VK) (E : XK) (h : sp_reply_row a K vs H Q E) : vs.length = 3 := by
  obtain ⟨p, t, O, x, l, r, rfl, _⟩ := h
  rfl
theorem pure_reply_row (T : Txt K mg a) (vs : List V) (H : Hp) (Q : VK) (E : XK) (h : sp_reply_row a K vs H Q E) : t_reply_row a K (ends Q) (start N_reply_row vs) H := by
  obtain ⟨p, t, O, x, l, r, rfl, tb, hr, hl, k⟩ := h
  refine q_when (et_not (et_hasx tb (ev_var rfl) (ev_var rfl))) (fun hb H1 e1 => ?_) (fun hb H1 e1 => ?_)
  · have e : Kh414.does t (.row x r) = (t, Kh414.say (-2)) := if_pos (by simpa using hb)
    rw [e] at k
    exact s_no rfl ((k.same tb).mono e1)
  · have lx : x < t.a := by simpa using hb
    have tb1 := tb.mono e1
    have hr1 := ex_l e1 hr
    refine q_when (et_or (et_test (ev_op (ev_len (ev_var rfl) hr1) (ev_yc T tb1 (ev_var rfl)) (rv_ne rfl))) fun _ => et_B (ev_call1 (ea_cons (ev_var rfl) (ea_cons ev_c ea_nil)) (sv_any_above hr1 hl))) (fun hc H2 e2 => ?_) (fun hc H2 e2 => ?_)
    all_goals rw [nums_len, dec_vI] at hc
    · have e : Kh414.does t (.row x r) = (t, Kh414.say (-22)) := (if_neg (by omega)).trans (if_pos (by
        rw [Bool.or_eq_true] at hc
        rcases hc with h | h
        · left
          simpa using h
        · right
          rw [List.any_eq_true] at h ⊢
          obtain ⟨n, hn, h⟩ := h
          exact ⟨n, hn, by simp at h ⊢; omega⟩))
      rw [e] at k
      exact s_no rfl ((k.same tb).mono (e1.trans e2))
    · rw [Bool.or_eq_false_iff] at hc
      have hlen : r.length = t.b := by simpa using hc.1
      have hany : ¬ (r.any (fun w => decide (9 < w)) = true) := by
        intro h
        rw [List.any_eq_true] at h
        obtain ⟨n, hn, h⟩ := h
        have h2 := List.any_eq_false.mp hc.2 n hn
        simp at h h2
        omega
      have e : Kh414.does t (.row x r) = (rowT t x r, Kh414.say 0) := (if_neg (by omega)).trans (if_neg (fun h => h.elim (fun h => h hlen) hany))
      rw [e] at k
      have tb2 := tb1.mono e2
      obtain ⟨dx, fs, h1, h2⟩ := tb2.no "put_row" (by decide +kernel)
      refine q_meth (ev_var rfl) h1 h2 (ea_cons (ev_var rfl) (ea_cons (ev_var rfl) ea_nil)) fun H4 e4 => ?_
      refine ⟨p, t, O, x, l, r, rfl, tb2.mono e4, lx, ex_l (e2.trans e4) hr1, hlen, fun H5 O5 tb5 own5 kept5 stay5 => ?_⟩
      exact left_ret (k.mono ((e1.trans e2).trans e4)) tb5 own5 kept5 stay5 (el_lst (ea_cons ev_c ea_nil) (Nat.le_of_ble_eq_true rfl))
theorem len_reply_forget (a : Ad) (K : PySem.W.Frag) (vs : List V) (H : Hp) (Q : VK) (E : XK) (h : sp_reply_forget a K vs H Q E) : vs.length = 2 := by
  obtain ⟨p, t, O, y, rfl, _⟩ := h
  rfl
theorem pure_reply_forget (T : Txt K mg a) (vs : List V) (H : Hp) (Q : VK) (E : XK) (h : sp_reply_forget a K vs H Q E) : t_reply_forget a K (ends Q) (start N_reply_forget vs) H := by
  obtain ⟨p, t, O, y, rfl, tb, k⟩ := h
  refine q_when (et_not (et_hasy tb (ev_var rfl) (ev_var rfl))) (fun hb H1 e1 => ?_) (fun hb H1 e1 => ?_)
  · have e : Kh414.does t (.forget y) = (t, Kh414.say (-2)) := if_pos (by simpa using hb)
    rw [e] at k
    exact s_no rfl ((k.same tb).mono e1)
  · have ly : y < t.b := by simpa using hb
    have tb1 := tb.mono e1
    refine q_when (b := t.b == 1) (et_is (et_test (ev_op (ev_yc T tb1 (ev_var rfl)) ev_c (rv_eq rfl))) (dec_vI (z := 1))) (fun hc H2 e2 => ?_) (fun hc H2 e2 => ?_)
    · have e : Kh414.does t (.forget y) = (t, Kh414.say (-6)) := (if_neg (by omega)).trans (if_pos (by simpa using hc))
      rw [e] at k
      exact s_no rfl ((k.same tb).mono (e1.trans e2))
    · have hb1 : t.b ≠ 1 := by simpa using hc
      have e : Kh414.does t (.forget y) = (dropT t y, Kh414.say (t.b - 1 : Nat)) := (if_neg (by omega)).trans (if_neg hb1)
      rw [e] at k
      have tb2 := tb1.mono e2
      obtain ⟨dx, fs, h1, h2⟩ := tb2.no "drop_y" (by decide +kernel)
      refine q_meth (ev_var rfl) h1 h2 (ea_cons (ev_var rfl) ea_nil) fun H4 e4 => ?_
      have b1 := tb.wf.b1
      refine ⟨p, t, O, y, rfl, tb2.mono e4, ly, by omega, fun H5 O5 tb5 own5 kept5 stay5 => ?_⟩
      exact left_ret (k.mono ((e1.trans e2).trans e4)) tb5 own5 kept5 stay5 (el_lst (ea_cons (ev_yc T tb5 (ev_var rfl)) ea_nil) (Nat.le_of_ble_eq_true rfl))
end
end LS

namespace LS
open PySem PySem.Spec PyProof.Rows L2 Evl
open Kh414 (Abs)
section
variable {K : PySem.W.Frag} {mg : Str → Option Value} {a : Ad}
section
variable {σ : L2.St} {H : Hp} {ta te tb tl : TE} {t : TT} {D : Ends} {p : Addr}
theorem dec_int {x y : Int} : decide (V.int x = V.int y) = decide (x = y) := by
  rw [Bool.eq_iff_iff]
  simp
theorem cast_sum : ∀ l : List Nat, (l.map fun (n : Nat) => (n : Int)).sum = ((l.sum : Nat) : Int)
  | [] => rfl
  | n :: l => by
    rw [List.map_cons, List.sum_cons, List.sum_cons, cast_sum l]
    omega
/-- sum of whole numbers that are not below 0 -/
theorem ev_sumNs {l : List Nat} (h : Ev te σ H (.ref p)) (hp : SqL K H p (nums l)) : Ev (tCB (rSum K) (tCons te tNil)) σ H (vI l.sum) := by
  rw [nums_int] at hp
  exact ev_is (ev_sumV h hp) (congrArg V.int (cast_sum l))
theorem ev_sumNn {l : List Nat} (h : EvL te σ H (nums l)) : Ev (tCB (rSum K) (tCons te tNil)) σ H (vI l.sum) := by
  rw [nums_int] at h
  exact ev_is (ev_sumN h) (congrArg V.int (cast_sum l))
theorem tbm_ext {b l : Addr} {xs zs : List V} (hl : H l = some (.lst xs)) (hb : H b = some (.lst zs)) (ha : Ev ta σ H (.ref l)) (h : Ev te σ H (.ref b)) (hz : xs.length + zs.length ≤ sizeLine) (k : ∀ H1, Ex H H1 → D.nx σ (L2.upd H1 l (.lst (xs ++ zs)))) :
    tDrop (tBM K "list" rExtend ta (tCons te tNil)) D σ H := ha H (Ex.refl H) _ fun H1 e1 =>
  ⟨Or.inl ⟨rfl, xs, sq_of (e1 l _ hl)⟩, h H1 e1 _ fun H2 e2 => ⟨l, b, xs, zs, rfl, rfl, (e1.trans e2) _ _ hl, (e1.trans e2) _ _ hb, hz, k H2 (e1.trans e2)⟩⟩
theorem er_catVR {Pr Pq : Addr → Hp → Prop} {xs : List V} (ha : Ev ta σ H (.ref p)) (hp : H p = some (.lst xs)) (hb : EvR tb σ H Pr) (hq : ∀ q H1, Ex H H1 → Pr q H1 → ∃ ys, H1 q = some (.lst ys) ∧ xs.length + ys.length ≤ 100000 ∧ ∀ r H2, Ex H1 H2 → H2 r = some (.lst (xs ++ ys)) → Pq r H2) : EvR (tOp rCat ta tb) σ H Pq := fun H1 e Q k =>
  ha H1 e _ fun H2 e2 => hb H2 (e.trans e2) _ fun q H3 _ e3 h3 => by
    obtain ⟨ys, hys, hl, hk⟩ := hq q H3 ((e.trans e2).trans e3) h3
    exact ⟨p, q, xs, ys, rfl, rfl, ((e.trans e2).trans e3) _ _ hp, hys, sz_of hl, fun r hr => k r _ (fresh_back (e2.trans e3) hr) ((e2.trans e3).trans (Ex.new hr)) (hk r _ (Ex.new hr) upd_same)⟩
theorem EvX.imp {Pr Pq : Addr → Hp → Prop} (h : EvX te σ H Pr) (hi : ∀ q H1, Pr q H1 → Pq q H1) : EvX te σ H Pq := fun H1 e Q k => h H1 e Q fun p H2 e2 h2 => k p H2 e2 (hi p H2 h2)
theorem el_callX {sp : Sp} {Pr : Addr → Hp → Prop} {E : XK} {xs : List V} (h : EvX te σ H Pr) (hr : ∀ p H1, Ex H H1 → Pr p H1 → SpL sp [.ref p] H1 xs) : EvL (tCall sp [] E (tCons te tNil)) σ H xs := fun H1 e Q k =>
  h H1 e _ fun p H2 e2 h2 => hr p H2 (e.trans e2) h2 H2 (Ex.refl H2) Q (fun r H3 hr e3 h3 => k r H3 (fresh_back e2 hr) (e2.trans e3) h3) E
/-- the rows that pass -/
theorem er_filterRows {rows : List (List Nat)} {j : Nat} {vs : List Nat} (h : EvR tl σ H (fun q H2 => RowsAt H2 q rows)) (hw : ∀ x, wipe ((wipe σ vs).set j (some x)) vs = wipe σ vs) (hlen : rows.length ≤ 40000) (P : List Nat → Bool)
    (hv : ∀ x, ((wipe σ vs).set j (some x))[j]? = some (some x)) (ht : ∀ r f H2, Ex H H2 → f ∈ rows → H2 r = some (.lst (nums f)) → EvT t ((wipe σ vs).set j (some (.ref r))) H2 (P f)) :
    EvR (tLc (iList K tl) (gName j) t (tVar j) vs) σ H (fun q H2 => RowsAt H2 q (rows.filter P)) := by
  refine er_lcNR (Pq := fun q H2 => RowsAt H2 q (rows.filter P)) h hw fun r H1 e1 ⟨ps, h1, h2, h3⟩ => ?_
  refine ⟨ps.map fun q => V.ref q.1, fun i => P (ps.getD i (0, [])).2, fun i => V.ref (ps.getD i (0, [])).1, h1, ?_, fun i x H2 e2 hi => ?_, fun i x H2 e2 hi _ => ?_, fun q H2 e2 h4 => ⟨ps.filter fun q => P q.2, ?_, ?_, fun q hq => ?_⟩⟩
  · rw [List.length_map, ← List.length_map (f := (·.2)), h2]
    exact hlen
  · obtain ⟨q, hq, rfl, hm, hg⟩ := rows_item hi
    show EvT _ _ _ (P (ps.getD i (0, [])).2)
    rw [hg]
    exact ht q.1 q.2 H2 (e1.trans e2) (by rw [← h2]; exact List.mem_map.mpr ⟨q, hm, rfl⟩) (e2 _ _ (h3 q hm))
  · obtain ⟨q, hq, rfl, hm, hg⟩ := rows_item hi
    show Ev _ _ _ (V.ref (ps.getD i (0, [])).1)
    rw [hg]
    exact ev_var (hv _)
  · rw [h4, List.length_map, given_filter ps (0, []) (fun q => P q.2) (fun q => V.ref q.1)]
  · rw [map_filter_snd ps P, h2]
  · exact e2 _ _ (h3 q (List.mem_filter.mp hq).1)
/-- the longest row, the first of several -/
theorem ex_maxLen {rows : List (List Nat)} (h : EvR te σ H (fun q H2 => RowsAt H2 q rows)) (hpos : 0 < rows.length) : EvX (tCB (rMaxLen K) (tCons te tNil)) σ H (fun q H2 => ∃ (i : Nat) (g : List Nat), rows[i]? = some g ∧ (∀ (j : Nat) (y : List Nat), rows[j]? = some y → y.length ≤ g.length ∧ (j < i → y.length < g.length)) ∧ H2 q = some (.lst (nums g))) := fun H1 e Q k =>
  h H1 e _ fun r H2 _ e2 ⟨ps, h1, h2, h3⟩ => by
    refine ⟨r, ps.map fun q => V.ref q.1, fun i => (ps.getD i (0, [])).2.length, rfl, sq_of h1, ?_, fun i x hi => ?_, fun i x H3 hi hmax e3 => ?_⟩
    · rw [List.length_map, ← List.length_map (f := (·.2)), h2]
      exact hpos
    · obtain ⟨q, hq, rfl, hm, hg⟩ := rows_item hi
      exact ⟨q.1, nums q.2, rfl, sq_of (h3 q hm), by rw [nums_len]; dsimp only; rw [hg]⟩
    · obtain ⟨q, hq, rfl, hm, hg⟩ := rows_item hi
      refine k q.1 H3 (e2.trans e3) ⟨i, q.2, by rw [← h2, List.getElem?_map, hq]; rfl, fun j y hj => ?_, e3 _ _ (h3 q hm)⟩
      rw [← h2, List.getElem?_map] at hj
      obtain ⟨q', hq', rfl⟩ := Option.map_eq_some_iff.mp hj
      have hjl : j < ps.length := (List.getElem?_eq_some_iff.mp hq').1
      have hg' : ps.getD j (0, []) = q' := by rw [List.getD_eq_getElem?_getD, hq']; rfl
      have z := hmax j (by rw [List.length_map]; exact hjl)
      dsimp only at z
      rw [hg, hg'] at z
      exact z
end
/-! ### Table.xs_with, ever_comes, row_by_row -/
theorem len_Table_xs_with (a : Ad) (K : PySem.W.Frag) (vs : List V) (H : Hp) (Q : VK) (E : XK) (h : sp_Table_xs_with a K vs H Q E) : vs.length = 2 := by
  obtain ⟨p, t, O, y, rfl, _⟩ := h
  rfl
theorem pure_Table_xs_with (T : Txt K mg a) (vs : List V) (H : Hp) (Q : VK) (E : XK) (h : sp_Table_xs_with a K vs H Q E) : t_Table_xs_with a K (ends Q) (start N_Table_xs_with vs) H := by
  obtain ⟨p, t, O, y, rfl, tb, ly, k⟩ := h
  have a5 := tb.wf.a5
  refine s_retL (el_lcR1 (n := (t.a : Int)) (fun x => Kh414.may t x y) vI (ea_cons (ev_xc T tb (ev_var rfl)) ea_nil) (by omega) (fun _ => rfl) (fun i H1 e hi => ?_) (fun i H1 e hi _ => ev_var rfl)) k
  exact et_B (ev_tab (tb.mono e) (ev_var rfl) (ea_cons (ev_var rfl) (ea_cons (ev_var rfl) ea_nil)) (sv_comes (tb.mono e) (by omega) ly))
theorem sl_xs_with {H : Hp} {p : Addr} {t : Abs} {O : Addr → Prop} {y : Nat} (tb : Tab a H p t O) (ly : y < t.b) : SpL (sp_Table_xs_with a K) [.ref p, vI y] H (nums (withY t y)) :=
  fun H1 e Q q _ => ⟨p, t, O, y, rfl, tb.mono e, ly, q⟩
theorem len_Table_ever_comes (a : Ad) (K : PySem.W.Frag) (vs : List V) (H : Hp) (Q : VK) (E : XK) (h : sp_Table_ever_comes a K vs H Q E) : vs.length = 2 := by
  obtain ⟨p, t, O, x, rfl, _⟩ := h
  rfl
theorem pure_Table_ever_comes (T : Txt K mg a) (vs : List V) (H : Hp) (Q : VK) (E : XK) (h : sp_Table_ever_comes a K vs H Q E) : t_Table_ever_comes a K (ends Q) (start N_Table_ever_comes vs) H := by
  obtain ⟨p, t, O, x, rfl, tb, lx, k⟩ := h
  obtain ⟨r, _, hr, hv⟩ := tb.row lx
  exact s_ret (ev_is (ev_op (ev_sumNs (hv T (ev_var rfl) (ev_var rfl)) (sq_of hr)) ev_c rv_I0) (congrArg V.bl (comes_is tb.wf lx))) k
theorem sv_ever {H : Hp} {p : Addr} {t : Abs} {O : Addr → Prop} {x : Nat} (tb : Tab a H p t O) (lx : x < t.a) : SpV (sp_Table_ever_comes a K) [.ref p, vI x] H (.bl (Kh414.comes t x)) :=
  fun H1 e Q q _ => ⟨p, t, O, x, rfl, tb.mono e, lx, q⟩
theorem len_Table_row_by_row (a : Ad) (K : PySem.W.Frag) (vs : List V) (H : Hp) (Q : VK) (E : XK) (h : sp_Table_row_by_row a K vs H Q E) : vs.length = 1 := by
  obtain ⟨p, t, O, rfl, _⟩ := h
  rfl
theorem flat_len {m : Nat} : ∀ {l : List (List Nat)}, (∀ r ∈ l, r.length ≤ m) → (l.flatMap id).length ≤ l.length * m
  | [], _ => by simp
  | r :: l, h => by
    have ih := flat_len (l := l) fun s hs => h s (List.mem_cons_of_mem _ hs)
    have hr := h r List.mem_cons_self
    rw [List.flatMap_cons, List.length_append, List.length_cons, Nat.succ_mul]
    show r.length + _ ≤ _
    omega
theorem nums_app (x y : List Nat) : nums x ++ nums y = nums (x ++ y) := by
  unfold nums
  exact (List.map_append ..).symm
theorem pure_Table_row_by_row (T : Txt K mg a) (vs : List V) (H : Hp) (Q : VK) (E : XK) (h : sp_Table_row_by_row a K vs H Q E) : t_Table_row_by_row a K (ends Q) (start N_Table_row_by_row vs) H := by
  obtain ⟨p, t, O, rfl, tb, k⟩ := h
  obtain ⟨wf, dx, q, rs, h1, h2, h3, h4, h5, h6⟩ := id tb
  have a5 := wf.a5
  have b5 := wf.b5
  refine q_asgL (el_lst ea_nil (Nat.le_of_ble_eq_true rfl)) fun L H1 hL e1 hL1 => ?_
  refine q_forLn (K := K) (a := q) (xs := rs.map V.ref) (ev_fld (ev_var rfl) (e1 _ _ h1) T.cl_Table T.n_Table_often (tF_o t q)) (sq_of (e1 _ _ h2))
    (fun i σ' H' => (∃ vr, σ' = [some (.ref p), some (.ref L), vr]) ∧ Ex H H' ∧ H' L = some (.lst (nums ((t.w.take i).flatMap id)))) (fun H2 e2 => ⟨⟨none, rfl⟩, e1.trans e2, e2 _ _ hL1⟩) (fun i σ' H' _ h => sq_of (h.2.1 _ _ h2)) ?_ ?_
  · rintro i x σ' H' hi ⟨⟨vr, rfl⟩, e, hL'⟩
    rw [List.getElem?_map] at hi
    obtain ⟨r, hr, rfl⟩ := Option.map_eq_some_iff.mp hi
    have hil : i < t.w.length := by
      have := (List.getElem?_eq_some_iff.mp hr).1
      rw [wf.wl, ← h3]
      exact this
    have hw : t.w[i]? = some (t.w.getD i []) := by
      rw [List.getD_eq_getElem?_getD, List.getElem?_eq_getElem hil]
      rfl
    refine tbm_ext (l := L) (b := r) hL' (e _ _ (h5 i r hr)) (ev_var rfl) (ev_var rfl) ?_ fun H2 e2 => ⟨⟨_, rfl⟩, Ex.mut (e.trans e2) hL, ?_⟩
    · have hl1 : ((t.w.take i).flatMap id).length ≤ (t.w.take i).length * 5 := flat_len fun s hs => by
        have := wf.rl s (List.mem_of_mem_take hs)
        omega
      have hl2 : (t.w.take i).length ≤ 5 := by
        rw [List.length_take, wf.wl]
        omega
      have hl3 : (t.w.getD i []).length ≤ 5 := by
        have := wf.rl _ (List.mem_of_getElem? hw)
        omega
      have line : sizeLine = 16777216 := sizeLine_eq
      rw [nums_len, nums_len, line]
      omega
    · rw [upd_same, nums_app, take_more hw, List.flatMap_append]
      simp
  · rintro σ' H' ⟨⟨vr, rfl⟩, e, hL'⟩
    refine s_ret (v := .ref L) (ev_var rfl) fun H2 e2 => k L H2 hL (e.trans e2) ?_
    have hlen : (rs.map V.ref).length = t.w.length := by rw [List.length_map, h3, wf.wl]
    rw [hlen, List.take_length] at hL'
    exact e2 _ _ hL'
theorem sl_rows {H : Hp} {p : Addr} {t : Abs} {O : Addr → Prop} (tb : Tab a H p t O) : SpL (sp_Table_row_by_row a K) [.ref p] H (nums (t.w.flatMap id)) :=
  fun H1 e Q q _ => ⟨p, t, O, rfl, tb.mono e, q⟩
/-! ### groups -/
theorem len_all_groups (a : Ad) (K : PySem.W.Frag) (vs : List V) (H : Hp) (Q : VK) (E : XK) (h : sp_all_groups a K vs H Q E) : vs.length = 1 := by
  obtain ⟨n, rfl, _⟩ := h
  rfl
theorem pure_all_groups (T : Txt K mg a) (vs : List V) (H : Hp) (Q : VK) (E : XK) (h : sp_all_groups a K vs H Q E) : t_all_groups a K (ends Q) (start N_all_groups vs) H := by
  obtain ⟨n, rfl, h5, k⟩ := h
  have first : EvR (tLst (tCons (tLst tNil) tNil)) (start N_all_groups [vI n]) H (fun q H2 => RowsAt H2 q (groupsN 0)) := by
    intro H1 e1 Q1 q1
    refine er_lst1 (xs := []) (el_lst ea_nil (Nat.le_of_ble_eq_true rfl)) H1 e1 Q1 fun s H2 hs e2 ⟨r, h3, h4⟩ => q1 s H2 hs e2 ⟨[(r, [])], h3, rfl, fun q hq => ?_⟩
    rw [List.mem_singleton.mp hq]
    exact h4
  refine q_asgR first fun p0 H0 hp0 e0 hr0 => ?_
  refine q_forR1 (n := (n : Int)) (ea_cons (ev_var rfl) ea_nil) (by omega) (fun i σ' H' => ∃ (p : Addr) (vx : Option V), σ' = [some (vI n), some (.ref p), vx, none] ∧ H p = none ∧ Ex H H' ∧ RowsAt H' p (groupsN i)) (fun H1 e1 => ⟨p0, none, rfl, hp0, e0.trans e1, hr0.mono e1⟩) ?_ ?_
  · rintro i σ' H' hi ⟨p, vx, rfl, hp, e, ps, h1, h2, h3⟩
    have hi' : i < 6 := by omega
    have hn : ps.length ≤ 32 := by
      have := (groups_fine i hi').2
      rwa [← h2, List.length_map] at this
    have glen : ∀ j, (ps.getD j (0, [])).2.length ≤ 5 := fun j => by
      rw [List.getD_eq_getElem?_getD]
      cases hj : ps[j]? with
      | none => exact Nat.zero_le 5
      | some q => exact (group_at hi' (by rw [← h2]; exact List.mem_map.mpr ⟨q, List.mem_of_getElem? hj, rfl⟩)).1
    refine s_asgR (Pr := fun r H2 => RowsAt H2 r (groupsN (i + 1))) (er_catVR (ev_var rfl) h1 (er_lcLN (K := K) (a := p) (xs := ps.map fun q => V.ref q.1) (fun j => nums ((ps.getD j (0, [])).2 ++ [i])) (ev_var rfl) (sq_of h1) (by rw [List.length_map]; omega) (fun _ => rfl) fun j x H1 e1 hj => ?_) fun q H1 e1 ⟨n1, n2, rs, n3, n4, n5, n6, n7, n8⟩ => ⟨_, n7, ?_, fun r H2 e2 hr => ?_⟩) ?_
    · obtain ⟨q, hq, rfl, hm, hg⟩ := rows_item hj
      rw [hg]
      have hl5 := glen j
      rw [hg] at hl5
      have ec := el_catVL (H := H1) (σ := [some (vI n), some (.ref p), some (vI i), some (.ref q.1)]) (ta := tVar 3) (tb := tLst (tCons (tVar 2) tNil)) (xs := nums q.2) (ys := [vI i]) (ev_var rfl) (e1 _ _ (h3 q hm)) (el_lst (ea_cons (ev_var rfl) ea_nil) (Nat.le_of_ble_eq_true rfl)) (by
        rw [nums_len]
        show q.2.length + 1 ≤ 100000
        omega)
      have e4 : nums q.2 ++ [vI i] = nums (q.2 ++ [i]) := nums_app q.2 [i]
      rw [e4] at ec
      exact ec
    · rw [List.length_map, List.length_map, n3, List.length_map]
      omega
    · rw [List.length_map] at n3
      refine ⟨ps ++ rs.zip (ps.map fun q => q.2 ++ [i]), ?_, ?_, fun z hz => ?_⟩
      · rw [hr, List.map_append]
        refine congrArg (fun l => some (HO.lst (_ ++ l))) ?_
        have e6 := congrArg (List.map V.ref) (List.map_fst_zip (l₁ := rs) (l₂ := ps.map fun q => q.2 ++ [i]) (by rw [List.length_map]; omega))
        rw [List.map_map] at e6
        exact e6.symm
      · rw [List.map_append, h2, List.map_snd_zip (by rw [List.length_map]; omega)]
        show _ = groupsN i ++ (groupsN i).map (· ++ [i])
        rw [← h2, List.map_map]
        rfl
      · rcases List.mem_append.mp hz with hz | hz
        · exact e2 _ _ (e1 _ _ (h3 z hz))
        · obtain ⟨j, hj⟩ := List.mem_iff_getElem?.mp hz
          obtain ⟨z1, z2⟩ := z
          rw [List.getElem?_zip_eq_some] at hj
          obtain ⟨hj1, hj2⟩ := hj
          rw [List.getElem?_map] at hj2
          obtain ⟨q', hq', hz2⟩ := Option.map_eq_some_iff.mp hj2
          have hg' : ps.getD j (0, []) = q' := by rw [List.getD_eq_getElem?_getD, hq']; rfl
          have z3 := n8 j z1 hj1
          dsimp only at z3
          rw [hg', hz2] at z3
          exact e2 _ _ z3
    · exact fun r H1 hr e1 hR => ⟨r, _, rfl, fresh_back e hr, e.trans e1, hR⟩
  · rintro σ' H' ⟨p, vx, rfl, hp, e, hR⟩
    exact s_ret (v := .ref p) (ev_var rfl) fun H2 e2 => k p H2 hp (e.trans e2) (hR.mono e2)
theorem sr_groups {H : Hp} {n : Nat} (h5 : n ≤ 5) : SpR (sp_all_groups a K) [vI n] H (fun q H2 => RowsAt H2 q (groupsN n)) := fun H1 e Q q _ => ⟨n, rfl, h5, q⟩
theorem len_mixed_within (a : Ad) (K : PySem.W.Frag) (vs : List V) (H : Hp) (Q : VK) (E : XK) (h : sp_mixed_within a K vs H Q E) : vs.length = 2 := by
  obtain ⟨p, t, O, l, g, rfl, _⟩ := h
  rfl
theorem getD_mem {g : List Nat} {i : Nat} (h : i < g.length) : g.getD i 0 ∈ g := by
  rw [List.getD_eq_getElem?_getD, List.getElem?_eq_getElem h]
  exact List.getElem_mem h
theorem pure_mixed_within (T : Txt K mg a) (vs : List V) (H : Hp) (Q : VK) (E : XK) (h : sp_mixed_within a K vs H Q E) : t_mixed_within a K (ends Q) (start N_mixed_within vs) H := by
  obtain ⟨p, t, O, l, g, rfl, tb, hg, hlt, h5, k⟩ := h
  refine q_asg (v := vI 0) ev_c fun H1 e1 => ?_
  refine q_forLn (K := K) (a := l) (xs := nums g) (ev_var rfl) (ex_l e1 hg) (fun i σ' H' => (∃ vx, σ' = [some (.ref p), some (.ref l), some (vI ((g.take i).map fun x => (g.filter (Kh414.mixed t x)).length).sum), vx, none]) ∧ Ex H H') (fun H2 e2 => ⟨⟨none, rfl⟩, e1.trans e2⟩) (fun i σ' H' _ h => ex_l h.2 hg) ?_ ?_
  · rintro i x σ' H' hi ⟨⟨vx, rfl⟩, e⟩
    obtain ⟨hil, rfl⟩ := nums_at hi
    have tb' := tb.mono e
    have hx := hlt _ (getD_mem hil)
    have comp : EvL (tLc (iList K (tVar 1)) (gName 4) (tB (tMeth a.C_Table "are_mixed" (sp_Table_are_mixed a K) [] E0 (tVar 0) (tCons (tVar 3) (tCons (tVar 4) tNil)))) (tVar 4) [4]) [some (.ref p), some (.ref l), some (vI ((g.take i).map fun x => (g.filter (Kh414.mixed t x)).length).sum), some (vI (g.getD i 0)), none] H' (nums (g.filter (Kh414.mixed t (g.getD i 0)))) := by
      have z := el_lcL (K := K) (a := l) (xs := nums g) (te := tVar 4) (t := tB (tMeth a.C_Table "are_mixed" (sp_Table_are_mixed a K) [] E0 (tVar 0) (tCons (tVar 3) (tCons (tVar 4) tNil)))) (tl := tVar 1) (j := 4) (vs := [4]) (H := H') (σ := [some (.ref p), some (.ref l), some (vI ((g.take i).map fun x => (g.filter (Kh414.mixed t x)).length).sum), some (vI (g.getD i 0)), none])
        (fun j => Kh414.mixed t (g.getD i 0) (g.getD j 0)) (fun j => vI (g.getD j 0)) (ev_var rfl) (ex_l e hg) (by rw [nums_len]; omega) (fun _ => rfl) (fun j y H2 e2 hj => ?_) (fun j y H2 e2 hj _ => ?_)
      · rw [nums_len, given_filter g 0 (Kh414.mixed t (g.getD i 0)) vI] at z
        exact z
      · obtain ⟨hjl, rfl⟩ := nums_at hj
        exact et_B (ev_tab (tb'.mono e2) (ev_var rfl) (ea_cons (ev_var rfl) (ea_cons (ev_var rfl) ea_nil)) (sv_mixed (tb'.mono e2) hx (hlt _ (getD_mem hjl))))
      · obtain ⟨hjl, rfl⟩ := nums_at hj
        exact ev_var rfl
    refine s_asg (v := vI ((g.take (i + 1)).map fun x => (g.filter (Kh414.mixed t x)).length).sum) (ev_is (ev_op (ev_var rfl) (ev_lenN comp) rv_I0) (congrArg V.int ?_)) fun H2 e2 => ⟨⟨_, rfl⟩, e.trans e2⟩
    have hgi : g[i]? = some (g.getD i 0) := by
      rw [List.getD_eq_getElem?_getD, List.getElem?_eq_getElem hil]
      rfl
    rw [nums_len, take_more hgi, List.map_append, List.sum_append]
    simp
  · rintro σ' H' ⟨⟨vx, rfl⟩, e⟩
    refine s_ret (v := vI (mw t g)) (ev_is (ev_var rfl) ?_) fun H2 e2 => k H2 (e.trans e2)
    rw [nums_len, List.take_length]
    rfl
theorem sv_within {H : Hp} {p l : Addr} {t : Abs} {O : Addr → Prop} {g : List Nat} (tb : Tab a H p t O) (hg : SqL K H l (nums g)) (hlt : ∀ x ∈ g, x < t.a) (h5 : g.length ≤ 5) : SpV (sp_mixed_within a K) [.ref p, .ref l] H (vI (mw t g)) :=
  fun H1 e Q q _ => ⟨p, t, O, l, g, rfl, tb.mono e, ex_l e hg, hlt, h5, q⟩
theorem len_is_all_mixed (a : Ad) (K : PySem.W.Frag) (vs : List V) (H : Hp) (Q : VK) (E : XK) (h : sp_is_all_mixed a K vs H Q E) : vs.length = 2 := by
  obtain ⟨p, t, O, l, g, rfl, _⟩ := h
  rfl
theorem pure_is_all_mixed (T : Txt K mg a) (vs : List V) (H : Hp) (Q : VK) (E : XK) (h : sp_is_all_mixed a K vs H Q E) : t_is_all_mixed a K (ends Q) (start N_is_all_mixed vs) H := by
  obtain ⟨p, t, O, l, g, rfl, tb, hg, hlt, h5, nd, k⟩ := h
  have hl := nums_len g
  refine s_ret (ev_is (ev_op (ev_call1 (ea_cons (ev_var rfl) (ea_cons (ev_var rfl) ea_nil)) (sv_within tb hg hlt h5)) (ev_op (ev_len (ev_var rfl) hg) (ev_op (ev_len (ev_var rfl) hg) ev_c rv_I0) (rv_I (Or.inl ⟨by omega, by omega⟩))) (rv_eq rfl)) (congrArg V.bl ?_)) k
  rw [dec_int, hl]
  exact allM_is t nd
theorem sv_allM {H : Hp} {p l : Addr} {t : Abs} {O : Addr → Prop} {g : List Nat} (tb : Tab a H p t O) (hg : SqL K H l (nums g)) (hlt : ∀ x ∈ g, x < t.a) (h5 : g.length ≤ 5) (nd : g.Nodup) : SpV (sp_is_all_mixed a K) [.ref p, .ref l] H (.bl (allM t g)) :=
  fun H1 e Q q _ => ⟨p, t, O, l, g, rfl, tb.mono e, ex_l e hg, hlt, h5, nd, q⟩
theorem len_is_none_mixed (a : Ad) (K : PySem.W.Frag) (vs : List V) (H : Hp) (Q : VK) (E : XK) (h : sp_is_none_mixed a K vs H Q E) : vs.length = 2 := by
  obtain ⟨p, t, O, l, g, rfl, _⟩ := h
  rfl
theorem pure_is_none_mixed (T : Txt K mg a) (vs : List V) (H : Hp) (Q : VK) (E : XK) (h : sp_is_none_mixed a K vs H Q E) : t_is_none_mixed a K (ends Q) (start N_is_none_mixed vs) H := by
  obtain ⟨p, t, O, l, g, rfl, tb, hg, hlt, h5, k⟩ := h
  refine s_ret (ev_is (ev_op (ev_call1 (ea_cons (ev_var rfl) (ea_cons (ev_var rfl) ea_nil)) (sv_within tb hg hlt h5)) ev_c (rv_eq rfl)) (congrArg V.bl ?_)) k
  rw [← noneM_is]
  exact dec_vI (z := 0)
theorem sv_noneM {H : Hp} {p l : Addr} {t : Abs} {O : Addr → Prop} {g : List Nat} (tb : Tab a H p t O) (hg : SqL K H l (nums g)) (hlt : ∀ x ∈ g, x < t.a) (h5 : g.length ≤ 5) : SpV (sp_is_none_mixed a K) [.ref p, .ref l] H (.bl (noneM t g)) :=
  fun H1 e Q q _ => ⟨p, t, O, l, g, rfl, tb.mono e, ex_l e hg, hlt, h5, q⟩
theorem len_greatest_all_mixed (a : Ad) (K : PySem.W.Frag) (vs : List V) (H : Hp) (Q : VK) (E : XK) (h : sp_greatest_all_mixed a K vs H Q E) : vs.length = 1 := by
  obtain ⟨p, t, O, rfl, _⟩ := h
  rfl
theorem pure_greatest_all_mixed (T : Txt K mg a) (vs : List V) (H : Hp) (Q : VK) (E : XK) (h : sp_greatest_all_mixed a K vs H Q E) : t_greatest_all_mixed a K (ends Q) (start N_greatest_all_mixed vs) H := by
  obtain ⟨p, t, O, rfl, tb, k⟩ := h
  have a5 := tb.wf.a5
  refine s_retX (EvX.imp (ex_maxLen (rows := (groupsN t.a).filter (allM t)) (er_filterRows (er_call1 (ea_cons (ev_xc T tb (ev_var rfl)) ea_nil) (sr_groups a5)) (fun _ => rfl) (by have := (groups_fine t.a (by omega)).2; omega) (allM t) (fun _ => rfl) fun r f H2 e2 hf hr => ?_) ?_) fun q H1 ⟨i, g, hi, hm, hq⟩ => ?_) k
  · obtain ⟨g1, g2, g3⟩ := group_at (by omega) hf
    exact et_B (ev_call1 (ea_cons (ev_var rfl) (ea_cons (ev_var rfl) ea_nil)) (sv_allM (tb.mono e2) (sq_of hr) g2 g1 g3))
  · exact List.length_pos_of_mem (List.mem_filter.mpr ⟨empty_group t.a (by omega), rfl⟩)
  · rw [great_group a5 (fun s => allMixed_is t s) hi hm]
    exact hq
theorem sx_gall {H : Hp} {p : Addr} {t : Abs} {O : Addr → Prop} (tb : Tab a H p t O) : SpX (sp_greatest_all_mixed a K) [.ref p] H (fun q H2 => H2 q = some (.lst (nums (Kh414.members t.a (Kh414.greatest t (Kh414.allMixed t)))))) := fun H1 e Q q _ => ⟨p, t, O, rfl, tb.mono e, q⟩
theorem len_greatest_none_mixed (a : Ad) (K : PySem.W.Frag) (vs : List V) (H : Hp) (Q : VK) (E : XK) (h : sp_greatest_none_mixed a K vs H Q E) : vs.length = 1 := by
  obtain ⟨p, t, O, rfl, _⟩ := h
  rfl
theorem pure_greatest_none_mixed (T : Txt K mg a) (vs : List V) (H : Hp) (Q : VK) (E : XK) (h : sp_greatest_none_mixed a K vs H Q E) : t_greatest_none_mixed a K (ends Q) (start N_greatest_none_mixed vs) H := by
  obtain ⟨p, t, O, rfl, tb, k⟩ := h
  have a5 := tb.wf.a5
  refine s_retX (EvX.imp (ex_maxLen (rows := (groupsN t.a).filter (noneM t)) (er_filterRows (er_call1 (ea_cons (ev_xc T tb (ev_var rfl)) ea_nil) (sr_groups a5)) (fun _ => rfl) (by have := (groups_fine t.a (by omega)).2; omega) (noneM t) (fun _ => rfl) fun r f H2 e2 hf hr => ?_) ?_) fun q H1 ⟨i, g, hi, hm, hq⟩ => ?_) k
  · obtain ⟨g1, g2, g3⟩ := group_at (by omega) hf
    exact et_B (ev_call1 (ea_cons (ev_var rfl) (ea_cons (ev_var rfl) ea_nil)) (sv_noneM (tb.mono e2) (sq_of hr) g2 g1))
  · exact List.length_pos_of_mem (List.mem_filter.mpr ⟨empty_group t.a (by omega), rfl⟩)
  · rw [great_group a5 (fun s => noneMixed_is t s) hi hm]
    exact hq
theorem sx_gnone {H : Hp} {p : Addr} {t : Abs} {O : Addr → Prop} (tb : Tab a H p t O) : SpX (sp_greatest_none_mixed a K) [.ref p] H (fun q H2 => H2 q = some (.lst (nums (Kh414.members t.a (Kh414.greatest t (Kh414.noneMixed t)))))) := fun H1 e Q q _ => ⟨p, t, O, rfl, tb.mono e, q⟩
end
end LS

namespace LS
open PySem PySem.Spec PyProof.Rows L2 Evl
open Kh414 (Abs)
section
variable {K : PySem.W.Frag} {mg : Str → Option Value} {a : Ad}
/-! ### right -/
theorem len_right_with_y (a : Ad) (K : PySem.W.Frag) (vs : List V) (H : Hp) (Q : VK) (E : XK) (h : sp_right_with_y a K vs H Q E) : vs.length = 3 := by
  obtain ⟨p, t, O, l, f, y, rfl, _⟩ := h
  rfl
theorem pure_right_with_y (T : Txt K mg a) (vs : List V) (H : Hp) (Q : VK) (E : XK) (h : sp_right_with_y a K vs H Q E) : t_right_with_y a K (ends Q) (start N_right_with_y vs) H := by
  obtain ⟨p, t, O, l, f, y, rfl, tb, hf, ok, ly, k⟩ := h
  have a5 := tb.wf.a5
  have fl := okN_len ok
  have first := el_rep (σ := start N_right_with_y [.ref p, .ref l, vI y]) (H := H) (ta := tLst (tCons (tC (.int 0)) tNil)) (tb := tFld K (tVar 0) "x_count") (xs := [.int 0]) (n := t.a) (el_lst (ea_cons ev_c ea_nil) (Nat.le_of_ble_eq_true rfl)) (ev_xc T tb (ev_var rfl)) (by show 1 * t.a ≤ 100000; omega) (by omega)
  rw [rep_nums, ← ofts_zero t f y] at first
  refine q_asgL first fun L H1 hL e1 hL1 => ?_
  refine q_forR1 (n := (t.a : Int)) (ea_cons (ev_xc T (tb.mono e1) (ev_var rfl)) ea_nil) (by omega) (fun i σ' H' => (∃ vx, σ' = [some (.ref p), some (.ref l), some (vI y), some (.ref L), vx]) ∧ Ex H H' ∧ H' L = some (.lst (nums (ofts t f y i)))) (fun H2 e2 => ⟨⟨none, rfl⟩, e1.trans e2, e2 _ _ hL1⟩) ?_ ?_
  · rintro i σ' H' hi ⟨⟨vx, rfl⟩, e, hL'⟩
    have hi' : i < t.a := by omega
    have tb' := tb.mono e
    have hf' := ex_l e hf
    have hc : f.getD i 0 < t.a := okN_lt ok _ (getD_mem (by omega))
    refine s_setL (l := L) (xs := nums (ofts t f y i)) (j := f.getD i 0) (v := vI (max (oft t f y i (f.getD i 0)) (Kh414.weight t i y))) hL' (ev_is (ev_max2 (ev_letter (ev_var rfl) (sq_of hL') (ev_letter (ev_var rfl) hf' (ev_var rfl) (by omega)) (by rw [ofts_len]; exact hc)) (ev_cell T tb' (ev_var rfl) (ev_var rfl) (ev_var rfl) hi' ly)) (congrArg V.int ?_)) (ev_var rfl) (ev_letter (ev_var rfl) hf' (ev_var rfl) (by omega)) (by rw [nums_len, ofts_len]; exact hc) fun H2 e2 => ⟨⟨_, rfl⟩, Ex.mut (e.trans e2) hL, ?_⟩
    · rw [ofts_get t f y i hc]
      split <;> omega
    · rw [upd_same, nums_set, ofts_more t f y i hc]
  · rintro σ' H' ⟨⟨vx, rfl⟩, e, hL'⟩
    exact s_ret (ev_sumNs (ev_var rfl) (sq_of hL')) fun H2 e2 => k H2 (e.trans e2)
theorem sv_rightY {H : Hp} {p l : Addr} {t : Abs} {O : Addr → Prop} {f : List Nat} {y : Nat} (tb : Tab a H p t O) (hf : SqL K H l (nums f)) (ok : okN t.a f = true) (ly : y < t.b) : SpV (sp_right_with_y a K) [.ref p, .ref l, vI y] H (vI (rightY t f y)) :=
  fun H1 e Q q _ => ⟨p, t, O, l, f, y, rfl, tb.mono e, ex_l e hf, ok, ly, q⟩
theorem given_map (n : Nat) (v : Nat → Nat) : given n (fun _ => true) (fun i => vI (v i)) = nums ((List.range n).map v) := by
  unfold given nums
  rw [List.filter_eq_self.mpr (fun _ _ => rfl), List.map_map]
  rfl
theorem len_how_often_right (a : Ad) (K : PySem.W.Frag) (vs : List V) (H : Hp) (Q : VK) (E : XK) (h : sp_how_often_right a K vs H Q E) : vs.length = 2 := by
  obtain ⟨p, t, O, l, f, rfl, _⟩ := h
  rfl
theorem pure_how_often_right (T : Txt K mg a) (vs : List V) (H : Hp) (Q : VK) (E : XK) (h : sp_how_often_right a K vs H Q E) : t_how_often_right a K (ends Q) (start N_how_often_right vs) H := by
  obtain ⟨p, t, O, l, f, rfl, tb, hf, ok, k⟩ := h
  have b5 := tb.wf.b5
  have comp := el_lcR1 (σ := start N_how_often_right [.ref p, .ref l]) (H := H) (ta := tCons (tFld K (tVar 0) "y_count") tNil) (t := tYes) (te := tCall (sp_right_with_y a K) [] E0 (tCons (tVar 0) (tCons (tVar 1) (tCons (tVar 2) tNil)))) (j := 2) (vs := [2]) (n := (t.b : Int)) (fun _ => true) (fun y => vI (rightY t f y)) (ea_cons (ev_yc T tb (ev_var rfl)) ea_nil) (by omega) (fun _ => rfl) (fun i H1 e hi => et_yes) (fun i H1 e hi _ => ev_call1 (ea_cons (ev_var rfl) (ea_cons (ev_var rfl) (ea_cons (ev_var rfl) ea_nil))) (sv_rightY (tb.mono e) (ex_l e hf) ok (by omega)))
  rw [given_map] at comp
  exact s_ret (ev_sumNn comp) k
theorem sv_right {H : Hp} {p l : Addr} {t : Abs} {O : Addr → Prop} {f : List Nat} (tb : Tab a H p t O) (hf : SqL K H l (nums f)) (ok : okN t.a f = true) : SpV (sp_how_often_right a K) [.ref p, .ref l] H (vI (Kh414.right t f)) :=
  fun H1 e Q q _ => ⟨p, t, O, l, f, rfl, tb.mono e, ex_l e hf, ok, q⟩
/-! ### twos -/
def FilledP (L : Addr) (acc : List (Addr × (Nat × Nat))) (H : Hp) : Prop := H L = some (.lst (acc.map fun q => V.ref q.1)) ∧ ∀ q ∈ acc, q.1 ≠ L ∧ H q.1 = some (.tup [vI q.2.1, vI q.2.2])
theorem FilledP.mono {L : Addr} {acc : List (Addr × (Nat × Nat))} {H H' : Hp} (e : Ex H H') (h : FilledP L acc H) : FilledP L acc H' := ⟨e _ _ h.1, fun q hq => ⟨(h.2 q hq).1, e _ _ (h.2 q hq).2⟩⟩
theorem FilledP.more {L r : Addr} {acc : List (Addr × (Nat × Nat))} {H : Hp} {f : Nat × Nat} (h : FilledP L acc H) (hr : H r = some (.tup [vI f.1, vI f.2])) (hne : r ≠ L) : FilledP L (acc ++ [(r, f)]) (upd H L (.lst ((acc.map fun q => V.ref q.1) ++ [.ref r]))) := by
  refine ⟨?_, fun q hq => ?_⟩
  · rw [upd_same, List.map_append]
    rfl
  · rcases List.mem_append.mp hq with hq | hq
    · exact ⟨(h.2 q hq).1, by rw [upd_ne (h.2 q hq).1]; exact (h.2 q hq).2⟩
    · rw [List.mem_singleton.mp hq]
      exact ⟨hne, by rw [upd_ne hne]; exact hr⟩
theorem len_all_twos (a : Ad) (K : PySem.W.Frag) (vs : List V) (H : Hp) (Q : VK) (E : XK) (h : sp_all_twos a K vs H Q E) : vs.length = 1 := by
  obtain ⟨n, rfl, _⟩ := h
  rfl
theorem twos_upto (n x : Nat) : ((List.range x).flatMap fun x => (List.range n).map fun z => (x, z)).length = x * n := by
  induction x with
  | zero => simp
  | succ x ih =>
    rw [List.range_succ, List.flatMap_append, List.length_append, ih, List.flatMap_cons, List.flatMap_nil, List.append_nil, List.length_map, List.length_range, Nat.succ_mul]
theorem pure_all_twos (T : Txt K mg a) (vs : List V) (H : Hp) (Q : VK) (E : XK) (h : sp_all_twos a K vs H Q E) : t_all_twos a K (ends Q) (start N_all_twos vs) H := by
  obtain ⟨n, rfl, h5, k⟩ := h
  refine q_asgL (el_lst ea_nil (Nat.le_of_ble_eq_true rfl)) fun L H1 hL e1 hL1 => ?_
  refine q_forR1 (n := (n : Int)) (ea_cons (ev_var rfl) ea_nil) (by omega) (fun i σ' H' => (∃ vx vz, σ' = [some (vI n), some (.ref L), vx, vz]) ∧ Ex H H' ∧ ∃ acc, FilledP L acc H' ∧ acc.map (·.2) = (List.range i).flatMap fun x => (List.range n).map fun z => (x, z))
    (fun H2 e2 => ⟨⟨none, none, rfl⟩, e1.trans e2, [], ⟨e2 _ _ hL1, fun _ h => absurd h (by simp)⟩, rfl⟩) ?_ ?_
  · rintro i σ' H' hi ⟨⟨vx, vz, rfl⟩, e, acc, hF, hacc⟩
    refine s_forR1 (n := (n : Int)) (ea_cons (ev_var rfl) ea_nil) (by omega) (fun j σ'' H'' => (∃ vz, σ'' = [some (vI n), some (.ref L), some (vI i), vz]) ∧ Ex H H'' ∧ ∃ acc, FilledP L acc H'' ∧ acc.map (·.2) = ((List.range i).flatMap fun x => (List.range n).map fun z => (x, z)) ++ (List.range j).map fun z => (i, z))
      (fun H2 e2 => ⟨⟨_, rfl⟩, e.trans e2, acc, hF.mono e2, by rw [hacc]; simp⟩) ?_ ?_
    · rintro j σ'' H'' hj ⟨⟨vz', rfl⟩, e2, acc2, hF2, hacc2⟩
      have hlen : acc2.length ≤ 1000 := by
        have e3 := congrArg List.length hacc2
        rw [List.length_map, List.length_append, List.length_map, List.length_range, twos_upto] at e3
        have h6 : i * n ≤ 5 * 5 := Nat.mul_le_mul (by omega) h5
        omega
      refine s_appU (xs := acc2.map fun q => V.ref q.1) (ys := [vI i, vI j]) hF2.1 (ev_var rfl) (eu_tup (ea_cons (ev_var rfl) (ea_cons (ev_var rfl) ea_nil)) (Nat.le_of_ble_eq_true rfl)) (by rw [List.length_map]; omega) fun r H3 hr3 e3 hr3' => ?_
      have hne' : r ≠ L := fun z => by
        rw [z, hF2.1] at hr3
        cases hr3
      refine ⟨⟨_, rfl⟩, Ex.mut (e2.trans e3) hL, acc2 ++ [(r, (i, j))], (hF2.mono e3).more (f := (i, j)) hr3' hne', ?_⟩
      rw [List.map_append, hacc2, List.range_succ, List.map_append, List.append_assoc]
      rfl
    · rintro σ'' H'' ⟨⟨vz', rfl⟩, e2, acc2, hF2, hacc2⟩
      refine ⟨⟨_, _, rfl⟩, e2, acc2, hF2, ?_⟩
      rw [hacc2, List.range_succ, List.flatMap_append, List.flatMap_cons, List.flatMap_nil, List.append_nil]
      rfl
  · rintro σ' H' ⟨⟨vx, vz, rfl⟩, e, acc, hF, hacc⟩
    refine s_ret (v := .ref L) (ev_var rfl) fun H2 e2 => k L H2 hL (e.trans e2) ⟨acc, e2 _ _ hF.1, hacc, fun q hq => e2 _ _ (hF.2 q hq).2⟩
theorem sr_twos {H : Hp} {t : Abs} (h5 : t.a ≤ 5) : SpR (sp_all_twos a K) [vI t.a] H (fun q H2 => PairsAt H2 q (Kh414.twos t)) := fun H1 e Q q _ => ⟨t.a, rfl, h5, q⟩
theorem len_is_open_between (a : Ad) (K : PySem.W.Frag) (vs : List V) (H : Hp) (Q : VK) (E : XK) (h : sp_is_open_between a K vs H Q E) : vs.length = 3 := by
  obtain ⟨p, t, O, x, z, rfl, _⟩ := h
  rfl
theorem pure_is_open_between (T : Txt K mg a) (vs : List V) (H : Hp) (Q : VK) (E : XK) (h : sp_is_open_between a K vs H Q E) : t_is_open_between a K (ends Q) (start N_is_open_between vs) H := by
  obtain ⟨p, t, O, x, z, rfl, tb, lx, lz, k⟩ := h
  refine q_when (b := x == z) (et_is (et_test (ev_op (ev_var rfl) (ev_var rfl) (rv_eq rfl))) dec_vI) (fun hb H1 e1 => ?_) (fun hb H1 e1 => ?_)
  · obtain rfl : x = z := by simpa using hb
    rw [opn_same] at k
    exact s_ret (ev_tab (tb.mono e1) (ev_var rfl) (ea_cons (ev_var rfl) ea_nil) (sv_ever (tb.mono e1) lx)) fun H2 e2 => k H2 (e1.trans e2)
  · rw [opn_diff t (by simpa using hb)] at k
    exact s_ret (ev_tab (tb.mono e1) (ev_var rfl) (ea_cons (ev_var rfl) (ea_cons (ev_var rfl) ea_nil)) (sv_mixed (tb.mono e1) lx lz)) fun H2 e2 => k H2 (e1.trans e2)
theorem sv_open {H : Hp} {p : Addr} {t : Abs} {O : Addr → Prop} {x z : Nat} (tb : Tab a H p t O) (lx : x < t.a) (lz : z < t.a) : SpV (sp_is_open_between a K) [.ref p, vI x, vI z] H (.bl (opn t x z)) :=
  fun H1 e Q q _ => ⟨p, t, O, x, z, rfl, tb.mono e, lx, lz, q⟩
theorem len_are_twos_mixed (a : Ad) (K : PySem.W.Frag) (vs : List V) (H : Hp) (Q : VK) (E : XK) (h : sp_are_twos_mixed a K vs H Q E) : vs.length = 3 := by
  obtain ⟨p, t, O, u, v, x, z, rfl, _⟩ := h
  rfl
/-- two twos are the same -/
theorem rv_pairs {H : Hp} {u v : Addr} {x z : Nat × Nat} (hu : SqT K H u [vI x.1, vI x.2]) (hv : SqT K H v [vI z.1, vI z.2]) : RV (rEqD K) (.ref u) (.ref v) H (.bl (x == z)) := fun H1 e Q q => by
  refine ⟨.tuple [.int x.1, .int x.2], .tuple [.int z.1, .int z.2], .tup (ex_t e hu) (.cons (.int _) (.cons (.int _) .nil)), .tup (ex_t e hv) (.cons (.int _) (.cons (.int _) .nil)), rfl, rfl, ?_⟩
  have h : PyData.eqv (.tuple [.int x.1, .int x.2]) (.tuple [.int z.1, .int z.2]) = (x == z) := by
    obtain ⟨x1, x2⟩ := x
    obtain ⟨z1, z2⟩ := z
    simp only [PyData.eqv, PyData.eqvAll]
    rw [Bool.eq_iff_iff]
    simp
    omega
  rw [h]
  exact q H1 (Ex.refl H1)
theorem pure_are_twos_mixed (T : Txt K mg a) (vs : List V) (H : Hp) (Q : VK) (E : XK) (h : sp_are_twos_mixed a K vs H Q E) : t_are_twos_mixed a K (ends Q) (start N_are_twos_mixed vs) H := by
  obtain ⟨p, t, O, u, v, x, z, rfl, tb, hu, hv, lx, lz, k⟩ := h
  rw [two_is] at k
  refine q_when (b := x == z) (et_test (ev_op (ev_var rfl) (ev_var rfl) (rv_pairs hu hv))) (fun hb H1 e1 => ?_) (fun hb H1 e1 => ?_)
  · have e : (x != z) = false := by rw [bne, hb]; rfl
    rw [e, Bool.false_and] at k
    exact s_ret ev_c fun H2 e2 => k H2 (e1.trans e2)
  · have e : (x != z) = true := by rw [bne, hb]; rfl
    rw [e, Bool.true_and] at k
    have hu1 := ex_t e1 hu
    have hv1 := ex_t e1 hv
    exact s_ret (ev_andV (ev_call1 (ea_cons (ev_var rfl) (ea_cons (ev_op (ev_var rfl) ev_c (rv_ixT hu1 (atI_get (i := 0) rfl))) (ea_cons (ev_op (ev_var rfl) ev_c (rv_ixT hv1 (atI_get (i := 0) rfl))) ea_nil))) (sv_open (tb.mono e1) lx.1 lz.1))
      fun _ => ev_call1 (ea_cons (ev_var rfl) (ea_cons (ev_op (ev_var rfl) ev_c (rv_ixT hu1 (atI_get (i := 1) rfl))) (ea_cons (ev_op (ev_var rfl) ev_c (rv_ixT hv1 (atI_get (i := 1) rfl))) ea_nil))) (sv_open (tb.mono e1) lx.2 lz.2)) fun H2 e2 => k H2 (e1.trans e2)
theorem sv_two {H : Hp} {p u v : Addr} {t : Abs} {O : Addr → Prop} {x z : Nat × Nat} (tb : Tab a H p t O) (hu : SqT K H u [vI x.1, vI x.2]) (hv : SqT K H v [vI z.1, vI z.2]) (lx : x.1 < t.a ∧ x.2 < t.a) (lz : z.1 < t.a ∧ z.2 < t.a) : SpV (sp_are_twos_mixed a K) [.ref p, .ref u, .ref v] H (.bl (Kh414.mixedTwo t x z)) :=
  fun H1 e Q q _ => ⟨p, t, O, u, v, x, z, rfl, tb.mono e, ex_t e hu, ex_t e hv, lx, lz, q⟩
theorem len_letters_of_mixed_ahead (a : Ad) (K : PySem.W.Frag) (vs : List V) (H : Hp) (Q : VK) (E : XK) (h : sp_letters_of_mixed_ahead a K vs H Q E) : vs.length = 4 := by
  obtain ⟨p, t, O, q, l, f, i, rfl, _⟩ := h
  rfl
/-- twos[i] -/
theorem PairsAt.at {H : Hp} {q : Addr} {t : Abs} (h : PairsAt H q (Kh414.twos t)) {i : Nat} (hi : i < (Kh414.twos t).length) : ∃ u, SqT K H u [vI (tw t i).1, vI (tw t i).2] ∧ ∀ {σ : L2.St} {tq tx : TE}, Ev tq σ H (.ref q) → Ev tx σ H (vI i) → Ev (tOp (rIxL K) tq tx) σ H (.ref u) := by
  obtain ⟨ps, h1, h2, h3⟩ := h
  have hl : i < ps.length := by rwa [← h2, List.length_map] at hi
  have hg : ps[i]? = some ps[i] := List.getElem?_eq_getElem hl
  have e : (ps[i]).2 = tw t i := by
    have e2 := tw_get hi
    rw [← h2, List.getElem?_map, hg] at e2
    exact Option.some.inj e2
  refine ⟨(ps[i]).1, ?_, fun hq hx => ev_op hq hx (rv_ixL (sq_of h1) (atI_get (by rw [List.getElem?_map, hg]; rfl)))⟩
  rw [← e]
  exact st_of (h3 _ (List.getElem_mem hl))
theorem pure_letters_of_mixed_ahead (T : Txt K mg a) (vs : List V) (H : Hp) (Q : VK) (E : XK) (h : sp_letters_of_mixed_ahead a K vs H Q E) : t_letters_of_mixed_ahead a K (ends Q) (start N_letters_of_mixed_ahead vs) H := by
  obtain ⟨p, t, O, q, l, f, i, rfl, tb, hq, hf, hi, hil, k⟩ := h
  have n25 := twos_n tb.wf
  have a5 := tb.wf.a5
  have hm : t.a * t.a ≤ 5 * 5 := Nat.mul_le_mul a5 a5
  refine s_retL (el_lcR1 (n := (i : Int)) (fun j => Kh414.mixedTwo t (tw t j) (tw t i)) (fun j => vI (f.getD j 0)) (ea_cons (ev_var rfl) ea_nil) (by omega) (fun _ => rfl) (fun j H1 e hj => ?_) (fun j H1 e hj _ => ?_)) ?_
  · have hj' : j < (Kh414.twos t).length := by omega
    obtain ⟨u, hu, gu⟩ := PairsAt.at (K := K) (hq.mono e) hj'
    obtain ⟨v, hv, gv⟩ := PairsAt.at (K := K) (hq.mono e) hi
    exact et_B (ev_call1 (ea_cons (ev_var rfl) (ea_cons (gu (ev_var rfl) (ev_var rfl)) (ea_cons (gv (ev_var rfl) (ev_var rfl)) ea_nil))) (sv_two (tb.mono e) hu hv (tw_lt hj') (tw_lt hi)))
  · exact ev_letter (ev_var rfl) (ex_l e hf) (ev_var rfl) (by omega)
  · have e : given (i : Int).toNat (fun j => Kh414.mixedTwo t (tw t j) (tw t i)) (fun j => vI (f.getD j 0)) = nums (aheadL t f i) := by
      unfold given nums aheadL
      rw [List.map_map]
      rfl
    rw [e]
    exact k
theorem sl_ahead {H : Hp} {p q l : Addr} {t : Abs} {O : Addr → Prop} {f : List Nat} {i : Nat} (tb : Tab a H p t O) (hq : PairsAt H q (Kh414.twos t)) (hf : SqL K H l (nums f)) (hi : i < (Kh414.twos t).length) (hil : i ≤ f.length) : SpL (sp_letters_of_mixed_ahead a K) [.ref p, .ref q, .ref l, vI i] H (nums (aheadL t f i)) :=
  fun H1 e Q k _ => ⟨p, t, O, q, l, f, i, rfl, tb.mono e, hq.mono e, ex_l e hf, hi, hil, k⟩
theorem flat_nums (l : List Nat) : (nums l).all flatV = true := by
  unfold nums
  rw [List.all_map, List.all_eq_true]
  exact fun _ _ => rfl
theorem in_nums (c : Nat) (l : List Nat) : inV (vI c) (nums l) = l.contains c := by
  induction l with
  | nil => rfl
  | cons d l ih =>
    have e : inV (vI c) (nums (d :: l)) = (eqV (vI d) (vI c) || inV (vI c) (nums l)) := by
      unfold inV nums
      rw [List.map_cons, List.any_cons]
    rw [e, ih, List.contains_cons]
    congr 1
    show ((d : Int) == (c : Int)) = (c == d)
    rw [Bool.eq_iff_iff]
    simp
    omega
theorem len_letters_do_for_two (a : Ad) (K : PySem.W.Frag) (vs : List V) (H : Hp) (Q : VK) (E : XK) (h : sp_letters_do_for_two a K vs H Q E) : vs.length = 2 := by
  obtain ⟨p, t, O, l, f, rfl, _⟩ := h
  rfl
theorem PairsAt.len {H : Hp} {q : Addr} {l : List (Nat × Nat)} (h : PairsAt H q l) : ∃ xs, H q = some (.lst xs) ∧ xs.length = l.length := by
  obtain ⟨ps, h1, h2, h3⟩ := h
  exact ⟨_, h1, by rw [List.length_map, ← h2, List.length_map]⟩
theorem pure_letters_do_for_two (T : Txt K mg a) (vs : List V) (H : Hp) (Q : VK) (E : XK) (h : sp_letters_do_for_two a K vs H Q E) : t_letters_do_for_two a K (ends Q) (start N_letters_do_for_two vs) H := by
  obtain ⟨p, t, O, l, f, rfl, tb, hf, hl, k⟩ := h
  have n25 := twos_n tb.wf
  have a5 := tb.wf.a5
  have hm : t.a * t.a ≤ 5 * 5 := Nat.mul_le_mul a5 a5
  rw [goodTwo_is] at k
  refine q_asgR (er_call1 (ea_cons (ev_xc T tb (ev_var rfl)) ea_nil) (sr_twos a5)) fun q H1 hq e1 hP => ?_
  obtain ⟨xs, hx, hxl⟩ := hP.len
  refine q_forR1 (n := ((Kh414.twos t).length : Int)) (ea_cons (ev_is (ev_len (ev_var rfl) (sq_of hx)) (by rw [hxl])) ea_nil) (by omega) (fun i σ' H' => (∃ va, σ' = [some (.ref p), some (.ref l), some (.ref q), va]) ∧ Ex H1 H' ∧ ∀ j, j < i → (aheadL t f j).contains (f.getD j 0) = false) (fun H2 e2 => ⟨⟨none, rfl⟩, e2, fun j hj => absurd hj (Nat.not_lt_zero j)⟩) ?_ ?_
  · rintro i σ' H' hi ⟨⟨va, rfl⟩, e, h0⟩
    have hi' : i < (Kh414.twos t).length := by omega
    have e' := e1.trans e
    refine s_when (b := (aheadL t f i).contains (f.getD i 0)) (et_test (ev_is (ev_opL (ev_letter (ev_var rfl) (ex_l e' hf) (ev_var rfl) (by omega)) (el_call1 (ea_cons (ev_var rfl) (ea_cons (ev_var rfl) (ea_cons (ev_var rfl) (ea_cons (ev_var rfl) ea_nil)))) (sl_ahead (tb.mono e') (hP.mono e) (ex_l e' hf) hi' (by omega))) fun r H2 hr _ => rv_isL (sq_of hr) rfl (flat_nums _)) (congrArg V.bl (in_nums _ _)))) (fun hb H2 e2 => ?_) (fun hb H2 e2 => ⟨⟨_, rfl⟩, e.trans e2, fun j hj => ?_⟩)
    · have hall : ((List.range (Kh414.twos t).length).all fun i => !(aheadL t f i).contains (f.getD i 0)) = false := by
        rw [List.all_eq_false]
        refine ⟨i, List.mem_range.mpr hi', ?_⟩
        rw [hb]
        decide
      rw [hall] at k
      exact s_ret ev_c fun H3 e3 => k H3 ((e'.trans e2).trans e3)
    · by_cases c : j < i
      · exact h0 j c
      · obtain rfl : j = i := by omega
        exact hb
  · rintro σ' H' ⟨⟨va, rfl⟩, e, h0⟩
    have hall : ((List.range (Kh414.twos t).length).all fun i => !(aheadL t f i).contains (f.getD i 0)) = true := by
      rw [List.all_eq_true]
      intro j hj
      rw [h0 j (by have := List.mem_range.mp hj; omega)]
      rfl
    rw [hall] at k
    exact s_ret ev_c fun H3 e3 => k H3 ((e1.trans e).trans e3)
theorem sv_goodTwo {H : Hp} {p l : Addr} {t : Abs} {O : Addr → Prop} {f : List Nat} (tb : Tab a H p t O) (hf : SqL K H l (nums f)) (hl : f.length = (Kh414.twos t).length) : SpV (sp_letters_do_for_two a K) [.ref p, .ref l] H (.bl (Kh414.goodTwo t f)) :=
  fun H1 e Q q _ => ⟨p, t, O, l, f, rfl, tb.mono e, ex_l e hf, hl, q⟩
theorem len_least_not_in (a : Ad) (K : PySem.W.Frag) (vs : List V) (H : Hp) (Q : VK) (E : XK) (h : sp_least_not_in a K vs H Q E) : vs.length = 1 := by
  obtain ⟨l, f, rfl, _⟩ := h
  rfl
theorem pure_least_not_in (T : Txt K mg a) (vs : List V) (H : Hp) (Q : VK) (E : XK) (h : sp_least_not_in a K vs H Q E) : t_least_not_in a K (ends Q) (start N_least_not_in vs) H := by
  obtain ⟨l, f, rfl, hf, hl, k⟩ := h
  refine q_asg (v := vI 0) ev_c fun H1 e1 => ?_
  refine q_while (fun m σ' H' => ∃ c : Nat, m = f.length + 1 - c ∧ c ≤ f.length ∧ σ' = [some (.ref l), some (vI c)] ∧ Ex H H' ∧ ∀ d, d < c → d ∈ f) (f.length + 1) ⟨0, rfl, Nat.zero_le _, rfl, e1, fun d hd => absurd hd (Nat.not_lt_zero d)⟩ ?_
  rintro m σ' H' ⟨c, rfl, hc, rfl, e, h0⟩
  refine ⟨f.contains c, et_test (ev_is (ev_op (ev_var rfl) (ev_var rfl) (rv_isL (ex_l e hf) rfl (flat_nums _))) (congrArg V.bl (in_nums _ _))), fun hb H2 e2 => ?_, fun hb H2 e2 => ?_⟩
  · have h1 : ∀ d, d < c + 1 → d ∈ f := fun d hd => by
      by_cases z : d < c
      · exact h0 d z
      · obtain rfl : d = c := by omega
        exact List.contains_iff_mem.mp hb
    have hle := many_in (c + 1) f h1
    refine ⟨fun σ2 H3 => σ2 = [some (.ref l), some (vI (c + 1))] ∧ Ex H H3, fun σ2 H3 ⟨z1, z2⟩ => ⟨f.length + 1 - (c + 1), by omega, c + 1, rfl, hle, z1, z2, h1⟩, ?_⟩
    exact s_asg (v := vI (c + 1)) (ev_op (ev_var rfl) ev_c rv_I0) fun H3 e3 => ⟨rfl, (e.trans e2).trans e3⟩
  · refine s_ret (v := vI c) (ev_var rfl) fun H3 e3 => k c ⟨fun hm => ?_, h0⟩ H3 ((e.trans e2).trans e3)
    rw [List.contains_iff_mem.mpr hm] at hb
    cases hb
theorem least_one {l : List Nat} {c d : Nat} (h1 : LeastNot l c) (h2 : LeastNot l d) : c = d := by
  by_cases z : c < d
  · exact absurd (h2.2 c z) h1.1
  · by_cases z2 : d < c
    · exact absurd (h1.2 d z2) h2.1
    · omega
theorem least_is (l : List Nat) : ∃ c, LeastNot l c := by
  have key : ∀ n, (∃ c, LeastNot l c) ∨ ∀ d, d < n → d ∈ l := fun n => by
    induction n with
    | zero => exact Or.inr fun d hd => absurd hd (Nat.not_lt_zero d)
    | succ n ih =>
      rcases ih with h | h
      · exact Or.inl h
      · by_cases c : n ∈ l
        · right
          intro d hd
          by_cases z : d < n
          · exact h d z
          · obtain rfl : d = n := by omega
            exact c
        · exact Or.inl ⟨n, c, h⟩
  rcases key (l.length + 1) with h | h
  · exact h
  · have := many_in (l.length + 1) l h
    omega
theorem sv_least {H : Hp} {l : Addr} {f : List Nat} {c : Nat} (hf : SqL K H l (nums f)) (hl : f.length ≤ 1000) (hc : LeastNot f c) : SpV (sp_least_not_in a K) [.ref l] H (vI c) := fun H1 e Q q _ => ⟨l, f, rfl, ex_l e hf, hl, fun d hd => by
  rw [least_one hd hc]
  exact q⟩
theorem len_letters_two_by_two (a : Ad) (K : PySem.W.Frag) (vs : List V) (H : Hp) (Q : VK) (E : XK) (h : sp_letters_two_by_two a K vs H Q E) : vs.length = 1 := by
  obtain ⟨p, t, O, rfl, _⟩ := h
  rfl
theorem pure_letters_two_by_two (T : Txt K mg a) (vs : List V) (H : Hp) (Q : VK) (E : XK) (h : sp_letters_two_by_two a K vs H Q E) : t_letters_two_by_two a K (ends Q) (start N_letters_two_by_two vs) H := by
  obtain ⟨p, t, O, rfl, tb, k⟩ := h
  have n25 := twos_n tb.wf
  have a5 := tb.wf.a5
  have hm : t.a * t.a ≤ 5 * 5 := Nat.mul_le_mul a5 a5
  rw [greedy_is] at k
  refine q_asgR (er_call1 (ea_cons (ev_xc T tb (ev_var rfl)) ea_nil) (sr_twos a5)) fun q H1 hq e1 hP => ?_
  refine q_asgL (el_lst ea_nil (Nat.le_of_ble_eq_true rfl)) fun L H2 hL e2 hL2 => ?_
  obtain ⟨xs, hx, hxl⟩ := hP.len
  have hLn := fresh_back e1 hL
  refine q_forR1 (n := ((Kh414.twos t).length : Int)) (ea_cons (ev_is (ev_len (ev_var rfl) (sq_of (e2 _ _ hx))) (by rw [hxl])) ea_nil) (by omega) (fun i σ' H' => (∃ va, σ' = [some (.ref p), some (.ref q), some (.ref L), va]) ∧ Ex H1 H' ∧ H' L = some (.lst (nums (greedyN t i))) ∧ (greedyN t i).length = i) (fun H3 e3 => ⟨⟨none, rfl⟩, e2.trans e3, e3 _ _ hL2, rfl⟩) ?_ ?_
  · rintro i σ' H' hi ⟨⟨va, rfl⟩, e, hL', hgl⟩
    have hi' : i < (Kh414.twos t).length := by omega
    obtain ⟨c, hc⟩ := least_is (aheadL t (greedyN t i) i)
    have hal := ahead_len t (greedyN t i) i
    have e' := e1.trans e
    have more := greedy_more tb.wf hi' hc
    refine s_app (l := L) (xs := nums (greedyN t i)) (v := vI c) hL' (ev_var rfl) (ev_callR (Pr := fun r H3 => H3 r = some (.lst (nums (aheadL t (greedyN t i) i)))) (EvL.r (el_call1 (ea_cons (ev_var rfl) (ea_cons (ev_var rfl) (ea_cons (ev_var rfl) (ea_cons (ev_var rfl) ea_nil)))) (sl_ahead (tb.mono e') (hP.mono e) (sq_of hL') hi' (by omega)))) fun r H3 e3 hr => sv_least (sq_of hr) (by omega) hc) (by rw [nums_len]; omega) fun H3 e3 => ⟨⟨_, rfl⟩, Ex.mut (e.trans e3) hL, ?_, by rw [more, List.length_append, hgl]; rfl⟩
    rw [upd_same, more]
    exact congrArg (fun l => some (HO.lst l)) (nums_app (greedyN t i) [c])
  · rintro σ' H' ⟨⟨va, rfl⟩, e, hL', hgl⟩
    exact s_ret (v := .ref L) (ev_var rfl) fun H3 e3 => k L H3 hLn ((e1.trans e).trans e3) (e3 _ _ hL')
theorem sl_greedy {H : Hp} {p : Addr} {t : Abs} {O : Addr → Prop} (tb : Tab a H p t O) : SpL (sp_letters_two_by_two a K) [.ref p] H (nums (Kh414.greedyTwo t)) :=
  fun H1 e Q q _ => ⟨p, t, O, rfl, tb.mono e, q⟩
end
end LS

namespace LS
open PySem PySem.Spec PyProof.Rows L2 Evl
open Kh414 (Abs)
section
variable {K : PySem.W.Frag} {mg : Str → Option Value} {a : Ad}
/-! ### crowd, why, apart, told, sure -/
theorem len_reply_crowd (a : Ad) (K : PySem.W.Frag) (vs : List V) (H : Hp) (Q : VK) (E : XK) (h : sp_reply_crowd a K vs H Q E) : vs.length = 1 := by
  obtain ⟨p, t, O, rfl, _⟩ := h
  rfl
theorem first_max (g : Nat → Nat) {n : Nat} (hn : 1 ≤ n) : ∃ i, i < n ∧ ∀ j, j < n → g j ≤ g i ∧ (j < i → g j < g i) := by
  obtain ⟨h1, h2⟩ := best_max (fun i => (g i : Int)) (n - 1)
  refine ⟨_, Nat.lt_of_le_of_lt h1 (by omega), fun j hj => ?_⟩
  obtain ⟨z1, z2⟩ := h2 j (by omega)
  exact ⟨by omega, fun h => by have := z2 h; omega⟩
/-- xs.index(y), y the first of its kind -/
theorem ev_index {σ : L2.St} {H : Hp} {ta te : TE} {p : Addr} {l : List Nat} {i : Nat} (h1 : Ev ta σ H (.ref p)) (hp : SqL K H p (nums l)) (h2 : Ev te σ H (vI (l.getD i 0))) (hi : i < l.length) (hn : ∀ j, j < i → l.getD j 0 ≠ l.getD i 0) : Ev (tBM K "list" (rIndex K) ta (tCons te tNil)) σ H (vI i) := fun H1 e1 Q k =>
  h1 H1 e1 _ fun H2 e2 => ⟨Or.inl ⟨rfl, _, ex_l (e1.trans e2) hp⟩, h2 H2 (e1.trans e2) _ fun H3 e3 => ⟨p, nums l, vI (l.getD i 0), i, vI (l.getD i 0), rfl, rfl, ex_l ((e1.trans e2).trans e3) hp, rfl, flat_nums l, nums_get hi, beq_self_eq_true (l.getD i 0 : Int), fun m z hm hz => by
    obtain ⟨hml, rfl⟩ := nums_at hz
    show (((l.getD m 0 : Nat) : Int) == ((l.getD i 0 : Nat) : Int)) = false
    have := hn m hm
    rw [beq_eq_false_iff_ne]
    omega, k H3 (e2.trans e3)⟩⟩
theorem getD_range (g : Nat → Nat) {n i : Nat} (h : i < n) : ((List.range n).map g).getD i 0 = g i := by
  rw [List.getD_eq_getElem?_getD, List.getElem?_map, List.getElem?_range h]
  rfl
theorem pure_reply_crowd (T : Txt K mg a) (vs : List V) (H : Hp) (Q : VK) (E : XK) (h : sp_reply_crowd a K vs H Q E) : t_reply_crowd a K (ends Q) (start N_reply_crowd vs) H := by
  obtain ⟨p, t, O, rfl, tb, k⟩ := h
  have b5 := tb.wf.b5
  have comp := el_lcR1 (σ := start N_reply_crowd [.ref p]) (H := H) (ta := tCons (tFld K (tVar 0) "y_count") tNil) (t := tYes) (te := tCB (rLenS K) (tCons (tMeth a.C_Table "xs_with" (sp_Table_xs_with a K) [] E0 (tVar 0) (tCons (tVar 3) tNil)) tNil)) (j := 3) (vs := [3]) (n := (t.b : Int)) (fun _ => true) (fun y => vI (Kh414.crowd t y)) (ea_cons (ev_yc T tb (ev_var rfl)) ea_nil) (by omega) (fun _ => rfl) (fun i H1 e hi => et_yes)
    (fun i H1 e hi _ => ev_is (ev_lenN (el_tab (tb.mono e) (ev_var rfl) (ea_cons (ev_var rfl) ea_nil) (sl_xs_with (tb.mono e) (by omega)))) (by rw [nums_len]; rfl))
  rw [given_map] at comp
  obtain ⟨i, hi, hmax⟩ := first_max (Kh414.crowd t) tb.wf.b1
  refine q_asgL comp fun c H1 hc e1 hc1 => ?_
  have hlen : ((List.range (t.b : Int).toNat).map (Kh414.crowd t)).length = t.b := by
    rw [List.length_map, List.length_range]
    omega
  have hget : ∀ j, j < t.b → ((List.range (t.b : Int).toNat).map (Kh414.crowd t)).getD j 0 = Kh414.crowd t j := fun j hj => getD_range _ (by omega)
  have hints : SqL K H1 c ((((List.range (t.b : Int).toNat).map (Kh414.crowd t)).map fun (n : Nat) => (n : Int)).map V.int) := by
    rw [← nums_int]
    exact sq_of hc1
  refine q_asg (v := vI (Kh414.crowd t i)) (ev_maxV (m := (Kh414.crowd t i : Int)) (ev_var rfl) hints ⟨?_, fun y hy => ?_⟩) fun H2 e2 => ?_
  · exact List.mem_map.mpr ⟨_, List.mem_map.mpr ⟨i, List.mem_range.mpr (by omega), rfl⟩, rfl⟩
  · obtain ⟨n, hn, rfl⟩ := List.mem_map.mp hy
    obtain ⟨j, hj, rfl⟩ := List.mem_map.mp hn
    have := (hmax j (by have := List.mem_range.mp hj; omega)).1
    omega
  · refine s_retL (el_lst (vs := [vI (Kh414.crowd t i), vI i]) (ea_cons (ev_var rfl) (ea_cons (ev_index (l := (List.range (t.b : Int).toNat).map (Kh414.crowd t)) (i := i) (ev_var rfl) (sq_of (e2 _ _ hc1)) (ev_is (ev_var rfl) (by rw [hget i hi])) (by rw [hlen]; exact hi) fun j hj => ?_) ea_nil)) (Nat.le_of_ble_eq_true rfl)) (((k.mono e1).mono e2).as ?_)
    · rw [hget i hi, hget j (by omega)]
      have := (hmax j (by omega)).2 hj
      omega
    · rw [crowd_is t hi hmax, ansL_nats]
      rfl
theorem len_reply_why (a : Ad) (K : PySem.W.Frag) (vs : List V) (H : Hp) (Q : VK) (E : XK) (h : sp_reply_why a K vs H Q E) : vs.length = 1 := by
  obtain ⟨p, t, O, rfl, _⟩ := h
  rfl
theorem members_len (n s : Nat) : (Kh414.members n s).length ≤ n := by
  unfold Kh414.members
  have := List.length_filter_le (fun i => s / 2 ^ i % 2 == 1) (List.range n)
  rwa [List.length_range] at this
theorem pure_reply_why (T : Txt K mg a) (vs : List V) (H : Hp) (Q : VK) (E : XK) (h : sp_reply_why a K vs H Q E) : t_reply_why a K (ends Q) (start N_reply_why vs) H := by
  obtain ⟨p, t, O, rfl, tb, k⟩ := h
  have a5 := tb.wf.a5
  refine s_retL (el_callX (ex_call1 (ea_cons (ev_var rfl) ea_nil) (sx_gall tb)) fun q H1 e1 h1 => sl_counted h1 (by rw [nums_len]; have := members_len t.a (Kh414.greatest t (Kh414.allMixed t)); omega)) (k.as ?_)
  show ansL (Kh414.nats _ _) = _
  rw [ansL_nats, nums_len]
theorem len_reply_apart (a : Ad) (K : PySem.W.Frag) (vs : List V) (H : Hp) (Q : VK) (E : XK) (h : sp_reply_apart a K vs H Q E) : vs.length = 1 := by
  obtain ⟨p, t, O, rfl, _⟩ := h
  rfl
theorem pure_reply_apart (T : Txt K mg a) (vs : List V) (H : Hp) (Q : VK) (E : XK) (h : sp_reply_apart a K vs H Q E) : t_reply_apart a K (ends Q) (start N_reply_apart vs) H := by
  obtain ⟨p, t, O, rfl, tb, k⟩ := h
  have a5 := tb.wf.a5
  refine s_retL (el_callX (ex_call1 (ea_cons (ev_var rfl) ea_nil) (sx_gnone tb)) fun q H1 e1 h1 => sl_counted h1 (by rw [nums_len]; have := members_len t.a (Kh414.greatest t (Kh414.noneMixed t)); omega)) (k.as ?_)
  show ansL (Kh414.nats _ _) = _
  rw [ansL_nats, nums_len]
theorem len_reply_told (a : Ad) (K : PySem.W.Frag) (vs : List V) (H : Hp) (Q : VK) (E : XK) (h : sp_reply_told a K vs H Q E) : vs.length = 4 := by
  obtain ⟨p, t, O, c, y, l, f, rfl, _⟩ := h
  rfl
theorem withY_lt {t : Abs} {y x : Nat} (h : x ∈ withY t y) : x < t.a := List.mem_range.mp (List.mem_filter.mp h).1
theorem withY_len (t : Abs) (y : Nat) : (withY t y).length ≤ t.a := by
  unfold withY
  have := List.length_filter_le (fun x => Kh414.may t x y) (Kh414.xs t)
  unfold Kh414.xs at this
  rwa [List.length_range] at this
theorem pure_reply_told (T : Txt K mg a) (vs : List V) (H : Hp) (Q : VK) (E : XK) (h : sp_reply_told a K vs H Q E) : t_reply_told a K (ends Q) (start N_reply_told vs) H := by
  obtain ⟨p, t, O, c, y, l, f, rfl, tb, hf, hl, k⟩ := h
  have a5 := tb.wf.a5
  refine q_when (et_wrong T tb hf hl (ev_var rfl) (ev_var rfl)) (fun hb H1 e1 => ?_) (fun hb H1 e1 => ?_)
  · refine s_no ?_ (k.mono e1)
    show ansL (if Kh414.okF t f = false then _ else _) = _
    rw [if_pos (by simpa using hb)]
    rfl
  · have ok : Kh414.okF t f = true := by simpa using hb
    have fl := okF_len ok
    have tb1 := tb.mono e1
    refine q_when (et_not (et_hasy tb1 (ev_var rfl) (ev_var rfl))) (fun hc H2 e2 => ?_) (fun hc H2 e2 => ?_)
    · refine s_no ?_ ((k.mono e1).mono e2)
      show ansL (if Kh414.okF t f = false then _ else if t.b ≤ y then _ else _) = _
      rw [if_neg (by rw [ok]; decide), if_pos (by simpa using hc)]
      rfl
    · have ly : y < t.b := by simpa using hc
      have tb2 := tb1.mono e2
      have hf2 := ex_l (e1.trans e2) hf
      have wl := withY_len t y
      have comp := el_lcNL (K := K) (σ := [some (.ref p), some (vI c), some (vI y), some (.ref l), none]) (H := H2) (tl := tMeth a.C_Table "xs_with" (sp_Table_xs_with a K) [] E0 (tVar 0) (tCons (tVar 2) tNil)) (t := tTest (tOp rEq (tOp (rIxL K) (tVar 3) (tVar 4)) (tVar 1))) (te := tVar 4) (j := 4) (vs := [4]) (xs := nums (withY t y)) (fun j => f.getD ((withY t y).getD j 0) 0 == c) (fun j => vI ((withY t y).getD j 0))
        (el_tab tb2 (ev_var rfl) (ea_cons (ev_var rfl) ea_nil) (sl_xs_with tb2 ly)) (by rw [nums_len]; omega) (fun _ => rfl) (fun j x H3 e3 hj => by
          obtain ⟨hjl, rfl⟩ := nums_at hj
          have hx := withY_lt (getD_mem hjl)
          exact et_is (et_test (ev_op (ev_letter (ev_var rfl) (ex_l e3 hf2) (ev_var rfl) (by omega)) (ev_var rfl) (rv_eq rfl))) dec_vI) (fun j x H3 e3 hj _ => by
          obtain ⟨hjl, rfl⟩ := nums_at hj
          exact ev_var rfl)
      rw [nums_len, given_filter (withY t y) 0 (fun x => f.getD x 0 == c) vI] at comp
      have comp' : EvL _ _ _ (nums ((withY t y).filter fun x => f.getD x 0 == c)) := comp
      refine s_retL (el_counted comp' (by have := List.length_filter_le (fun x => f.getD x 0 == c) (withY t y); omega)) (((k.mono e1).mono e2).as ?_)
      show ansL (if Kh414.okF t f = false then _ else if t.b ≤ y then _ else _) = _
      rw [if_neg (by rw [ok]; decide), if_neg (by omega)]
      dsimp only
      rw [ansL_nats]
      have e : (Kh414.xs t).filter (fun x => Kh414.may t x y && f.getD x 0 == c) = (withY t y).filter fun x => f.getD x 0 == c := by
        unfold withY
        rw [List.filter_filter]
        refine List.filter_congr fun x _ => ?_
        exact Bool.and_comm ..
      rw [e]
theorem len_reply_sure (a : Ad) (K : PySem.W.Frag) (vs : List V) (H : Hp) (Q : VK) (E : XK) (h : sp_reply_sure a K vs H Q E) : vs.length = 2 := by
  obtain ⟨p, t, O, y, rfl, _⟩ := h
  rfl
theorem pure_reply_sure (T : Txt K mg a) (vs : List V) (H : Hp) (Q : VK) (E : XK) (h : sp_reply_sure a K vs H Q E) : t_reply_sure a K (ends Q) (start N_reply_sure vs) H := by
  obtain ⟨p, t, O, y, rfl, tb, k⟩ := h
  have a5 := tb.wf.a5
  refine q_when (et_not (et_hasy tb (ev_var rfl) (ev_var rfl))) (fun hb H1 e1 => ?_) (fun hb H1 e1 => ?_)
  · refine s_no ?_ (k.mono e1)
    show ansL (if t.b ≤ y then _ else _) = _
    rw [if_pos (by simpa using hb)]
    rfl
  · have ly : y < t.b := by simpa using hb
    have tb1 := tb.mono e1
    have wl := withY_len t y
    refine s_retL (el_counted (el_tab tb1 (ev_var rfl) (ea_cons (ev_var rfl) ea_nil) (sl_xs_with tb1 ly)) (by omega)) ((k.mono e1).as ?_)
    show ansL (if t.b ≤ y then _ else _) = _
    rw [if_neg (by omega), ansL_nats]
    rfl
/-! ### good_two, greedy_two, mixed_two -/
theorem len_reply_good_two (a : Ad) (K : PySem.W.Frag) (vs : List V) (H : Hp) (Q : VK) (E : XK) (h : sp_reply_good_two a K vs H Q E) : vs.length = 2 := by
  obtain ⟨p, t, O, l, f, rfl, _⟩ := h
  rfl
theorem okN_no {n : Nat} {f : List Nat} : okN n f = false ↔ f.length ≠ n ∨ f.any (fun c => decide (n ≤ c)) = true := by
  unfold okN
  rw [Bool.and_eq_false_iff, decide_eq_false_iff_not, List.all_eq_false, List.any_eq_true]
  constructor
  · rintro (h | ⟨x, hx, h⟩)
    · exact Or.inl h
    · exact Or.inr ⟨x, hx, by simp at h ⊢; omega⟩
  · rintro (h | ⟨x, hx, h⟩)
    · exact Or.inl h
    · exact Or.inr ⟨x, hx, by simp at h ⊢; omega⟩
theorem pure_reply_good_two (T : Txt K mg a) (vs : List V) (H : Hp) (Q : VK) (E : XK) (h : sp_reply_good_two a K vs H Q E) : t_reply_good_two a K (ends Q) (start N_reply_good_two vs) H := by
  obtain ⟨p, t, O, l, f, rfl, tb, hf, hl, k⟩ := h
  have a5 := tb.wf.a5
  have n25 := twos_n tb.wf
  refine q_when (b := !okN (t.a * t.a) f) (et_B (ev_call1 (ea_cons (ev_var rfl) (ea_cons (ev_is (ev_op (ev_xc T tb (ev_var rfl)) (ev_xc T tb (ev_var rfl)) (rv_I (Or.inl ⟨by omega, by omega⟩))) (congrArg V.int (Int.natCast_mul t.a t.a).symm)) ea_nil)) (sv_wrong hf hl))) (fun hb H1 e1 => ?_) (fun hb H1 e1 => ?_)
  · refine s_no ?_ (k.mono e1)
    show ansL (if f.length ≠ t.a * t.a ∨ _ then _ else _) = _
    rw [if_pos (okN_no.mp (by simpa using hb))]
    rfl
  · have ok : okN (t.a * t.a) f = true := by simpa using hb
    refine s_retL (el_call1 (ea_cons (ev_call1 (ea_cons (ev_var rfl) (ea_cons (ev_var rfl) ea_nil)) (sv_goodTwo (tb.mono e1) (ex_l e1 hf) (by rw [n25]; exact okN_len ok))) ea_nil) sl_yes) ((k.mono e1).as ?_)
    show ansL (if f.length ≠ t.a * t.a ∨ _ then _ else _) = _
    rw [if_neg (fun z => by rw [okN_no.mpr z] at ok; cases ok), ansL_yes]
theorem len_reply_greedy_two (a : Ad) (K : PySem.W.Frag) (vs : List V) (H : Hp) (Q : VK) (E : XK) (h : sp_reply_greedy_two a K vs H Q E) : vs.length = 1 := by
  obtain ⟨p, t, O, rfl, _⟩ := h
  rfl
theorem greedy_len {t : Abs} (wf : WF t) : ∀ i, i ≤ (Kh414.twos t).length → (greedyN t i).length = i
  | 0, _ => rfl
  | i + 1, h => by
    obtain ⟨c, hc⟩ := least_is (aheadL t (greedyN t i) i)
    rw [greedy_more wf (by omega) hc, List.length_append, greedy_len wf i (by omega)]
    rfl
theorem greedyT_len {t : Abs} (wf : WF t) : (Kh414.greedyTwo t).length = t.a * t.a := by
  rw [greedy_is, greedy_len wf _ (Nat.le_refl _), twos_n wf]
theorem pure_reply_greedy_two (T : Txt K mg a) (vs : List V) (H : Hp) (Q : VK) (E : XK) (h : sp_reply_greedy_two a K vs H Q E) : t_reply_greedy_two a K (ends Q) (start N_reply_greedy_two vs) H := by
  obtain ⟨p, t, O, rfl, tb, k⟩ := h
  have a5 := tb.wf.a5
  have a1 := tb.wf.a1
  have hm : t.a * t.a ≤ 5 * 5 := Nat.mul_le_mul a5 a5
  have hm1 : 1 * 1 ≤ t.a * t.a := Nat.mul_le_mul a1 a1
  have gl := greedyT_len tb.wf
  have k : RetL (ansL (Kh414.nats (Kh414.used (Kh414.greedyTwo t)) (Kh414.greedyTwo t))) H Q := k
  rw [ansL_nats] at k
  refine q_asgL (el_call1 (ea_cons (ev_var rfl) ea_nil) (sl_greedy tb)) fun q H1 hq e1 h1 => ?_
  exact s_retL (el_catLV (el_lst (ea_cons (ev_call1 (ea_cons (ev_var rfl) ea_nil) (sv_count (sq_of h1) (fun z => by rw [z] at gl; simp at gl; omega))) ea_nil) (Nat.le_of_ble_eq_true rfl)) (ev_var rfl) h1 (by
    rw [nums_len, gl]
    show 1 + t.a * t.a ≤ 100000
    omega)) (k.mono e1)
theorem len_reply_mixed_two (a : Ad) (K : PySem.W.Frag) (vs : List V) (H : Hp) (Q : VK) (E : XK) (h : sp_reply_mixed_two a K vs H Q E) : vs.length = 5 := by
  obtain ⟨p, t, O, x, z, u, v, rfl, _⟩ := h
  rfl
/-- over a new tuple -/
theorem el_lcU {σ : L2.St} {H : Hp} {te tl : TE} {t : TT} {xs : List V} {j : Nat} {vs : List Nat} (f : Nat → Bool) (v : Nat → V) (h : EvU tl σ H xs) (hz : xs.length ≤ 40000) (hw : ∀ x, wipe ((wipe σ vs).set j (some x)) vs = wipe σ vs)
    (ht : ∀ (i : Nat) (x : V) H1, Ex H H1 → xs[i]? = some x → EvT t ((wipe σ vs).set j (some x)) H1 (f i)) (he : ∀ (i : Nat) (x : V) H1, Ex H H1 → xs[i]? = some x → f i = true → Ev te ((wipe σ vs).set j (some x)) H1 (v i)) :
    EvL (tLc (iTup K tl) (gName j) t te vs) σ H (given xs.length f v) := fun H0 e Q q => h H0 e _ fun a H1 ha e1 hx => ⟨a, rfl, ⟨xs, st_of hx⟩, fun Dl hD =>
  lc_tup (xs := xs) (Cw H1 f v Dl) ⟨hD, Ex.new hD, upd_same⟩ (fun i H' _ p => st_of (p.2.1 a _ hx)) (fun i x H' hi p => ⟨hw x, cw_turn p (by have := (List.getElem?_eq_some_iff.mp hi).1; omega) (ht i x H1 (e.trans e1) hi) (fun hf => he i x H1 (e.trans e1) hi hf)⟩)
    (fun H' p => q Dl H' (fresh_back e1 p.1) (e1.trans p.2.1) p.2.2)⟩
theorem ev_callVUU {σ : L2.St} {H : Hp} {t1 t2 t3 : TE} {sp : Sp} {E : XK} {v z : V} {xs ys : List V} (h1 : Ev t1 σ H v) (h2 : EvU t2 σ H xs) (h3 : EvU t3 σ H ys) (hs : ∀ r1 r2 H1, Ex H H1 → H1 r1 = some (.tup xs) → H1 r2 = some (.tup ys) → SpV sp [v, .ref r1, .ref r2] H1 z) : Ev (tCall sp [] E (tCons t1 (tCons t2 (tCons t3 tNil)))) σ H z := fun H1 e Q q =>
  h1 H1 e _ fun H2 e2 => h2 H2 (e.trans e2) _ fun r1 H3 _ e3 p3 => h3 H3 ((e.trans e2).trans e3) _ fun r2 H4 _ e4 p4 => hs r1 r2 H4 (((e.trans e2).trans e3).trans e4) (e4 _ _ p3) p4 H4 (Ex.refl H4) Q (fun H5 e5 => q H5 (((e2.trans e3).trans e4).trans e5)) E
theorem pure_reply_mixed_two (T : Txt K mg a) (vs : List V) (H : Hp) (Q : VK) (E : XK) (h : sp_reply_mixed_two a K vs H Q E) : t_reply_mixed_two a K (ends Q) (start N_reply_mixed_two vs) H := by
  obtain ⟨p, t, O, x, z, u, v, rfl, tb, k⟩ := h
  have comp := el_lcU (K := K) (σ := start N_reply_mixed_two [.ref p, vI x, vI z, vI u, vI v]) (H := H) (tl := tTup (tCons (tVar 1) (tCons (tVar 2) (tCons (tVar 3) (tCons (tVar 4) tNil))))) (t := tYes) (te := tMeth a.C_Table "has_x" (sp_Table_has_x a K) [] E0 (tVar 0) (tCons (tVar 5) tNil)) (j := 5) (vs := [5]) (xs := nums [x, z, u, v]) (fun _ => true) (fun j => V.bl (decide (([x, z, u, v] : List Nat).getD j 0 < t.a)))
    (eu_tup (ea_cons (ev_var rfl) (ea_cons (ev_var rfl) (ea_cons (ev_var rfl) (ea_cons (ev_var rfl) ea_nil)))) (Nat.le_of_ble_eq_true rfl)) (Nat.le_of_ble_eq_true rfl) (fun _ => rfl) (fun i y H1 e hi => et_yes) (fun i y H1 e hi _ => by
      obtain ⟨hil, rfl⟩ := nums_at hi
      exact ev_tab (tb.mono e) (ev_var rfl) (ea_cons (ev_var rfl) ea_nil) (sv_has_x (tb.mono e)))
  rw [nums_len, given_all ([x, z, u, v] : List Nat) 0 (fun n => V.bl (decide (n < t.a)))] at comp
  have e7 : (([x, z, u, v] : List Nat).map fun n => V.bl (decide (n < t.a))) = (([x, z, u, v] : List Nat).map fun n => decide (n < t.a)).map V.bl := rfl
  rw [e7] at comp
  refine q_when (b := !(([x, z, u, v] : List Nat).map fun n => decide (n < t.a)).all id) (et_not (et_B (ev_allN comp))) (fun hb H1 e1 => ?_) (fun hb H1 e1 => ?_)
  · refine s_no ?_ (k.mono e1)
    show ansL (if t.a ≤ x ∨ t.a ≤ z ∨ t.a ≤ u ∨ t.a ≤ v then _ else _) = _
    rw [if_pos (by simp at hb; omega)]
    rfl
  · have hb' : x < t.a ∧ z < t.a ∧ u < t.a ∧ v < t.a := by simpa using hb
    have tb1 := tb.mono e1
    have mixed : Ev (tCall (sp_are_twos_mixed a K) [] E0 (tCons (tVar 0) (tCons (tTup (tCons (tVar 1) (tCons (tVar 2) tNil))) (tCons (tTup (tCons (tVar 3) (tCons (tVar 4) tNil))) tNil)))) (start N_reply_mixed_two [.ref p, vI x, vI z, vI u, vI v]) H1 (.bl (Kh414.mixedTwo t (x, z) (u, v))) :=
      ev_callVUU (xs := [vI x, vI z]) (ys := [vI u, vI v]) (ev_var rfl) (eu_tup (ea_cons (ev_var rfl) (ea_cons (ev_var rfl) ea_nil)) (Nat.le_of_ble_eq_true rfl)) (eu_tup (ea_cons (ev_var rfl) (ea_cons (ev_var rfl) ea_nil)) (Nat.le_of_ble_eq_true rfl)) fun r1 r2 H2 e2 h1 h2 => sv_two (x := (x, z)) (z := (u, v)) (tb1.mono e2) (st_of h1) (st_of h2) ⟨hb'.1, hb'.2.1⟩ ⟨hb'.2.2.1, hb'.2.2.2⟩
    refine s_retL (el_call1 (ea_cons mixed ea_nil) sl_yes) ((k.mono e1).as ?_)
    show ansL (if t.a ≤ x ∨ t.a ≤ z ∨ t.a ≤ u ∨ t.a ≤ v then _ else _) = _
    rw [if_neg (by omega), ansL_yes]
/-! ### often, all_told -/
theorem len_reply_often (a : Ad) (K : PySem.W.Frag) (vs : List V) (H : Hp) (Q : VK) (E : XK) (h : sp_reply_often a K vs H Q E) : vs.length = 2 := by
  obtain ⟨p, t, O, l, f, rfl, _⟩ := h
  rfl
theorem pure_reply_often (T : Txt K mg a) (vs : List V) (H : Hp) (Q : VK) (E : XK) (h : sp_reply_often a K vs H Q E) : t_reply_often a K (ends Q) (start N_reply_often vs) H := by
  obtain ⟨p, t, O, l, f, rfl, tb, hf, hl, k⟩ := h
  refine q_when (et_wrong T tb hf hl (ev_var rfl) (ev_var rfl)) (fun hb H1 e1 => ?_) (fun hb H1 e1 => ?_)
  · refine s_no ?_ (k.mono e1)
    show ansL (if Kh414.okF t f = false then _ else _) = _
    rw [if_pos (by simpa using hb)]
    rfl
  · have ok : Kh414.okF t f = true := by simpa using hb
    have tb1 := tb.mono e1
    refine s_retL (el_lst (vs := [vI (Kh414.right t f), vI (t.w.flatMap id).sum]) (ea_cons (ev_call1 (ea_cons (ev_var rfl) (ea_cons (ev_var rfl) ea_nil)) (sv_right tb1 (ex_l e1 hf) ok)) (ea_cons (ev_sumNn (el_tab tb1 (ev_var rfl) ea_nil (sl_rows tb1))) ea_nil)) (Nat.le_of_ble_eq_true rfl)) ((k.mono e1).as ?_)
    show ansL (if Kh414.okF t f = false then _ else _) = _
    rw [if_neg (by rw [ok]; decide), ansL_nats, total_is tb.wf]
    rfl
theorem len_reply_all_told (a : Ad) (K : PySem.W.Frag) (vs : List V) (H : Hp) (Q : VK) (E : XK) (h : sp_reply_all_told a K vs H Q E) : vs.length = 1 := by
  obtain ⟨p, t, O, rfl, _⟩ := h
  rfl
theorem pure_reply_all_told (T : Txt K mg a) (vs : List V) (H : Hp) (Q : VK) (E : XK) (h : sp_reply_all_told a K vs H Q E) : t_reply_all_told a K (ends Q) (start N_reply_all_told vs) H := by
  obtain ⟨p, t, O, rfl, tb, k⟩ := h
  have a5 := tb.wf.a5
  have k : RetL (ansL (Kh414.nats t.a (t.b :: t.w.flatMap id))) H Q := k
  rw [ansL_nats] at k
  have wl : (t.w.flatMap id).length ≤ t.w.length * 5 := flat_len fun r hr => by
    have h1 := tb.wf.rl r hr
    have h2 := tb.wf.b5
    omega
  have w5 := tb.wf.wl
  exact s_retL (el_catLL (xs := [vI t.a, vI t.b]) (el_lst (ea_cons (ev_xc T tb (ev_var rfl)) (ea_cons (ev_yc T tb (ev_var rfl)) ea_nil)) (Nat.le_of_ble_eq_true rfl)) (el_tab tb (ev_var rfl) ea_nil (sl_rows tb)) (by
    rw [nums_len]
    show 2 + _ ≤ 100000
    omega)) k
end
end LS

namespace LS
open PySem PySem.Spec PyProof.Rows L2 Evl
open Kh414 (Abs)
section
variable {K : PySem.W.Frag} {mg : Str → Option Value} {a : Ad}
theorem dle {x y : Nat} : decide ((x : Int) ≤ (y : Int)) = decide (x ≤ y) := by
  rw [Bool.eq_iff_iff]; simp
/-! ### the table of code -/
section
variable {H H' H'' : Hp} {b : Addr} {o : HO}
theorem Cod.ex (c : Cod a H) (e : Ex H H') : Cod a H' := LamX.TabS.ext c e
theorem Cod.ne (c : Cod a H) (h : H b = some o) (n : ∀ ps, o ≠ .tbl ps) : b ≠ a.P_likeliest_row := fun z => by
  obtain ⟨ps, h1, _⟩ := c
  rw [z, h1] at h
  exact n ps (Option.some.inj h).symm
theorem lst_nt {xs : List V} : ∀ ps, HO.lst xs ≠ .tbl ps := fun _ z => by cases z
theorem ins_nt {C dx : Addr} {fs : List (Str × V)} : ∀ ps, HO.ins C dx fs ≠ .tbl ps := fun _ z => by cases z
theorem ExP.of (c : Cod a H) (e : Ex H H') : ExP a H H' := ⟨⟨fun b o _ h => e b o h, fun b h => fresh_back e h⟩, c.ex e⟩
theorem ExP.trans (x : ExP a H H') (y : ExP a H' H'') : ExP a H H'' := ⟨⟨fun b o n h => y.1.1 b o n (x.1.1 b o n h), fun b h => x.1.2 b (y.1.2 b h)⟩, y.2⟩
theorem ExP.after (e : Ex H H') (y : ExP a H' H'') : ExP a H H'' := ⟨⟨fun b o n h => y.1.1 b o n (e b o h), fun b h => fresh_back e (y.1.2 b h)⟩, y.2⟩
theorem ExP.at (c : Cod a H) (x : ExP a H H') (h : H b = some o) (n : ∀ ps, o ≠ .tbl ps) : H' b = some o := x.1.1 b o (c.ne h n) h
theorem Tab.exP {p : Addr} {t : Abs} {O : Addr → Prop} (h : Tab a H p t O) (c : Cod a H) (x : ExP a H H') : Tab a H' p t O := by
  obtain ⟨wf, dx, q, rs, h1, h2, h3, h4, h5, h6⟩ := h
  exact ⟨wf, dx, q, rs, x.at c h1 ins_nt, x.at c h2 lst_nt, h3, h4, fun i r hi => x.at c (h5 i r hi) lst_nt, h6⟩
/-- what is the table's own is no table of code, nor a code object -/
theorem Tab.kind {p : Addr} {t : Abs} {O : Addr → Prop} (h : Tab a H p t O) (hb : O b) : (∃ C dx fs, H b = some (.ins C dx fs)) ∨ ∃ xs, H b = some (.lst xs) := by
  obtain ⟨wf, dx, q, rs, h1, h2, h3, h4, h5, h6⟩ := h
  rcases (h6 b).mp hb with z | z | z
  · rw [z]
    exact Or.inl ⟨_, _, _, h1⟩
  · rw [z]
    exact Or.inr ⟨_, h2⟩
  · obtain ⟨i, hi⟩ := List.mem_iff_getElem?.mp z
    exact Or.inr ⟨_, h5 i b hi⟩
/-- a change of things that are neither leaves the table of code -/
theorem Cod.kept {O : Addr → Prop} (c : Cod a H) (hk : ∀ b, O b → (∃ C dx fs, H b = some (.ins C dx fs)) ∨ ∃ xs, H b = some (.lst xs)) (kept : ∀ b o, H b = some o → ¬ O b → H' b = some o) : Cod a H' := by
  obtain ⟨ps, h1, h2, h3⟩ := c
  have no : ∀ b o, H b = some o → (∀ C dx fs, o ≠ .ins C dx fs) → (∀ xs, o ≠ .lst xs) → ¬ O b := fun b o h n1 n2 hb => by
    rcases hk b hb with ⟨C, dx, fs, z⟩ | ⟨xs, z⟩
    · rw [h] at z
      exact n1 C dx fs (Option.some.inj z)
    · rw [h] at z
      exact n2 xs (Option.some.inj z)
  refine ⟨ps, kept _ _ h1 (no _ _ h1 (fun _ _ _ z => by cases z) (fun _ z => by cases z)), h2, fun pos cv hc => ?_⟩
  obtain ⟨d, e1, e2⟩ := h3 pos cv hc
  refine ⟨d, e1, kept _ _ e2 (no _ _ e2 (fun _ _ _ z => ?_) (fun _ z => ?_))⟩
  · unfold LamX.CodeO at z
    cases z
  · unfold LamX.CodeO at z
    cases z
theorem Cod.upd {xs : List V} (c : Cod a H) (h : H b = some (.lst xs)) : Cod a (L2.upd H b o) :=
  c.kept (O := fun d => d = b) (fun d hd => by rw [hd]; exact Or.inr ⟨xs, h⟩) fun d u hd nd => by rw [upd_ne nd]; exact hd
theorem RetP.mono {xs : List V} {Q : VK} (e : Ex H H') (k : RetP a xs H Q) : RetP a xs H' Q := fun r H2 hr x h2 => k r H2 (fresh_back e hr) (ExP.after e x) h2
theorem RetP.look {xs : List V} {Q : VK} (c : Cod a H) (k : RetP a xs H Q) : RetL xs H Q := fun r H2 hr e2 h2 => k r H2 hr (ExP.of c e2) h2
theorem LeftP.mono {p : Addr} {t : Abs} {O : Addr → Prop} {ans : List V} {Q : VK} (e : Ex H H') (k : LeftP a H p O t ans Q) : LeftP a H' p O t ans Q := fun H2 O' r hr h2 tb own kept c =>
  k H2 O' r (fresh_back e hr) h2 tb (fun b hb => (own b hb).imp id fun h => fresh_back e h) (fun b o np hb nb => kept b o np (e b o hb) nb) c
theorem LeftP.left {p : Addr} {t t' : Abs} {O : Addr → Prop} {ans : List V} {Q : VK} (tb : Tab a H p t O) (c : Cod a H) (k : LeftP a H p O t' ans Q) : Left a H p O t' ans Q := fun H2 O' r hr h2 tb2 own kept =>
  k H2 O' r hr h2 tb2 own (fun b o _ hb nb => kept b o hb nb) (c.kept (fun b hb => tb.kind hb) kept)
theorem LeftP.look {p : Addr} {t : Abs} {O : Addr → Prop} {ans : List V} {Q : VK} (tb : Tab a H p t O) (c : Cod a H) (k : LeftP a H p O t ans Q) : RetL ans H Q := fun r H2 hr e2 h2 => k H2 O r hr h2 (tb.mono e2) (fun b hb => Or.inl hb) (fun b o _ hb _ => e2 b o hb) (c.ex e2)
theorem LeftP.right {p : Addr} {t : Abs} {O : Addr → Prop} {ans : List V} {Q : VK} (tb : Tab a H p t O) (c : Cod a H) (k : LeftP a H p O t ans Q) : RetP a ans H Q := fun r H2 hr x h2 => k H2 O r hr h2 (tb.exP c x) (fun b hb => Or.inl hb) (fun b o np hb _ => x.1.1 b o np hb) x.2
end
/-! ### likeliest_row -/
theorem s_retMaxLam {σ : L2.St} {H : Hp} {D : Ends} {te tb : TE} {P p : Addr} {q : Str} {N : List Str} {js : List Nat} {xs : List V} (kf : Nat → Int) (ha : Ev te σ H (.ref p)) (h : ∀ H1, Ex H H1 → LamX.TabS H1 P q ∧ ∀ H2, ButP P H1 H2 → LamX.TabS H2 P q →
      SqL K H2 p xs ∧ 0 < xs.length ∧ (∀ (i : Nat) (x : V) (H3 : Hp), Ex H2 H3 → xs[i]? = some x → ∀ Q' : VK, (∀ H4, Ex H3 H4 → Q' (.int (kf i)) H4) → tb (NdefX.startF N [x] (js.map (NdefX.slotAt σ))) H3 Q') ∧
      ∀ (i : Nat) (x : V) (H3 : Hp), xs[i]? = some x → (∀ j, j < xs.length → kf j ≤ kf i ∧ (j < i → kf j < kf i)) → Ex H2 H3 → D.rt x H3) : tRet (tMaxLam K P q (tCons te tNil) N js tb) D σ H :=
  ha H (Ex.refl H) _ fun H1 e1 => ⟨p, xs, kf, rfl, (h H1 e1).1, (h H1 e1).2⟩
theorem len_likeliest_row (a : Ad) (K : PySem.W.Frag) (vs : List V) (H : Hp) (Q : VK) (E : XK) (h : sp_likeliest_row a K vs H Q E) : vs.length = 2 := by
  obtain ⟨p, t, O, n, rfl, _⟩ := h
  rfl
theorem pure_likeliest_row (T : Txt K mg a) (vs : List V) (H : Hp) (Q : VK) (E : XK) (h : sp_likeliest_row a K vs H Q E) : t_likeliest_row a K (ends Q) (start N_likeliest_row vs) H := by
  obtain ⟨p, t, O, n, rfl, tb, cod, n1, na, k⟩ := h
  have a5 := tb.wf.a5
  have a1 := tb.wf.a1
  refine q_asgR (Pr := fun q H2 => RowsAt H2 q (Kh414.rowsOf n t.a)) (er_filterRows (er_call1 (ea_cons (ev_xc T tb (ev_var rfl)) ea_nil) (sr_all a1 a5)) (fun _ => rfl) (by have := (rows_all t.a (by omega)).2.2; omega) (fun f => decide (Kh414.used f ≤ n)) (fun _ => rfl) fun r f H2 e2 hf hr => ?_) fun r H1 hr e1 hR => ?_
  · have hl := (rows_at (by omega) hf).1
    exact et_is (et_test (ev_op (ev_call1 (ea_cons (ev_var rfl) ea_nil) (sv_count (sq_of hr) (fun z => by rw [z] at hl; simp at hl; omega))) (ev_var rfl) rv_I0)) dle
  · obtain ⟨ps, h1, h2, h3⟩ := hR
    have inr : ∀ q ∈ ps, okN t.a q.2 = true := fun q hq => by
      have z : q.2 ∈ Kh414.rowsOf n t.a := by
        rw [← h2]
        exact List.mem_map.mpr ⟨q, hq, rfl⟩
      exact row_ok (by omega) (List.mem_filter.mp z).1
    refine s_retMaxLam (p := r) (xs := ps.map fun q => V.ref q.1) (fun i => (Kh414.right t (ps.getD i (0, [])).2 : Int)) (ev_var rfl) fun H2 e2 => ⟨cod.ex (e1.trans e2), fun H3 but c3 => ?_⟩
    have c2 := cod.ex (e1.trans e2)
    have x3 : ExP a H2 H3 := ⟨but, c3⟩
    have x03 : ExP a H H3 := ExP.after (e1.trans e2) x3
    have tb3 := (tb.mono (e1.trans e2)).exP c2 x3
    have hrow : ∀ q ∈ ps, H3 q.1 = some (.lst (nums q.2)) := fun q hq => x3.at c2 (e2 _ _ (h3 q hq)) lst_nt
    refine ⟨sq_of (x3.at c2 (e2 _ _ h1) lst_nt), ?_, fun i x H4 e4 hi Q' q' => ?_, fun i x H4 hi hmax e4 => ?_⟩
    · rw [List.length_map, ← List.length_map (f := (·.2)), h2]
      exact rowsOf_pos (by omega) n1
    · obtain ⟨q, hq, rfl, hm, hg⟩ := rows_item hi
      have q2 : ∀ H5, Ex H4 H5 → Q' (vI (Kh414.right t q.2)) H5 := fun H5 e5 => by
        have z := q' H5 e5
        rw [hg] at z
        exact z
      exact ev_call1 (ea_cons (ev_var rfl) (ea_cons (ev_var rfl) ea_nil)) (sv_right (tb3.mono e4) (sq_of (e4 _ _ (hrow q hm))) (inr q hm)) H4 (Ex.refl H4) Q' q2
    · obtain ⟨q, hq, rfl, hm, hg⟩ := rows_item hi
      refine k q.1 H4 q.2 (x03.trans (ExP.of c3 e4)) (e4 _ _ (hrow q hm)) (inr q hm) ?_
      refine likeliest_is t (i := i) (by omega) (by rw [← h2, List.getElem?_map, hq]; rfl) fun j y hj => ?_
      rw [← h2, List.getElem?_map] at hj
      obtain ⟨q', hq', rfl⟩ := Option.map_eq_some_iff.mp hj
      have hjl : j < ps.length := (List.getElem?_eq_some_iff.mp hq').1
      have hg' : ps.getD j (0, []) = q' := by rw [List.getD_eq_getElem?_getD, hq']; rfl
      have z := hmax j (by rw [List.length_map]; exact hjl)
      rw [hg, hg'] at z
      exact ⟨by omega, fun h => by have := z.2 h; omega⟩
/-- x = f(..), f changes what it is told to -/
theorem q_asgCall {σ : L2.St} {H : Hp} {D : Ends} {tz : TS} {i : Nat} {sp : Sp} {vs : List V} {E : XK} {tr : TA} (ha : EvA tr σ H vs) (hs : ∀ H1, Ex H H1 → sp vs H1 (fun v H2 => tz D (σ.set i (some v)) H2) E) : tSeq (tAsg (tCall sp [] E tr) (gName i)) tz D σ H :=
  ha H (Ex.refl H) _ fun H1 e1 => by
    rw [List.append_nil]
    exact hs H1 e1
theorem len_reply_likeliest (a : Ad) (K : PySem.W.Frag) (vs : List V) (H : Hp) (Q : VK) (E : XK) (h : sp_reply_likeliest a K vs H Q E) : vs.length = 2 := by
  obtain ⟨p, t, O, n, rfl, _⟩ := h
  rfl
theorem pure_reply_likeliest (T : Txt K mg a) (vs : List V) (H : Hp) (Q : VK) (E : XK) (h : sp_reply_likeliest a K vs H Q E) : t_reply_likeliest a K (ends Q) (start N_reply_likeliest vs) H := by
  obtain ⟨p, t, O, n, rfl, tb, cod, k⟩ := h
  have a5 := tb.wf.a5
  refine q_when (b := decide (n < 1) || decide (t.a < n)) (et_or (et_is (et_test (ev_op (ev_var rfl) ev_c rv_I0)) (dlt (y := 1))) fun _ => et_is (et_test (ev_op (ev_var rfl) (ev_xc T tb (ev_var rfl)) rv_I0)) dlt) (fun hb H1 e1 => ?_) (fun hb H1 e1 => ?_)
  · refine s_no ?_ ((k.look cod).mono e1)
    show ansL (if n < 1 ∨ t.a < n then _ else _) = _
    rw [if_pos (by simpa using hb)]
    rfl
  · have hb' : 1 ≤ n ∧ n ≤ t.a := by
      simp at hb
      omega
    refine q_asgCall (vs := [.ref p, vI n]) (ea_cons (ev_var rfl) (ea_cons (ev_var rfl) ea_nil)) fun H2 e2 => ?_
    have e12 := e1.trans e2
    have c2 := cod.ex e12
    refine ⟨p, t, O, n, rfl, tb.mono e12, c2, hb'.1, hb'.2, fun q H3 g x3 hq ok hans => ?_⟩
    have x03 : ExP a H H3 := ExP.after e12 x3
    have tb3 := (tb.mono e12).exP c2 x3
    refine s_retL (el_catLV (el_lst (ea_cons (ev_call1 (ea_cons (ev_var rfl) (ea_cons (ev_var rfl) ea_nil)) (sv_right tb3 (sq_of hq) ok)) ea_nil) (Nat.le_of_ble_eq_true rfl)) (ev_var rfl) hq (by
      rw [nums_len, okN_len ok]
      show 1 + t.a ≤ 100000
      omega)) fun r H4 hr e4 h4 => ?_
    refine k r H4 (x03.1.2 r hr) (x03.trans (ExP.of x03.2 e4)) ?_
    rw [hans, ansL_nats]
    exact h4
end
end LS

namespace LS
open PySem PySem.Spec PyProof.Rows L2 Evl
open Kh414 (Abs)
section
variable {K : PySem.W.Frag} {mg : Str → Option Value} {a : Ad}
/-! ### Call -/
theorem len_Call_init (a : Ad) (K : PySem.W.Frag) (vs : List V) (H : Hp) (Q : VK) (E : XK) (h : sp_Call_init a K vs H Q E) : vs.length = 4 := by
  obtain ⟨p, dx, n, g, r, rfl, _⟩ := h
  rfl
theorem pure_Call_init (T : Txt K mg a) (vs : List V) (H : Hp) (Q : VK) (E : XK) (h : sp_Call_init a K vs H Q E) : t_Call_init a K (ends Q) (start N_Call_init vs) H := by
  obtain ⟨p, dx, n, g, r, rfl, hp, k⟩ := h
  refine q_fld (v := vI n) (ev_var rfl) (ev_var rfl) hp T.cl_Call T.n_Call_number (Nat.le_of_ble_eq_true rfl) fun H1 e1 => ?_
  refine q_fld (v := .ref g) (ev_var rfl) (ev_var rfl) upd_same T.cl_Call T.n_Call_numbers (Nat.le_of_ble_eq_true rfl) fun H2 e2 => ?_
  refine s_fld (v := .ref r) (ev_var rfl) (ev_var rfl) upd_same T.cl_Call T.n_Call_row (Nat.le_of_ble_eq_true rfl) fun H3 e3 => ?_
  refine k _ ?_ (fun b o hb nb => ?_) fun b hb => fresh_back e1 (none_upd (fresh_back e2 (none_upd (fresh_back e3 (none_upd hb)))))
  · rw [upd_same]
    have e1 : putF "numbers" (.ref g) (putF "number" (vI n) []) = ([("number", vI n), ("numbers", .ref g)] : List (Str × V)) := (put_past (by decide +kernel)).trans rfl
    have e2 : putF "row" (.ref r) ([("number", vI n), ("numbers", .ref g)] : List (Str × V)) = cF n g r := (put_past (by decide +kernel)).trans (congrArg _ ((put_past (by decide +kernel)).trans rfl))
    rw [e1, e2]
  · rw [upd_ne nb]
    refine e3 _ _ ?_
    rw [upd_ne nb]
    refine e2 _ _ ?_
    rw [upd_ne nb]
    exact e1 _ _ hb
theorem mono_Call_init {vs : List V} {H : Hp} {Q Q' : VK} {E : XK} (h : ∀ v H2, Q v H2 → Q' v H2) (k : sp_Call_init a K vs H Q E) : sp_Call_init a K vs H Q' E := by
  obtain ⟨p, dx, n, g, r, h1, h2, h3⟩ := k
  exact ⟨p, dx, n, g, r, h1, h2, fun H' a b c => h _ _ (h3 H' a b c)⟩
/-! ### read_calls -/
theorem sqt_any {H : Hp} {o : Addr} {xs : List V} (h : SqT K (fun _ => none) o xs) : SqT K H o xs := by
  rcases h with h | h
  · rcases h with h | ⟨u, h⟩ <;> cases h
  · exact Or.inr h
/-- SHAPES[n] -/
theorem shape_at (T : Txt K mg a) {n : Nat} (hn : n < 23) : ∃ s, (∀ {σ : L2.St} {H : Hp} {tx : TE}, Ev tx σ H (vI n) → Ev (tOp (rIxT K) (tC (.ref a.o_SHAPES)) tx) σ H (.ref s)) ∧ ∀ H, SqT K H s [vI (shapes.getD n (0, false)).1, .bl (hasRow n)] := by
  obtain ⟨rs, h1, h2, h3⟩ := T.t_SHAPES
  have hl : n < rs.length := by rw [h2]; exact hn
  refine ⟨rs[n], fun hx => ev_op ev_c hx (rv_ixT (sqt_any h1) (atI_get (by rw [List.getElem?_map, List.getElem?_eq_getElem hl]; rfl))), fun H => ?_⟩
  have h4 := h3 n hl (by rw [← h2]; exact hl)
  have e : shapes.getD n (0, false) = shapes[n]'(by rw [← h2]; exact hl) := by
    rw [List.getD_eq_getElem?_getD, List.getElem?_eq_getElem (by rw [← h2]; exact hl)]
    rfl
  unfold hasRow
  rw [e]
  exact sqt_any h4
theorem len_read_calls (a : Ad) (K : PySem.W.Frag) (vs : List V) (H : Hp) (Q : VK) (E : XK) (h : sp_read_calls a K vs H Q E) : vs.length = 1 := by
  obtain ⟨l, cs, rfl, _⟩ := h
  rfl
/-- a list of calls that is being filled -/
def FilledC (a : Ad) (H0 : Hp) (L : Addr) (acc : List (Addr × CallN)) (H : Hp) : Prop := H0 L = none ∧ H L = some (.lst (acc.map fun q => V.ref q.1)) ∧ ∀ q ∈ acc, q.1 ≠ L ∧ ∃ dx g r, H q.1 = some (.ins a.C_Call dx (cF q.2.1 g r)) ∧ H g = some (.lst (nums q.2.2.1)) ∧ H r = some (.lst (nums q.2.2.2)) ∧ H0 q.1 = none ∧ H0 g = none ∧ H0 r = none ∧ g ≠ L ∧ r ≠ L
theorem FilledC.mono {H0 : Hp} {L : Addr} {acc : List (Addr × CallN)} {H H' : Hp} (e : Ex H H') (h : FilledC a H0 L acc H) : FilledC a H0 L acc H' := by
  refine ⟨h.1, e _ _ h.2.1, fun q hq => ?_⟩
  obtain ⟨h1, dx, g, r, h2, h3, h4, h5⟩ := h.2.2 q hq
  exact ⟨h1, dx, g, r, e _ _ h2, e _ _ h3, e _ _ h4, h5⟩
theorem nums_append (x y : List Nat) : nums (x ++ y) = nums x ++ nums y := by
  unfold nums
  exact List.map_append ..
theorem at_app {pre mid : List Nat} {post : List Nat} {j : Nat} {n : Nat} (h : mid[j]? = some n) : (nums (pre ++ (mid ++ post)))[pre.length + j]? = some (vI n) := by
  rw [nums_append, List.getElem?_append_right (by rw [nums_len]; omega), nums_len, nums_append]
  have e : pre.length + j - pre.length = j := by omega
  have hj : j < mid.length := (List.getElem?_eq_some_iff.mp h).1
  rw [e, List.getElem?_append_left (by rw [nums_len]; exact hj)]
  unfold nums
  rw [List.getElem?_map, h]
  rfl
theorem cut_app {pre mid post : List Nat} {i k : Nat} (hi : i = pre.length) (hk : k = mid.length) : cutV (nums (pre ++ (mid ++ post))) (some (i : Int)) (some ((i + k : Nat) : Int)) = nums mid := by
  subst hi hk
  rw [cut_mid _ _ _ (by rw [nums_len, List.length_append, List.length_append]; omega)]
  rw [nums_append, List.drop_left' (by rw [nums_len]), nums_append, List.take_left' (by rw [nums_len])]
theorem len_le_flat : ∀ cs : List CallN, cs.length ≤ (cs.flatMap wr).length
  | [] => Nat.le_refl _
  | c :: cs => by
    have ih := len_le_flat cs
    rw [List.flatMap_cons, List.length_append, List.length_cons]
    have : 1 ≤ (wr c).length := by
      unfold wr
      simp
    omega
theorem pure_read_calls (T : Txt K mg a) (vs : List V) (H : Hp) (Q : VK) (E : XK) (h : sp_read_calls a K vs H Q E) : t_read_calls a K (ends Q) (start N_read_calls vs) H := by
  obtain ⟨l, cs, rfl, hl, fits, hlen, k⟩ := h
  refine q_asgL (el_lst ea_nil (Nat.le_of_ble_eq_true rfl)) fun L H1 hL e1 hL1 => ?_
  refine q_asg (v := vI 0) ev_c fun H2 e2 => ?_
  refine q_while (fun m σ' H' => ∃ (i : Nat) (v3 v4 v5 v6 v7 v8 : Option V), m = cs.length - i ∧ i ≤ cs.length ∧ σ' = [some (.ref l), some (.ref L), some (vI ((cs.take i).flatMap wr).length), v3, v4, v5, v6, v7, v8] ∧ Ex H H' ∧ ∃ acc, FilledC a H L acc H' ∧ acc.map (·.2) = cs.take i) cs.length
    ⟨0, none, none, none, none, none, none, rfl, Nat.zero_le _, rfl, e1.trans e2, [], ⟨hL, e2 _ _ hL1, fun _ h => absurd h (by simp)⟩, rfl⟩ ?_
  rintro m σ' H' ⟨i, v3, v4, v5, v6, v7, v8, rfl, hi, rfl, e, acc, hF, hacc⟩
  have hlx := ex_l e hl
  have hsplit : cs.flatMap wr = (cs.take i).flatMap wr ++ (cs.drop i).flatMap wr := by rw [← List.flatMap_append, List.take_append_drop]
  have test : ((cs.take i).flatMap wr).length < (cs.flatMap wr).length ↔ i < cs.length := by
    rw [hsplit, List.length_append]
    constructor
    · intro h
      by_cases c : i < cs.length
      · exact c
      · rw [List.drop_of_length_le (by omega)] at h
        simp at h
    · intro h
      rw [List.drop_eq_getElem_cons h, List.flatMap_cons, List.length_append]
      show _ < _ + ((wr _).length + _)
      have : 1 ≤ (wr cs[i]).length := by
        unfold wr
        simp
      omega
  refine ⟨decide (i < cs.length), et_is (et_test (ev_op (ev_var rfl) (ev_len (ev_var rfl) hlx) rv_I0)) (by rw [nums_len, dlt]; exact decide_eq_decide.mpr test), fun hb H3 e3 => ?_, fun hb H3 e3 => ?_⟩
  · have hlt : i < cs.length := of_decide_eq_true hb
    -- the call
    obtain ⟨c, hc⟩ : ∃ c, cs[i]? = some c := ⟨_, List.getElem?_eq_getElem hlt⟩
    have hfit := fits c (List.mem_of_getElem? hc)
    have hdrop : cs.drop i = c :: cs.drop (i + 1) := by
      rw [List.drop_eq_getElem_cons hlt]
      rw [List.getElem?_eq_getElem hlt] at hc
      rw [Option.some.inj hc]
    have htake : cs.take (i + 1) = cs.take i ++ [c] := take_more hc
    generalize hpre : (cs.take i).flatMap wr = pre at *
    generalize hpost : (cs.drop (i + 1)).flatMap wr = post at *
    have hN : cs.flatMap wr = pre ++ (wr c ++ post) := by rw [hsplit, hdrop, List.flatMap_cons, hpost]
    rw [hN] at hlx hlen
    have hl3 := ex_l e3 hlx
    have e03 := e.trans e3
    have hnext : ((cs.take (i + 1)).flatMap wr) = pre ++ wr c := by
      rw [htake, List.flatMap_append, hpre]
      simp
    have at0 : (nums (pre ++ (wr c ++ post)))[pre.length + 0]? = some (vI c.1) := at_app (by unfold wr; rfl)
    obtain ⟨s, hs1, hs2⟩ := shape_at T hfit.n
    have hg := hfit.g
    refine ⟨fun σ2 H2 => ∃ (v3 v4 v5 v6 v7 v8 : Option V), σ2 = [some (.ref l), some (.ref L), some (vI (pre ++ wr c).length), v3, v4, v5, v6, v7, v8] ∧ Ex H H2 ∧ ∃ acc, FilledC a H L acc H2 ∧ acc.map (·.2) = cs.take (i + 1), fun σ2 H2 ⟨u3, u4, u5, u6, u7, u8, h1, h2, h3⟩ => ⟨cs.length - (i + 1), by omega, i + 1, u3, u4, u5, u6, u7, u8, rfl, by omega, by rw [hnext]; exact h1, h2, h3⟩, ?_⟩
    refine q_asg (hs1 (ev_op (ev_var rfl) (ev_var rfl) (rv_ixL hl3 (atI_get at0)))) fun H4 e4 => ?_
    refine q_asg (v := vI (pre.length + 1 + c.2.1.length)) (ev_is (ev_op (ev_op (ev_var rfl) ev_c rv_I0) (ev_op (ev_var rfl) ev_c (rv_ixT (hs2 _) (atI_get (i := 0) rfl))) rv_I0) (congrArg V.int (by rw [hg]; rfl))) fun H5 e5 => ?_
    have hl5 := ex_l (e4.trans e5) hl3
    have e05 := e03.trans (e4.trans e5)
    have hF5 := hF.mono (e3.trans (e4.trans e5))
    have nums1 : EvL (tSl (rSlL K) (tVar 0) (tPart (tOp rAdd (tVar 2) (tC (.int 1)))) (tPart (tVar 4))) [some (.ref l), some (.ref L), some (vI pre.length), some (.ref s), some (vI (pre.length + 1 + c.2.1.length)), v5, v6, v7, v8] H5 (nums c.2.1) := by
      have z := el_sl (K := K) (σ := [some (.ref l), some (.ref L), some (vI pre.length), some (.ref s), some (vI (pre.length + 1 + c.2.1.length)), v5, v6, v7, v8]) (te := tVar 0) (ev_var rfl) (eo_some (i := ((pre.length + 1 : Nat) : Int)) (te := tOp rAdd (tVar 2) (tC (.int 1))) (ev_op (ev_var rfl) ev_c rv_I0)) (eo_some (te := tVar 4) (ev_var rfl)) hl5
      have e6 : pre ++ (wr c ++ post) = (pre ++ [c.1]) ++ (c.2.1 ++ ((if hasRow c.1 then c.2.2.length :: c.2.2 else []) ++ post)) := by
        unfold wr
        simp
      rw [e6, cut_app (by simp) rfl] at z
      exact z
    refine q_asgL nums1 fun g H6 hg6 e6 hg6' => ?_
    refine q_asgL (el_lst ea_nil (Nat.le_of_ble_eq_true rfl)) fun r0 H7 hr7 e7 hr7' => ?_
    have hl7 := ex_l (e6.trans e7) hl5
    have hg7 := e7 _ _ hg6'
    have e07 := e05.trans (e6.trans e7)
    have hF7 := hF5.mono (e6.trans e7)
    refine q_cut (M := fun σ' H' => ∃ r v7 v8, σ' = [some (.ref l), some (.ref L), some (vI pre.length), some (.ref s), some (vI (pre ++ wr c).length), some (.ref g), some (.ref r), v7, v8] ∧ Ex H7 H' ∧ H' r = some (.lst (nums c.2.2)) ∧ H r = none ∧ r ≠ L) ?_ ?_
    · refine s_when (b := hasRow c.1) (et_B (ev_op (ev_var rfl) ev_c (rv_ixT (hs2 _) (atI_get (i := 1) rfl)))) (fun hb H8 e8 => ?_) (fun hb H8 e8 => ?_)
      · have hl8 := ex_l e8 hl7
        have hwr : wr c = c.1 :: (c.2.1 ++ (c.2.2.length :: c.2.2)) := by
          unfold wr
          rw [if_pos hb]
        refine q_asg (v := vI (pre.length + 1 + c.2.1.length + 1)) (ev_op (ev_var rfl) ev_c rv_I0) fun H9 e9 => ?_
        have atr : (nums (pre ++ (wr c ++ post)))[pre.length + (1 + c.2.1.length)]? = some (vI c.2.2.length) := at_app (by
          rw [hwr, Nat.add_comm 1, List.getElem?_cons_succ, List.getElem?_append_right (Nat.le_refl _), Nat.sub_self]
          rfl)
        have ea : pre.length + (1 + c.2.1.length) = pre.length + 1 + c.2.1.length := by omega
        rw [ea] at atr
        refine q_asg (v := vI (pre.length + 1 + c.2.1.length + 1 + c.2.2.length)) (ev_op (ev_var rfl) (ev_op (ev_var rfl) (ev_var rfl) (rv_ixL (ex_l e9 hl8) (atI_get atr))) rv_I0) fun H10 e10 => ?_
        have hl10 := ex_l (e9.trans e10) hl8
        refine q_asgL (xs := nums c.2.2) ?_ fun r H11 hr11 e11 hr11' => ?_
        · have z := el_sl (K := K) (σ := [some (.ref l), some (.ref L), some (vI pre.length), some (.ref s), some (vI (pre.length + 1 + c.2.1.length)), some (.ref g), some (.ref r0), some (vI (pre.length + 1 + c.2.1.length + 1)), some (vI (pre.length + 1 + c.2.1.length + 1 + c.2.2.length))]) (te := tVar 0) (ev_var rfl) (eo_some (te := tVar 7) (ev_var rfl)) (eo_some (te := tVar 8) (ev_var rfl)) hl10
          have e6 : pre ++ (wr c ++ post) = (pre ++ (c.1 :: (c.2.1 ++ [c.2.2.length]))) ++ (c.2.2 ++ post) := by
            rw [hwr]
            simp
          rw [e6, cut_app (by simp; omega) rfl] at z
          exact z
        · refine s_asg (v := vI (pre.length + 1 + c.2.1.length + 1 + c.2.2.length)) (ev_var rfl) fun H12 e12 => ?_
          have e8' := ((e8.trans (e9.trans e10)).trans e11).trans e12
          have frL : r ≠ L := (ne_of_none ((e8.trans (e9.trans e10)) _ _ hF7.2.1) hr11).symm
          have ew : (pre ++ wr c).length = pre.length + 1 + c.2.1.length + 1 + c.2.2.length := by
            rw [hwr]
            simp
            omega
          exact ⟨r, some (vI (pre.length + 1 + c.2.1.length + 1)), some (vI (pre.length + 1 + c.2.1.length + 1 + c.2.2.length)), by rw [ew]; rfl, e8', e12 _ _ hr11', fresh_back (e07.trans (e8.trans (e9.trans e10))) hr11, frL⟩
      · have hwr : wr c = c.1 :: c.2.1 := by
          unfold wr
          rw [if_neg (by rw [hb]; decide), List.append_nil]
        have ew : (pre ++ wr c).length = pre.length + 1 + c.2.1.length := by
          rw [hwr]
          simp
          omega
        refine ⟨r0, v7, v8, by rw [ew]; rfl, e8, ?_, fresh_back (e05.trans e6) hr7, (ne_of_none ((e6) _ _ hF5.2.1) hr7).symm⟩
        rw [hfit.r hb]
        exact e8 _ _ hr7'
    · rintro σ' H8 ⟨r, u7, u8, rfl, e8, hr8, hrn, hrL⟩
      have hl8 := ex_l e8 hl7
      have hF8 := hF7.mono e8
      have gL : g ≠ L := (ne_of_none (hF5.2.1) hg6).symm
      have gn : H g = none := fresh_back e05 hg6
      refine q_appMake (vs := [vI c.1, .ref g, .ref r]) hF8.2.1 (ev_var rfl) (ea_cons (ev_op (ev_var rfl) (ev_var rfl) (rv_ixL hl8 (atI_get at0))) (ea_cons (ev_var rfl) (ea_cons (ev_var rfl) ea_nil))) ?_ (fun H9 x d e9 hx hd hn => ?_) (fun _ _ _ _ h k => mono_Call_init h k)
      · have z := congrArg List.length hacc
        rw [List.length_map, List.length_take] at z
        rw [List.length_map]
        have hle := len_le_flat cs
        rw [hN] at hle
        omega
      · have hF9 := hF8.mono e9
        have e89 := e8.trans e9
        have xL : x ≠ L := (ne_of_none hF9.2.1 hx).symm
        have dL : d ≠ L := (ne_of_none hF9.2.1 hd).symm
        refine ⟨x, d, c.1, g, r, rfl, upd_same, fun H10 hx10 kept10 stay10 => ⟨rfl, ?_, ?_⟩⟩
        · refine kept10 L _ ?_ (Ne.symm xL)
          rw [upd_ne (Ne.symm xL), upd_ne (Ne.symm dL)]
          exact hF9.2.1
        · have ex10 : Ex H9 H10 := fun b o hb => by
            have hbx : b ≠ x := ne_of_none hb hx
            have hbd : b ≠ d := ne_of_none hb hd
            refine kept10 b o ?_ hbx
            rw [upd_ne hbx, upd_ne hbd]
            exact hb
          have hF10 := hF9.mono ex10
          have e010 := e07.trans (e89.trans ex10)
          refine s_asg (v := vI (pre ++ wr c).length) (ev_var rfl) fun H11 e11 => ?_
          refine ⟨_, _, _, _, _, _, rfl, ?_, acc ++ [(x, c)], ?_, ?_⟩
          · exact (Ex.mut e010 hL).trans e11
          · refine FilledC.mono e11 ⟨hL, ?_, fun q hq => ?_⟩
            · rw [upd_same, List.map_append]
              rfl
            · rcases List.mem_append.mp hq with hq | hq
              · obtain ⟨q1, dx, g', r', q2, q3, q4, q5, q6, q7, q8, q9⟩ := hF10.2.2 q hq
                exact ⟨q1, dx, g', r', by rw [upd_ne q1]; exact q2, by rw [upd_ne q8]; exact q3, by rw [upd_ne q9]; exact q4, q5, q6, q7, q8, q9⟩
              · rw [List.mem_singleton.mp hq]
                exact ⟨xL, d, g, r, by rw [upd_ne xL]; exact hx10, by rw [upd_ne gL]; exact (e89.trans ex10) _ _ hg7, by rw [upd_ne hrL]; exact (e9.trans ex10) _ _ hr8, fresh_back (e07.trans e89) hx, gn, hrn, gL, hrL⟩
          · rw [List.map_append, hacc, htake]
            rfl
  · have hge : i = cs.length := by
      have := of_decide_eq_false hb
      omega
    subst hge
    refine s_ret (v := .ref L) (ev_var rfl) fun H4 e4 => k L H4 hL ((e.trans e3).trans e4) ⟨acc, (e3.trans e4) _ _ hF.2.1, by rw [hacc, List.take_length], fun q hq => ?_⟩
    obtain ⟨q1, dx, g', r', q2, q3, q4, q5, q6, q7, q8, q9⟩ := hF.2.2 q hq
    exact ⟨q5, dx, g', r', (e3.trans e4) _ _ q2, (e3.trans e4) _ _ q3, (e3.trans e4) _ _ q4, q6, q7⟩
end
end LS

namespace LS
open PySem PySem.Spec PyProof.Rows L2 Evl
open Kh414 (Abs)
section
variable {K : PySem.W.Frag} {mg : Str → Option Value} {a : Ad}
/-! ### Line -/
theorem len_Line_init (a : Ad) (K : PySem.W.Frag) (vs : List V) (H : Hp) (Q : VK) (E : XK) (h : sp_Line_init a K vs H Q E) : vs.length = 1 := by
  obtain ⟨p, dx, rfl, _⟩ := h
  rfl
theorem pure_Line_init (T : Txt K mg a) (vs : List V) (H : Hp) (Q : VK) (E : XK) (h : sp_Line_init a K vs H Q E) : t_Line_init a K (ends Q) (start N_Line_init vs) H := by
  obtain ⟨p, dx, rfl, hp, k⟩ := h
  refine s_fld (v := .non) ev_c (ev_var rfl) hp T.cl_Line T.n_Line_table (Nat.le_of_ble_eq_true rfl) fun H1 e1 => ?_
  refine k _ ?_ (fun b o hb nb => ?_)
  · rw [upd_same]
    rfl
  · rw [upd_ne nb]
    exact e1 _ _ hb
theorem Tab.upd {H : Hp} {p b : Addr} {t : Abs} {O : Addr → Prop} {o : HO} (h : Tab a H p t O) (nb : ¬ O b) : Tab a (L2.upd H b o) p t O := by
  obtain ⟨wf, dx, q, rs, h1, h2, h3, h4, h5, h6⟩ := h
  have ne : ∀ c, O c → c ≠ b := fun c hc z => nb (z ▸ hc)
  refine ⟨wf, dx, q, rs, ?_, ?_, h3, h4, fun i r hi => ?_, h6⟩
  · rw [upd_ne (ne p ((h6 p).mpr (Or.inl rfl)))]
    exact h1
  · rw [upd_ne (ne q ((h6 q).mpr (Or.inr (Or.inl rfl))))]
    exact h2
  · rw [upd_ne (ne r ((h6 r).mpr (Or.inr (Or.inr (List.mem_of_getElem? hi)))))]
    exact h5 i r hi
theorem LineAt.upd {H : Hp} {l b : Addr} {s : Option Abs} {O : Addr → Prop} {o : HO} (h : LineAt a H l s O) (nb : ¬ O b) : LineAt a (L2.upd H b o) l s O := by
  obtain ⟨dx, h⟩ := h
  cases s with
  | none =>
    have : l ≠ b := fun z => nb ((h.2 b).mpr z.symm)
    exact ⟨dx, by rw [upd_ne this]; exact h.1, h.2⟩
  | some t =>
    obtain ⟨p, O', h1, h2, h3, h4⟩ := h
    have : l ≠ b := fun z => nb ((h4 b).mpr (Or.inl z.symm))
    exact ⟨dx, p, O', by rw [upd_ne this]; exact h1, h2.upd (fun z => nb ((h4 b).mpr (Or.inr z))), h3, h4⟩
/-- the line's own object -/
theorem LineAt.own {H : Hp} {l : Addr} {s : Option Abs} {O : Addr → Prop} (h : LineAt a H l s O) : O l ∧ ∃ dx v, H l = some (.ins a.C_Line dx [("table", v)]) := by
  obtain ⟨dx, h⟩ := h
  cases s with
  | none => exact ⟨(h.2 l).mpr rfl, dx, _, h.1⟩
  | some t =>
    obtain ⟨p, O', h1, h2, h3, h4⟩ := h
    exact ⟨(h4 l).mpr (Or.inl rfl), dx, _, h1⟩
theorem lk_table (v : V) : List.lookup ("table" : Str) ([("table", v)] : List (Str × V)) = some v := lk_here
theorem lk_line (v : V) (m : Str) (h : (m == "table") = false) : List.lookup m ([("table", v)] : List (Str × V)) = none := (lk_past h).trans rfl
theorem len_Line_begin (a : Ad) (K : PySem.W.Frag) (vs : List V) (H : Hp) (Q : VK) (E : XK) (h : sp_Line_begin a K vs H Q E) : vs.length = 3 := by
  obtain ⟨l, s, O, x, y, rfl, _⟩ := h
  rfl
/-- a refusal: nothing has changed -/
theorem LeftL.same {H : Hp} {l : Addr} {s : Option Abs} {O : Addr → Prop} {ans : Kh414.Ans} {Q : VK} (h : LineAt a H l s O) (k : LeftL a H l O (s, ans) Q) : RetL (ansL ans) H Q := fun r H2 hr e2 h2 => k H2 O r hr h2 (h.mono e2) (fun b hb => Or.inl hb) fun b o hb _ => e2 b o hb
theorem LeftL.mono {H H' : Hp} {l : Addr} {O : Addr → Prop} {r : Option Abs × Kh414.Ans} {Q : VK} (e : Ex H H') (k : LeftL a H l O r Q) : LeftL a H' l O r Q := fun H2 O' q hq h2 tb own kept =>
  k H2 O' q (fresh_back e hq) h2 tb (fun b hb => (own b hb).imp id fun h => fresh_back e h) fun b o hb nb => kept b o (e b o hb) nb
theorem pure_Line_begin (T : Txt K mg a) (vs : List V) (H : Hp) (Q : VK) (E : XK) (h : sp_Line_begin a K vs H Q E) : t_Line_begin a K (ends Q) (start N_Line_begin vs) H := by
  obtain ⟨l, s, O, x, y, rfl, ln, k⟩ := h
  refine q_when (b := decide (x < 1) || (decide (5 < x) || (decide (y < 1) || decide (5 < y)))) (et_or (et_is (et_test (ev_op (ev_var rfl) ev_c rv_I0)) (dlt (y := 1))) fun _ => et_or (et_is (et_test (ev_op (ev_var rfl) ev_c rv_I0)) (dlt (x := 5))) fun _ => et_or (et_is (et_test (ev_op (ev_var rfl) ev_c rv_I0)) (dlt (y := 1))) fun _ => et_is (et_test (ev_op (ev_var rfl) ev_c rv_I0)) (dlt (x := 5))) (fun hb H1 e1 => ?_) (fun hb H1 e1 => ?_)
  · have e : Kh414.doing s (.begin_ x y) = (s, Kh414.say (-22)) := if_pos (by simpa [Kh414.MOST] using hb)
    rw [e] at k
    exact s_no rfl ((k.same ln).mono e1)
  · have hb' : 1 ≤ x ∧ x ≤ 5 ∧ 1 ≤ y ∧ y ≤ 5 := by
      simp at hb
      omega
    have e : Kh414.doing s (.begin_ x y) = (some (newT x y), Kh414.say 0) := if_neg (by unfold Kh414.MOST; omega)
    rw [e] at k
    have ln1 := ln.mono e1
    have k1 := k.mono e1
    obtain ⟨Ol, dx, v, hl⟩ := ln1.own
    refine q_fldMake (vs := [vI x, vI y]) (ea_cons (ev_var rfl) (ea_cons (ev_var rfl) ea_nil)) fun H2 p d e2 hp hd hn => ?_
    have pl : p ≠ l := (ne_of_none (e2 _ _ hl) hp).symm
    have dl : d ≠ l := (ne_of_none (e2 _ _ hl) hd).symm
    refine ⟨p, d, x, y, rfl, upd_same, hb'.1, hb'.2.1, hb'.2.2.1, hb'.2.2.2, fun H3 O3 tb3 own3 kept3 => ⟨rfl, ?_⟩⟩
    have ex3 : Ex H2 H3 := fun b o hb => by
      have h1 : b ≠ p := ne_of_none hb hp
      have h2 : b ≠ d := ne_of_none hb hd
      refine kept3 b o ?_ h1
      rw [upd_ne h1, upd_ne h2]
      exact hb
    have nO3 : ∀ b o, H2 b = some o → ¬ O3 b := fun b o hb h => by
      have h1 : b ≠ p := ne_of_none hb hp
      have h2 : b ≠ d := ne_of_none hb hd
      rcases own3 b h with z | z
      · exact h1 z
      · rw [upd_ne h1, upd_ne h2, hb] at z
        cases z
    have hl3 := (e2.trans ex3) _ _ hl
    refine ⟨_, rfl, l, a.C_Line, dx, _, rfl, hl3, T.cl_Line, T.n_Line_table, Nat.le_of_ble_eq_true rfl, ?_⟩
    refine s_retL (el_lst (ea_cons ev_c ea_nil) (Nat.le_of_ble_eq_true rfl)) fun r H5 hr e5 h5 => ?_
    have pf : putF "table" (.ref p) ([("table", v)] : List (Str × V)) = ([("table", .ref p)] : List (Str × V)) := put_here
    rw [pf] at hr e5
    have nl : ¬ O3 l := nO3 l _ (e2 _ _ hl)
    have l5 : H5 l = some (.ins a.C_Line dx [("table", .ref p)]) := e5 _ _ upd_same
    have hrn : H3 r = none := none_upd hr
    refine k1 H5 (fun b => b = l ∨ O3 b) r (fresh_back (e2.trans ex3) hrn) h5 ⟨dx, p, O3, l5, Tab.mono e5 (tb3.upd nl), nl, fun b => Iff.rfl⟩ (fun b hb => ?_) fun b o hb nb => ?_
    · rcases hb with hb | hb
      · rw [hb]
        exact Or.inl Ol
      · right
        cases e : H1 b with
        | none => rfl
        | some o => exact absurd hb (nO3 b o (e2 _ _ e))
    · have hbl : b ≠ l := fun z => nb (z ▸ Ol)
      refine e5 _ _ ?_
      rw [upd_ne hbl]
      exact (e2.trans ex3) _ _ hb
/-! ### answers -/
theorem len_answers (a : Ad) (K : PySem.W.Frag) (vs : List V) (H : Hp) (Q : VK) (E : XK) (h : sp_answers a K vs H Q E) : vs.length = 1 := by
  obtain ⟨l, cs, rfl, _⟩ := h
  rfl
theorem sr_read {H : Hp} {l : Addr} {cs : List CallN} (hl : SqL K H l (nums (cs.flatMap wr))) (fits : ∀ k ∈ cs, Fits k) (hlen : (cs.flatMap wr).length ≤ 1620) : SpR (sp_read_calls a K) [.ref l] H (fun q H2 => CallsAt a H H2 q cs) :=
  fun H1 e Q q _ => ⟨l, cs, rfl, ex_l e hl, fits, hlen, fun p H2 hp e2 ⟨ps, h1, h2, h3⟩ => q p H2 hp e2 ⟨ps, h1, h2, fun x hx => by
    obtain ⟨z0, dx, g, r, z1, z2, z3, z4, z5⟩ := h3 x hx
    exact ⟨fresh_back e z0, dx, g, r, z1, z2, z3, fresh_back e z4, fresh_back e z5⟩⟩⟩
/-- the state behind some calls -/
def stateOf : List CallN → Option Abs → Option Abs
  | [], s => s
  | k :: ks, s => stateOf ks (Kh414.doing s (theCall k)).1
def outOf (k : CallN) (s : Option Abs) : List Int := (Kh414.doing s (theCall k)).2.ret :: (Kh414.doing s (theCall k)).2.out
theorem played_cons (s : Option Abs) (k : CallN) (ks : List CallN) : played s (k :: ks) = (((outOf k s).length : Int) :: outOf k s) ++ played (Kh414.doing s (theCall k)).1 ks := rfl
theorem tbm_app {σ : L2.St} {H : Hp} {ta te : TE} {v : V} {D : Ends} {tz : TS} {l : Addr} {xs : List V} (hl : H l = some (.lst xs)) (ha : Ev ta σ H (.ref l)) (h : Ev te σ H v) (hz : xs.length < sizeLine) (k : ∀ H1, Ex H H1 → tz D σ (L2.upd H1 l (.lst (xs ++ [v])))) :
    tSeq (tDrop (tBM K "list" rAppend ta (tCons te tNil))) tz D σ H := ha H (Ex.refl H) _ fun H1 e1 =>
  ⟨Or.inl ⟨rfl, xs, sq_of (e1 l _ hl)⟩, h H1 e1 _ fun H2 e2 => ⟨l, xs, v, rfl, rfl, e2 l _ (e1 l _ hl), hz, k H2 (e1.trans e2)⟩⟩
theorem pure_answers (T : Txt K mg a) (vs : List V) (H : Hp) (Q : VK) (E : XK) (h : sp_answers a K vs H Q E) : t_answers a K (ends Q) (start N_answers vs) H := by
  obtain ⟨l, cs, rfl, hl, fits, hlen, hbig, cod, k⟩ := h
  refine q_asgMake (vs := []) ea_nil fun H1 x d e1 hx hd hn => ?_
  refine ⟨x, d, rfl, upd_same, fun H2 hx2 kept2 => ⟨rfl, ?_⟩⟩
  have e02 : Ex H H2 := fun b o hb => by
    have h1 : b ≠ x := ne_of_none (e1 _ _ hb) hx
    have h2 : b ≠ d := ne_of_none (e1 _ _ hb) hd
    refine kept2 b o ?_ h1
    rw [upd_ne h1, upd_ne h2]
    exact e1 _ _ hb
  refine q_asgL (el_lst ea_nil (Nat.le_of_ble_eq_true rfl)) fun G H3 hG e3 hG3 => ?_
  have hl3 := ex_l (e02.trans e3) hl
  have hx3 := e3 _ _ hx2
  refine er_call1 (ea_cons (ev_var rfl) ea_nil) (sr_read hl3 fits hlen) H3 (Ex.refl H3) _ fun p H4 hp e4 ⟨ps, h1, h2, h3⟩ => ?_
  have hx4 := e4 _ _ hx3
  have hG4 := e4 _ _ hG3
  have Gx : G ≠ x := ne_of hG4 hx4 (by intro z; cases z)
  have cod4 := cod.ex ((e02.trans e3).trans e4)
  refine ⟨p, rfl, ⟨_, sq_of h1⟩, for_list (K := K) (a := p) (xs := ps.map fun q => V.ref q.1)
    (fun i σ' H' => ∃ v3 v4 O, σ' = [some (.ref l), some (.ref x), some (.ref G), v3, v4] ∧ LineAt a H' x (stateOf (cs.take i) none) O ∧ Cod a H' ∧ (∀ b, O b → b = x ∨ H4 b = none) ∧ (∀ b o, b ≠ a.P_likeliest_row → H4 b = some o → b ≠ x → b ≠ G → H' b = some o) ∧ ∃ outs, H' G = some (.lst (outs.map V.int)) ∧ played none cs = outs ++ played (stateOf (cs.take i) none) (cs.drop i))
    ⟨none, none, fun b => b = x, rfl, ⟨d, hx4, fun b => Iff.rfl⟩, cod4, fun b hb => Or.inl hb, fun b o _ hb _ _ => hb, [], hG4, rfl⟩ ?_ ?_ ?_⟩
  · rintro i σ' H' _ ⟨v3, v4, O, _, _, _, _, kept, _⟩
    exact sq_of (kept p _ (cod4.ne h1 lst_nt) h1 (ne_of h1 hx4 (by intro z; cases z)) (fun z => by rw [z, hG3] at hp; cases hp))
  · rintro i y σ' H' hi ⟨v3, v4, O, rfl, ln, cod', own, kept, outs, hGo, hplay⟩
    rw [List.getElem?_map] at hi
    obtain ⟨q, hq, rfl⟩ := Option.map_eq_some_iff.mp hi
    have hck : cs[i]? = some q.2 := by rw [← h2, List.getElem?_map, hq]; rfl
    obtain ⟨hq0, dx, g, r, c1, c2, c3, c4, c5⟩ := h3 q (List.mem_of_getElem? hq)
    have nx : ∀ {b : Addr} {o : HO}, H4 b = some o → H3 b = none → b ≠ x ∧ b ≠ G := fun hb hb3 => ⟨fun z => (by rw [z, hx3] at hb3; cases hb3), fun z => (by rw [z, hG3] at hb3; cases hb3)⟩
    have call : CallAt a H' q.1 q.2 := ⟨dx, g, r, kept _ _ (cod4.ne c1 ins_nt) c1 (nx c1 hq0).1 (nx c1 hq0).2, kept _ _ (cod4.ne c2 lst_nt) c2 (nx c2 c4).1 (nx c2 c4).2, kept _ _ (cod4.ne c3 lst_nt) c3 (nx c3 c5).1 (nx c3 c5).2⟩
    have fit := fits q.2 (List.mem_of_getElem? hck)
    obtain ⟨Ox, dl, v, hlx⟩ := ln.own
    have hdrop : cs.drop i = q.2 :: cs.drop (i + 1) := by
      have hlt := (List.getElem?_eq_some_iff.mp hck).1
      rw [List.drop_eq_getElem_cons hlt]
      rw [List.getElem?_eq_getElem hlt] at hck
      rw [Option.some.inj hck]
    have htake : ∀ s, stateOf (cs.take (i + 1)) s = (Kh414.doing (stateOf (cs.take i) s) (theCall q.2)).1 := by
      rw [take_more hck]
      generalize cs.take i = u
      induction u with
      | nil => exact fun s => rfl
      | cons c u ih => exact fun s => ih _
    generalize hst : stateOf (cs.take i) none = st at *
    rw [hdrop, played_cons] at hplay
    have hsz := congrArg List.length hplay
    rw [List.length_append, List.length_append, List.length_cons] at hsz
    have line : sizeLine = 16777216 := sizeLine_eq
    refine q_asgMeth (vs := [.ref q.1]) (ev_var rfl) hlx (lk_line v "answer" (by decide +kernel)) (ea_cons (ev_var rfl) ea_nil) fun H5 e5 => ?_
    have cod5 := cod'.ex e5
    refine ⟨x, q.1, st, O, q.2, rfl, ln.mono e5, cod5, call.mono e5, fit, fun H6 O6 s6 hs6 hans ln6 own6 kept6 cod6 => ?_⟩
    have nOG : ¬ O G := fun z => by
      rcases own G z with h | h
      · exact Gx h
      · rw [h] at hG4
        cases hG4
    have hG6 := kept6 G _ (cod5.ne (e5 _ _ hGo) lst_nt) (e5 _ _ hGo) nOG
    have nOG6 : ¬ O6 G := fun z => by
      rcases own6 G z with h | h
      · exact nOG h
      · rw [e5 _ _ hGo] at h
        cases h
    have sG : s6 ≠ G := fun z => by
      rw [z, e5 _ _ hGo] at hs6
      cases hs6
    refine tbm_app (v := .int ((outOf q.2 st).length : Int)) hG6 (ev_var rfl) (ev_is (ev_len (ev_var rfl) (sq_of hans)) (by unfold ansL outOf; rw [List.length_map])) (by rw [List.length_map, line]; omega) fun H7 e7 => ?_
    refine tbm_ext (l := G) (b := s6) (zs := (outOf q.2 st).map V.int) upd_same (by rw [upd_ne sG]; exact e7 _ _ hans) (ev_var rfl) (ev_var rfl) (by
      rw [List.length_append, List.length_map, List.length_map, line]
      show outs.length + 1 + (outOf q.2 st).length ≤ _
      omega) fun H8 e8 => ?_
    have cod7 : Cod a (L2.upd H7 G (.lst (outs.map V.int ++ [.int ((outOf q.2 st).length : Int)]))) := (cod6.ex e7).upd (e7 _ _ hG6)
    have cod8 := cod7.ex e8
    refine ⟨_, _, O6, rfl, ?_, cod8.upd (e8 _ _ upd_same), fun b hb => ?_, fun b o np hb hbx hbG => ?_, outs ++ (((outOf q.2 st).length : Int) :: outOf q.2 st), ?_, ?_⟩
    · rw [htake, hst]
      exact ((((ln6.mono e7).upd nOG6).mono e8).upd nOG6)
    · rcases own6 b hb with h | h
      · exact own b h
      · by_cases cb : b = x
        · exact Or.inl cb
        · right
          cases e : H4 b with
          | none => rfl
          | some o =>
            by_cases cG : b = G
            · rw [cG, e5 _ _ hGo] at h
              cases h
            · by_cases np : b = a.P_likeliest_row
              · obtain ⟨qs, z1, _⟩ := cod5
                rw [np, z1] at h
                cases h
              · rw [e5 _ _ (kept b o np e cb cG)] at h
                cases h
    · have nO : ¬ O b := fun z => by
        rcases own b z with h | h
        · exact hbx h
        · rw [h] at hb
          cases hb
      rw [upd_ne hbG]
      refine e8 _ _ ?_
      rw [upd_ne hbG]
      exact e7 _ _ (kept6 b o np (e5 _ _ (kept b o np hb hbx hbG)) nO)
    · rw [upd_same, List.map_append, List.map_cons, List.append_assoc]
      rfl
    · rw [htake, hst, hplay, List.append_assoc]
  · rintro σ' H' ⟨v3, v4, O, rfl, ln, cod', own, kept, outs, hGo, hplay⟩
    have hlen2 : (ps.map fun q => V.ref q.1).length = cs.length := by rw [List.length_map, ← h2, List.length_map]
    rw [hlen2, List.drop_length] at hplay
    have e : played none cs = outs := by
      rw [hplay]
      exact List.append_nil _
    refine s_ret (v := .ref G) (ev_var rfl) fun H5 e5 => k G H5 ?_
    rw [e]
    exact e5 _ _ hGo
end
end LS

namespace LS
open PySem PySem.Spec PyProof.Rows L2 Evl
open Kh414 (Abs)
section
variable {K : PySem.W.Frag} {mg : Str → Option Value} {a : Ad}
theorem nats_cast (l : List Nat) : Kh414Neutral.nats (l.map fun (n : Nat) => (n : Int)) = l := by
  unfold Kh414Neutral.nats
  rw [List.map_map]
  conv => rhs; rw [← List.map_id l]
  rfl
theorem call_set (x y w : Nat) (r : List Nat) : theCall (1, [x, y, w], r) = .set x y w := rfl
theorem call_row (x : Nat) (r : List Nat) : theCall (2, [x], r) = .row x r := congrArg (Kh414.Call.row x) (nats_cast r)
theorem call_forget (y : Nat) (r : List Nat) : theCall (3, [y], r) = .forget y := rfl
theorem call_may (x y : Nat) (r : List Nat) : theCall (4, [x, y], r) = .may x y := rfl
theorem call_mixed (x y : Nat) (r : List Nat) : theCall (5, [x, y], r) = .mixed x y := rfl
theorem call_with (x : Nat) (r : List Nat) : theCall (6, [x], r) = .with_ x := rfl
theorem call_good (r : List Nat) : theCall (7, [], r) = .good r := congrArg Kh414.Call.good (nats_cast r)
theorem call_clash (r : List Nat) : theCall (8, [], r) = .clash r := congrArg Kh414.Call.clash (nats_cast r)
theorem call_fewest (r : List Nat) : theCall (9, [], r) = .fewest := rfl
theorem call_best (r : List Nat) : theCall (10, [], r) = .best := rfl
theorem call_ways (k : Nat) (r : List Nat) : theCall (11, [k], r) = .ways k := rfl
theorem call_crowd (r : List Nat) : theCall (12, [], r) = .crowd := rfl
theorem call_why (r : List Nat) : theCall (13, [], r) = .why := rfl
theorem call_apart (r : List Nat) : theCall (14, [], r) = .apart := rfl
theorem call_told (c y : Nat) (r : List Nat) : theCall (15, [c, y], r) = .told c y r := congrArg (Kh414.Call.told c y) (nats_cast r)
theorem call_sure (y : Nat) (r : List Nat) : theCall (16, [y], r) = .sure y := rfl
theorem call_good_two (r : List Nat) : theCall (17, [], r) = .goodTwo r := congrArg Kh414.Call.goodTwo (nats_cast r)
theorem call_greedy_two (r : List Nat) : theCall (18, [], r) = .greedyTwo := rfl
theorem call_mixed_two (x z u v : Nat) (r : List Nat) : theCall (19, [x, z, u, v], r) = .mixedTwo x z u v := rfl
theorem call_often (r : List Nat) : theCall (20, [], r) = .often r := congrArg Kh414.Call.often (nats_cast r)
theorem call_likeliest (k : Nat) (r : List Nat) : theCall (21, [k], r) = .likeliest k := rfl
theorem call_all (r : List Nat) : theCall (22, [], r) = .all_ := rfl
theorem call_begin (x y : Nat) (r : List Nat) : theCall (0, [x, y], r) = .begin_ x y := rfl
theorem len0 {g : List Nat} (h : g.length = 0) : g = [] := List.length_eq_zero_iff.mp h
theorem len1 {g : List Nat} (h : g.length = 1) : ∃ x, g = [x] := List.length_eq_one_iff.mp h
theorem len2 {g : List Nat} (h : g.length = 2) : ∃ x y, g = [x, y] := by
  match g, h with
  | [x, y], _ => exact ⟨x, y, rfl⟩
theorem len3 {g : List Nat} (h : g.length = 3) : ∃ x y z, g = [x, y, z] := by
  match g, h with
  | [x, y, z], _ => exact ⟨x, y, z, rfl⟩
theorem len4 {g : List Nat} (h : g.length = 4) : ∃ x y z u, g = [x, y, z, u] := by
  match g, h with
  | [x, y, z, u], _ => exact ⟨x, y, z, u, rfl⟩
section
variable {σ : L2.St} {H : Hp} {te : TE} {g : Addr} {l : List Nat} {D : Ends}
/-- numbers[i] -/
theorem ev_at {i : Nat} (h : Ev te σ H (.ref g)) (hg : H g = some (.lst (nums l))) (hi : i < l.length) : Ev (tOp (rIxL K) te (tC (.int (i : Int)))) σ H (vI (l.getD i 0)) := ev_op h ev_c (rv_ixL (sq_of hg) (atI_get (nums_get hi)))
/-- number == n -/
theorem et_eqn {n m : Nat} (h : Ev te σ H (vI n)) : EvT (tTest (tOp rEq te (tC (.int (m : Int))))) σ H (n == m) := et_is (et_test (ev_op h ev_c (rv_eq rfl))) dec_vI
theorem et_len {n m : Nat} (h : Ev te σ H (vI n)) : EvT (tTest (tOp rLe te (tC (.int (m : Int))))) σ H (decide (n ≤ m)) := et_is (et_test (ev_op h ev_c rv_I0)) dle
end
theorem len_answer_change (a : Ad) (K : PySem.W.Frag) (vs : List V) (H : Hp) (Q : VK) (E : XK) (h : sp_answer_change a K vs H Q E) : vs.length = 4 := by
  obtain ⟨p, t, O, k, g, r, rfl, _⟩ := h
  rfl
theorem pure_answer_change (T : Txt K mg a) (vs : List V) (H : Hp) (Q : VK) (E : XK) (h : sp_answer_change a K vs H Q E) : t_answer_change a K (ends Q) (start N_answer_change vs) H := by
  obtain ⟨p, t, O, ⟨n, g, r⟩, ga, ra, rfl, tb, hg, hr, fit, n1, n3, k⟩ := h
  have fg := fit.g
  have fm := fit.most
  refine q_when (et_eqn (m := 1) (ev_var rfl)) (fun hb H1 e1 => ?_) (fun hb H1 e1 => ?_)
  · have hn : n = 1 := by simpa using hb
    subst hn
    obtain ⟨x, y, w, rfl⟩ := len3 (g := g) fg
    rw [call_set] at k
    exact s_retCall (vs := [.ref p, vI x, vI y, vI w]) (ea_cons (ev_var rfl) (ea_cons (ev_at (i := 0) (ev_var rfl) (e1 _ _ hg) (Nat.le_of_ble_eq_true rfl)) (ea_cons (ev_at (i := 1) (ev_var rfl) (e1 _ _ hg) (Nat.le_of_ble_eq_true rfl)) (ea_cons (ev_at (i := 2) (ev_var rfl) (e1 _ _ hg) (Nat.le_of_ble_eq_true rfl)) ea_nil)))) fun H2 e2 => ⟨p, t, O, x, y, w, rfl, tb.mono (e1.trans e2), k.mono (e1.trans e2)⟩
  · refine q_when (et_eqn (m := 2) (ev_var rfl)) (fun hb2 H2 e2 => ?_) (fun hb2 H2 e2 => ?_)
    · have hn : n = 2 := by simpa using hb2
      subst hn
      obtain ⟨x, rfl⟩ := len1 (g := g) fg
      rw [call_row] at k
      exact s_retCall (vs := [.ref p, vI x, .ref ra]) (ea_cons (ev_var rfl) (ea_cons (ev_at (i := 0) (ev_var rfl) ((e1.trans e2) _ _ hg) (Nat.le_of_ble_eq_true rfl)) (ea_cons (ev_var rfl) ea_nil))) fun H3 e3 => ⟨p, t, O, x, ra, r, rfl, tb.mono ((e1.trans e2).trans e3), sq_of (((e1.trans e2).trans e3) _ _ hr), by show r.length ≤ 2000; have : r.length ≤ 1700 := fm; omega, k.mono ((e1.trans e2).trans e3)⟩
    · have hn : n = 3 := by
        have a1 : n ≠ 1 := by simpa using hb
        have a2 : n ≠ 2 := by simpa using hb2
        have a3 : 1 ≤ n := n1
        have a4 : n ≤ 3 := n3
        omega
      subst hn
      obtain ⟨y, rfl⟩ := len1 (g := g) fg
      rw [call_forget] at k
      exact s_retCall (vs := [.ref p, vI y]) (ea_cons (ev_var rfl) (ea_cons (ev_at (i := 0) (ev_var rfl) ((e1.trans e2) _ _ hg) (Nat.le_of_ble_eq_true rfl)) ea_nil)) fun H3 e3 => ⟨p, t, O, y, rfl, tb.mono ((e1.trans e2).trans e3), k.mono ((e1.trans e2).trans e3)⟩
theorem len_answer_mixed (a : Ad) (K : PySem.W.Frag) (vs : List V) (H : Hp) (Q : VK) (E : XK) (h : sp_answer_mixed a K vs H Q E) : vs.length = 3 := by
  obtain ⟨p, t, O, k, g, rfl, _⟩ := h
  rfl
theorem pure_answer_mixed (T : Txt K mg a) (vs : List V) (H : Hp) (Q : VK) (E : XK) (h : sp_answer_mixed a K vs H Q E) : t_answer_mixed a K (ends Q) (start N_answer_mixed vs) H := by
  obtain ⟨p, t, O, ⟨n, g, r⟩, ga, rfl, tb, hg, fit, n1, n3, k⟩ := h
  have fg := fit.g
  refine q_when (et_eqn (m := 4) (ev_var rfl)) (fun hb H1 e1 => ?_) (fun hb H1 e1 => ?_)
  · have hn : n = 4 := by simpa using hb
    subst hn
    obtain ⟨x, y, rfl⟩ := len2 (g := g) fg
    rw [call_may] at k
    exact s_retCall (vs := [.ref p, vI x, vI y]) (ea_cons (ev_var rfl) (ea_cons (ev_at (i := 0) (ev_var rfl) (e1 _ _ hg) (Nat.le_of_ble_eq_true rfl)) (ea_cons (ev_at (i := 1) (ev_var rfl) (e1 _ _ hg) (Nat.le_of_ble_eq_true rfl)) ea_nil))) fun H2 e2 => ⟨p, t, O, x, y, rfl, tb.mono (e1.trans e2), k.mono (e1.trans e2)⟩
  · refine q_when (et_eqn (m := 5) (ev_var rfl)) (fun hb2 H2 e2 => ?_) (fun hb2 H2 e2 => ?_)
    · have hn : n = 5 := by simpa using hb2
      subst hn
      obtain ⟨x, y, rfl⟩ := len2 (g := g) fg
      rw [call_mixed] at k
      exact s_retCall (vs := [.ref p, vI x, vI y]) (ea_cons (ev_var rfl) (ea_cons (ev_at (i := 0) (ev_var rfl) ((e1.trans e2) _ _ hg) (Nat.le_of_ble_eq_true rfl)) (ea_cons (ev_at (i := 1) (ev_var rfl) ((e1.trans e2) _ _ hg) (Nat.le_of_ble_eq_true rfl)) ea_nil))) fun H3 e3 => ⟨p, t, O, x, y, rfl, tb.mono ((e1.trans e2).trans e3), k.mono ((e1.trans e2).trans e3)⟩
    · have hn : n = 6 := by
        have a1 : n ≠ 4 := by simpa using hb
        have a2 : n ≠ 5 := by simpa using hb2
        have a3 : 4 ≤ n := n1
        have a4 : n ≤ 6 := n3
        omega
      subst hn
      obtain ⟨y, rfl⟩ := len1 (g := g) fg
      rw [call_with] at k
      exact s_retCall (vs := [.ref p, vI y]) (ea_cons (ev_var rfl) (ea_cons (ev_at (i := 0) (ev_var rfl) ((e1.trans e2) _ _ hg) (Nat.le_of_ble_eq_true rfl)) ea_nil)) fun H3 e3 => ⟨p, t, O, y, rfl, tb.mono ((e1.trans e2).trans e3), k.mono ((e1.trans e2).trans e3)⟩
theorem look_same (t : Abs) (g r : List Nat) : ∀ n : Nat, 4 ≤ n → n < 23 → (Kh414.does t (theCall (n, g, r))).1 = t
  | 4, _, _ => rfl
  | 5, _, _ => rfl
  | 6, _, _ => rfl
  | 7, _, _ => rfl
  | 8, _, _ => rfl
  | 9, _, _ => rfl
  | 10, _, _ => rfl
  | 11, _, _ => rfl
  | 12, _, _ => rfl
  | 13, _, _ => rfl
  | 14, _, _ => rfl
  | 15, _, _ => rfl
  | 16, _, _ => rfl
  | 17, _, _ => rfl
  | 18, _, _ => rfl
  | 19, _, _ => rfl
  | 20, _, _ => rfl
  | 21, _, _ => rfl
  | 22, _, _ => rfl
  | n + 23, _, h => absurd h (by omega)
theorem doing_none (g r : List Nat) : ∀ n : Nat, 1 ≤ n → n < 23 → Kh414.doing none (theCall (n, g, r)) = (none, Kh414.say (-61))
  | 1, _, _ => rfl
  | 2, _, _ => rfl
  | 3, _, _ => rfl
  | 4, _, _ => rfl
  | 5, _, _ => rfl
  | 6, _, _ => rfl
  | 7, _, _ => rfl
  | 8, _, _ => rfl
  | 9, _, _ => rfl
  | 10, _, _ => rfl
  | 11, _, _ => rfl
  | 12, _, _ => rfl
  | 13, _, _ => rfl
  | 14, _, _ => rfl
  | 15, _, _ => rfl
  | 16, _, _ => rfl
  | 17, _, _ => rfl
  | 18, _, _ => rfl
  | 19, _, _ => rfl
  | 20, _, _ => rfl
  | 21, _, _ => rfl
  | 22, _, _ => rfl
  | n + 23, _, h => absurd h (by omega)
theorem doing_some (t : Abs) (g r : List Nat) : ∀ n : Nat, 1 ≤ n → n < 23 → Kh414.doing (some t) (theCall (n, g, r)) = (some (Kh414.does t (theCall (n, g, r))).1, (Kh414.does t (theCall (n, g, r))).2)
  | 1, _, _ => rfl
  | 2, _, _ => rfl
  | 3, _, _ => rfl
  | 4, _, _ => rfl
  | 5, _, _ => rfl
  | 6, _, _ => rfl
  | 7, _, _ => rfl
  | 8, _, _ => rfl
  | 9, _, _ => rfl
  | 10, _, _ => rfl
  | 11, _, _ => rfl
  | 12, _, _ => rfl
  | 13, _, _ => rfl
  | 14, _, _ => rfl
  | 15, _, _ => rfl
  | 16, _, _ => rfl
  | 17, _, _ => rfl
  | 18, _, _ => rfl
  | 19, _, _ => rfl
  | 20, _, _ => rfl
  | 21, _, _ => rfl
  | 22, _, _ => rfl
  | n + 23, _, h => absurd h (by omega)
theorem len_answer_letters (a : Ad) (K : PySem.W.Frag) (vs : List V) (H : Hp) (Q : VK) (E : XK) (h : sp_answer_letters a K vs H Q E) : vs.length = 4 := by
  obtain ⟨p, t, O, k, g, r, rfl, _⟩ := h
  rfl
theorem pure_answer_letters (T : Txt K mg a) (vs : List V) (H : Hp) (Q : VK) (E : XK) (h : sp_answer_letters a K vs H Q E) : t_answer_letters a K (ends Q) (start N_answer_letters vs) H := by
  obtain ⟨p, t, O, ⟨n, g, r⟩, ga, ra, rfl, tb, hg, hr, fit, n1, n3, k⟩ := h
  have fg := fit.g
  have fm : r.length ≤ 1700 := fit.most
  have n1 : 7 ≤ n := n1
  have n3 : n ≤ 11 := n3
  refine q_when (et_eqn (m := 7) (ev_var rfl)) (fun hb H1 e1 => ?_) (fun hb H1 e1 => ?_)
  · have hn : n = 7 := by simpa using hb
    subst hn
    obtain rfl := len0 (g := g) fg
    rw [call_good] at k
    exact s_retCall (vs := [.ref p, .ref ra]) (ea_cons (ev_var rfl) (ea_cons (ev_var rfl) ea_nil)) fun H2 e2 => ⟨p, t, O, ra, r, rfl, tb.mono (e1.trans e2), sq_of ((e1.trans e2) _ _ hr), by omega, k.mono (e1.trans e2)⟩
  · have m1 : n ≠ 7 := by simpa using hb
    refine q_when (et_eqn (m := 8) (ev_var rfl)) (fun hb H2 e2 => ?_) (fun hb H2 e2 => ?_)
    · have hn : n = 8 := by simpa using hb
      subst hn
      obtain rfl := len0 (g := g) fg
      rw [call_clash] at k
      exact s_retCall (vs := [.ref p, .ref ra]) (ea_cons (ev_var rfl) (ea_cons (ev_var rfl) ea_nil)) fun H3 e3 => ⟨p, t, O, ra, r, rfl, tb.mono ((e1.trans e2).trans e3), sq_of (((e1.trans e2).trans e3) _ _ hr), by omega, k.mono ((e1.trans e2).trans e3)⟩
    · have m2 : n ≠ 8 := by simpa using hb
      have e12 := e1.trans e2
      refine q_when (et_eqn (m := 9) (ev_var rfl)) (fun hb H3 e3 => ?_) (fun hb H3 e3 => ?_)
      · have hn : n = 9 := by simpa using hb
        subst hn
        obtain rfl := len0 (g := g) fg
        rw [call_fewest] at k
        exact s_retCall (vs := [.ref p]) (ea_cons (ev_var rfl) ea_nil) fun H4 e4 => ⟨p, t, O, rfl, tb.mono ((e12.trans e3).trans e4), k.mono ((e12.trans e3).trans e4)⟩
      · have m3 : n ≠ 9 := by simpa using hb
        have e13 := e12.trans e3
        refine q_when (et_eqn (m := 10) (ev_var rfl)) (fun hb H4 e4 => ?_) (fun hb H4 e4 => ?_)
        · have hn : n = 10 := by simpa using hb
          subst hn
          obtain rfl := len0 (g := g) fg
          rw [call_best] at k
          exact s_retCall (vs := [.ref p]) (ea_cons (ev_var rfl) ea_nil) fun H5 e5 => ⟨p, t, O, rfl, tb.mono ((e13.trans e4).trans e5), k.mono ((e13.trans e4).trans e5)⟩
        · have m4 : n ≠ 10 := by simpa using hb
          have hn : n = 11 := by omega
          subst hn
          obtain ⟨x, rfl⟩ := len1 (g := g) fg
          rw [call_ways] at k
          exact s_retCall (vs := [.ref p, vI x]) (ea_cons (ev_var rfl) (ea_cons (ev_at (i := 0) (ev_var rfl) ((e13.trans e4) _ _ hg) (Nat.le_of_ble_eq_true rfl)) ea_nil)) fun H5 e5 => ⟨p, t, O, x, rfl, tb.mono ((e13.trans e4).trans e5), k.mono ((e13.trans e4).trans e5)⟩
theorem len_answer_sets (a : Ad) (K : PySem.W.Frag) (vs : List V) (H : Hp) (Q : VK) (E : XK) (h : sp_answer_sets a K vs H Q E) : vs.length = 4 := by
  obtain ⟨p, t, O, k, g, r, rfl, _⟩ := h
  rfl
theorem pure_answer_sets (T : Txt K mg a) (vs : List V) (H : Hp) (Q : VK) (E : XK) (h : sp_answer_sets a K vs H Q E) : t_answer_sets a K (ends Q) (start N_answer_sets vs) H := by
  obtain ⟨p, t, O, ⟨n, g, r⟩, ga, ra, rfl, tb, hg, hr, fit, n1, n3, k⟩ := h
  have fg := fit.g
  have fm : r.length ≤ 1700 := fit.most
  have n1 : 12 ≤ n := n1
  have n3 : n ≤ 16 := n3
  refine q_when (et_eqn (m := 12) (ev_var rfl)) (fun hb H1 e1 => ?_) (fun hb H1 e1 => ?_)
  · have hn : n = 12 := by simpa using hb
    subst hn
    obtain rfl := len0 (g := g) fg
    rw [call_crowd] at k
    exact s_retCall (vs := [.ref p]) (ea_cons (ev_var rfl) ea_nil) fun H2 e2 => ⟨p, t, O, rfl, tb.mono (e1.trans e2), k.mono (e1.trans e2)⟩
  · have m1 : n ≠ 12 := by simpa using hb
    refine q_when (et_eqn (m := 13) (ev_var rfl)) (fun hb H2 e2 => ?_) (fun hb H2 e2 => ?_)
    · have hn : n = 13 := by simpa using hb
      subst hn
      obtain rfl := len0 (g := g) fg
      rw [call_why] at k
      exact s_retCall (vs := [.ref p]) (ea_cons (ev_var rfl) ea_nil) fun H3 e3 => ⟨p, t, O, rfl, tb.mono ((e1.trans e2).trans e3), k.mono ((e1.trans e2).trans e3)⟩
    · have m2 : n ≠ 13 := by simpa using hb
      have e12 := e1.trans e2
      refine q_when (et_eqn (m := 14) (ev_var rfl)) (fun hb H3 e3 => ?_) (fun hb H3 e3 => ?_)
      · have hn : n = 14 := by simpa using hb
        subst hn
        obtain rfl := len0 (g := g) fg
        rw [call_apart] at k
        exact s_retCall (vs := [.ref p]) (ea_cons (ev_var rfl) ea_nil) fun H4 e4 => ⟨p, t, O, rfl, tb.mono ((e12.trans e3).trans e4), k.mono ((e12.trans e3).trans e4)⟩
      · have m3 : n ≠ 14 := by simpa using hb
        have e13 := e12.trans e3
        refine q_when (et_eqn (m := 15) (ev_var rfl)) (fun hb H4 e4 => ?_) (fun hb H4 e4 => ?_)
        · have hn : n = 15 := by simpa using hb
          subst hn
          obtain ⟨c, y, rfl⟩ := len2 (g := g) fg
          rw [call_told] at k
          exact s_retCall (vs := [.ref p, vI c, vI y, .ref ra]) (ea_cons (ev_var rfl) (ea_cons (ev_at (i := 0) (ev_var rfl) ((e13.trans e4) _ _ hg) (Nat.le_of_ble_eq_true rfl)) (ea_cons (ev_at (i := 1) (ev_var rfl) ((e13.trans e4) _ _ hg) (Nat.le_of_ble_eq_true rfl)) (ea_cons (ev_var rfl) ea_nil)))) fun H5 e5 => ⟨p, t, O, c, y, ra, r, rfl, tb.mono ((e13.trans e4).trans e5), sq_of (((e13.trans e4).trans e5) _ _ hr), by omega, k.mono ((e13.trans e4).trans e5)⟩
        · have m4 : n ≠ 15 := by simpa using hb
          have hn : n = 16 := by omega
          subst hn
          obtain ⟨x, rfl⟩ := len1 (g := g) fg
          rw [call_sure] at k
          exact s_retCall (vs := [.ref p, vI x]) (ea_cons (ev_var rfl) (ea_cons (ev_at (i := 0) (ev_var rfl) ((e13.trans e4) _ _ hg) (Nat.le_of_ble_eq_true rfl)) ea_nil)) fun H5 e5 => ⟨p, t, O, x, rfl, tb.mono ((e13.trans e4).trans e5), k.mono ((e13.trans e4).trans e5)⟩
theorem len_answer_twos (a : Ad) (K : PySem.W.Frag) (vs : List V) (H : Hp) (Q : VK) (E : XK) (h : sp_answer_twos a K vs H Q E) : vs.length = 4 := by
  obtain ⟨p, t, O, k, g, r, rfl, _⟩ := h
  rfl
theorem pure_answer_twos (T : Txt K mg a) (vs : List V) (H : Hp) (Q : VK) (E : XK) (h : sp_answer_twos a K vs H Q E) : t_answer_twos a K (ends Q) (start N_answer_twos vs) H := by
  obtain ⟨p, t, O, ⟨n, g, r⟩, ga, ra, rfl, tb, hg, hr, fit, n1, n3, k⟩ := h
  have fg := fit.g
  have fm : r.length ≤ 1700 := fit.most
  have n1 : 17 ≤ n := n1
  have n3 : n ≤ 19 := n3
  refine q_when (et_eqn (m := 17) (ev_var rfl)) (fun hb H1 e1 => ?_) (fun hb H1 e1 => ?_)
  · have hn : n = 17 := by simpa using hb
    subst hn
    obtain rfl := len0 (g := g) fg
    rw [call_good_two] at k
    exact s_retCall (vs := [.ref p, .ref ra]) (ea_cons (ev_var rfl) (ea_cons (ev_var rfl) ea_nil)) fun H2 e2 => ⟨p, t, O, ra, r, rfl, tb.mono (e1.trans e2), sq_of ((e1.trans e2) _ _ hr), by omega, k.mono (e1.trans e2)⟩
  · have m1 : n ≠ 17 := by simpa using hb
    refine q_when (et_eqn (m := 18) (ev_var rfl)) (fun hb H2 e2 => ?_) (fun hb H2 e2 => ?_)
    · have hn : n = 18 := by simpa using hb
      subst hn
      obtain rfl := len0 (g := g) fg
      rw [call_greedy_two] at k
      exact s_retCall (vs := [.ref p]) (ea_cons (ev_var rfl) ea_nil) fun H3 e3 => ⟨p, t, O, rfl, tb.mono ((e1.trans e2).trans e3), k.mono ((e1.trans e2).trans e3)⟩
    · have m2 : n ≠ 18 := by simpa using hb
      have hn : n = 19 := by omega
      subst hn
      obtain ⟨x, z, u, v, rfl⟩ := len4 (g := g) fg
      rw [call_mixed_two] at k
      have hg2 := (e1.trans e2) _ _ hg
      exact s_retCall (vs := [.ref p, vI x, vI z, vI u, vI v]) (ea_cons (ev_var rfl) (ea_cons (ev_at (i := 0) (ev_var rfl) hg2 (Nat.le_of_ble_eq_true rfl)) (ea_cons (ev_at (i := 1) (ev_var rfl) hg2 (Nat.le_of_ble_eq_true rfl)) (ea_cons (ev_at (i := 2) (ev_var rfl) hg2 (Nat.le_of_ble_eq_true rfl)) (ea_cons (ev_at (i := 3) (ev_var rfl) hg2 (Nat.le_of_ble_eq_true rfl)) ea_nil))))) fun H3 e3 => ⟨p, t, O, x, z, u, v, rfl, tb.mono ((e1.trans e2).trans e3), k.mono ((e1.trans e2).trans e3)⟩
theorem len_answer_right (a : Ad) (K : PySem.W.Frag) (vs : List V) (H : Hp) (Q : VK) (E : XK) (h : sp_answer_right a K vs H Q E) : vs.length = 4 := by
  obtain ⟨p, t, O, k, g, r, rfl, _⟩ := h
  rfl
theorem pure_answer_right (T : Txt K mg a) (vs : List V) (H : Hp) (Q : VK) (E : XK) (h : sp_answer_right a K vs H Q E) : t_answer_right a K (ends Q) (start N_answer_right vs) H := by
  obtain ⟨p, t, O, ⟨n, g, r⟩, ga, ra, rfl, tb, cod, hg, hr, fit, n1, n3, k⟩ := h
  have fg := fit.g
  have fm : r.length ≤ 1700 := fit.most
  have n1 : 20 ≤ n := n1
  have n3 : n ≤ 21 := n3
  refine q_when (et_eqn (m := 20) (ev_var rfl)) (fun hb H1 e1 => ?_) (fun hb H1 e1 => ?_)
  · have hn : n = 20 := by simpa using hb
    subst hn
    obtain rfl := len0 (g := g) fg
    rw [call_often] at k
    exact s_retCall (vs := [.ref p, .ref ra]) (ea_cons (ev_var rfl) (ea_cons (ev_var rfl) ea_nil)) fun H2 e2 => ⟨p, t, O, ra, r, rfl, tb.mono (e1.trans e2), sq_of ((e1.trans e2) _ _ hr), by omega, (k.look cod).mono (e1.trans e2)⟩
  · have m1 : n ≠ 20 := by simpa using hb
    have hn : n = 21 := by omega
    subst hn
    obtain ⟨x, rfl⟩ := len1 (g := g) fg
    rw [call_likeliest] at k
    exact s_retCall (vs := [.ref p, vI x]) (ea_cons (ev_var rfl) (ea_cons (ev_at (i := 0) (ev_var rfl) (e1 _ _ hg) (Nat.le_of_ble_eq_true rfl)) ea_nil)) fun H2 e2 => ⟨p, t, O, x, rfl, tb.mono (e1.trans e2), cod.ex (e1.trans e2), k.mono (e1.trans e2)⟩
theorem len_answer_begun (a : Ad) (K : PySem.W.Frag) (vs : List V) (H : Hp) (Q : VK) (E : XK) (h : sp_answer_begun a K vs H Q E) : vs.length = 4 := by
  obtain ⟨p, t, O, k, g, r, rfl, _⟩ := h
  rfl
theorem pure_answer_begun (T : Txt K mg a) (vs : List V) (H : Hp) (Q : VK) (E : XK) (h : sp_answer_begun a K vs H Q E) : t_answer_begun a K (ends Q) (start N_answer_begun vs) H := by
  obtain ⟨p, t, O, ⟨n, g, r⟩, ga, ra, rfl, tb, cod, hg, hr, fit, n1, k⟩ := h
  have n1 : 1 ≤ n := n1
  have n23 : n < 23 := fit.n
  refine q_when (et_len (m := 3) (ev_var rfl)) (fun hb H1 e1 => ?_) (fun hb H1 e1 => ?_)
  · have hb : n ≤ 3 := of_decide_eq_true hb
    exact s_retCall (vs := [.ref p, vI n, .ref ga, .ref ra]) (ea_cons (ev_var rfl) (ea_cons (ev_var rfl) (ea_cons (ev_var rfl) (ea_cons (ev_var rfl) ea_nil)))) fun H2 e2 => ⟨p, t, O, (n, g, r), ga, ra, rfl, tb.mono (e1.trans e2), (e1.trans e2) _ _ hg, (e1.trans e2) _ _ hr, fit, n1, hb, (k.left tb cod).mono (e1.trans e2)⟩
  · have n4 : 4 ≤ n := by
      have := of_decide_eq_false hb
      omega
    rw [look_same t g r n n4 n23] at k
    refine q_when (et_len (m := 6) (ev_var rfl)) (fun hb H2 e2 => ?_) (fun hb H2 e2 => ?_)
    · have hb : n ≤ 6 := of_decide_eq_true hb
      have e := e1.trans e2
      exact s_retCall (vs := [.ref p, vI n, .ref ga]) (ea_cons (ev_var rfl) (ea_cons (ev_var rfl) (ea_cons (ev_var rfl) ea_nil))) fun H3 e3 => ⟨p, t, O, (n, g, r), ga, rfl, tb.mono (e.trans e3), (e.trans e3) _ _ hg, fit, n4, hb, (k.look tb cod).mono (e.trans e3)⟩
    · have n7 : 7 ≤ n := by
        have := of_decide_eq_false hb
        omega
      have e12 := e1.trans e2
      refine q_when (et_len (m := 11) (ev_var rfl)) (fun hb H3 e3 => ?_) (fun hb H3 e3 => ?_)
      · have hb : n ≤ 11 := of_decide_eq_true hb
        have e := e12.trans e3
        exact s_retCall (vs := [.ref p, vI n, .ref ga, .ref ra]) (ea_cons (ev_var rfl) (ea_cons (ev_var rfl) (ea_cons (ev_var rfl) (ea_cons (ev_var rfl) ea_nil)))) fun H4 e4 => ⟨p, t, O, (n, g, r), ga, ra, rfl, tb.mono (e.trans e4), (e.trans e4) _ _ hg, (e.trans e4) _ _ hr, fit, n7, hb, (k.look tb cod).mono (e.trans e4)⟩
      · have n12 : 12 ≤ n := by
          have := of_decide_eq_false hb
          omega
        have e13 := e12.trans e3
        refine q_when (et_len (m := 16) (ev_var rfl)) (fun hb H4 e4 => ?_) (fun hb H4 e4 => ?_)
        · have hb : n ≤ 16 := of_decide_eq_true hb
          have e := e13.trans e4
          exact s_retCall (vs := [.ref p, vI n, .ref ga, .ref ra]) (ea_cons (ev_var rfl) (ea_cons (ev_var rfl) (ea_cons (ev_var rfl) (ea_cons (ev_var rfl) ea_nil)))) fun H5 e5 => ⟨p, t, O, (n, g, r), ga, ra, rfl, tb.mono (e.trans e5), (e.trans e5) _ _ hg, (e.trans e5) _ _ hr, fit, n12, hb, (k.look tb cod).mono (e.trans e5)⟩
        · have n17 : 17 ≤ n := by
            have := of_decide_eq_false hb
            omega
          have e14 := e13.trans e4
          refine q_when (et_len (m := 19) (ev_var rfl)) (fun hb H5 e5 => ?_) (fun hb H5 e5 => ?_)
          · have hb : n ≤ 19 := of_decide_eq_true hb
            have e := e14.trans e5
            exact s_retCall (vs := [.ref p, vI n, .ref ga, .ref ra]) (ea_cons (ev_var rfl) (ea_cons (ev_var rfl) (ea_cons (ev_var rfl) (ea_cons (ev_var rfl) ea_nil)))) fun H6 e6 => ⟨p, t, O, (n, g, r), ga, ra, rfl, tb.mono (e.trans e6), (e.trans e6) _ _ hg, (e.trans e6) _ _ hr, fit, n17, hb, (k.look tb cod).mono (e.trans e6)⟩
          · have n20 : 20 ≤ n := by
              have := of_decide_eq_false hb
              omega
            have e15 := e14.trans e5
            refine q_when (et_len (m := 21) (ev_var rfl)) (fun hb H6 e6 => ?_) (fun hb H6 e6 => ?_)
            · have hb : n ≤ 21 := of_decide_eq_true hb
              have e := e15.trans e6
              exact s_retCall (vs := [.ref p, vI n, .ref ga, .ref ra]) (ea_cons (ev_var rfl) (ea_cons (ev_var rfl) (ea_cons (ev_var rfl) (ea_cons (ev_var rfl) ea_nil)))) fun H7 e7 => ⟨p, t, O, (n, g, r), ga, ra, rfl, tb.mono (e.trans e7), cod.ex (e.trans e7), (e.trans e7) _ _ hg, (e.trans e7) _ _ hr, fit, n20, hb, (k.right tb cod).mono (e.trans e7)⟩
            · have hn : n = 22 := by
                have := of_decide_eq_false hb
                omega
              subst hn
              obtain rfl := len0 (g := g) fit.g
              rw [call_all] at k
              have e := e15.trans e6
              exact s_retCall (vs := [.ref p]) (ea_cons (ev_var rfl) ea_nil) fun H7 e7 => ⟨p, t, O, rfl, tb.mono (e.trans e7), (k.look tb cod).mono (e.trans e7)⟩
/-! ### Line.answer -/
theorem cF_n (n : Nat) (g r : Addr) : (cF n g r).lookup ("number" : Str) = some (vI n) := lk_here
theorem cF_g (n : Nat) (g r : Addr) : (cF n g r).lookup ("numbers" : Str) = some (.ref g) := (lk_past (by decide +kernel)).trans lk_here
theorem cF_r (n : Nat) (g r : Addr) : (cF n g r).lookup ("row" : Str) = some (.ref r) := (lk_past (by decide +kernel)).trans ((lk_past (by decide +kernel)).trans lk_here)
theorem LineAt.kind {H : Hp} {l b : Addr} {s : Option Abs} {O : Addr → Prop} (h : LineAt a H l s O) (hb : O b) : (∃ C dx fs, H b = some (.ins C dx fs)) ∨ ∃ xs, H b = some (.lst xs) := by
  obtain ⟨dx, h⟩ := h
  cases s with
  | none =>
    rw [(h.2 b).mp hb]
    exact Or.inl ⟨_, _, _, h.1⟩
  | some t =>
    obtain ⟨p, O', h1, h2, h3, h4⟩ := h
    rcases (h4 b).mp hb with z | z
    · rw [z]
      exact Or.inl ⟨_, _, _, h1⟩
    · exact h2.kind z
theorem LeftLP.mono {H H' : Hp} {l : Addr} {O : Addr → Prop} {r : Option Abs × Kh414.Ans} {Q : VK} (e : Ex H H') (k : LeftLP a H l O r Q) : LeftLP a H' l O r Q := fun H2 O' q hq h2 ln own kept c =>
  k H2 O' q (fresh_back e hq) h2 ln (fun b hb => (own b hb).imp id fun h => fresh_back e h) (fun b o np hb nb => kept b o np (e b o hb) nb) c
theorem LeftLP.left {H : Hp} {l : Addr} {s : Option Abs} {O : Addr → Prop} {r : Option Abs × Kh414.Ans} {Q : VK} (ln : LineAt a H l s O) (c : Cod a H) (k : LeftLP a H l O r Q) : LeftL a H l O r Q := fun H2 O' q hq h2 ln2 own kept =>
  k H2 O' q hq h2 ln2 own (fun b o _ hb nb => kept b o hb nb) (c.kept (fun b hb => ln.kind hb) kept)
theorem rv_isN {H : Hp} {v : V} : RV rIsN v .non H (.bl (decide (v = .non))) := fun H1 _ _ q => ⟨rfl, q H1 (Ex.refl H1)⟩
theorem tab_inj {C C' dx dx' : Addr} {u v : V} (h : (some (HO.ins C dx [("table", u)]) : Option HO) = some (HO.ins C' dx' [("table", v)])) : u = v := by
  injection h with h
  injection h with _ _ h
  injection h with h _
  injection h
theorem len_Line_answer (a : Ad) (K : PySem.W.Frag) (vs : List V) (H : Hp) (Q : VK) (E : XK) (h : sp_Line_answer a K vs H Q E) : vs.length = 2 := by
  obtain ⟨l, c, s, O, k, rfl, _⟩ := h
  rfl
theorem pure_Line_answer (T : Txt K mg a) (vs : List V) (H : Hp) (Q : VK) (E : XK) (h : sp_Line_answer a K vs H Q E) : t_Line_answer a K (ends Q) (start N_Line_answer vs) H := by
  obtain ⟨l, c, s, O, ⟨n, g, r⟩, rfl, ln, cod, ⟨dc, ga, ra, hc, hg, hr⟩, fit, k⟩ := h
  have hc : H c = some (.ins a.C_Call dc (cF n ga ra)) := hc
  have hg : H ga = some (.lst (nums g)) := hg
  have hr : H ra = some (.lst (nums r)) := hr
  have n23 : n < 23 := fit.n
  obtain ⟨Ol, dl, v, hl⟩ := ln.own
  refine q_when (et_eqn (n := n) (m := 0) (ev_fld (ev_var rfl) hc T.cl_Call T.n_Call_number (cF_n n ga ra))) (fun hb H1 e1 => ?_) (fun hb H1 e1 => ?_)
  · have hn : n = 0 := by simpa using hb
    subst hn
    obtain ⟨x, y, rfl⟩ := len2 (g := g) fit.g
    rw [call_begin] at k
    have hnum := ev_fld (K := K) (σ := start N_Line_answer [.ref l, .ref c]) (te := tVar 1) (ev_var rfl) (e1 _ _ hc) T.cl_Call T.n_Call_numbers (cF_g 0 ga ra)
    exact s_retMeth (vs := [vI x, vI y]) (ev_var rfl) (e1 _ _ hl) (lk_line v "begin" (by decide +kernel)) (ea_cons (ev_at (i := 0) hnum (e1 _ _ hg) (Nat.le_of_ble_eq_true rfl)) (ea_cons (ev_at (i := 1) hnum (e1 _ _ hg) (Nat.le_of_ble_eq_true rfl)) ea_nil)) fun H2 e2 => ⟨l, s, O, x, y, rfl, ln.mono (e1.trans e2), (k.left ln cod).mono (e1.trans e2)⟩
  · have n1 : 1 ≤ n := by
      have : n ≠ 0 := by simpa using hb
      omega
    refine q_when (b := decide (v = .non)) (et_test (ev_op (ev_fld (ev_var rfl) (e1 _ _ hl) T.cl_Line T.n_Line_table (lk_table v)) ev_c rv_isN)) (fun hb H2 e2 => ?_) (fun hb H2 e2 => ?_)
    · have hv : v = .non := of_decide_eq_true hb
      cases s with
      | none =>
        rw [doing_none g r n n1 n23] at k
        exact s_no rfl (((k.left ln cod).same ln).mono (e1.trans e2))
      | some t =>
        obtain ⟨dx, p, O', h1, _⟩ := ln
        have z := tab_inj (h1.symm.trans hl)
        rw [hv] at z
        cases z
    · have hv : v ≠ .non := of_decide_eq_false hb
      cases s with
      | none =>
        obtain ⟨dx, h1, _⟩ := ln
        exact absurd (tab_inj (h1.symm.trans hl)).symm hv
      | some t =>
        rw [doing_some t g r n n1 n23] at k
        obtain ⟨dx, p, O', h1, tb, nOl, hO⟩ := id ln
        have e12 := e1.trans e2
        have hl2 := e12 _ _ h1
        have hc2 := e12 _ _ hc
        refine s_retCall (vs := [.ref p, vI n, .ref ga, .ref ra]) (ea_cons (ev_fld (ev_var rfl) hl2 T.cl_Line T.n_Line_table (lk_table (.ref p))) (ea_cons (ev_fld (ev_var rfl) hc2 T.cl_Call T.n_Call_number (cF_n n ga ra)) (ea_cons (ev_fld (ev_var rfl) hc2 T.cl_Call T.n_Call_numbers (cF_g n ga ra)) (ea_cons (ev_fld (ev_var rfl) hc2 T.cl_Call T.n_Call_row (cF_r n ga ra)) ea_nil)))) fun H3 e3 => ?_
        have e := e12.trans e3
        refine ⟨p, t, O', (n, g, r), ga, ra, rfl, tb.mono e, cod.ex e, e _ _ hg, e _ _ hr, fit, n1, ?_⟩
        intro H4 O4 q hq h4 tb4 own4 kept4 cod4
        have l3 := e _ _ h1
        have nO4 : ¬ O4 l := fun z => by
          rcases own4 l z with w | w
          · exact nOl w
          · rw [l3] at w
            cases w
        refine k.mono e H4 (fun b => b = l ∨ O4 b) q hq h4 ⟨dx, p, O4, kept4 l _ ((cod.ex e).ne l3 ins_nt) l3 nOl, tb4, nO4, fun b => Iff.rfl⟩ (fun b hb => ?_) (fun b o np hb nb => kept4 b o np hb fun z => nb ((hO b).mpr (Or.inr z))) cod4
        rcases hb with hb | hb
        · rw [hb]
          exact Or.inl Ol
        · exact (own4 b hb).imp (fun z => (hO b).mpr (Or.inr z)) id
end
end LS

namespace LS
open Kh414 (Abs)
/-! ### what is handed in, as calls -/
def toI (l : List Nat) : List Int := l.map fun (n : Nat) => (n : Int)
theorem toI_toNat : ∀ {l : List Int}, (∀ z ∈ l, 0 ≤ z) → toI (l.map Int.toNat) = l
  | [], _ => rfl
  | z :: l, h => by
    have h1 := h z List.mem_cons_self
    have ih := toI_toNat (l := l) fun x hx => h x (List.mem_cons_of_mem _ hx)
    show ((z.toNat : Nat) : Int) :: toI (l.map Int.toNat) = z :: l
    rw [ih, Int.toNat_of_nonneg h1]
theorem whole_is (c : List (List Int)) : PyKh414.whole c = c := by
  unfold PyKh414.whole
  split <;> rfl
theorem shape_in : ∀ m : Nat, m < 23 → PyKh414.shape (m : Int) = some ((shapes.getD m (0, false)).1, if (shapes.getD m (0, false)).2 then 1 else 0) := by decide +kernel
theorem shape_out {p : Int} (h : p < 0 ∨ 23 ≤ p) : PyKh414.shape p = none := by
  unfold PyKh414.shape
  repeat rw [if_neg (by omega)]
theorem shape_of {p : Int} {n k : Nat} (h : PyKh414.shape p = some (n, k)) : 0 ≤ p ∧ p.toNat < 23 ∧ (shapes.getD p.toNat (0, false)) = (n, k == 1) ∧ k ≤ 1 := by
  by_cases c : p < 0 ∨ 23 ≤ p
  · rw [shape_out c] at h
    cases h
  · have e : ((p.toNat : Nat) : Int) = p := Int.toNat_of_nonneg (by omega)
    have h2 := shape_in p.toNat (by omega)
    rw [e, h] at h2
    obtain ⟨e1, e2⟩ := Prod.mk.inj (Option.some.inj h2)
    generalize shapes.getD p.toNat (0, false) = x at *
    obtain ⟨x1, x2⟩ := x
    dsimp only at e1 e2
    subst e1 e2
    cases x2 <;> exact ⟨by omega, by omega, rfl, Nat.le_of_ble_eq_true rfl⟩
def callN (c : List (List Int)) : CallN := match c with
  | (p :: al) :: xs => (p.toNat, al.map Int.toNat, (xs.headD []).map Int.toNat)
  | _ => (0, [], [])
theorem call_ok {c : List (List Int)} (h : PyFlat.okCall PyKh414.shape c) (hz : ∀ z ∈ PyFlat.put1 c, 0 ≤ z) (hl : (PyFlat.put1 c).length ≤ 1620) : rawOf (callN c) = c ∧ toI (wr (callN c)) = PyFlat.put1 c ∧ Fits (callN c) := by
  obtain ⟨p, al, xs, rfl, hs⟩ := h
  obtain ⟨p0, p23, hsh, hk⟩ := shape_of hs
  have hp : ((p.toNat : Nat) : Int) = p := Int.toNat_of_nonneg p0
  have hal : ∀ z ∈ al, 0 ≤ z := fun z h => hz z (List.mem_append_left _ (List.mem_cons_of_mem _ h))
  have hrow : hasRow p.toNat = (xs.length == 1) := by
    unfold hasRow
    rw [hsh]
  have e1 : (al.map Int.toNat).map (fun (n : Nat) => (n : Int)) = al := toI_toNat hal
  match xs, hk with
  | [], _ =>
    refine ⟨?_, ?_, ⟨p23, ?_, fun _ => rfl, Nat.zero_le _⟩⟩
    · show ((p.toNat : Int) :: (al.map Int.toNat).map _) :: (if hasRow p.toNat then _ else []) = _
      rw [hrow, e1, hp]
      rfl
    · show toI (p.toNat :: (al.map Int.toNat ++ if hasRow p.toNat then _ else [])) = _
      rw [hrow]
      show (p.toNat : Int) :: toI (al.map Int.toNat ++ []) = p :: al ++ []
      rw [List.append_nil, List.append_nil, toI_toNat hal, hp]
    · show (al.map Int.toNat).length = (shapes.getD p.toNat (0, false)).1
      rw [hsh, List.length_map]
  | [x], _ =>
    have hx : ∀ z ∈ x, 0 ≤ z := fun z h => hz z (List.mem_append_right _ (List.mem_append_left _ (List.mem_cons_of_mem _ h)))
    have e2 : (x.map Int.toNat).map (fun (n : Nat) => (n : Int)) = x := toI_toNat hx
    refine ⟨?_, ?_, ⟨p23, ?_, fun h => ?_, ?_⟩⟩
    · show ((p.toNat : Int) :: (al.map Int.toNat).map _) :: (if hasRow p.toNat then [(x.map Int.toNat).map _] else []) = _
      rw [hrow, e1, hp]
      show [p :: al, (x.map Int.toNat).map _] = _
      rw [e2]
    · show toI (p.toNat :: (al.map Int.toNat ++ if hasRow p.toNat then (x.map Int.toNat).length :: x.map Int.toNat else [])) = _
      rw [hrow]
      show (p.toNat : Int) :: toI (al.map Int.toNat ++ ((x.map Int.toNat).length :: x.map Int.toNat)) = p :: al ++ (((x.length : Int) :: x) ++ [])
      unfold toI
      rw [List.map_append, e1, List.map_cons, e2, List.length_map, hp, List.append_nil]
      rfl
    · show (al.map Int.toNat).length = (shapes.getD p.toNat (0, false)).1
      rw [hsh, List.length_map]
    · have h' : hasRow p.toNat = false := h
      rw [hrow] at h'
      cases h'
    · show (x.map Int.toNat).length ≤ 1700
      have : (PyFlat.put1 [p :: al, x]).length = (p :: al).length + ((x.length + 1) + 0) := by
        show ((p :: al) ++ (((x.length : Int) :: x) ++ [])).length = _
        rw [List.length_append, List.append_nil]
        rfl
      rw [List.length_map]
      omega
  | _ :: _ :: _, hk => simp at hk
theorem calls_ok : ∀ {raw : List (List (List Int))}, (∀ c ∈ raw, PyFlat.okCall PyKh414.shape c) → (∀ z ∈ PyFlat.put raw, 0 ≤ z) → (PyFlat.put raw).length ≤ 1620 →
    (raw.map callN).map rawOf = raw ∧ toI ((raw.map callN).flatMap wr) = PyFlat.put raw ∧ ∀ k ∈ raw.map callN, Fits k
  | [], _, _, _ => ⟨rfl, rfl, by simp⟩
  | c :: raw, h, hz, hl => by
    have hz1 : ∀ z ∈ PyFlat.put1 c ++ PyFlat.put raw, 0 ≤ z := hz
    have hl1 : (PyFlat.put1 c ++ PyFlat.put raw).length ≤ 1620 := hl
    rw [List.length_append] at hl1
    obtain ⟨a1, a2, a3⟩ := call_ok (h c List.mem_cons_self) (fun z hz => hz1 z (List.mem_append_left _ hz)) (by omega)
    obtain ⟨b1, b2, b3⟩ := calls_ok (raw := raw) (fun d hd => h d (List.mem_cons_of_mem _ hd)) (fun z hz => hz1 z (List.mem_append_right _ hz)) (by omega)
    refine ⟨?_, ?_, fun k hk => ?_⟩
    · rw [List.map_cons, List.map_cons, a1, b1]
    · rw [List.map_cons, List.flatMap_cons]
      show toI (wr (callN c) ++ (raw.map callN).flatMap wr) = PyFlat.put1 c ++ PyFlat.put raw
      rw [← a2, ← b2]
      unfold toI
      exact List.map_append ..
    · rw [List.map_cons] at hk
      rcases List.mem_cons.mp hk with rfl | hk
      · exact a3
      · exact b3 k hk
theorem played_is : ∀ (cs : List CallN) (s : Option Abs), PyFlat.told (PyFlat.played Kh414Neutral.step s (cs.map rawOf)) = played s cs
  | [], _ => rfl
  | k :: cs, s => by
    have ih := played_is cs (Kh414.doing s (theCall k)).1
    show ((((Kh414.doing s (theCall k)).2.ret :: (Kh414.doing s (theCall k)).2.out).length : Int) :: ((Kh414.doing s (theCall k)).2.ret :: (Kh414.doing s (theCall k)).2.out)) ++ PyFlat.told (PyFlat.played Kh414Neutral.step (Kh414.doing s (theCall k)).1 (cs.map rawOf)) = _
    rw [ih]
    rfl
/-- what is asked is calls, and what is due of them is what is played -/
theorem asked_calls {l : List Int} (h : PyKh414.answers_asked l = true) (hz : ∀ z ∈ l, 0 ≤ z) (hl : l.length ≤ 1620) : ∃ cs : List CallN, l = toI (cs.flatMap wr) ∧ (∀ k ∈ cs, Fits k) ∧ PyKh414.answers l = played none cs ∧ (played none cs).length ≤ 10000000 := by
  unfold PyKh414.answers_asked at h
  cases hc : PyFlat.calls PyKh414.shape l.length l with
  | none =>
    rw [hc] at h
    cases h
  | some raw =>
    rw [hc] at h
    obtain ⟨e, ok⟩ := PyFlat.put_calls _ _ _ hc
    rw [e] at hz hl
    obtain ⟨c1, c2, c3⟩ := calls_ok ok hz hl
    have ans : PyKh414.answers l = played none (raw.map callN) := by
      unfold PyKh414.answers PyKh414.calls
      rw [hc]
      show PyFlat.told (PyFlat.played Kh414Neutral.step none (raw.map PyKh414.whole)) = _
      have ew : raw.map PyKh414.whole = (raw.map callN).map rawOf := by
        rw [c1]
        conv => rhs; rw [← List.map_id raw]
        exact List.map_congr_left fun c _ => whole_is c
      rw [ew, played_is]
    refine ⟨raw.map callN, by rw [c2]; exact e, c3, ans, ?_⟩
    have h2 : PyFlat.short 10000000 (PyKh414.answers l) = true := by
      simp only [Bool.and_eq_true] at h
      exact h.2
    rw [← ans]
    unfold PyFlat.short at h2
    exact of_decide_eq_true h2
end LS

/-! The end where one def's table of code may grow. -/
namespace LS
open PySem PySem.Spec PyProof.Rows L2 Evl
open PySem.W (Codec WData ReadsW OpenSpec)
mutual
theorem dw_more {K : PySem.W.Frag} {H H' : Hp} (e : Ex H H') : ∀ {v : V} {d : WData}, Dw K H v d → Dw K H' v d
  | _, _, .non => .non
  | _, _, .bl b => .bl b
  | _, _, .int i => .int i
  | _, _, .str x => .str x
  | _, _, .byt b => .byt b
  | _, _, .lst h1 h2 => .lst (ex_l e h1) (dwa_more e h2)
  | _, _, .tup h1 h2 => .tup (ex_t e h1) (dwa_more e h2)
theorem dwa_more {K : PySem.W.Frag} {H H' : Hp} (e : Ex H H') : ∀ {vs : List V} {ds : List WData}, DwAll K H vs ds → DwAll K H' vs ds
  | _, _, .nil => .nil
  | _, _, .cons h1 h2 => .cons (dw_more e h1) (dwa_more e h2)
end
/-- the call, one table of code tracked besides what is handed in -/
theorem call_with_table {prg : Program} {w : World} {K : PySem.W.Frag} {mg mb : Str → Option Value} {k : Nat} {fa c tP : Addr} {fd : FuncData} {ps : List Str} {sp : Sp} {s : Shared} {us : List Value} {ds : List WData} {recs : PySem.W.WRecords} {cl : Str → Option Addr} {due : WData}
    (inK : K.In s.heap) (nsG : s.heap.Ns mainGlobals mg) (nsB : s.heap.Ns builtinsNs mb) (blt : ∀ x : Str, x ≠ "__name__" → mb x = bootBuiltins x) (lim : s.heap.NoLimit) (gn : s.gens = #[])
    (isT : s.heap.get? tP = some { cls := .none, data := .fields #[] }) (noT : K.lookup tP = none) (hd : PySem.W.CodeHd s.heap c tP)
    (mod : ∃ (bm : Addr) (ob : Obj), mg "__builtins__" = some (.ref bm) ∧ bm ≠ builtinsNs ∧ s.heap.get? bm = some ob ∧ ob.cls = .type "module" ∧ ob.dict = some builtinsNs ∧ ob.data = .plain)
    (wl : PySem.W.WellAll w.params s.heap us ds) (pl : plWs ds = true) (wt : ∀ d ∈ ds, d.weight ≤ 1048576) (room : Room k callerA)
    (F : ∀ b : Heap, K.In b → b.Ns mainGlobals mg → LamX.TabB b mg c tP → FnOk prg w K mg b CX0 k fa fd ps sp) (bind : ∀ (s : Shared) (us : List Value), us.length = ps.length → BindsTo s fd ⟨us, []⟩ (ps.zip us)) (len : ds.length = ps.length)
    (hsp : ∀ (H : Hp) (xs : List V), H tP = some (.tbl #[]) → DwAll K H xs ds → sp xs H (fun v H' => Dw K H' v due) fun _ _ _ => False) :
    codeAny (model prg w) callerA (.call (.ref fa) ⟨us, []⟩) (fun r s' => ∃ u as, r = .ok (.ret u) ∧ ReadsW recs cl s'.heap u due as ∧ OldK s.heap s'.heap ∧ s'.os = s.os ∧ AllBare s'.gens) s := by
  obtain ⟨A, okA, ar⟩ := area_all ds us wl pl wt
  -- what is handed in, then the table
  have tr : ∀ b u, argH K s.heap A b = some u → K.lookup b = none ∧ ∃ vs : Array Value, ∃ cls : Value, s.heap.get? b = some { cls := cls, data := .seq vs } := fun b u q => by
    obtain ⟨q1, vs, _, _, ⟨e, _⟩ | ⟨e, _⟩⟩ := argH_is ar q
    · exact ⟨q1, _, _, e⟩
    · exact ⟨q1, _, _, e⟩
  have nP : argH K s.heap A tP = none := by
    cases q : argH K s.heap A tP with
    | none => rfl
    | some u =>
      obtain ⟨_, vs, cls, e⟩ := tr tP u q
      rw [isT] at e
      have z : Data.fields #[] = Data.seq vs _ := congrArg Obj.data (Option.some.inj e)
      cases z
  have only := argH_only (K := K) ar
  have hok0 : HOk prg w (argH K s.heap A) s.heap := argH_ok ar
  have dws := dw_all inK ar ds us wl pl okA
  have vls := vals_toV okA
  generalize argH K s.heap A = H0 at tr nP only hok0 dws
  have ex : Ex H0 (upd H0 tP (.tbl #[])) := Ex.new nP
  have atP : upd H0 tP (.tbl #[]) tP = some (.tbl #[]) := upd_same
  have hokH : HOk prg w (upd H0 tP (.tbl #[])) s.heap := fun b u q => by
    by_cases z : b = tP
    · subst z
      rw [atP] at q
      cases q
      exact isT
    · rw [upd_ne z] at q
      exact (hok0 b u q).stay (fun _ _ _ e => e) (fun d e => ex _ _ e) fun d xs e => ex _ _ e
  have kinds : ∀ b, upd H0 tP (.tbl #[]) b = none ∨ b = tP ∨ ∃ ob u, upd H0 tP (.tbl #[]) b = some (.frz ob u) := fun b => by
    by_cases z : b = tP
    · exact Or.inr (Or.inl z)
    · rw [upd_ne z]
      rcases only b with q | ⟨ob, u, q⟩
      · exact Or.inl q
      · exact Or.inr (Or.inr ⟨ob, u, q⟩)
  have free : ∀ {b : Addr} {o : Obj}, s.heap.get? b = some o → (∀ vs n, o.data ≠ .seq vs n) → o.data ≠ .fields #[] → upd H0 tP (.tbl #[]) b = none := fun {b o} e n1 n2 => by
    have z : b ≠ tP := fun z => by
      rw [z, isT] at e
      exact n2 (by rw [← Option.some.inj e])
    rw [upd_ne z]
    cases q : H0 b with
    | none => rfl
    | some u =>
      obtain ⟨_, vs, cls, e2⟩ := tr b u q
      rw [e] at e2
      exact absurd (congrArg Obj.data (Option.some.inj e2)) (n1 vs _)
  have freeK : ∀ b o, K.lookup b = some o → upd H0 tP (.tbl #[]) b = none := fun b o e => by
    have z : b ≠ tP := fun z => by
      rw [z, noT] at e
      cases e
    rw [upd_ne z]
    cases q : H0 b with
    | none => rfl
    | some u =>
      rw [(tr b u q).1] at e
      cases e
  have xs := dwa_more ex dws
  generalize upd H0 tP (.tbl #[]) = H at ex atP hokH kinds free freeK xs
  have down : ∀ {b : Addr} {o : Obj}, s.heap.get? b = some o → H b = none → (hidT s.heap H).get? b = some o := fun e n => hidT_get e n
  have dict : ∀ {b : Addr} {o : Obj} {es : Array DictEntry} {ep : Nat}, s.heap.get? b = some o → o.data = .dict es ep → H b = none := fun e q => free e (fun vs n z => by rw [q] at z; cases z) fun z => by rw [q] at z; cases z
  have nsD : ∀ {b : Addr} {m : Str → Option Value}, s.heap.Ns b m → (hidT s.heap H).Ns b m := fun ⟨o, es, ep, e, q, r⟩ => ⟨o, es, ep, down e (dict e q), q, r⟩
  have inB : K.In (hidT s.heap H) := fun b o e => down (inK b o e) (freeK b o e)
  have md : L2.Mod K mg (hidT s.heap H) := ⟨inB, nsD nsG, ⟨mb, nsD nsB, blt⟩, let ⟨mc, h1, h2⟩ := lim; ⟨mc, nsD h1, h2⟩⟩
  have tabB : LamX.TabB (hidT s.heap H) mg c tP := by
    refine ⟨?_, ?_, fun z => ?_⟩
    · obtain ⟨o, vs, f1, f2, f3, f4, f5, f6, f7, e1, r1, r2, r3, rest⟩ := hd
      refine ⟨o, vs, f1, f2, f3, f4, f5, f6, f7, down e1 (free e1 (fun _ _ z => ?_) fun z => ?_), r1, r2, r3, rest⟩
      · rw [r2] at z
        cases z
      · rw [r2] at z
        cases z
        simp at r3
    · obtain ⟨bm, ob, b1, b2, b3, b4, b5, b6⟩ := mod
      have ng : bm ≠ mainGlobals := fun z => by
        obtain ⟨o, es, ep, e, q, _⟩ := nsG
        rw [z, e] at b3
        cases b3
        rw [q] at b6
        cases b6
      have nt : bm ≠ tP := fun z => by
        rw [z, isT] at b3
        cases b3
        cases b6
      refine ⟨bm, ob, b1, b2, ng, nt, down b3 (free b3 (fun _ _ z => ?_) fun z => ?_), b4, b5, b6⟩
      · rw [b6] at z
        cases z
      · rw [b6] at z
        cases z
    · obtain ⟨o, es, ep, e, q, _⟩ := nsG
      rw [z, isT] at e
      cases e
      cases q
  have e0 : Env0 prg w K mg (hidT s.heap H) callerA [] s H := ⟨rfl, md, fun b o e => of_hidT e, Nat.le_of_eq (hidT_size _ _), trivial, fun b hb => absurd (show b ∈ ([] : List Addr) from hb) (by simp), hokH, .of_eq gn⟩
  have lu : us.length = ps.length := by rw [wellAll_len wl]; exact len
  refine codeAny_mono ((F _ inB (nsD nsG) tabB).run callerA [] s H ⟨us, []⟩ us (us.map toV) _ _ room e0 (bind s us lu) vls (hsp H _ atP xs)) fun r s' x => ?_
  cases r with
  | error e => exact (show False from x).elim
  | ok fl =>
    cases fl with
    | next => exact False.elim x
    | brk => exact False.elim x
    | cont => exact False.elim x
    | ret u =>
      obtain ⟨v, H', os, bare, un, hok', rv, q⟩ := x
      have kept : ∀ b o, b ≠ tP → s.heap.get? b = some o → s'.heap.get? b = some o := fun b o np e => by
        rcases kinds b with z | z | ⟨ob, u2, z⟩
        · exact un.keep b o e z (fun w2 => absurd (show b ∈ ([] : List Addr) from w2) (by simp)) (by simp)
        · exact absurd z np
        · have z2 := un.frzs b ob _ z
          obtain ⟨g1, _⟩ := hokH b _ z
          obtain ⟨g2, _⟩ := hok' b _ z2
          rw [e] at g1
          cases g1
          exact g2
      obtain ⟨more, grown⟩ := un.tbls tP #[] atP
      have now : s'.heap.get? tP = some { cls := .none, data := .fields (#[] ++ more) } := hok' tP _ grown
      have inK' : K.In s'.heap := fun b o e => kept b o (fun z => by rw [z, noT] at e; cases e) (inK b o e)
      obtain ⟨as, rd⟩ := Dw.reads (R := recs) (cl := cl) hok' inK' due v u q rv
      refine ⟨u, as, rfl, rd, ⟨fun b o e => ?_, fun b o e => ?_⟩, os, bare⟩
      · by_cases z : b = tP
        · subst z
          rw [isT] at e
          cases e
          exact Or.inr (Or.inl ⟨(hd.tab isT).isCodeTable, rfl, #[], more, rfl, now⟩)
        · exact Or.inl (kept b o z e)
      · by_cases z : b = tP
        · rw [z]
          exact ⟨_, now⟩
        · exact ⟨o, kept b o z e⟩
/-- what the top tells of a def's code object and its table, which is empty -/
def TabOf (mg : Str → Option Value) (h : Heap) (x : Str) : Prop := ∃ (b : Addr) (o : Obj) (fd : FuncData) (c tP : Addr), mg x = some (.ref b) ∧ h.get? b = some o ∧ o.data = .func fd ∧ fd.code = .ref c ∧ h.IsCode c tP #[] ∧ h.TableAt c tP #[]
theorem walk_table {r : OpenSpec} {k : Nat} {q : Program} {loose : List Str} {XP : (Str → Option Value) → Heap → Prop} {YP : World → Heap → Prop} {d : DefRec} {K : Params → PySem.W.Frag} {ps : List Str} {nm : Str}
    (well : r.wellSaid = true) (nodf : d.params.defaults = []) (len : r.args.length = ps.length) (room : Room k callerA) (rec : ((recsOf q).any fun e => e.name == nm) = true) (inY : ∀ (w : World) (h : Heap), YP w h → (K w.params).In h)
    (F : ∀ (w : World) (mg : Str → Option Value) (fa : Addr) (h : Heap), YP w h → (K w.params).In h → h.Ns mainGlobals mg → mg d.name = some (.ref fa) → TabOf mg h nm →
      ∃ (fd : FuncData) (c tP : Addr) (sp : Sp), h.get? tP = some { cls := .none, data := .fields #[] } ∧ (K w.params).lookup tP = none ∧ PySem.W.CodeHd h c tP ∧ (∀ (s : Shared) (us : List Value), us.length = ps.length → BindsTo s fd ⟨us, []⟩ (ps.zip us)) ∧
        (∀ b : Heap, (K w.params).In b → b.Ns mainGlobals mg → LamX.TabB b mg c tP → FnOk r.prog w (K w.params) mg b CX0 k fa fd ps sp) ∧
        ∀ (H : Hp) (xs : List V) (a : Codec.denoteAll r.args), H tP = some (.tbl #[]) → Codec.withinAll r.args a = true → Codec.app r.args r.asked a = true → DwAll (K w.params) H xs (Codec.encAll r.args a) → sp xs H (fun v H' => Dw (K w.params) H' v (r.ret.enc (Codec.app r.args r.f a))) fun _ _ _ => False) :
    PySem.W.WalkOS q loose XP YP r d [] (fun f vs => PySem.call f vs) := by
  intro w s₀ s₁ mg mb G Y fa o pm cd doc dV kV _ _ _ _ hmg hg args us as pre lay _ wl _
  obtain ⟨a, e1, e2⟩ := PySem.W.os_pre_some pre
  obtain ⟨e3, hwi⟩ := Codec.encAll_of_decAll r.args args a e1
  subst e3
  have KX := inY w _ Y
  have tab : TabOf mg s₁.heap nm := by
    obtain ⟨dL, hm, hn⟩ := List.any_eq_true.mp rec
    have t := G.T.tab dL hm
    rw [beq_iff_eq.mp hn] at t
    exact t
  obtain ⟨fd, c, tP, sp, t1, t2, t3, hb, hF, hsp⟩ := F w mg fa _ Y KX G.T.g hmg tab
  refine PySem.W.enter_call (codeAny_mono (call_with_table (recs := []) (cl := classAt s₀.heap) (due := r.ret.enc (Codec.app r.args r.f a)) KX G.T.g G.T.b G.T.builtins G.T.nolimit hg t1 t2 t3 G.T.bmain wl (pl_encAll _ _) (layable_weight lay) room hF hb (by rw [encAll_len]; exact len)
    fun H xs hP hx => hsp H xs a hP hwi e2 hx) fun res s' x => ?_)
  obtain ⟨u, as', rfl, h1, h2, h3, h4⟩ := x
  exact ⟨.inl ⟨u, _, as', rfl, fun _ => rfl, h1, (OpenSpec.post_iff well hwi _ _).mpr rfl, fun z => Bool.noConfusion (show false = true from z)⟩, h2, h3, h4⟩
/-- what is asked, as the promise of answers wants it -/
theorem ask_answers (a : Ad) {K : PySem.W.Frag} {H : Hp} {xs : List V} (l : Codec.denoteAll PySem.Challenge.rw_lettersent_s01_answers.args) (hP : H a.P_likeliest_row = some (.tbl #[])) (hwi : Codec.withinAll PySem.Challenge.rw_lettersent_s01_answers.args l = true)
    (hask : Codec.app PySem.Challenge.rw_lettersent_s01_answers.args PySem.Challenge.rw_lettersent_s01_answers.asked l = true) (hx : DwAll K H xs (Codec.encAll PySem.Challenge.rw_lettersent_s01_answers.args l)) :
    sp_answers a K xs H (fun v H' => Dw K H' v (PySem.Challenge.rw_lettersent_s01_answers.ret.enc (Codec.app PySem.Challenge.rw_lettersent_s01_answers.args PySem.Challenge.rw_lettersent_s01_answers.f l))) fun _ _ _ => False := by
  cases hx with
  | cons h1 h2 =>
    cases h2
    cases h1 with
    | lst hs ha =>
      have e := ints_dw l.1 _ ha
      subst e
      have q : ((Codec.inLen 0 1620 l.1 && l.1.all (Codec.inInt 0 2147483647)) && true) = true := hwi
      rw [Bool.and_eq_true, Bool.and_eq_true] at q
      have hl : l.1.length ≤ 1620 := (Codec.inNat_iff.mp q.1.1).2
      have hz : ∀ z ∈ l.1, 0 ≤ z := fun z hz => (Codec.inInt_iff.mp (List.all_eq_true.mp q.1.2 z hz)).1
      obtain ⟨cs, hc, fits, ans, big⟩ := asked_calls (l := l.1) hask hz hl
      rename Addr => ad
      have hs' : SqL K H ad (nums (cs.flatMap wr)) := by
        rw [nums_int]
        have hc' : (cs.flatMap wr).map (fun (n : Nat) => (n : Int)) = l.1 := hc.symm
        rw [hc']
        exact hs
      have hlen : (cs.flatMap wr).length ≤ 1620 := by
        have := congrArg List.length hc
        unfold toI at this
        rw [List.length_map] at this
        omega
      refine ⟨_, cs, rfl, hs', fits, hlen, big, LamX.TabS.nil hP, fun p H' hp => ?_⟩
      have z : Dw K H' (.ref p) (Codec.enc PySem.Challenge.rw_lettersent_s01_answers.ret (PyKh414.answers l.1)) := by
        rw [ans]
        exact .lst (SqL.of hp) (dw_ints _)
      exact z
/-- from the promise of answers to what the end wants -/
theorem fin_of {w : World} {K : PySem.W.Frag} {h : Heap} {mg : Str → Option Value} {fa : Addr} {k : Nat} (M : ∃ (fd : FuncData) (ad : Ad), h.get? ad.P_likeliest_row = some { cls := .none, data := .fields #[] } ∧ K.lookup ad.P_likeliest_row = none ∧ PySem.W.CodeHd h ad.c_likeliest_row ad.P_likeliest_row ∧ (∀ (s : Shared) (us : List Value), us.length = (["calls"] : List Str).length → BindsTo s fd ⟨us, []⟩ ((["calls"] : List Str).zip us)) ∧
      ∀ base : Heap, K.In base → base.Ns mainGlobals mg → LamX.TabB base mg ad.c_likeliest_row ad.P_likeliest_row → FnOk PySem.Challenge.rw_lettersent_s01_answers.prog w K mg base CX0 k fa fd ["calls"] (sp_answers ad K)) :
    ∃ (fd : FuncData) (c tP : Addr) (sp : Sp), h.get? tP = some { cls := .none, data := .fields #[] } ∧ K.lookup tP = none ∧ PySem.W.CodeHd h c tP ∧ (∀ (s : Shared) (us : List Value), us.length = (["calls"] : List Str).length → BindsTo s fd ⟨us, []⟩ ((["calls"] : List Str).zip us)) ∧
      (∀ b : Heap, K.In b → b.Ns mainGlobals mg → LamX.TabB b mg c tP → FnOk PySem.Challenge.rw_lettersent_s01_answers.prog w K mg b CX0 k fa fd ["calls"] sp) ∧
      ∀ (H : Hp) (xs : List V) (a : Codec.denoteAll PySem.Challenge.rw_lettersent_s01_answers.args), H tP = some (.tbl #[]) → Codec.withinAll PySem.Challenge.rw_lettersent_s01_answers.args a = true → Codec.app PySem.Challenge.rw_lettersent_s01_answers.args PySem.Challenge.rw_lettersent_s01_answers.asked a = true → DwAll K H xs (Codec.encAll PySem.Challenge.rw_lettersent_s01_answers.args a) →
        sp xs H (fun v H' => Dw K H' v (PySem.Challenge.rw_lettersent_s01_answers.ret.enc (Codec.app PySem.Challenge.rw_lettersent_s01_answers.args PySem.Challenge.rw_lettersent_s01_answers.f a))) fun _ _ _ => False := by
  obtain ⟨fd, ad, m1, m2, m3, m4, m5⟩ := M
  exact ⟨fd, ad.c_likeliest_row, ad.P_likeliest_row, sp_answers ad K, m1, m2, m3, m4, m5, fun H xs a hP hwi hask hx => ask_answers ad a hP hwi hask hx⟩
end LS

namespace LS
open PySem PySem.Spec PyProof.Rows L2 Evl

section
variable {P : Program} {w : World} {K : PySem.W.Frag} {mg : Str → Option Value} {base : Heap} {a : Ad}
theorem ok_Call_init (T : Txt K mg a) : Ok P w K mg base 2 a.f_Call_init ["self", "number", "numbers", "row"] (sp_Call_init a K) := by
  obtain ⟨fd, F⟩ := T.F_Call_init
  refine ⟨F.kp, fd, F.ok sc_Call_init (len_Call_init a K) (fun cdv A outer s H vs Q E hr h => ⟨t_Call_init a K, ?_, pure_Call_init T vs H Q E h⟩), F.binds (ps := ["self", "number", "numbers", "row"]) (fun _ _ _ _ _ _ us hl => match us, hl with | [_, _, _, _], _ => rfl)⟩
  exact (pss_cons (ps_fld (pv 0) (pv 1) rfl) (pss_cons (ps_fld (pv 0) (pv 2) rfl) (pss_one (ps_fld (pv 0) (pv 3) rfl))))
theorem ok_all_groups (T : Txt K mg a) : Ok P w K mg base 2 a.f_all_groups ["x_count"] (sp_all_groups a K) := by
  obtain ⟨fd, F⟩ := T.F_all_groups
  refine ⟨F.kp, fd, F.ok sc_all_groups (len_all_groups a K) (fun cdv A outer s H vs Q E hr h => ⟨t_all_groups a K, ?_, pure_all_groups T vs H Q E h⟩), F.binds (ps := ["x_count"]) (fun _ _ _ _ _ _ us hl => match us, hl with | [_], _ => rfl)⟩
  exact (pss_cons (ps_set (i := 1) sc_all_groups.nd rfl (Or.inl rfl) (pe_lst (pa_cons (pe_lst pa_nil) pa_nil))) (pss_cons (ps_for PassesOwn.never rfl (pi_range1 rfl T.n_range (pa_cons (pv 0) pa_nil)) (pg_name (i := 2) sc_all_groups.nd rfl (Or.inr rfl)) (pss_one (ps_set (i := 1) sc_all_groups.nd rfl (Or.inl rfl) (pe_op op_cat (pv 1) (pe_lc (own := [("group", 3)]) (g := gName 3) (tt := tYes) rfl sc_all_groups.nd (pi_list (pv 1)) (blkOk_by (own := [("group", 3)]) (N := ["x_count", "found", "x", "group"]) (sc := defScope s_all_groups) (by decide +kernel)) (fun _ _ _ _ _ => pg_name (i := 3) sc_all_groups.nd rfl (Or.inl rfl)) (fun _ _ _ _ _ => pts_nil) (fun _ _ _ _ _ => (pe_op op_cat (pv 3) (pe_lst (pa_cons (pv 2) pa_nil))))))))) (pss_one (ps_ret (pv 1)))))
theorem ok_letter_count (T : Txt K mg a) : Ok P w K mg base 2 a.f_letter_count ["numbered_row"] (sp_letter_count a K) := by
  obtain ⟨fd, F⟩ := T.F_letter_count
  refine ⟨F.kp, fd, F.ok sc_letter_count (len_letter_count a K) (fun cdv A outer s H vs Q E hr h => ⟨t_letter_count a K, ?_, pure_letter_count T vs H Q E h⟩), F.binds (ps := ["numbered_row"]) (fun _ _ _ _ _ _ us hl => match us, hl with | [_], _ => rfl)⟩
  exact (pss_one (ps_ret (pe_op op_add (pe_callB (cr_max rfl) (by rfl) T.n_max (by decide +kernel) (pa_cons (pv 0) pa_nil)) pe_int)))
theorem ok_right_with_y (T : Txt K mg a) : Ok P w K mg base 2 a.f_right_with_y ["table", "letters", "y"] (sp_right_with_y a K) := by
  obtain ⟨fd, F⟩ := T.F_right_with_y
  refine ⟨F.kp, fd, F.ok sc_right_with_y (len_right_with_y a K) (fun cdv A outer s H vs Q E hr h => ⟨t_right_with_y a K, ?_, pure_right_with_y T vs H Q E h⟩), F.binds (ps := ["table", "letters", "y"]) (fun _ _ _ _ _ _ us hl => match us, hl with | [_, _, _], _ => rfl)⟩
  exact (pss_cons (ps_set (i := 3) sc_right_with_y.nd rfl (Or.inl rfl) (pe_op op_rep (pe_lst (pa_cons pe_int pa_nil)) (pe_fld (pv 0) rfl))) (pss_cons (ps_for PassesOwn.never rfl (pi_range1 rfl T.n_range (pa_cons (pe_fld (pv 0) rfl) pa_nil)) (pg_name (i := 4) sc_right_with_y.nd rfl (Or.inl rfl)) (pss_one (ps_asg (pe_callB (call_max2 rfl) (by rfl) T.n_max (by decide +kernel) (pa_cons (pe_ix ix_list (pv 3) (pe_ix ix_list (pv 1) (pv 4) (fun _ _ => rfl)) (fun _ _ => rfl)) (pa_cons (pe_ix ix_list (pe_ix ix_list (pe_fld (pv 0) rfl) (pv 4) (fun _ _ => rfl)) (pv 2) (fun _ _ => rfl)) pa_nil))) (pg_sub (pv 3) (pe_ix ix_list (pv 1) (pv 4) (fun _ _ => rfl)) set_list)))) (pss_one (ps_ret (pe_callB (cr_sum rfl) (by rfl) T.n_sum (by decide +kernel) (pa_cons (pv 3) pa_nil))))))
theorem ok_Table_init (T : Txt K mg a) : Ok P w K mg base 2 a.f_Table_init ["self", "x_count", "y_count"] (sp_Table_init a K) := by
  obtain ⟨fd, F⟩ := T.F_Table_init
  refine ⟨F.kp, fd, F.ok sc_Table_init (len_Table_init a K) (fun cdv A outer s H vs Q E hr h => ⟨t_Table_init a K, ?_, pure_Table_init T vs H Q E h⟩), F.binds (ps := ["self", "x_count", "y_count"]) (fun _ _ _ _ _ _ us hl => match us, hl with | [_, _, _], _ => rfl)⟩
  exact (pss_cons (ps_fld (pv 0) (pv 1) rfl) (pss_cons (ps_fld (pv 0) (pv 2) rfl) (pss_one (ps_fld (pv 0) (pe_lc (own := [("x", 3)]) (g := gName 3) (tt := tYes) rfl sc_Table_init.nd (pi_range1 rfl T.n_range (pa_cons (pv 1) pa_nil)) (blkOk_by (own := [("x", 3)]) (N := ["self", "x_count", "y_count", "x"]) (sc := defScope s_Table_init) (by decide +kernel)) (fun _ _ _ _ _ => pg_name (i := 3) sc_Table_init.nd rfl (Or.inl rfl)) (fun _ _ _ _ _ => pts_nil) (fun _ _ _ _ _ => (pe_op op_rep (pe_lst (pa_cons pe_int pa_nil)) (pv 2)))) rfl))))
theorem ok_Table_has_x (T : Txt K mg a) : Ok P w K mg base 2 a.f_Table_has_x ["self", "x"] (sp_Table_has_x a K) := by
  obtain ⟨fd, F⟩ := T.F_Table_has_x
  refine ⟨F.kp, fd, F.ok sc_Table_has_x (len_Table_has_x a K) (fun cdv A outer s H vs Q E hr h => ⟨t_Table_has_x a K, ?_, pure_Table_has_x T vs H Q E h⟩), F.binds (ps := ["self", "x"]) (fun _ _ _ _ _ _ us hl => match us, hl with | [_, _], _ => rfl)⟩
  exact (pss_one (ps_ret (pe_cmpR op_lt (pv 1) (pe_fld (pv 0) rfl) (nomark _))))
theorem ok_Table_has_y (T : Txt K mg a) : Ok P w K mg base 2 a.f_Table_has_y ["self", "y"] (sp_Table_has_y a K) := by
  obtain ⟨fd, F⟩ := T.F_Table_has_y
  refine ⟨F.kp, fd, F.ok sc_Table_has_y (len_Table_has_y a K) (fun cdv A outer s H vs Q E hr h => ⟨t_Table_has_y a K, ?_, pure_Table_has_y T vs H Q E h⟩), F.binds (ps := ["self", "y"]) (fun _ _ _ _ _ _ us hl => match us, hl with | [_, _], _ => rfl)⟩
  exact (pss_one (ps_ret (pe_cmpR op_lt (pv 1) (pe_fld (pv 0) rfl) (nomark _))))
theorem ok_Table_put (T : Txt K mg a) : Ok P w K mg base 2 a.f_Table_put ["self", "x", "y", "w"] (sp_Table_put a K) := by
  obtain ⟨fd, F⟩ := T.F_Table_put
  refine ⟨F.kp, fd, F.ok sc_Table_put (len_Table_put a K) (fun cdv A outer s H vs Q E hr h => ⟨t_Table_put a K, ?_, pure_Table_put T vs H Q E h⟩), F.binds (ps := ["self", "x", "y", "w"]) (fun _ _ _ _ _ _ us hl => match us, hl with | [_, _, _, _], _ => rfl)⟩
  exact (pss_one (ps_asg (pv 3) (pg_sub (pe_ix ix_list (pe_fld (pv 0) rfl) (pv 1) (fun _ _ => rfl)) (pv 2) set_list)))
theorem ok_Table_put_row (T : Txt K mg a) : Ok P w K mg base 2 a.f_Table_put_row ["self", "x", "how_often"] (sp_Table_put_row a K) := by
  obtain ⟨fd, F⟩ := T.F_Table_put_row
  refine ⟨F.kp, fd, F.ok sc_Table_put_row (len_Table_put_row a K) (fun cdv A outer s H vs Q E hr h => ⟨t_Table_put_row a K, ?_, pure_Table_put_row T vs H Q E h⟩), F.binds (ps := ["self", "x", "how_often"]) (fun _ _ _ _ _ _ us hl => match us, hl with | [_, _, _], _ => rfl)⟩
  exact (pss_one (ps_asg (pe_callTy call_list_of (by rfl) T.n_list (by decide +kernel) (pa_cons (pv 2) pa_nil)) (pg_sub (pe_fld (pv 0) rfl) (pv 1) set_list)))
theorem ok_Table_drop_y (T : Txt K mg a) : Ok P w K mg base 2 a.f_Table_drop_y ["self", "y"] (sp_Table_drop_y a K) := by
  obtain ⟨fd, F⟩ := T.F_Table_drop_y
  refine ⟨F.kp, fd, F.ok sc_Table_drop_y (len_Table_drop_y a K) (fun cdv A outer s H vs Q E hr h => ⟨t_Table_drop_y a K, ?_, pure_Table_drop_y T vs H Q E h⟩), F.binds (ps := ["self", "y"]) (fun _ _ _ _ _ _ us hl => match us, hl with | [_, _], _ => rfl)⟩
  exact (pss_cons (ps_fld (pv 0) (pe_lc (own := [("row", 2)]) (g := gName 2) (tt := tYes) rfl sc_Table_drop_y.nd (pi_list (pe_fld (pv 0) rfl)) (blkOk_by (own := [("row", 2)]) (N := ["self", "y", "row"]) (sc := defScope s_Table_drop_y) (by decide +kernel)) (fun _ _ _ _ _ => pg_name (i := 2) sc_Table_drop_y.nd rfl (Or.inl rfl)) (fun _ _ _ _ _ => pts_nil) (fun _ _ _ _ _ => (pe_op op_cat (pe_slice sl_list (pv 2) po_none (po_some (pv 1))) (pe_slice sl_list (pv 2) (po_some (pe_op op_add (pv 1) pe_int)) po_none)))) rfl) (pss_one (ps_fld (pv 0) (pe_op op_sub (pe_fld (pv 0) rfl) pe_int) rfl)))
theorem ok_Table_comes (T : Txt K mg a) : Ok P w K mg base 2 a.f_Table_comes ["self", "x", "y"] (sp_Table_comes a K) := by
  obtain ⟨fd, F⟩ := T.F_Table_comes
  refine ⟨F.kp, fd, F.ok sc_Table_comes (len_Table_comes a K) (fun cdv A outer s H vs Q E hr h => ⟨t_Table_comes a K, ?_, pure_Table_comes T vs H Q E h⟩), F.binds (ps := ["self", "x", "y"]) (fun _ _ _ _ _ _ us hl => match us, hl with | [_, _, _], _ => rfl)⟩
  exact (pss_one (ps_ret (pe_cmpR op_gt (pe_ix ix_list (pe_ix ix_list (pe_fld (pv 0) rfl) (pv 1) (fun _ _ => rfl)) (pv 2) (fun _ _ => rfl)) pe_int (nomark _))))
theorem ok_Table_ever_comes (T : Txt K mg a) : Ok P w K mg base 2 a.f_Table_ever_comes ["self", "x"] (sp_Table_ever_comes a K) := by
  obtain ⟨fd, F⟩ := T.F_Table_ever_comes
  refine ⟨F.kp, fd, F.ok sc_Table_ever_comes (len_Table_ever_comes a K) (fun cdv A outer s H vs Q E hr h => ⟨t_Table_ever_comes a K, ?_, pure_Table_ever_comes T vs H Q E h⟩), F.binds (ps := ["self", "x"]) (fun _ _ _ _ _ _ us hl => match us, hl with | [_, _], _ => rfl)⟩
  exact (pss_one (ps_ret (pe_cmpR op_gt (pe_callB (cr_sum rfl) (by rfl) T.n_sum (by decide +kernel) (pa_cons (pe_ix ix_list (pe_fld (pv 0) rfl) (pv 1) (fun _ _ => rfl)) pa_nil)) pe_int (nomark _))))
theorem ok_Table_row_by_row (T : Txt K mg a) : Ok P w K mg base 2 a.f_Table_row_by_row ["self"] (sp_Table_row_by_row a K) := by
  obtain ⟨fd, F⟩ := T.F_Table_row_by_row
  refine ⟨F.kp, fd, F.ok sc_Table_row_by_row (len_Table_row_by_row a K) (fun cdv A outer s H vs Q E hr h => ⟨t_Table_row_by_row a K, ?_, pure_Table_row_by_row T vs H Q E h⟩), F.binds (ps := ["self"]) (fun _ _ _ _ _ _ us hl => match us, hl with | [_], _ => rfl)⟩
  exact (pss_cons (ps_set (i := 1) sc_Table_row_by_row.nd rfl (Or.inl rfl) (pe_lst pa_nil)) (pss_cons (ps_for PassesOwn.never rfl (pi_list (pe_fld (pv 0) rfl)) (pg_name (i := 2) sc_Table_row_by_row.nd rfl (Or.inl rfl)) (pss_one (ps_expr (pe_bm PySem.F.plainAttrs_list PySem.F.slot_list_extend PySem.F.type_list_extend mt_extend (pv 1) (pa_cons (pv 2) pa_nil))))) (pss_one (ps_ret (pv 1)))))
theorem ok_all_twos (T : Txt K mg a) : Ok P w K mg base 2 a.f_all_twos ["x_count"] (sp_all_twos a K) := by
  obtain ⟨fd, F⟩ := T.F_all_twos
  refine ⟨F.kp, fd, F.ok sc_all_twos (len_all_twos a K) (fun cdv A outer s H vs Q E hr h => ⟨t_all_twos a K, ?_, pure_all_twos T vs H Q E h⟩), F.binds (ps := ["x_count"]) (fun _ _ _ _ _ _ us hl => match us, hl with | [_], _ => rfl)⟩
  exact (pss_cons (ps_set (i := 1) sc_all_twos.nd rfl (Or.inl rfl) (pe_lst pa_nil)) (pss_cons (ps_for PassesOwn.never rfl (pi_range1 rfl T.n_range (pa_cons (pv 0) pa_nil)) (pg_name (i := 2) sc_all_twos.nd rfl (Or.inl rfl)) (pss_one (ps_for PassesOwn.never rfl (pi_range1 rfl T.n_range (pa_cons (pv 0) pa_nil)) (pg_name (i := 3) sc_all_twos.nd rfl (Or.inl rfl)) (pss_one (ps_expr (pe_bm PySem.F.plainAttrs_list PySem.F.slot_list_append PySem.F.type_list_append mt_append (pv 1) (pa_cons (pe_tup (pa_cons (pv 2) (pa_cons (pv 3) pa_nil))) pa_nil))))))) (pss_one (ps_ret (pv 1)))))
theorem ok_least_not_in (T : Txt K mg a) : Ok P w K mg base 2 a.f_least_not_in ["taken"] (sp_least_not_in a K) := by
  obtain ⟨fd, F⟩ := T.F_least_not_in
  refine ⟨F.kp, fd, F.ok sc_least_not_in (len_least_not_in a K) (fun cdv A outer s H vs Q E hr h => ⟨t_least_not_in a K, ?_, pure_least_not_in T vs H Q E h⟩), F.binds (ps := ["taken"]) (fun _ _ _ _ _ _ us hl => match us, hl with | [_], _ => rfl)⟩
  exact (pss_cons (ps_set (i := 1) sc_least_not_in.nd rfl (Or.inl rfl) pe_int) (pss_cons (ps_while PassesOwn.never (pt_cmpR op_in_seq (pv 1) (pv 0) rfl) (pss_one (ps_set (i := 1) sc_least_not_in.nd rfl (Or.inl rfl) (pe_op op_add (pv 1) pe_int)))) (pss_one (ps_ret (pv 1)))))
theorem ok_yes_or_no (T : Txt K mg a) : Ok P w K mg base 2 a.f_yes_or_no ["holds"] (sp_yes_or_no a K) := by
  obtain ⟨fd, F⟩ := T.F_yes_or_no
  refine ⟨F.kp, fd, F.ok sc_yes_or_no (len_yes_or_no a K) (fun cdv A outer s H vs Q E hr h => ⟨t_yes_or_no a K, ?_, pure_yes_or_no T vs H Q E h⟩), F.binds (ps := ["holds"]) (fun _ _ _ _ _ _ us hl => match us, hl with | [_], _ => rfl)⟩
  exact (pss_one (ps_ret (pe_lst (pa_cons (pe_ifExp (pt_val (pv 0)) pe_int pe_int) pa_nil))))
theorem ok_counted (T : Txt K mg a) : Ok P w K mg base 2 a.f_counted ["found"] (sp_counted a K) := by
  obtain ⟨fd, F⟩ := T.F_counted
  refine ⟨F.kp, fd, F.ok sc_counted (len_counted a K) (fun cdv A outer s H vs Q E hr h => ⟨t_counted a K, ?_, pure_counted T vs H Q E h⟩), F.binds (ps := ["found"]) (fun _ _ _ _ _ _ us hl => match us, hl with | [_], _ => rfl)⟩
  exact (pss_one (ps_ret (pe_op op_cat (pe_lst (pa_cons (pe_callB call_len_seq (by rfl) T.n_len PySem.boot_len (pa_cons (pv 0) pa_nil)) pa_nil)) (pv 0))))
theorem ok_any_above (T : Txt K mg a) : Ok P w K mg base 2 a.f_any_above ["numbers", "most"] (sp_any_above a K) := by
  obtain ⟨fd, F⟩ := T.F_any_above
  refine ⟨F.kp, fd, F.ok sc_any_above (len_any_above a K) (fun cdv A outer s H vs Q E hr h => ⟨t_any_above a K, ?_, pure_any_above T vs H Q E h⟩), F.binds (ps := ["numbers", "most"]) (fun _ _ _ _ _ _ us hl => match us, hl with | [_, _], _ => rfl)⟩
  exact (pss_one (ps_ret (pe_callB (cr_any rfl) (by rfl) T.n_any (by decide +kernel) (pa_cons (pe_lc (own := [("number", 2)]) (g := gName 2) (tt := tYes) rfl sc_any_above.nd (pi_list (pv 0)) (blkOk_by (own := [("number", 2)]) (N := ["numbers", "most", "number"]) (sc := defScope s_any_above) (by decide +kernel)) (fun _ _ _ _ _ => pg_name (i := 2) sc_any_above.nd rfl (Or.inl rfl)) (fun _ _ _ _ _ => pts_nil) (fun _ _ _ _ _ => (pe_cmpR op_gt (pv 2) (pv 1) (nomark _)))) pa_nil))))
theorem ok_Line_init (T : Txt K mg a) : Ok P w K mg base 2 a.f_Line_init ["self"] (sp_Line_init a K) := by
  obtain ⟨fd, F⟩ := T.F_Line_init
  refine ⟨F.kp, fd, F.ok sc_Line_init (len_Line_init a K) (fun cdv A outer s H vs Q E hr h => ⟨t_Line_init a K, ?_, pure_Line_init T vs H Q E h⟩), F.binds (ps := ["self"]) (fun _ _ _ _ _ _ us hl => match us, hl with | [_], _ => rfl)⟩
  exact (pss_one (ps_fld (pv 0) pe_non rfl))
theorem ok_longer_rows (T : Txt K mg a) : Ok P w K mg base 3 a.f_longer_rows ["numbered_rows"] (sp_longer_rows a K) := by
  obtain ⟨fd, F⟩ := T.F_longer_rows
  refine ⟨F.kp, fd, F.ok sc_longer_rows (len_longer_rows a K) (fun cdv A outer s H vs Q E hr h => ⟨t_longer_rows a K, ?_, pure_longer_rows T vs H Q E h⟩), F.binds (ps := ["numbered_rows"]) (fun _ _ _ _ _ _ us hl => match us, hl with | [_], _ => rfl)⟩
  exact (pss_cons (ps_set (i := 1) sc_longer_rows.nd rfl (Or.inl rfl) (pe_lst pa_nil)) (pss_cons (ps_for PassesOwn.never rfl (pi_list (pv 0)) (pg_name (i := 2) sc_longer_rows.nd rfl (Or.inl rfl)) (pss_one (ps_for PassesOwn.never rfl (pi_range1 rfl T.n_range (pa_cons (pe_op op_add (pe_callG (ok_letter_count T) hr (by decide) rfl T.g_letter_count pass0 (pa_cons (pv 2) pa_nil)) pe_int) pa_nil)) (pg_name (i := 3) sc_longer_rows.nd rfl (Or.inl rfl)) (pss_one (ps_expr (pe_bm PySem.F.plainAttrs_list PySem.F.slot_list_append PySem.F.type_list_append mt_append (pv 1) (pa_cons (pe_op op_cat (pv 2) (pe_lst (pa_cons (pv 3) pa_nil))) pa_nil))))))) (pss_one (ps_ret (pv 1)))))
theorem ok_how_often_right (T : Txt K mg a) : Ok P w K mg base 3 a.f_how_often_right ["table", "letters"] (sp_how_often_right a K) := by
  obtain ⟨fd, F⟩ := T.F_how_often_right
  refine ⟨F.kp, fd, F.ok sc_how_often_right (len_how_often_right a K) (fun cdv A outer s H vs Q E hr h => ⟨t_how_often_right a K, ?_, pure_how_often_right T vs H Q E h⟩), F.binds (ps := ["table", "letters"]) (fun _ _ _ _ _ _ us hl => match us, hl with | [_, _], _ => rfl)⟩
  exact (pss_one (ps_ret (pe_callB (cr_sum rfl) (by rfl) T.n_sum (by decide +kernel) (pa_cons (pe_lc (own := [("y", 2)]) (g := gName 2) (tt := tYes) rfl sc_how_often_right.nd (pi_range1 rfl T.n_range (pa_cons (pe_fld (pv 0) rfl) pa_nil)) (blkOk_by (own := [("y", 2)]) (N := ["table", "letters", "y"]) (sc := defScope s_how_often_right) (by decide +kernel)) (fun _ _ _ _ _ => pg_name (i := 2) sc_how_often_right.nd rfl (Or.inl rfl)) (fun _ _ _ _ _ => pts_nil) (fun _ _ _ _ _ => (pe_callG (ok_right_with_y T) hr (by decide) rfl T.g_right_with_y pass0 (pa_cons (pv 0) (pa_cons (pv 1) (pa_cons (pv 2) pa_nil)))))) pa_nil))))
theorem ok_Table_ys_with_both (T : Txt K mg a) : Ok P w K mg base 3 a.f_Table_ys_with_both ["self", "x", "z"] (sp_Table_ys_with_both a K) := by
  obtain ⟨fd, F⟩ := T.F_Table_ys_with_both
  refine ⟨F.kp, fd, F.ok sc_Table_ys_with_both (len_Table_ys_with_both a K) (fun cdv A outer s H vs Q E hr h => ⟨t_Table_ys_with_both a K, ?_, pure_Table_ys_with_both T vs H Q E h⟩), F.binds (ps := ["self", "x", "z"]) (fun _ _ _ _ _ _ us hl => match us, hl with | [_, _, _], _ => rfl)⟩
  exact (pss_one (ps_ret (pe_lc (own := [("y", 3)]) (g := gName 3) (tt := (tAnd (tB (tMeth a.C_Table "comes" (sp_Table_comes a K) [] E0 (tVar 0) (tCons (tVar 1) (tCons (tVar 3) tNil)))) (tB (tMeth a.C_Table "comes" (sp_Table_comes a K) [] E0 (tVar 0) (tCons (tVar 2) (tCons (tVar 3) tNil)))))) rfl sc_Table_ys_with_both.nd (pi_range1 rfl T.n_range (pa_cons (pe_fld (pv 0) rfl) pa_nil)) (blkOk_by (own := [("y", 3)]) (N := ["self", "x", "z", "y"]) (sc := defScope s_Table_ys_with_both) (by decide +kernel)) (fun _ _ _ _ _ => pg_name (i := 3) sc_Table_ys_with_both.nd rfl (Or.inl rfl)) (fun _ _ _ _ _ => (pts_one (PW.pt (pw_and (pt_val (pe_methG (pv 0) T.cl_Table T.m_Table_comes (ok_Table_comes T) hr (by decide) pass0 (pa_cons (pv 1) (pa_cons (pv 3) pa_nil)))) (pw_and1 (pt_val (pe_methG (pv 0) T.cl_Table T.m_Table_comes (ok_Table_comes T) hr (by decide) pass0 (pa_cons (pv 2) (pa_cons (pv 3) pa_nil))))))))) (fun _ _ _ _ _ => (pv 3)))))
theorem ok_Table_xs_with (T : Txt K mg a) : Ok P w K mg base 3 a.f_Table_xs_with ["self", "y"] (sp_Table_xs_with a K) := by
  obtain ⟨fd, F⟩ := T.F_Table_xs_with
  refine ⟨F.kp, fd, F.ok sc_Table_xs_with (len_Table_xs_with a K) (fun cdv A outer s H vs Q E hr h => ⟨t_Table_xs_with a K, ?_, pure_Table_xs_with T vs H Q E h⟩), F.binds (ps := ["self", "y"]) (fun _ _ _ _ _ _ us hl => match us, hl with | [_, _], _ => rfl)⟩
  exact (pss_one (ps_ret (pe_lc (own := [("x", 2)]) (g := gName 2) (tt := (tB (tMeth a.C_Table "comes" (sp_Table_comes a K) [] E0 (tVar 0) (tCons (tVar 2) (tCons (tVar 1) tNil))))) rfl sc_Table_xs_with.nd (pi_range1 rfl T.n_range (pa_cons (pe_fld (pv 0) rfl) pa_nil)) (blkOk_by (own := [("x", 2)]) (N := ["self", "y", "x"]) (sc := defScope s_Table_xs_with) (by decide +kernel)) (fun _ _ _ _ _ => pg_name (i := 2) sc_Table_xs_with.nd rfl (Or.inl rfl)) (fun _ _ _ _ _ => (pts_one (pt_val (pe_methG (pv 0) T.cl_Table T.m_Table_comes (ok_Table_comes T) hr (by decide) pass0 (pa_cons (pv 2) (pa_cons (pv 1) pa_nil)))))) (fun _ _ _ _ _ => (pv 2)))))
theorem ok_wrong_letters (T : Txt K mg a) : Ok P w K mg base 3 a.f_wrong_letters ["letters", "count"] (sp_wrong_letters a K) := by
  obtain ⟨fd, F⟩ := T.F_wrong_letters
  refine ⟨F.kp, fd, F.ok sc_wrong_letters (len_wrong_letters a K) (fun cdv A outer s H vs Q E hr h => ⟨t_wrong_letters a K, ?_, pure_wrong_letters T vs H Q E h⟩), F.binds (ps := ["letters", "count"]) (fun _ _ _ _ _ _ us hl => match us, hl with | [_, _], _ => rfl)⟩
  exact (pss_one (ps_ret (pe_or (pe_cmpR op_ne (pe_callB call_len_seq (by rfl) T.n_len PySem.boot_len (pa_cons (pv 0) pa_nil)) (pv 1) (nomark _)) (pe_one (pe_callG (ok_any_above T) hr (by decide) rfl T.g_any_above pass0 (pa_cons (pv 0) (pa_cons (pe_op op_sub (pv 1) pe_int) pa_nil)))))))
theorem ok_reply_set (T : Txt K mg a) : Ok P w K mg base 3 a.f_reply_set ["table", "x", "y", "w"] (sp_reply_set a K) := by
  obtain ⟨fd, F⟩ := T.F_reply_set
  refine ⟨F.kp, fd, F.ok sc_reply_set (len_reply_set a K) (fun cdv A outer s H vs Q E hr h => ⟨t_reply_set a K, ?_, pure_reply_set T vs H Q E h⟩), F.binds (ps := ["table", "x", "y", "w"]) (fun _ _ _ _ _ _ us hl => match us, hl with | [_, _, _, _], _ => rfl)⟩
  exact (pss_cons (ps_if (PW.pt (pw_or (pt_not (pt_val (pe_methG (pv 0) T.cl_Table T.m_Table_has_x (ok_Table_has_x T) hr (by decide) pass0 (pa_cons (pv 1) pa_nil)))) (pw_or1 (pt_not (pt_val (pe_methG (pv 0) T.cl_Table T.m_Table_has_y (ok_Table_has_y T) hr (by decide) pass0 (pa_cons (pv 2) pa_nil))))))) (pss_one (ps_ret (pe_lst (pa_cons (pe_num rfl T.c_NO_SUCH) pa_nil)))) pss_nil) (pss_cons (ps_if (pt_cmpR op_gt (pv 3) (pe_num rfl T.c_MOST_OFTEN) (nomark _)) (pss_one (ps_ret (pe_lst (pa_cons (pe_num rfl T.c_WRONG) pa_nil)))) pss_nil) (pss_cons (ps_set (i := 4) sc_reply_set.nd rfl (Or.inl rfl) (pe_ix ix_list (pe_ix ix_list (pe_fld (pv 0) rfl) (pv 1) (fun _ _ => rfl)) (pv 2) (fun _ _ => rfl))) (pss_cons (ps_expr (pe_methG (pv 0) T.cl_Table T.m_Table_put (ok_Table_put T) hr (by decide) pass0 (pa_cons (pv 1) (pa_cons (pv 2) (pa_cons (pv 3) pa_nil))))) (pss_one (ps_ret (pe_lst (pa_cons (pv 4) pa_nil))))))))
theorem ok_reply_row (T : Txt K mg a) : Ok P w K mg base 3 a.f_reply_row ["table", "x", "how_often"] (sp_reply_row a K) := by
  obtain ⟨fd, F⟩ := T.F_reply_row
  refine ⟨F.kp, fd, F.ok sc_reply_row (len_reply_row a K) (fun cdv A outer s H vs Q E hr h => ⟨t_reply_row a K, ?_, pure_reply_row T vs H Q E h⟩), F.binds (ps := ["table", "x", "how_often"]) (fun _ _ _ _ _ _ us hl => match us, hl with | [_, _, _], _ => rfl)⟩
  exact (pss_cons (ps_if (pt_not (pt_val (pe_methG (pv 0) T.cl_Table T.m_Table_has_x (ok_Table_has_x T) hr (by decide) pass0 (pa_cons (pv 1) pa_nil)))) (pss_one (ps_ret (pe_lst (pa_cons (pe_num rfl T.c_NO_SUCH) pa_nil)))) pss_nil) (pss_cons (ps_if (PW.pt (pw_or (pt_cmpR op_ne (pe_callB call_len_seq (by rfl) T.n_len PySem.boot_len (pa_cons (pv 2) pa_nil)) (pe_fld (pv 0) rfl) (nomark _)) (pw_or1 (pt_val (pe_callG (ok_any_above T) hr (by decide) rfl T.g_any_above pass0 (pa_cons (pv 2) (pa_cons (pe_num rfl T.c_MOST_OFTEN) pa_nil))))))) (pss_one (ps_ret (pe_lst (pa_cons (pe_num rfl T.c_WRONG) pa_nil)))) pss_nil) (pss_cons (ps_expr (pe_methG (pv 0) T.cl_Table T.m_Table_put_row (ok_Table_put_row T) hr (by decide) pass0 (pa_cons (pv 1) (pa_cons (pv 2) pa_nil)))) (pss_one (ps_ret (pe_lst (pa_cons pe_int pa_nil)))))))
theorem ok_reply_forget (T : Txt K mg a) : Ok P w K mg base 3 a.f_reply_forget ["table", "y"] (sp_reply_forget a K) := by
  obtain ⟨fd, F⟩ := T.F_reply_forget
  refine ⟨F.kp, fd, F.ok sc_reply_forget (len_reply_forget a K) (fun cdv A outer s H vs Q E hr h => ⟨t_reply_forget a K, ?_, pure_reply_forget T vs H Q E h⟩), F.binds (ps := ["table", "y"]) (fun _ _ _ _ _ _ us hl => match us, hl with | [_, _], _ => rfl)⟩
  exact (pss_cons (ps_if (pt_not (pt_val (pe_methG (pv 0) T.cl_Table T.m_Table_has_y (ok_Table_has_y T) hr (by decide) pass0 (pa_cons (pv 1) pa_nil)))) (pss_one (ps_ret (pe_lst (pa_cons (pe_num rfl T.c_NO_SUCH) pa_nil)))) pss_nil) (pss_cons (ps_if (pt_cmpR op_eq (pe_fld (pv 0) rfl) pe_int (nomark _)) (pss_one (ps_ret (pe_lst (pa_cons (pe_num rfl T.c_ONE_ALONE) pa_nil)))) pss_nil) (pss_cons (ps_expr (pe_methG (pv 0) T.cl_Table T.m_Table_drop_y (ok_Table_drop_y T) hr (by decide) pass0 (pa_cons (pv 1) pa_nil))) (pss_one (ps_ret (pe_lst (pa_cons (pe_fld (pv 0) rfl) pa_nil)))))))
theorem ok_reply_may (T : Txt K mg a) : Ok P w K mg base 3 a.f_reply_may ["table", "x", "y"] (sp_reply_may a K) := by
  obtain ⟨fd, F⟩ := T.F_reply_may
  refine ⟨F.kp, fd, F.ok sc_reply_may (len_reply_may a K) (fun cdv A outer s H vs Q E hr h => ⟨t_reply_may a K, ?_, pure_reply_may T vs H Q E h⟩), F.binds (ps := ["table", "x", "y"]) (fun _ _ _ _ _ _ us hl => match us, hl with | [_, _, _], _ => rfl)⟩
  exact (pss_cons (ps_if (PW.pt (pw_or (pt_not (pt_val (pe_methG (pv 0) T.cl_Table T.m_Table_has_x (ok_Table_has_x T) hr (by decide) pass0 (pa_cons (pv 1) pa_nil)))) (pw_or1 (pt_not (pt_val (pe_methG (pv 0) T.cl_Table T.m_Table_has_y (ok_Table_has_y T) hr (by decide) pass0 (pa_cons (pv 2) pa_nil))))))) (pss_one (ps_ret (pe_lst (pa_cons (pe_num rfl T.c_NO_SUCH) pa_nil)))) pss_nil) (pss_one (ps_ret (pe_callG (ok_yes_or_no T) hr (by decide) rfl T.g_yes_or_no pass0 (pa_cons (pe_methG (pv 0) T.cl_Table T.m_Table_comes (ok_Table_comes T) hr (by decide) pass0 (pa_cons (pv 1) (pa_cons (pv 2) pa_nil))) pa_nil)))))
theorem ok_reply_all_told (T : Txt K mg a) : Ok P w K mg base 3 a.f_reply_all_told ["table"] (sp_reply_all_told a K) := by
  obtain ⟨fd, F⟩ := T.F_reply_all_told
  refine ⟨F.kp, fd, F.ok sc_reply_all_told (len_reply_all_told a K) (fun cdv A outer s H vs Q E hr h => ⟨t_reply_all_told a K, ?_, pure_reply_all_told T vs H Q E h⟩), F.binds (ps := ["table"]) (fun _ _ _ _ _ _ us hl => match us, hl with | [_], _ => rfl)⟩
  exact (pss_one (ps_ret (pe_op op_cat (pe_lst (pa_cons (pe_fld (pv 0) rfl) (pa_cons (pe_fld (pv 0) rfl) pa_nil))) (pe_methG0 (pv 0) T.cl_Table T.m_Table_row_by_row (ok_Table_row_by_row T) hr (by decide) pass0))))
theorem ok_read_calls (T : Txt K mg a) : Ok P w K mg base 4 a.f_read_calls ["calls"] (sp_read_calls a K) := by
  obtain ⟨fd, F⟩ := T.F_read_calls
  refine ⟨F.kp, fd, F.ok sc_read_calls (len_read_calls a K) (fun cdv A outer s H vs Q E hr h => ⟨t_read_calls a K, ?_, pure_read_calls T vs H Q E h⟩), F.binds (ps := ["calls"]) (fun _ _ _ _ _ _ us hl => match us, hl with | [_], _ => rfl)⟩
  exact (pss_cons (ps_set (i := 1) sc_read_calls.nd rfl (Or.inl rfl) (pe_lst pa_nil)) (pss_cons (ps_set (i := 2) sc_read_calls.nd rfl (Or.inl rfl) pe_int) (pss_cons (ps_while PassesOwn.never (pt_cmpR op_lt (pv 2) (pe_callB call_len_seq (by rfl) T.n_len PySem.boot_len (pa_cons (pv 0) pa_nil)) (nomark _)) (pss_cons (ps_set (i := 3) sc_read_calls.nd rfl (Or.inl rfl) (pe_ix ix_tup (pe_obj rfl T.g_SHAPES) (pe_ix ix_list (pv 0) (pv 2) (fun _ _ => rfl)) (fun _ _ => rfl))) (pss_cons (ps_set (i := 4) sc_read_calls.nd rfl (Or.inl rfl) (pe_op op_add (pe_op op_add (pv 2) pe_int) (pe_ix ix_tup (pv 3) pe_int (fun _ _ => rfl)))) (pss_cons (ps_set (i := 5) sc_read_calls.nd rfl (Or.inl rfl) (pe_slice sl_list (pv 0) (po_some (pe_op op_add (pv 2) pe_int)) (po_some (pv 4)))) (pss_cons (ps_set (i := 6) sc_read_calls.nd rfl (Or.inl rfl) (pe_lst pa_nil)) (pss_cut (ps_if (pt_val (pe_ix ix_tup (pv 3) pe_int (fun _ _ => rfl))) (pss_cons (ps_set (i := 7) sc_read_calls.nd rfl (Or.inl rfl) (pe_op op_add (pv 4) pe_int)) (pss_cons (ps_set (i := 8) sc_read_calls.nd rfl (Or.inl rfl) (pe_op op_add (pv 7) (pe_ix ix_list (pv 0) (pv 4) (fun _ _ => rfl)))) (pss_cons (ps_set (i := 6) sc_read_calls.nd rfl (Or.inl rfl) (pe_slice sl_list (pv 0) (po_some (pv 7)) (po_some (pv 8)))) (pss_one (ps_set (i := 4) sc_read_calls.nd rfl (Or.inl rfl) (pv 8)))))) pss_nil) (pss_cons (ps_expr (pe_bm PySem.F.plainAttrs_list PySem.F.slot_list_append PySem.F.type_list_append mt_append (pv 1) (pa_cons (pe_makeG T.mk_Call (ok_Call_init T) hr (by decide) rfl T.gC_Call pass0 (pa_cons (pe_ix ix_list (pv 0) (pv 2) (fun _ _ => rfl)) (pa_cons (pv 5) (pa_cons (pv 6) pa_nil)))) pa_nil))) (pss_one (ps_set (i := 2) sc_read_calls.nd rfl (Or.inl rfl) (pv 4)))))))))) (pss_one (ps_ret (pv 1))))))
theorem ok_all_numbered_rows (T : Txt K mg a) : Ok P w K mg base 4 a.f_all_numbered_rows ["x_count"] (sp_all_numbered_rows a K) := by
  obtain ⟨fd, F⟩ := T.F_all_numbered_rows
  refine ⟨F.kp, fd, F.ok sc_all_numbered_rows (len_all_numbered_rows a K) (fun cdv A outer s H vs Q E hr h => ⟨t_all_numbered_rows a K, ?_, pure_all_numbered_rows T vs H Q E h⟩), F.binds (ps := ["x_count"]) (fun _ _ _ _ _ _ us hl => match us, hl with | [_], _ => rfl)⟩
  exact (pss_cons (ps_set (i := 1) sc_all_numbered_rows.nd rfl (Or.inl rfl) (pe_lst (pa_cons (pe_lst (pa_cons pe_int pa_nil)) pa_nil))) (pss_cons (ps_while PassesOwn.never (pt_cmpR op_lt (pe_callB call_len_seq (by rfl) T.n_len PySem.boot_len (pa_cons (pe_ix ix_list (pv 1) pe_int (fun _ _ => rfl)) pa_nil)) (pv 0) (nomark _)) (pss_one (ps_set (i := 1) sc_all_numbered_rows.nd rfl (Or.inl rfl) (pe_callG (ok_longer_rows T) hr (by decide) rfl T.g_longer_rows pass0 (pa_cons (pv 1) pa_nil))))) (pss_one (ps_ret (pv 1)))))
theorem ok_Table_are_mixed (T : Txt K mg a) : Ok P w K mg base 4 a.f_Table_are_mixed ["self", "x", "z"] (sp_Table_are_mixed a K) := by
  obtain ⟨fd, F⟩ := T.F_Table_are_mixed
  refine ⟨F.kp, fd, F.ok sc_Table_are_mixed (len_Table_are_mixed a K) (fun cdv A outer s H vs Q E hr h => ⟨t_Table_are_mixed a K, ?_, pure_Table_are_mixed T vs H Q E h⟩), F.binds (ps := ["self", "x", "z"]) (fun _ _ _ _ _ _ us hl => match us, hl with | [_, _, _], _ => rfl)⟩
  exact (pss_one (ps_ret (pe_and (pe_cmpR op_ne (pv 1) (pv 2) (nomark _)) (pe_one (pe_cmpR op_gt (pe_callB call_len_seq (by rfl) T.n_len PySem.boot_len (pa_cons (pe_methG (pv 0) T.cl_Table T.m_Table_ys_with_both (ok_Table_ys_with_both T) hr (by decide) pass0 (pa_cons (pv 1) (pa_cons (pv 2) pa_nil))) pa_nil)) pe_int (nomark _))))))
theorem ok_reply_crowd (T : Txt K mg a) : Ok P w K mg base 4 a.f_reply_crowd ["table"] (sp_reply_crowd a K) := by
  obtain ⟨fd, F⟩ := T.F_reply_crowd
  refine ⟨F.kp, fd, F.ok sc_reply_crowd (len_reply_crowd a K) (fun cdv A outer s H vs Q E hr h => ⟨t_reply_crowd a K, ?_, pure_reply_crowd T vs H Q E h⟩), F.binds (ps := ["table"]) (fun _ _ _ _ _ _ us hl => match us, hl with | [_], _ => rfl)⟩
  exact (pss_cons (ps_setLc (i := 1) (own := [("y", 3)]) (g := gName 3) rfl sc_reply_crowd.nd rfl rfl (sw_true rfl rfl rfl (by decide +kernel)) (pi_range1 rfl T.n_range (pa_cons (pe_fld (pv 0) rfl) pa_nil)) (blkOk_by (own := [("y", 3)]) (N := ["table", "counts", "most", "y"]) (sc := defScope s_reply_crowd) (by decide +kernel)) (fun _ _ _ _ _ => pg_name (i := 3) sc_reply_crowd.nd rfl (Or.inl rfl)) (fun _ _ _ _ _ => pts_nil) (fun _ _ _ _ _ => (pe_callB call_len_seq (by rfl) T.n_len PySem.boot_len (pa_cons (pe_methG (pv 0) T.cl_Table T.m_Table_xs_with (ok_Table_xs_with T) hr (by decide) pass0 (pa_cons (pv 3) pa_nil)) pa_nil)))) (pss_cons (ps_set (i := 2) sc_reply_crowd.nd rfl (Or.inl rfl) (pe_callB (cr_max rfl) (by rfl) T.n_max (by decide +kernel) (pa_cons (pv 1) pa_nil))) (pss_one (ps_ret (pe_lst (pa_cons (pv 2) (pa_cons (pe_bm PySem.F.plainAttrs_list PySem.F.slot_list_index PySem.F.type_list_index mt_index (pv 1) (pa_cons (pv 2) pa_nil)) pa_nil)))))))
theorem ok_reply_told (T : Txt K mg a) : Ok P w K mg base 4 a.f_reply_told ["table", "c", "y", "letters"] (sp_reply_told a K) := by
  obtain ⟨fd, F⟩ := T.F_reply_told
  refine ⟨F.kp, fd, F.ok sc_reply_told (len_reply_told a K) (fun cdv A outer s H vs Q E hr h => ⟨t_reply_told a K, ?_, pure_reply_told T vs H Q E h⟩), F.binds (ps := ["table", "c", "y", "letters"]) (fun _ _ _ _ _ _ us hl => match us, hl with | [_, _, _, _], _ => rfl)⟩
  exact (pss_cons (ps_if (pt_val (pe_callG (ok_wrong_letters T) hr (by decide) rfl T.g_wrong_letters pass0 (pa_cons (pv 3) (pa_cons (pe_fld (pv 0) rfl) pa_nil)))) (pss_one (ps_ret (pe_lst (pa_cons (pe_num rfl T.c_WRONG) pa_nil)))) pss_nil) (pss_cons (ps_if (pt_not (pt_val (pe_methG (pv 0) T.cl_Table T.m_Table_has_y (ok_Table_has_y T) hr (by decide) pass0 (pa_cons (pv 2) pa_nil)))) (pss_one (ps_ret (pe_lst (pa_cons (pe_num rfl T.c_NO_SUCH) pa_nil)))) pss_nil) (pss_one (ps_ret (pe_callG (ok_counted T) hr (by decide) rfl T.g_counted pass0 (pa_cons (pe_lc (own := [("x", 4)]) (g := gName 4) (tt := (tTest (tOp rEq (tOp (rIxL K) (tVar 3) (tVar 4)) (tVar 1)))) rfl sc_reply_told.nd (pi_list (pe_methG (pv 0) T.cl_Table T.m_Table_xs_with (ok_Table_xs_with T) hr (by decide) pass0 (pa_cons (pv 2) pa_nil))) (blkOk_by (own := [("x", 4)]) (N := ["table", "c", "y", "letters", "x"]) (sc := defScope s_reply_told) (by decide +kernel)) (fun _ _ _ _ _ => pg_name (i := 4) sc_reply_told.nd rfl (Or.inl rfl)) (fun _ _ _ _ _ => (pts_one (pt_cmpR op_eq (pe_ix ix_list (pv 3) (pv 4) (fun _ _ => rfl)) (pv 1) (nomark _)))) (fun _ _ _ _ _ => (pv 4))) pa_nil))))))
theorem ok_reply_sure (T : Txt K mg a) : Ok P w K mg base 4 a.f_reply_sure ["table", "y"] (sp_reply_sure a K) := by
  obtain ⟨fd, F⟩ := T.F_reply_sure
  refine ⟨F.kp, fd, F.ok sc_reply_sure (len_reply_sure a K) (fun cdv A outer s H vs Q E hr h => ⟨t_reply_sure a K, ?_, pure_reply_sure T vs H Q E h⟩), F.binds (ps := ["table", "y"]) (fun _ _ _ _ _ _ us hl => match us, hl with | [_, _], _ => rfl)⟩
  exact (pss_cons (ps_if (pt_not (pt_val (pe_methG (pv 0) T.cl_Table T.m_Table_has_y (ok_Table_has_y T) hr (by decide) pass0 (pa_cons (pv 1) pa_nil)))) (pss_one (ps_ret (pe_lst (pa_cons (pe_num rfl T.c_NO_SUCH) pa_nil)))) pss_nil) (pss_one (ps_ret (pe_callG (ok_counted T) hr (by decide) rfl T.g_counted pass0 (pa_cons (pe_methG (pv 0) T.cl_Table T.m_Table_xs_with (ok_Table_xs_with T) hr (by decide) pass0 (pa_cons (pv 1) pa_nil)) pa_nil)))))
theorem ok_reply_often (T : Txt K mg a) : Ok P w K mg base 4 a.f_reply_often ["table", "letters"] (sp_reply_often a K) := by
  obtain ⟨fd, F⟩ := T.F_reply_often
  refine ⟨F.kp, fd, F.ok sc_reply_often (len_reply_often a K) (fun cdv A outer s H vs Q E hr h => ⟨t_reply_often a K, ?_, pure_reply_often T vs H Q E h⟩), F.binds (ps := ["table", "letters"]) (fun _ _ _ _ _ _ us hl => match us, hl with | [_, _], _ => rfl)⟩
  exact (pss_cons (ps_if (pt_val (pe_callG (ok_wrong_letters T) hr (by decide) rfl T.g_wrong_letters pass0 (pa_cons (pv 1) (pa_cons (pe_fld (pv 0) rfl) pa_nil)))) (pss_one (ps_ret (pe_lst (pa_cons (pe_num rfl T.c_WRONG) pa_nil)))) pss_nil) (pss_one (ps_ret (pe_lst (pa_cons (pe_callG (ok_how_often_right T) hr (by decide) rfl T.g_how_often_right pass0 (pa_cons (pv 0) (pa_cons (pv 1) pa_nil))) (pa_cons (pe_callB (cr_sum rfl) (by rfl) T.n_sum (by decide +kernel) (pa_cons (pe_methG0 (pv 0) T.cl_Table T.m_Table_row_by_row (ok_Table_row_by_row T) hr (by decide) pass0) pa_nil)) pa_nil))))))
theorem ok_answer_change (T : Txt K mg a) : Ok P w K mg base 4 a.f_answer_change ["table", "number", "numbers", "row"] (sp_answer_change a K) := by
  obtain ⟨fd, F⟩ := T.F_answer_change
  refine ⟨F.kp, fd, F.ok sc_answer_change (len_answer_change a K) (fun cdv A outer s H vs Q E hr h => ⟨t_answer_change a K, ?_, pure_answer_change T vs H Q E h⟩), F.binds (ps := ["table", "number", "numbers", "row"]) (fun _ _ _ _ _ _ us hl => match us, hl with | [_, _, _, _], _ => rfl)⟩
  exact (pss_cons (ps_if (pt_cmpR op_eq (pv 1) (pe_num rfl T.c_SET_OFTEN) (nomark _)) (pss_one (ps_ret (pe_callG (ok_reply_set T) hr (by decide) rfl T.g_reply_set pass0 (pa_cons (pv 0) (pa_cons (pe_ix ix_list (pv 2) pe_int (fun _ _ => rfl)) (pa_cons (pe_ix ix_list (pv 2) pe_int (fun _ _ => rfl)) (pa_cons (pe_ix ix_list (pv 2) pe_int (fun _ _ => rfl)) pa_nil))))))) pss_nil) (pss_cons (ps_if (pt_cmpR op_eq (pv 1) (pe_num rfl T.c_ROW) (nomark _)) (pss_one (ps_ret (pe_callG (ok_reply_row T) hr (by decide) rfl T.g_reply_row pass0 (pa_cons (pv 0) (pa_cons (pe_ix ix_list (pv 2) pe_int (fun _ _ => rfl)) (pa_cons (pv 3) pa_nil)))))) pss_nil) (pss_one (ps_ret (pe_callG (ok_reply_forget T) hr (by decide) rfl T.g_reply_forget pass0 (pa_cons (pv 0) (pa_cons (pe_ix ix_list (pv 2) pe_int (fun _ _ => rfl)) pa_nil)))))))
theorem ok_Line_begin (T : Txt K mg a) : Ok P w K mg base 4 a.f_Line_begin ["self", "x_count", "y_count"] (sp_Line_begin a K) := by
  obtain ⟨fd, F⟩ := T.F_Line_begin
  refine ⟨F.kp, fd, F.ok sc_Line_begin (len_Line_begin a K) (fun cdv A outer s H vs Q E hr h => ⟨t_Line_begin a K, ?_, pure_Line_begin T vs H Q E h⟩), F.binds (ps := ["self", "x_count", "y_count"]) (fun _ _ _ _ _ _ us hl => match us, hl with | [_, _, _], _ => rfl)⟩
  exact (pss_cons (ps_if (PW.pt (pw_or (pt_cmpR op_lt (pv 1) pe_int (nomark _)) (pw_or (pt_cmpR op_gt (pv 1) (pe_num rfl T.c_MOST_THINGS) (nomark _)) (pw_or (pt_cmpR op_lt (pv 2) pe_int (nomark _)) (pw_or1 (pt_cmpR op_gt (pv 2) (pe_num rfl T.c_MOST_THINGS) (nomark _))))))) (pss_one (ps_ret (pe_lst (pa_cons (pe_num rfl T.c_WRONG) pa_nil)))) pss_nil) (pss_cons (ps_fld (pv 0) (pe_makeG T.mk_Table (ok_Table_init T) hr (by decide) rfl T.gC_Table pass0 (pa_cons (pv 1) (pa_cons (pv 2) pa_nil))) rfl) (pss_one (ps_ret (pe_lst (pa_cons pe_int pa_nil))))))
theorem ok_mixed_within (T : Txt K mg a) : Ok P w K mg base 5 a.f_mixed_within ["table", "group"] (sp_mixed_within a K) := by
  obtain ⟨fd, F⟩ := T.F_mixed_within
  refine ⟨F.kp, fd, F.ok sc_mixed_within (len_mixed_within a K) (fun cdv A outer s H vs Q E hr h => ⟨t_mixed_within a K, ?_, pure_mixed_within T vs H Q E h⟩), F.binds (ps := ["table", "group"]) (fun _ _ _ _ _ _ us hl => match us, hl with | [_, _], _ => rfl)⟩
  exact (pss_cons (ps_set (i := 2) sc_mixed_within.nd rfl (Or.inl rfl) pe_int) (pss_cons (ps_for PassesOwn.never rfl (pi_list (pv 1)) (pg_name (i := 3) sc_mixed_within.nd rfl (Or.inr rfl)) (pss_one (ps_set (i := 2) sc_mixed_within.nd rfl (Or.inl rfl) (pe_op op_add (pv 2) (pe_callB call_len_seq (by rfl) T.n_len PySem.boot_len (pa_cons (pe_lc (own := [("z", 4)]) (g := gName 4) (tt := (tB (tMeth a.C_Table "are_mixed" (sp_Table_are_mixed a K) [] E0 (tVar 0) (tCons (tVar 3) (tCons (tVar 4) tNil))))) rfl sc_mixed_within.nd (pi_list (pv 1)) (blkOk_by (own := [("z", 4)]) (N := ["table", "group", "found", "x", "z"]) (sc := defScope s_mixed_within) (by decide +kernel)) (fun _ _ _ _ _ => pg_name (i := 4) sc_mixed_within.nd rfl (Or.inl rfl)) (fun _ _ _ _ _ => (pts_one (pt_val (pe_methG (pv 0) T.cl_Table T.m_Table_are_mixed (ok_Table_are_mixed T) hr (by decide) pass0 (pa_cons (pv 3) (pa_cons (pv 4) pa_nil)))))) (fun _ _ _ _ _ => (pv 4))) pa_nil)))))) (pss_one (ps_ret (pv 2)))))
theorem ok_first_clash (T : Txt K mg a) : Ok P w K mg base 5 a.f_first_clash ["table", "letters"] (sp_first_clash a K) := by
  obtain ⟨fd, F⟩ := T.F_first_clash
  refine ⟨F.kp, fd, F.ok sc_first_clash (len_first_clash a K) (fun cdv A outer s H vs Q E hr h => ⟨t_first_clash a K, ?_, pure_first_clash T vs H Q E h⟩), F.binds (ps := ["table", "letters"]) (fun _ _ _ _ _ _ us hl => match us, hl with | [_, _], _ => rfl)⟩
  exact (pss_cons (ps_for PassesOwn.never rfl (pi_range1 rfl T.n_range (pa_cons (pe_fld (pv 0) rfl) pa_nil)) (pg_name (i := 2) sc_first_clash.nd rfl (Or.inl rfl)) (pss_one (ps_for PassesOwn.never rfl (pi_range2 rfl T.n_range (pa_cons (pe_op op_add (pv 2) pe_int) (pa_cons (pe_fld (pv 0) rfl) pa_nil))) (pg_name (i := 3) sc_first_clash.nd rfl (Or.inl rfl)) (pss_one (ps_if (PW.pt (pw_and (pt_cmpR op_eq (pe_ix ix_list (pv 1) (pv 2) (fun _ _ => rfl)) (pe_ix ix_list (pv 1) (pv 3) (fun _ _ => rfl)) (nomark _)) (pw_and1 (pt_val (pe_methG (pv 0) T.cl_Table T.m_Table_are_mixed (ok_Table_are_mixed T) hr (by decide) pass0 (pa_cons (pv 2) (pa_cons (pv 3) pa_nil))))))) (pss_one (ps_ret (pe_lst (pa_cons (pv 2) (pa_cons (pv 3) (pa_cons (pe_ix ix_list (pe_methG (pv 0) T.cl_Table T.m_Table_ys_with_both (ok_Table_ys_with_both T) hr (by decide) pass0 (pa_cons (pv 2) (pa_cons (pv 3) pa_nil))) pe_int (fun _ _ => rfl)) pa_nil)))))) pss_nil))))) (pss_one (ps_ret (pe_lst pa_nil))))
theorem ok_Table_mixed_with (T : Txt K mg a) : Ok P w K mg base 5 a.f_Table_mixed_with ["self", "x"] (sp_Table_mixed_with a K) := by
  obtain ⟨fd, F⟩ := T.F_Table_mixed_with
  refine ⟨F.kp, fd, F.ok sc_Table_mixed_with (len_Table_mixed_with a K) (fun cdv A outer s H vs Q E hr h => ⟨t_Table_mixed_with a K, ?_, pure_Table_mixed_with T vs H Q E h⟩), F.binds (ps := ["self", "x"]) (fun _ _ _ _ _ _ us hl => match us, hl with | [_, _], _ => rfl)⟩
  exact (pss_one (ps_ret (pe_lc (own := [("z", 2)]) (g := gName 2) (tt := (tB (tMeth a.C_Table "are_mixed" (sp_Table_are_mixed a K) [] E0 (tVar 0) (tCons (tVar 1) (tCons (tVar 2) tNil))))) rfl sc_Table_mixed_with.nd (pi_range1 rfl T.n_range (pa_cons (pe_fld (pv 0) rfl) pa_nil)) (blkOk_by (own := [("z", 2)]) (N := ["self", "x", "z"]) (sc := defScope s_Table_mixed_with) (by decide +kernel)) (fun _ _ _ _ _ => pg_name (i := 2) sc_Table_mixed_with.nd rfl (Or.inl rfl)) (fun _ _ _ _ _ => (pts_one (pt_val (pe_methG (pv 0) T.cl_Table T.m_Table_are_mixed (ok_Table_are_mixed T) hr (by decide) pass0 (pa_cons (pv 1) (pa_cons (pv 2) pa_nil)))))) (fun _ _ _ _ _ => (pv 2)))))
theorem ok_is_open_between (T : Txt K mg a) : Ok P w K mg base 5 a.f_is_open_between ["table", "x", "z"] (sp_is_open_between a K) := by
  obtain ⟨fd, F⟩ := T.F_is_open_between
  refine ⟨F.kp, fd, F.ok sc_is_open_between (len_is_open_between a K) (fun cdv A outer s H vs Q E hr h => ⟨t_is_open_between a K, ?_, pure_is_open_between T vs H Q E h⟩), F.binds (ps := ["table", "x", "z"]) (fun _ _ _ _ _ _ us hl => match us, hl with | [_, _, _], _ => rfl)⟩
  exact (pss_cons (ps_if (pt_cmpR op_eq (pv 1) (pv 2) (nomark _)) (pss_one (ps_ret (pe_methG (pv 0) T.cl_Table T.m_Table_ever_comes (ok_Table_ever_comes T) hr (by decide) pass0 (pa_cons (pv 1) pa_nil)))) pss_nil) (pss_one (ps_ret (pe_methG (pv 0) T.cl_Table T.m_Table_are_mixed (ok_Table_are_mixed T) hr (by decide) pass0 (pa_cons (pv 1) (pa_cons (pv 2) pa_nil))))))
theorem ok_reply_mixed (T : Txt K mg a) : Ok P w K mg base 5 a.f_reply_mixed ["table", "x", "z"] (sp_reply_mixed a K) := by
  obtain ⟨fd, F⟩ := T.F_reply_mixed
  refine ⟨F.kp, fd, F.ok sc_reply_mixed (len_reply_mixed a K) (fun cdv A outer s H vs Q E hr h => ⟨t_reply_mixed a K, ?_, pure_reply_mixed T vs H Q E h⟩), F.binds (ps := ["table", "x", "z"]) (fun _ _ _ _ _ _ us hl => match us, hl with | [_, _, _], _ => rfl)⟩
  exact (pss_cons (ps_if (PW.pt (pw_or (pt_not (pt_val (pe_methG (pv 0) T.cl_Table T.m_Table_has_x (ok_Table_has_x T) hr (by decide) pass0 (pa_cons (pv 1) pa_nil)))) (pw_or1 (pt_not (pt_val (pe_methG (pv 0) T.cl_Table T.m_Table_has_x (ok_Table_has_x T) hr (by decide) pass0 (pa_cons (pv 2) pa_nil))))))) (pss_one (ps_ret (pe_lst (pa_cons (pe_num rfl T.c_NO_SUCH) pa_nil)))) pss_nil) (pss_one (ps_ret (pe_callG (ok_yes_or_no T) hr (by decide) rfl T.g_yes_or_no pass0 (pa_cons (pe_methG (pv 0) T.cl_Table T.m_Table_are_mixed (ok_Table_are_mixed T) hr (by decide) pass0 (pa_cons (pv 1) (pa_cons (pv 2) pa_nil))) pa_nil)))))
theorem ok_is_all_mixed (T : Txt K mg a) : Ok P w K mg base 6 a.f_is_all_mixed ["table", "group"] (sp_is_all_mixed a K) := by
  obtain ⟨fd, F⟩ := T.F_is_all_mixed
  refine ⟨F.kp, fd, F.ok sc_is_all_mixed (len_is_all_mixed a K) (fun cdv A outer s H vs Q E hr h => ⟨t_is_all_mixed a K, ?_, pure_is_all_mixed T vs H Q E h⟩), F.binds (ps := ["table", "group"]) (fun _ _ _ _ _ _ us hl => match us, hl with | [_, _], _ => rfl)⟩
  exact (pss_one (ps_ret (pe_cmpR op_eq (pe_callG (ok_mixed_within T) hr (by decide) rfl T.g_mixed_within pass0 (pa_cons (pv 0) (pa_cons (pv 1) pa_nil))) (pe_op op_mul (pe_callB call_len_seq (by rfl) T.n_len PySem.boot_len (pa_cons (pv 1) pa_nil)) (pe_op op_sub (pe_callB call_len_seq (by rfl) T.n_len PySem.boot_len (pa_cons (pv 1) pa_nil)) pe_int)) (nomark _))))
theorem ok_is_none_mixed (T : Txt K mg a) : Ok P w K mg base 6 a.f_is_none_mixed ["table", "group"] (sp_is_none_mixed a K) := by
  obtain ⟨fd, F⟩ := T.F_is_none_mixed
  refine ⟨F.kp, fd, F.ok sc_is_none_mixed (len_is_none_mixed a K) (fun cdv A outer s H vs Q E hr h => ⟨t_is_none_mixed a K, ?_, pure_is_none_mixed T vs H Q E h⟩), F.binds (ps := ["table", "group"]) (fun _ _ _ _ _ _ us hl => match us, hl with | [_, _], _ => rfl)⟩
  exact (pss_one (ps_ret (pe_cmpR op_eq (pe_callG (ok_mixed_within T) hr (by decide) rfl T.g_mixed_within pass0 (pa_cons (pv 0) (pa_cons (pv 1) pa_nil))) pe_int (nomark _))))
theorem ok_letters_do (T : Txt K mg a) : Ok P w K mg base 6 a.f_letters_do ["table", "letters"] (sp_letters_do a K) := by
  obtain ⟨fd, F⟩ := T.F_letters_do
  refine ⟨F.kp, fd, F.ok sc_letters_do (len_letters_do a K) (fun cdv A outer s H vs Q E hr h => ⟨t_letters_do a K, ?_, pure_letters_do T vs H Q E h⟩), F.binds (ps := ["table", "letters"]) (fun _ _ _ _ _ _ us hl => match us, hl with | [_, _], _ => rfl)⟩
  exact (pss_one (ps_ret (pe_cmpR op_eq (pe_callB call_len_seq (by rfl) T.n_len PySem.boot_len (pa_cons (pe_callG (ok_first_clash T) hr (by decide) rfl T.g_first_clash pass0 (pa_cons (pv 0) (pa_cons (pv 1) pa_nil))) pa_nil)) pe_int (nomark _))))
theorem ok_likeliest_row (T : Txt K mg a) (TB : LamX.TabB base mg a.c_likeliest_row a.P_likeliest_row) : Ok P w K mg base 6 a.f_likeliest_row ["table", "k"] (sp_likeliest_row a K) := by
  obtain ⟨fd, F⟩ := T.F_likeliest_row
  refine ⟨F.kp, fd, F.ok sc_likeliest_row (len_likeliest_row a K) (fun A outer s H vs Q E hr h => ⟨t_likeliest_row a K, ?_, pure_likeliest_row T vs H Q E h⟩), F.binds (ps := ["table", "k"]) (fun _ _ _ _ _ us hl => match us, hl with | [_, _], _ => rfl)⟩
  exact (pss_cons (ps_setLc (i := 2) (own := [("row", 3)]) (g := gName 3) rfl sc_likeliest_row.nd rfl rfl (sw_true rfl rfl rfl (by decide +kernel)) (pi_list (pe_callG (ok_all_numbered_rows T) hr (by decide) rfl T.g_all_numbered_rows pass0 (pa_cons (pe_fld (pv 0) rfl) pa_nil))) (blkOk_by (own := [("row", 3)]) (N := ["table", "k", "rows", "row"]) (sc := defScope s_likeliest_row) (by decide +kernel)) (fun _ _ _ _ _ => pg_name (i := 3) sc_likeliest_row.nd rfl (Or.inl rfl)) (fun _ _ _ _ _ => (pts_one (pt_cmpR op_le (pe_callG (ok_letter_count T) hr (by decide) rfl T.g_letter_count pass0 (pa_cons (pv 3) pa_nil)) (pv 1) (nomark _)))) (fun _ _ _ _ _ => (pv 3))) (pss_one (ps_ret (pe_maxLam (N := ["row", "table"]) (fr := ["table"]) (js := [0]) (k := 3) TB rfl hr (by decide) rfl T.n_max (NdefX.nscope_by (by decide +kernel)) (free_by (sc := defScope s_likeliest_row) (by decide +kernel)) (by decide +kernel) rfl rfl (fun _ _ _ _ _ _ => rfl) (pa_cons (pv 2) pa_nil) (fun _ _ _ _ _ _ _ _ hr => (pe_callG (ok_how_often_right T) hr (by decide) rfl T.g_how_often_right pass0 (pa_cons (pv 1) (pa_cons (pv 0) pa_nil))))))))
theorem ok_are_twos_mixed (T : Txt K mg a) : Ok P w K mg base 6 a.f_are_twos_mixed ["table", "two", "other"] (sp_are_twos_mixed a K) := by
  obtain ⟨fd, F⟩ := T.F_are_twos_mixed
  refine ⟨F.kp, fd, F.ok sc_are_twos_mixed (len_are_twos_mixed a K) (fun cdv A outer s H vs Q E hr h => ⟨t_are_twos_mixed a K, ?_, pure_are_twos_mixed T vs H Q E h⟩), F.binds (ps := ["table", "two", "other"]) (fun _ _ _ _ _ _ us hl => match us, hl with | [_, _, _], _ => rfl)⟩
  exact (pss_cons (ps_if (pt_cmpR (op_eqD hr.units) (pv 1) (pv 2) (nomark _)) (pss_one (ps_ret pe_bl)) pss_nil) (pss_one (ps_ret (pe_and (pe_callG (ok_is_open_between T) hr (by decide) rfl T.g_is_open_between pass0 (pa_cons (pv 0) (pa_cons (pe_ix ix_tup (pv 1) pe_int (fun _ _ => rfl)) (pa_cons (pe_ix ix_tup (pv 2) pe_int (fun _ _ => rfl)) pa_nil)))) (pe_one (pe_callG (ok_is_open_between T) hr (by decide) rfl T.g_is_open_between pass0 (pa_cons (pv 0) (pa_cons (pe_ix ix_tup (pv 1) pe_int (fun _ _ => rfl)) (pa_cons (pe_ix ix_tup (pv 2) pe_int (fun _ _ => rfl)) pa_nil)))))))))
theorem ok_reply_mixed_with (T : Txt K mg a) : Ok P w K mg base 6 a.f_reply_mixed_with ["table", "x"] (sp_reply_mixed_with a K) := by
  obtain ⟨fd, F⟩ := T.F_reply_mixed_with
  refine ⟨F.kp, fd, F.ok sc_reply_mixed_with (len_reply_mixed_with a K) (fun cdv A outer s H vs Q E hr h => ⟨t_reply_mixed_with a K, ?_, pure_reply_mixed_with T vs H Q E h⟩), F.binds (ps := ["table", "x"]) (fun _ _ _ _ _ _ us hl => match us, hl with | [_, _], _ => rfl)⟩
  exact (pss_cons (ps_if (pt_not (pt_val (pe_methG (pv 0) T.cl_Table T.m_Table_has_x (ok_Table_has_x T) hr (by decide) pass0 (pa_cons (pv 1) pa_nil)))) (pss_one (ps_ret (pe_lst (pa_cons (pe_num rfl T.c_NO_SUCH) pa_nil)))) pss_nil) (pss_one (ps_ret (pe_callG (ok_counted T) hr (by decide) rfl T.g_counted pass0 (pa_cons (pe_methG (pv 0) T.cl_Table T.m_Table_mixed_with (ok_Table_mixed_with T) hr (by decide) pass0 (pa_cons (pv 1) pa_nil)) pa_nil)))))
theorem ok_reply_clash (T : Txt K mg a) : Ok P w K mg base 6 a.f_reply_clash ["table", "letters"] (sp_reply_clash a K) := by
  obtain ⟨fd, F⟩ := T.F_reply_clash
  refine ⟨F.kp, fd, F.ok sc_reply_clash (len_reply_clash a K) (fun cdv A outer s H vs Q E hr h => ⟨t_reply_clash a K, ?_, pure_reply_clash T vs H Q E h⟩), F.binds (ps := ["table", "letters"]) (fun _ _ _ _ _ _ us hl => match us, hl with | [_, _], _ => rfl)⟩
  exact (pss_cons (ps_if (pt_val (pe_callG (ok_wrong_letters T) hr (by decide) rfl T.g_wrong_letters pass0 (pa_cons (pv 1) (pa_cons (pe_fld (pv 0) rfl) pa_nil)))) (pss_one (ps_ret (pe_lst (pa_cons (pe_num rfl T.c_WRONG) pa_nil)))) pss_nil) (pss_cons (ps_set (i := 2) sc_reply_clash.nd rfl (Or.inl rfl) (pe_callG (ok_first_clash T) hr (by decide) rfl T.g_first_clash pass0 (pa_cons (pv 0) (pa_cons (pv 1) pa_nil)))) (pss_cons (ps_if (pt_cmpR op_eq (pe_callB call_len_seq (by rfl) T.n_len PySem.boot_len (pa_cons (pv 2) pa_nil)) pe_int (nomark _)) (pss_one (ps_ret (pe_lst (pa_cons (pe_num rfl T.c_THEY_DO) pa_nil)))) pss_nil) (pss_one (ps_ret (pv 2))))))
theorem ok_greatest_all_mixed (T : Txt K mg a) : Ok P w K mg base 7 a.f_greatest_all_mixed ["table"] (sp_greatest_all_mixed a K) := by
  obtain ⟨fd, F⟩ := T.F_greatest_all_mixed
  refine ⟨F.kp, fd, F.ok sc_greatest_all_mixed (len_greatest_all_mixed a K) (fun cdv A outer s H vs Q E hr h => ⟨t_greatest_all_mixed a K, ?_, pure_greatest_all_mixed T vs H Q E h⟩), F.binds (ps := ["table"]) (fun _ _ _ _ _ _ us hl => match us, hl with | [_], _ => rfl)⟩
  exact (pss_one (ps_ret (pe_maxLen hr rfl T.n_max rfl T.n_len (pa_cons (pe_lc (own := [("group", 1)]) (g := gName 1) (tt := (tB (tCall (sp_is_all_mixed a K) [] E0 (tCons (tVar 0) (tCons (tVar 1) tNil))))) rfl sc_greatest_all_mixed.nd (pi_list (pe_callG (ok_all_groups T) hr (by decide) rfl T.g_all_groups pass0 (pa_cons (pe_fld (pv 0) rfl) pa_nil))) (blkOk_by (own := [("group", 1)]) (N := ["table", "group"]) (sc := defScope s_greatest_all_mixed) (by decide +kernel)) (fun _ _ _ _ _ => pg_name (i := 1) sc_greatest_all_mixed.nd rfl (Or.inl rfl)) (fun _ _ _ _ _ => (pts_one (pt_val (pe_callG (ok_is_all_mixed T) hr (by decide) rfl T.g_is_all_mixed pass0 (pa_cons (pv 0) (pa_cons (pv 1) pa_nil)))))) (fun _ _ _ _ _ => (pv 1))) pa_nil))))
theorem ok_greatest_none_mixed (T : Txt K mg a) : Ok P w K mg base 7 a.f_greatest_none_mixed ["table"] (sp_greatest_none_mixed a K) := by
  obtain ⟨fd, F⟩ := T.F_greatest_none_mixed
  refine ⟨F.kp, fd, F.ok sc_greatest_none_mixed (len_greatest_none_mixed a K) (fun cdv A outer s H vs Q E hr h => ⟨t_greatest_none_mixed a K, ?_, pure_greatest_none_mixed T vs H Q E h⟩), F.binds (ps := ["table"]) (fun _ _ _ _ _ _ us hl => match us, hl with | [_], _ => rfl)⟩
  exact (pss_one (ps_ret (pe_maxLen hr rfl T.n_max rfl T.n_len (pa_cons (pe_lc (own := [("group", 1)]) (g := gName 1) (tt := (tB (tCall (sp_is_none_mixed a K) [] E0 (tCons (tVar 0) (tCons (tVar 1) tNil))))) rfl sc_greatest_none_mixed.nd (pi_list (pe_callG (ok_all_groups T) hr (by decide) rfl T.g_all_groups pass0 (pa_cons (pe_fld (pv 0) rfl) pa_nil))) (blkOk_by (own := [("group", 1)]) (N := ["table", "group"]) (sc := defScope s_greatest_none_mixed) (by decide +kernel)) (fun _ _ _ _ _ => pg_name (i := 1) sc_greatest_none_mixed.nd rfl (Or.inl rfl)) (fun _ _ _ _ _ => (pts_one (pt_val (pe_callG (ok_is_none_mixed T) hr (by decide) rfl T.g_is_none_mixed pass0 (pa_cons (pv 0) (pa_cons (pv 1) pa_nil)))))) (fun _ _ _ _ _ => (pv 1))) pa_nil))))
theorem ok_rows_that_do (T : Txt K mg a) : Ok P w K mg base 7 a.f_rows_that_do ["table"] (sp_rows_that_do a K) := by
  obtain ⟨fd, F⟩ := T.F_rows_that_do
  refine ⟨F.kp, fd, F.ok sc_rows_that_do (len_rows_that_do a K) (fun cdv A outer s H vs Q E hr h => ⟨t_rows_that_do a K, ?_, pure_rows_that_do T vs H Q E h⟩), F.binds (ps := ["table"]) (fun _ _ _ _ _ _ us hl => match us, hl with | [_], _ => rfl)⟩
  exact (pss_one (ps_ret (pe_lc (own := [("row", 1)]) (g := gName 1) (tt := (tB (tCall (sp_letters_do a K) [] E0 (tCons (tVar 0) (tCons (tVar 1) tNil))))) rfl sc_rows_that_do.nd (pi_list (pe_callG (ok_all_numbered_rows T) hr (by decide) rfl T.g_all_numbered_rows pass0 (pa_cons (pe_fld (pv 0) rfl) pa_nil))) (blkOk_by (own := [("row", 1)]) (N := ["table", "row"]) (sc := defScope s_rows_that_do) (by decide +kernel)) (fun _ _ _ _ _ => pg_name (i := 1) sc_rows_that_do.nd rfl (Or.inl rfl)) (fun _ _ _ _ _ => (pts_one (pt_val (pe_callG (ok_letters_do T) hr (by decide) rfl T.g_letters_do pass0 (pa_cons (pv 0) (pa_cons (pv 1) pa_nil)))))) (fun _ _ _ _ _ => (pv 1)))))
theorem ok_letters_of_mixed_ahead (T : Txt K mg a) : Ok P w K mg base 7 a.f_letters_of_mixed_ahead ["table", "twos", "letters", "at"] (sp_letters_of_mixed_ahead a K) := by
  obtain ⟨fd, F⟩ := T.F_letters_of_mixed_ahead
  refine ⟨F.kp, fd, F.ok sc_letters_of_mixed_ahead (len_letters_of_mixed_ahead a K) (fun cdv A outer s H vs Q E hr h => ⟨t_letters_of_mixed_ahead a K, ?_, pure_letters_of_mixed_ahead T vs H Q E h⟩), F.binds (ps := ["table", "twos", "letters", "at"]) (fun _ _ _ _ _ _ us hl => match us, hl with | [_, _, _, _], _ => rfl)⟩
  exact (pss_one (ps_ret (pe_lc (own := [("ahead", 4)]) (g := gName 4) (tt := (tB (tCall (sp_are_twos_mixed a K) [] E0 (tCons (tVar 0) (tCons (tOp (rIxL K) (tVar 1) (tVar 4)) (tCons (tOp (rIxL K) (tVar 1) (tVar 3)) tNil)))))) rfl sc_letters_of_mixed_ahead.nd (pi_range1 rfl T.n_range (pa_cons (pv 3) pa_nil)) (blkOk_by (own := [("ahead", 4)]) (N := ["table", "twos", "letters", "at", "ahead"]) (sc := defScope s_letters_of_mixed_ahead) (by decide +kernel)) (fun _ _ _ _ _ => pg_name (i := 4) sc_letters_of_mixed_ahead.nd rfl (Or.inl rfl)) (fun _ _ _ _ _ => (pts_one (pt_val (pe_callG (ok_are_twos_mixed T) hr (by decide) rfl T.g_are_twos_mixed pass0 (pa_cons (pv 0) (pa_cons (pe_ix ix_list (pv 1) (pv 4) (fun _ _ => rfl)) (pa_cons (pe_ix ix_list (pv 1) (pv 3) (fun _ _ => rfl)) pa_nil))))))) (fun _ _ _ _ _ => (pe_ix ix_list (pv 2) (pv 4) (fun _ _ => rfl))))))
theorem ok_reply_good (T : Txt K mg a) : Ok P w K mg base 7 a.f_reply_good ["table", "letters"] (sp_reply_good a K) := by
  obtain ⟨fd, F⟩ := T.F_reply_good
  refine ⟨F.kp, fd, F.ok sc_reply_good (len_reply_good a K) (fun cdv A outer s H vs Q E hr h => ⟨t_reply_good a K, ?_, pure_reply_good T vs H Q E h⟩), F.binds (ps := ["table", "letters"]) (fun _ _ _ _ _ _ us hl => match us, hl with | [_, _], _ => rfl)⟩
  exact (pss_cons (ps_if (pt_val (pe_callG (ok_wrong_letters T) hr (by decide) rfl T.g_wrong_letters pass0 (pa_cons (pv 1) (pa_cons (pe_fld (pv 0) rfl) pa_nil)))) (pss_one (ps_ret (pe_lst (pa_cons (pe_num rfl T.c_WRONG) pa_nil)))) pss_nil) (pss_one (ps_ret (pe_callG (ok_yes_or_no T) hr (by decide) rfl T.g_yes_or_no pass0 (pa_cons (pe_callG (ok_letters_do T) hr (by decide) rfl T.g_letters_do pass0 (pa_cons (pv 0) (pa_cons (pv 1) pa_nil))) pa_nil)))))
theorem ok_reply_mixed_two (T : Txt K mg a) : Ok P w K mg base 7 a.f_reply_mixed_two ["table", "x", "z", "u", "v"] (sp_reply_mixed_two a K) := by
  obtain ⟨fd, F⟩ := T.F_reply_mixed_two
  refine ⟨F.kp, fd, F.ok sc_reply_mixed_two (len_reply_mixed_two a K) (fun cdv A outer s H vs Q E hr h => ⟨t_reply_mixed_two a K, ?_, pure_reply_mixed_two T vs H Q E h⟩), F.binds (ps := ["table", "x", "z", "u", "v"]) (fun _ _ _ _ _ _ us hl => match us, hl with | [_, _, _, _, _], _ => rfl)⟩
  exact (pss_cons (ps_if (pt_not (pt_val (pe_callB (cr_all rfl) (by rfl) T.n_all (by decide +kernel) (pa_cons (pe_lc (own := [("each", 5)]) (g := gName 5) (tt := tYes) rfl sc_reply_mixed_two.nd (pi_tup (pe_tup (pa_cons (pv 1) (pa_cons (pv 2) (pa_cons (pv 3) (pa_cons (pv 4) pa_nil)))))) (blkOk_by (own := [("each", 5)]) (N := ["table", "x", "z", "u", "v", "each"]) (sc := defScope s_reply_mixed_two) (by decide +kernel)) (fun _ _ _ _ _ => pg_name (i := 5) sc_reply_mixed_two.nd rfl (Or.inl rfl)) (fun _ _ _ _ _ => pts_nil) (fun _ _ _ _ _ => (pe_methG (pv 0) T.cl_Table T.m_Table_has_x (ok_Table_has_x T) hr (by decide) pass0 (pa_cons (pv 5) pa_nil)))) pa_nil)))) (pss_one (ps_ret (pe_lst (pa_cons (pe_num rfl T.c_NO_SUCH) pa_nil)))) pss_nil) (pss_one (ps_ret (pe_callG (ok_yes_or_no T) hr (by decide) rfl T.g_yes_or_no pass0 (pa_cons (pe_callG (ok_are_twos_mixed T) hr (by decide) rfl T.g_are_twos_mixed pass0 (pa_cons (pv 0) (pa_cons (pe_tup (pa_cons (pv 1) (pa_cons (pv 2) pa_nil))) (pa_cons (pe_tup (pa_cons (pv 3) (pa_cons (pv 4) pa_nil))) pa_nil)))) pa_nil)))))
theorem ok_reply_likeliest (T : Txt K mg a) (TB : LamX.TabB base mg a.c_likeliest_row a.P_likeliest_row) : Ok P w K mg base 7 a.f_reply_likeliest ["table", "k"] (sp_reply_likeliest a K) := by
  obtain ⟨fd, F⟩ := T.F_reply_likeliest
  refine ⟨F.kp, fd, F.ok sc_reply_likeliest (len_reply_likeliest a K) (fun cdv A outer s H vs Q E hr h => ⟨t_reply_likeliest a K, ?_, pure_reply_likeliest T vs H Q E h⟩), F.binds (ps := ["table", "k"]) (fun _ _ _ _ _ _ us hl => match us, hl with | [_, _], _ => rfl)⟩
  exact (pss_cons (ps_if (PW.pt (pw_or (pt_cmpR op_lt (pv 1) pe_int (nomark _)) (pw_or1 (pt_cmpR op_gt (pv 1) (pe_fld (pv 0) rfl) (nomark _))))) (pss_one (ps_ret (pe_lst (pa_cons (pe_num rfl T.c_WRONG) pa_nil)))) pss_nil) (pss_cons (ps_set (i := 2) sc_reply_likeliest.nd rfl (Or.inl rfl) (pe_callG (ok_likeliest_row T TB) hr (by decide) rfl T.g_likeliest_row pass0 (pa_cons (pv 0) (pa_cons (pv 1) pa_nil)))) (pss_one (ps_ret (pe_op op_cat (pe_lst (pa_cons (pe_callG (ok_how_often_right T) hr (by decide) rfl T.g_how_often_right pass0 (pa_cons (pv 0) (pa_cons (pv 2) pa_nil))) pa_nil)) (pv 2))))))
theorem ok_answer_mixed (T : Txt K mg a) : Ok P w K mg base 7 a.f_answer_mixed ["table", "number", "numbers"] (sp_answer_mixed a K) := by
  obtain ⟨fd, F⟩ := T.F_answer_mixed
  refine ⟨F.kp, fd, F.ok sc_answer_mixed (len_answer_mixed a K) (fun cdv A outer s H vs Q E hr h => ⟨t_answer_mixed a K, ?_, pure_answer_mixed T vs H Q E h⟩), F.binds (ps := ["table", "number", "numbers"]) (fun _ _ _ _ _ _ us hl => match us, hl with | [_, _, _], _ => rfl)⟩
  exact (pss_cons (ps_if (pt_cmpR op_eq (pv 1) (pe_num rfl T.c_MAY) (nomark _)) (pss_one (ps_ret (pe_callG (ok_reply_may T) hr (by decide) rfl T.g_reply_may pass0 (pa_cons (pv 0) (pa_cons (pe_ix ix_list (pv 2) pe_int (fun _ _ => rfl)) (pa_cons (pe_ix ix_list (pv 2) pe_int (fun _ _ => rfl)) pa_nil)))))) pss_nil) (pss_cons (ps_if (pt_cmpR op_eq (pv 1) (pe_num rfl T.c_MIXED) (nomark _)) (pss_one (ps_ret (pe_callG (ok_reply_mixed T) hr (by decide) rfl T.g_reply_mixed pass0 (pa_cons (pv 0) (pa_cons (pe_ix ix_list (pv 2) pe_int (fun _ _ => rfl)) (pa_cons (pe_ix ix_list (pv 2) pe_int (fun _ _ => rfl)) pa_nil)))))) pss_nil) (pss_one (ps_ret (pe_callG (ok_reply_mixed_with T) hr (by decide) rfl T.g_reply_mixed_with pass0 (pa_cons (pv 0) (pa_cons (pe_ix ix_list (pv 2) pe_int (fun _ _ => rfl)) pa_nil)))))))
theorem ok_best_row (T : Txt K mg a) : Ok P w K mg base 8 a.f_best_row ["table"] (sp_best_row a K) := by
  obtain ⟨fd, F⟩ := T.F_best_row
  refine ⟨F.kp, fd, F.ok sc_best_row (len_best_row a K) (fun cdv A outer s H vs Q E hr h => ⟨t_best_row a K, ?_, pure_best_row T vs H Q E h⟩), F.binds (ps := ["table"]) (fun _ _ _ _ _ _ us hl => match us, hl with | [_], _ => rfl)⟩
  exact (pss_one (ps_ret (pe_minKey (ok_letter_count T) hr (by decide) rfl T.n_min rfl T.g_letter_count (pa_cons (pe_callG (ok_rows_that_do T) hr (by decide) rfl T.g_rows_that_do pass0 (pa_cons (pv 0) pa_nil)) pa_nil))))
theorem ok_ways_with (T : Txt K mg a) : Ok P w K mg base 8 a.f_ways_with ["table", "k"] (sp_ways_with a K) := by
  obtain ⟨fd, F⟩ := T.F_ways_with
  refine ⟨F.kp, fd, F.ok sc_ways_with (len_ways_with a K) (fun cdv A outer s H vs Q E hr h => ⟨t_ways_with a K, ?_, pure_ways_with T vs H Q E h⟩), F.binds (ps := ["table", "k"]) (fun _ _ _ _ _ _ us hl => match us, hl with | [_, _], _ => rfl)⟩
  exact (pss_one (ps_ret (pe_callB call_len_seq (by rfl) T.n_len PySem.boot_len (pa_cons (pe_lc (own := [("row", 2)]) (g := gName 2) (tt := (tTest (tOp rEq (tCall (sp_letter_count a K) [] E0 (tCons (tVar 2) tNil)) (tVar 1)))) rfl sc_ways_with.nd (pi_list (pe_callG (ok_rows_that_do T) hr (by decide) rfl T.g_rows_that_do pass0 (pa_cons (pv 0) pa_nil))) (blkOk_by (own := [("row", 2)]) (N := ["table", "k", "row"]) (sc := defScope s_ways_with) (by decide +kernel)) (fun _ _ _ _ _ => pg_name (i := 2) sc_ways_with.nd rfl (Or.inl rfl)) (fun _ _ _ _ _ => (pts_one (pt_cmpR op_eq (pe_callG (ok_letter_count T) hr (by decide) rfl T.g_letter_count pass0 (pa_cons (pv 2) pa_nil)) (pv 1) (nomark _)))) (fun _ _ _ _ _ => (pv 2))) pa_nil))))
theorem ok_letters_do_for_two (T : Txt K mg a) : Ok P w K mg base 8 a.f_letters_do_for_two ["table", "letters"] (sp_letters_do_for_two a K) := by
  obtain ⟨fd, F⟩ := T.F_letters_do_for_two
  refine ⟨F.kp, fd, F.ok sc_letters_do_for_two (len_letters_do_for_two a K) (fun cdv A outer s H vs Q E hr h => ⟨t_letters_do_for_two a K, ?_, pure_letters_do_for_two T vs H Q E h⟩), F.binds (ps := ["table", "letters"]) (fun _ _ _ _ _ _ us hl => match us, hl with | [_, _], _ => rfl)⟩
  exact (pss_cons (ps_set (i := 2) sc_letters_do_for_two.nd rfl (Or.inl rfl) (pe_callG (ok_all_twos T) hr (by decide) rfl T.g_all_twos pass0 (pa_cons (pe_fld (pv 0) rfl) pa_nil))) (pss_cons (ps_for PassesOwn.never rfl (pi_range1 rfl T.n_range (pa_cons (pe_callB call_len_seq (by rfl) T.n_len PySem.boot_len (pa_cons (pv 2) pa_nil)) pa_nil)) (pg_name (i := 3) sc_letters_do_for_two.nd rfl (Or.inl rfl)) (pss_one (ps_if (pt_cmpR op_in_seq (pe_ix ix_list (pv 1) (pv 3) (fun _ _ => rfl)) (pe_callG (ok_letters_of_mixed_ahead T) hr (by decide) rfl T.g_letters_of_mixed_ahead pass0 (pa_cons (pv 0) (pa_cons (pv 2) (pa_cons (pv 1) (pa_cons (pv 3) pa_nil))))) rfl) (pss_one (ps_ret pe_bl)) pss_nil))) (pss_one (ps_ret pe_bl))))
theorem ok_letters_two_by_two (T : Txt K mg a) : Ok P w K mg base 8 a.f_letters_two_by_two ["table"] (sp_letters_two_by_two a K) := by
  obtain ⟨fd, F⟩ := T.F_letters_two_by_two
  refine ⟨F.kp, fd, F.ok sc_letters_two_by_two (len_letters_two_by_two a K) (fun cdv A outer s H vs Q E hr h => ⟨t_letters_two_by_two a K, ?_, pure_letters_two_by_two T vs H Q E h⟩), F.binds (ps := ["table"]) (fun _ _ _ _ _ _ us hl => match us, hl with | [_], _ => rfl)⟩
  exact (pss_cons (ps_set (i := 1) sc_letters_two_by_two.nd rfl (Or.inl rfl) (pe_callG (ok_all_twos T) hr (by decide) rfl T.g_all_twos pass0 (pa_cons (pe_fld (pv 0) rfl) pa_nil))) (pss_cons (ps_set (i := 2) sc_letters_two_by_two.nd rfl (Or.inl rfl) (pe_lst pa_nil)) (pss_cons (ps_for PassesOwn.never rfl (pi_range1 rfl T.n_range (pa_cons (pe_callB call_len_seq (by rfl) T.n_len PySem.boot_len (pa_cons (pv 1) pa_nil)) pa_nil)) (pg_name (i := 3) sc_letters_two_by_two.nd rfl (Or.inl rfl)) (pss_one (ps_expr (pe_bm PySem.F.plainAttrs_list PySem.F.slot_list_append PySem.F.type_list_append mt_append (pv 2) (pa_cons (pe_callG (ok_least_not_in T) hr (by decide) rfl T.g_least_not_in pass0 (pa_cons (pe_callG (ok_letters_of_mixed_ahead T) hr (by decide) rfl T.g_letters_of_mixed_ahead pass0 (pa_cons (pv 0) (pa_cons (pv 1) (pa_cons (pv 2) (pa_cons (pv 3) pa_nil))))) pa_nil)) pa_nil))))) (pss_one (ps_ret (pv 2))))))
theorem ok_reply_why (T : Txt K mg a) : Ok P w K mg base 8 a.f_reply_why ["table"] (sp_reply_why a K) := by
  obtain ⟨fd, F⟩ := T.F_reply_why
  refine ⟨F.kp, fd, F.ok sc_reply_why (len_reply_why a K) (fun cdv A outer s H vs Q E hr h => ⟨t_reply_why a K, ?_, pure_reply_why T vs H Q E h⟩), F.binds (ps := ["table"]) (fun _ _ _ _ _ _ us hl => match us, hl with | [_], _ => rfl)⟩
  exact (pss_one (ps_ret (pe_callG (ok_counted T) hr (by decide) rfl T.g_counted pass0 (pa_cons (pe_callG (ok_greatest_all_mixed T) hr (by decide) rfl T.g_greatest_all_mixed pass0 (pa_cons (pv 0) pa_nil)) pa_nil))))
theorem ok_reply_apart (T : Txt K mg a) : Ok P w K mg base 8 a.f_reply_apart ["table"] (sp_reply_apart a K) := by
  obtain ⟨fd, F⟩ := T.F_reply_apart
  refine ⟨F.kp, fd, F.ok sc_reply_apart (len_reply_apart a K) (fun cdv A outer s H vs Q E hr h => ⟨t_reply_apart a K, ?_, pure_reply_apart T vs H Q E h⟩), F.binds (ps := ["table"]) (fun _ _ _ _ _ _ us hl => match us, hl with | [_], _ => rfl)⟩
  exact (pss_one (ps_ret (pe_callG (ok_counted T) hr (by decide) rfl T.g_counted pass0 (pa_cons (pe_callG (ok_greatest_none_mixed T) hr (by decide) rfl T.g_greatest_none_mixed pass0 (pa_cons (pv 0) pa_nil)) pa_nil))))
theorem ok_answer_right (T : Txt K mg a) (TB : LamX.TabB base mg a.c_likeliest_row a.P_likeliest_row) : Ok P w K mg base 8 a.f_answer_right ["table", "number", "numbers", "row"] (sp_answer_right a K) := by
  obtain ⟨fd, F⟩ := T.F_answer_right
  refine ⟨F.kp, fd, F.ok sc_answer_right (len_answer_right a K) (fun cdv A outer s H vs Q E hr h => ⟨t_answer_right a K, ?_, pure_answer_right T vs H Q E h⟩), F.binds (ps := ["table", "number", "numbers", "row"]) (fun _ _ _ _ _ _ us hl => match us, hl with | [_, _, _, _], _ => rfl)⟩
  exact (pss_cons (ps_if (pt_cmpR op_eq (pv 1) (pe_num rfl T.c_OFTEN) (nomark _)) (pss_one (ps_ret (pe_callG (ok_reply_often T) hr (by decide) rfl T.g_reply_often pass0 (pa_cons (pv 0) (pa_cons (pv 3) pa_nil))))) pss_nil) (pss_one (ps_ret (pe_callG (ok_reply_likeliest T TB) hr (by decide) rfl T.g_reply_likeliest pass0 (pa_cons (pv 0) (pa_cons (pe_ix ix_list (pv 2) pe_int (fun _ _ => rfl)) pa_nil))))))
theorem ok_reply_fewest (T : Txt K mg a) : Ok P w K mg base 9 a.f_reply_fewest ["table"] (sp_reply_fewest a K) := by
  obtain ⟨fd, F⟩ := T.F_reply_fewest
  refine ⟨F.kp, fd, F.ok sc_reply_fewest (len_reply_fewest a K) (fun cdv A outer s H vs Q E hr h => ⟨t_reply_fewest a K, ?_, pure_reply_fewest T vs H Q E h⟩), F.binds (ps := ["table"]) (fun _ _ _ _ _ _ us hl => match us, hl with | [_], _ => rfl)⟩
  exact (pss_one (ps_ret (pe_lst (pa_cons (pe_callG (ok_letter_count T) hr (by decide) rfl T.g_letter_count pass0 (pa_cons (pe_callG (ok_best_row T) hr (by decide) rfl T.g_best_row pass0 (pa_cons (pv 0) pa_nil)) pa_nil)) pa_nil))))
theorem ok_reply_best (T : Txt K mg a) : Ok P w K mg base 9 a.f_reply_best ["table"] (sp_reply_best a K) := by
  obtain ⟨fd, F⟩ := T.F_reply_best
  refine ⟨F.kp, fd, F.ok sc_reply_best (len_reply_best a K) (fun cdv A outer s H vs Q E hr h => ⟨t_reply_best a K, ?_, pure_reply_best T vs H Q E h⟩), F.binds (ps := ["table"]) (fun _ _ _ _ _ _ us hl => match us, hl with | [_], _ => rfl)⟩
  exact (pss_cons (ps_set (i := 1) sc_reply_best.nd rfl (Or.inl rfl) (pe_callG (ok_best_row T) hr (by decide) rfl T.g_best_row pass0 (pa_cons (pv 0) pa_nil))) (pss_one (ps_ret (pe_op op_cat (pe_lst (pa_cons (pe_callG (ok_letter_count T) hr (by decide) rfl T.g_letter_count pass0 (pa_cons (pv 1) pa_nil)) pa_nil)) (pv 1)))))
theorem ok_reply_ways (T : Txt K mg a) : Ok P w K mg base 9 a.f_reply_ways ["table", "k"] (sp_reply_ways a K) := by
  obtain ⟨fd, F⟩ := T.F_reply_ways
  refine ⟨F.kp, fd, F.ok sc_reply_ways (len_reply_ways a K) (fun cdv A outer s H vs Q E hr h => ⟨t_reply_ways a K, ?_, pure_reply_ways T vs H Q E h⟩), F.binds (ps := ["table", "k"]) (fun _ _ _ _ _ _ us hl => match us, hl with | [_, _], _ => rfl)⟩
  exact (pss_one (ps_ret (pe_lst (pa_cons (pe_callG (ok_ways_with T) hr (by decide) rfl T.g_ways_with pass0 (pa_cons (pv 0) (pa_cons (pv 1) pa_nil))) pa_nil))))
theorem ok_reply_good_two (T : Txt K mg a) : Ok P w K mg base 9 a.f_reply_good_two ["table", "letters"] (sp_reply_good_two a K) := by
  obtain ⟨fd, F⟩ := T.F_reply_good_two
  refine ⟨F.kp, fd, F.ok sc_reply_good_two (len_reply_good_two a K) (fun cdv A outer s H vs Q E hr h => ⟨t_reply_good_two a K, ?_, pure_reply_good_two T vs H Q E h⟩), F.binds (ps := ["table", "letters"]) (fun _ _ _ _ _ _ us hl => match us, hl with | [_, _], _ => rfl)⟩
  exact (pss_cons (ps_if (pt_val (pe_callG (ok_wrong_letters T) hr (by decide) rfl T.g_wrong_letters pass0 (pa_cons (pv 1) (pa_cons (pe_op op_mul (pe_fld (pv 0) rfl) (pe_fld (pv 0) rfl)) pa_nil)))) (pss_one (ps_ret (pe_lst (pa_cons (pe_num rfl T.c_WRONG) pa_nil)))) pss_nil) (pss_one (ps_ret (pe_callG (ok_yes_or_no T) hr (by decide) rfl T.g_yes_or_no pass0 (pa_cons (pe_callG (ok_letters_do_for_two T) hr (by decide) rfl T.g_letters_do_for_two pass0 (pa_cons (pv 0) (pa_cons (pv 1) pa_nil))) pa_nil)))))
theorem ok_reply_greedy_two (T : Txt K mg a) : Ok P w K mg base 9 a.f_reply_greedy_two ["table"] (sp_reply_greedy_two a K) := by
  obtain ⟨fd, F⟩ := T.F_reply_greedy_two
  refine ⟨F.kp, fd, F.ok sc_reply_greedy_two (len_reply_greedy_two a K) (fun cdv A outer s H vs Q E hr h => ⟨t_reply_greedy_two a K, ?_, pure_reply_greedy_two T vs H Q E h⟩), F.binds (ps := ["table"]) (fun _ _ _ _ _ _ us hl => match us, hl with | [_], _ => rfl)⟩
  exact (pss_cons (ps_set (i := 1) sc_reply_greedy_two.nd rfl (Or.inl rfl) (pe_callG (ok_letters_two_by_two T) hr (by decide) rfl T.g_letters_two_by_two pass0 (pa_cons (pv 0) pa_nil))) (pss_one (ps_ret (pe_op op_cat (pe_lst (pa_cons (pe_callG (ok_letter_count T) hr (by decide) rfl T.g_letter_count pass0 (pa_cons (pv 1) pa_nil)) pa_nil)) (pv 1)))))
theorem ok_answer_sets (T : Txt K mg a) : Ok P w K mg base 9 a.f_answer_sets ["table", "number", "numbers", "row"] (sp_answer_sets a K) := by
  obtain ⟨fd, F⟩ := T.F_answer_sets
  refine ⟨F.kp, fd, F.ok sc_answer_sets (len_answer_sets a K) (fun cdv A outer s H vs Q E hr h => ⟨t_answer_sets a K, ?_, pure_answer_sets T vs H Q E h⟩), F.binds (ps := ["table", "number", "numbers", "row"]) (fun _ _ _ _ _ _ us hl => match us, hl with | [_, _, _, _], _ => rfl)⟩
  exact (pss_cons (ps_if (pt_cmpR op_eq (pv 1) (pe_num rfl T.c_CROWD) (nomark _)) (pss_one (ps_ret (pe_callG (ok_reply_crowd T) hr (by decide) rfl T.g_reply_crowd pass0 (pa_cons (pv 0) pa_nil)))) pss_nil) (pss_cons (ps_if (pt_cmpR op_eq (pv 1) (pe_num rfl T.c_WHY) (nomark _)) (pss_one (ps_ret (pe_callG (ok_reply_why T) hr (by decide) rfl T.g_reply_why pass0 (pa_cons (pv 0) pa_nil)))) pss_nil) (pss_cons (ps_if (pt_cmpR op_eq (pv 1) (pe_num rfl T.c_APART) (nomark _)) (pss_one (ps_ret (pe_callG (ok_reply_apart T) hr (by decide) rfl T.g_reply_apart pass0 (pa_cons (pv 0) pa_nil)))) pss_nil) (pss_cons (ps_if (pt_cmpR op_eq (pv 1) (pe_num rfl T.c_TOLD) (nomark _)) (pss_one (ps_ret (pe_callG (ok_reply_told T) hr (by decide) rfl T.g_reply_told pass0 (pa_cons (pv 0) (pa_cons (pe_ix ix_list (pv 2) pe_int (fun _ _ => rfl)) (pa_cons (pe_ix ix_list (pv 2) pe_int (fun _ _ => rfl)) (pa_cons (pv 3) pa_nil))))))) pss_nil) (pss_one (ps_ret (pe_callG (ok_reply_sure T) hr (by decide) rfl T.g_reply_sure pass0 (pa_cons (pv 0) (pa_cons (pe_ix ix_list (pv 2) pe_int (fun _ _ => rfl)) pa_nil)))))))))
theorem ok_answer_letters (T : Txt K mg a) : Ok P w K mg base 10 a.f_answer_letters ["table", "number", "numbers", "row"] (sp_answer_letters a K) := by
  obtain ⟨fd, F⟩ := T.F_answer_letters
  refine ⟨F.kp, fd, F.ok sc_answer_letters (len_answer_letters a K) (fun cdv A outer s H vs Q E hr h => ⟨t_answer_letters a K, ?_, pure_answer_letters T vs H Q E h⟩), F.binds (ps := ["table", "number", "numbers", "row"]) (fun _ _ _ _ _ _ us hl => match us, hl with | [_, _, _, _], _ => rfl)⟩
  exact (pss_cons (ps_if (pt_cmpR op_eq (pv 1) (pe_num rfl T.c_GOOD) (nomark _)) (pss_one (ps_ret (pe_callG (ok_reply_good T) hr (by decide) rfl T.g_reply_good pass0 (pa_cons (pv 0) (pa_cons (pv 3) pa_nil))))) pss_nil) (pss_cons (ps_if (pt_cmpR op_eq (pv 1) (pe_num rfl T.c_CLASH) (nomark _)) (pss_one (ps_ret (pe_callG (ok_reply_clash T) hr (by decide) rfl T.g_reply_clash pass0 (pa_cons (pv 0) (pa_cons (pv 3) pa_nil))))) pss_nil) (pss_cons (ps_if (pt_cmpR op_eq (pv 1) (pe_num rfl T.c_FEWEST) (nomark _)) (pss_one (ps_ret (pe_callG (ok_reply_fewest T) hr (by decide) rfl T.g_reply_fewest pass0 (pa_cons (pv 0) pa_nil)))) pss_nil) (pss_cons (ps_if (pt_cmpR op_eq (pv 1) (pe_num rfl T.c_BEST) (nomark _)) (pss_one (ps_ret (pe_callG (ok_reply_best T) hr (by decide) rfl T.g_reply_best pass0 (pa_cons (pv 0) pa_nil)))) pss_nil) (pss_one (ps_ret (pe_callG (ok_reply_ways T) hr (by decide) rfl T.g_reply_ways pass0 (pa_cons (pv 0) (pa_cons (pe_ix ix_list (pv 2) pe_int (fun _ _ => rfl)) pa_nil)))))))))
theorem ok_answer_twos (T : Txt K mg a) : Ok P w K mg base 10 a.f_answer_twos ["table", "number", "numbers", "row"] (sp_answer_twos a K) := by
  obtain ⟨fd, F⟩ := T.F_answer_twos
  refine ⟨F.kp, fd, F.ok sc_answer_twos (len_answer_twos a K) (fun cdv A outer s H vs Q E hr h => ⟨t_answer_twos a K, ?_, pure_answer_twos T vs H Q E h⟩), F.binds (ps := ["table", "number", "numbers", "row"]) (fun _ _ _ _ _ _ us hl => match us, hl with | [_, _, _, _], _ => rfl)⟩
  exact (pss_cons (ps_if (pt_cmpR op_eq (pv 1) (pe_num rfl T.c_GOOD_TWO) (nomark _)) (pss_one (ps_ret (pe_callG (ok_reply_good_two T) hr (by decide) rfl T.g_reply_good_two pass0 (pa_cons (pv 0) (pa_cons (pv 3) pa_nil))))) pss_nil) (pss_cons (ps_if (pt_cmpR op_eq (pv 1) (pe_num rfl T.c_GREEDY_TWO) (nomark _)) (pss_one (ps_ret (pe_callG (ok_reply_greedy_two T) hr (by decide) rfl T.g_reply_greedy_two pass0 (pa_cons (pv 0) pa_nil)))) pss_nil) (pss_one (ps_ret (pe_callG (ok_reply_mixed_two T) hr (by decide) rfl T.g_reply_mixed_two pass0 (pa_cons (pv 0) (pa_cons (pe_ix ix_list (pv 2) pe_int (fun _ _ => rfl)) (pa_cons (pe_ix ix_list (pv 2) pe_int (fun _ _ => rfl)) (pa_cons (pe_ix ix_list (pv 2) pe_int (fun _ _ => rfl)) (pa_cons (pe_ix ix_list (pv 2) pe_int (fun _ _ => rfl)) pa_nil))))))))))
theorem ok_answer_begun (T : Txt K mg a) (TB : LamX.TabB base mg a.c_likeliest_row a.P_likeliest_row) : Ok P w K mg base 11 a.f_answer_begun ["table", "number", "numbers", "row"] (sp_answer_begun a K) := by
  obtain ⟨fd, F⟩ := T.F_answer_begun
  refine ⟨F.kp, fd, F.ok sc_answer_begun (len_answer_begun a K) (fun cdv A outer s H vs Q E hr h => ⟨t_answer_begun a K, ?_, pure_answer_begun T vs H Q E h⟩), F.binds (ps := ["table", "number", "numbers", "row"]) (fun _ _ _ _ _ _ us hl => match us, hl with | [_, _, _, _], _ => rfl)⟩
  exact (pss_cons (ps_if (pt_cmpR op_le (pv 1) (pe_num rfl T.c_FORGET) (nomark _)) (pss_one (ps_ret (pe_callG (ok_answer_change T) hr (by decide) rfl T.g_answer_change pass0 (pa_cons (pv 0) (pa_cons (pv 1) (pa_cons (pv 2) (pa_cons (pv 3) pa_nil))))))) pss_nil) (pss_cons (ps_if (pt_cmpR op_le (pv 1) (pe_num rfl T.c_MIXED_WITH) (nomark _)) (pss_one (ps_ret (pe_callG (ok_answer_mixed T) hr (by decide) rfl T.g_answer_mixed pass0 (pa_cons (pv 0) (pa_cons (pv 1) (pa_cons (pv 2) pa_nil)))))) pss_nil) (pss_cons (ps_if (pt_cmpR op_le (pv 1) (pe_num rfl T.c_WAYS) (nomark _)) (pss_one (ps_ret (pe_callG (ok_answer_letters T) hr (by decide) rfl T.g_answer_letters pass0 (pa_cons (pv 0) (pa_cons (pv 1) (pa_cons (pv 2) (pa_cons (pv 3) pa_nil))))))) pss_nil) (pss_cons (ps_if (pt_cmpR op_le (pv 1) (pe_num rfl T.c_SURE) (nomark _)) (pss_one (ps_ret (pe_callG (ok_answer_sets T) hr (by decide) rfl T.g_answer_sets pass0 (pa_cons (pv 0) (pa_cons (pv 1) (pa_cons (pv 2) (pa_cons (pv 3) pa_nil))))))) pss_nil) (pss_cons (ps_if (pt_cmpR op_le (pv 1) (pe_num rfl T.c_MIXED_TWO) (nomark _)) (pss_one (ps_ret (pe_callG (ok_answer_twos T) hr (by decide) rfl T.g_answer_twos pass0 (pa_cons (pv 0) (pa_cons (pv 1) (pa_cons (pv 2) (pa_cons (pv 3) pa_nil))))))) pss_nil) (pss_cons (ps_if (pt_cmpR op_le (pv 1) (pe_num rfl T.c_LIKELIEST) (nomark _)) (pss_one (ps_ret (pe_callG (ok_answer_right T TB) hr (by decide) rfl T.g_answer_right pass0 (pa_cons (pv 0) (pa_cons (pv 1) (pa_cons (pv 2) (pa_cons (pv 3) pa_nil))))))) pss_nil) (pss_one (ps_ret (pe_callG (ok_reply_all_told T) hr (by decide) rfl T.g_reply_all_told pass0 (pa_cons (pv 0) pa_nil))))))))))
theorem ok_Line_answer (T : Txt K mg a) (TB : LamX.TabB base mg a.c_likeliest_row a.P_likeliest_row) : Ok P w K mg base 12 a.f_Line_answer ["self", "call"] (sp_Line_answer a K) := by
  obtain ⟨fd, F⟩ := T.F_Line_answer
  refine ⟨F.kp, fd, F.ok sc_Line_answer (len_Line_answer a K) (fun cdv A outer s H vs Q E hr h => ⟨t_Line_answer a K, ?_, pure_Line_answer T vs H Q E h⟩), F.binds (ps := ["self", "call"]) (fun _ _ _ _ _ _ us hl => match us, hl with | [_, _], _ => rfl)⟩
  exact (pss_cons (ps_if (pt_cmpR op_eq (pe_fld (pv 1) rfl) (pe_num rfl T.c_BEGIN) (nomark _)) (pss_one (ps_ret (pe_methG (pv 0) T.cl_Line T.m_Line_begin (ok_Line_begin T) hr (by decide) pass0 (pa_cons (pe_ix ix_list (pe_fld (pv 1) rfl) pe_int (fun _ _ => rfl)) (pa_cons (pe_ix ix_list (pe_fld (pv 1) rfl) pe_int (fun _ _ => rfl)) pa_nil))))) pss_nil) (pss_cons (ps_if (pt_cmpR op_isN (pe_fld (pv 0) rfl) pe_non (nomark _)) (pss_one (ps_ret (pe_lst (pa_cons (pe_num rfl T.c_NOT_BEGUN) pa_nil)))) pss_nil) (pss_one (ps_ret (pe_callG (ok_answer_begun T TB) hr (by decide) rfl T.g_answer_begun pass0 (pa_cons (pe_fld (pv 0) rfl) (pa_cons (pe_fld (pv 1) rfl) (pa_cons (pe_fld (pv 1) rfl) (pa_cons (pe_fld (pv 1) rfl) pa_nil)))))))))
theorem ok_answers (T : Txt K mg a) (TB : LamX.TabB base mg a.c_likeliest_row a.P_likeliest_row) : Ok P w K mg base 13 a.f_answers ["calls"] (sp_answers a K) := by
  obtain ⟨fd, F⟩ := T.F_answers
  refine ⟨F.kp, fd, F.ok sc_answers (len_answers a K) (fun cdv A outer s H vs Q E hr h => ⟨t_answers a K, ?_, pure_answers T vs H Q E h⟩), F.binds (ps := ["calls"]) (fun _ _ _ _ _ _ us hl => match us, hl with | [_], _ => rfl)⟩
  exact (pss_cons (ps_set (i := 1) sc_answers.nd rfl (Or.inl rfl) (pe_makeG0 T.mk_Line (ok_Line_init T) hr (by decide) rfl T.gC_Line pass0)) (pss_cons (ps_set (i := 2) sc_answers.nd rfl (Or.inl rfl) (pe_lst pa_nil)) (pss_cons (ps_for PassesOwn.never rfl (pi_list (pe_callG (ok_read_calls T) hr (by decide) rfl T.g_read_calls pass0 (pa_cons (pv 0) pa_nil))) (pg_name (i := 3) sc_answers.nd rfl (Or.inl rfl)) (pss_cons (ps_set (i := 4) sc_answers.nd rfl (Or.inl rfl) (pe_methG (pv 1) T.cl_Line T.m_Line_answer (ok_Line_answer T TB) hr (by decide) pass0 (pa_cons (pv 3) pa_nil))) (pss_cons (ps_expr (pe_bm PySem.F.plainAttrs_list PySem.F.slot_list_append PySem.F.type_list_append mt_append (pv 2) (pa_cons (pe_callB call_len_seq (by rfl) T.n_len PySem.boot_len (pa_cons (pv 4) pa_nil)) pa_nil))) (pss_one (ps_expr (pe_bm PySem.F.plainAttrs_list PySem.F.slot_list_extend PySem.F.type_list_extend mt_extend (pv 2) (pa_cons (pv 4) pa_nil))))))) (pss_one (ps_ret (pv 2))))))
theorem okF_answers {fd : FuncData} (T : Txt K mg a) (TB : LamX.TabB base mg a.c_likeliest_row a.P_likeliest_row) (F : Fun K "answers" "answers" s_answers a.f_answers fd) : FnOk P w K mg base CX0 13 a.f_answers fd ["calls"] (sp_answers a K) := by
  refine F.ok sc_answers (len_answers a K) (fun cdv A outer s H vs Q E hr h => ⟨t_answers a K, ?_, pure_answers T vs H Q E h⟩)
  exact (pss_cons (ps_set (i := 1) sc_answers.nd rfl (Or.inl rfl) (pe_makeG0 T.mk_Line (ok_Line_init T) hr (by decide) rfl T.gC_Line pass0)) (pss_cons (ps_set (i := 2) sc_answers.nd rfl (Or.inl rfl) (pe_lst pa_nil)) (pss_cons (ps_for PassesOwn.never rfl (pi_list (pe_callG (ok_read_calls T) hr (by decide) rfl T.g_read_calls pass0 (pa_cons (pv 0) pa_nil))) (pg_name (i := 3) sc_answers.nd rfl (Or.inl rfl)) (pss_cons (ps_set (i := 4) sc_answers.nd rfl (Or.inl rfl) (pe_methG (pv 1) T.cl_Line T.m_Line_answer (ok_Line_answer T TB) hr (by decide) pass0 (pa_cons (pv 3) pa_nil))) (pss_cons (ps_expr (pe_bm PySem.F.plainAttrs_list PySem.F.slot_list_append PySem.F.type_list_append mt_append (pv 2) (pa_cons (pe_callB call_len_seq (by rfl) T.n_len PySem.boot_len (pa_cons (pv 4) pa_nil)) pa_nil))) (pss_one (ps_expr (pe_bm PySem.F.plainAttrs_list PySem.F.slot_list_extend PySem.F.type_list_extend mt_extend (pv 2) (pa_cons (pv 4) pa_nil))))))) (pss_one (ps_ret (pv 2))))))
end
end LS

namespace LS
open PySem PySem.Spec PyProof.Rows L2 Evl

theorem sqt_wr {K : PySem.W.Frag} {H : Hp} {o : Addr} {its : Array Value} {n : Nat} {sl : Array (Option Value)} {xs : List V} (l : K.lookup o = some ⟨.type "tuple", none, .seq its n, sl⟩) (r : Vals xs its.toList) (hz : its.size ≤ 1000) : SqT K H o xs := Or.inr ⟨_, its, n, l, rfl, rfl, Nat.le_trans hz (by decide), r⟩
theorem is_SHAPES_mk {K : PySem.W.Frag} {o r0 r1 r2 r3 r4 r5 r6 r7 r8 r9 r10 r11 r12 r13 r14 r15 r16 r17 r18 r19 r20 r21 r22 : Addr} {n : Nat} {sl : Array (Option Value)} (l : K.lookup o = some ⟨.type "tuple", none, .seq #[.ref r0, .ref r1, .ref r2, .ref r3, .ref r4, .ref r5, .ref r6, .ref r7, .ref r8, .ref r9, .ref r10, .ref r11, .ref r12, .ref r13, .ref r14, .ref r15, .ref r16, .ref r17, .ref r18, .ref r19, .ref r20, .ref r21, .ref r22] n, sl⟩) {tk0 : Tok} {n0 : Nat} {sl0 : Array (Option Value)} (l0 : K.lookup r0 = some ⟨.type "tuple", none, .seq #[.int 2 tk0, .bool false] n0, sl0⟩) {tk1 : Tok} {n1 : Nat} {sl1 : Array (Option Value)} (l1 : K.lookup r1 = some ⟨.type "tuple", none, .seq #[.int 3 tk1, .bool false] n1, sl1⟩) {tk2 : Tok} {n2 : Nat} {sl2 : Array (Option Value)} (l2 : K.lookup r2 = some ⟨.type "tuple", none, .seq #[.int 1 tk2, .bool true] n2, sl2⟩) {tk3 : Tok} {n3 : Nat} {sl3 : Array (Option Value)} (l3 : K.lookup r3 = some ⟨.type "tuple", none, .seq #[.int 1 tk3, .bool false] n3, sl3⟩) {tk4 : Tok} {n4 : Nat} {sl4 : Array (Option Value)} (l4 : K.lookup r4 = some ⟨.type "tuple", none, .seq #[.int 2 tk4, .bool false] n4, sl4⟩) {tk5 : Tok} {n5 : Nat} {sl5 : Array (Option Value)} (l5 : K.lookup r5 = some ⟨.type "tuple", none, .seq #[.int 2 tk5, .bool false] n5, sl5⟩) {tk6 : Tok} {n6 : Nat} {sl6 : Array (Option Value)} (l6 : K.lookup r6 = some ⟨.type "tuple", none, .seq #[.int 1 tk6, .bool false] n6, sl6⟩) {tk7 : Tok} {n7 : Nat} {sl7 : Array (Option Value)} (l7 : K.lookup r7 = some ⟨.type "tuple", none, .seq #[.int 0 tk7, .bool true] n7, sl7⟩) {tk8 : Tok} {n8 : Nat} {sl8 : Array (Option Value)} (l8 : K.lookup r8 = some ⟨.type "tuple", none, .seq #[.int 0 tk8, .bool true] n8, sl8⟩) {tk9 : Tok} {n9 : Nat} {sl9 : Array (Option Value)} (l9 : K.lookup r9 = some ⟨.type "tuple", none, .seq #[.int 0 tk9, .bool false] n9, sl9⟩) {tk10 : Tok} {n10 : Nat} {sl10 : Array (Option Value)} (l10 : K.lookup r10 = some ⟨.type "tuple", none, .seq #[.int 0 tk10, .bool false] n10, sl10⟩) {tk11 : Tok} {n11 : Nat} {sl11 : Array (Option Value)} (l11 : K.lookup r11 = some ⟨.type "tuple", none, .seq #[.int 1 tk11, .bool false] n11, sl11⟩) {tk12 : Tok} {n12 : Nat} {sl12 : Array (Option Value)} (l12 : K.lookup r12 = some ⟨.type "tuple", none, .seq #[.int 0 tk12, .bool false] n12, sl12⟩) {tk13 : Tok} {n13 : Nat} {sl13 : Array (Option Value)} (l13 : K.lookup r13 = some ⟨.type "tuple", none, .seq #[.int 0 tk13, .bool false] n13, sl13⟩) {tk14 : Tok} {n14 : Nat} {sl14 : Array (Option Value)} (l14 : K.lookup r14 = some ⟨.type "tuple", none, .seq #[.int 0 tk14, .bool false] n14, sl14⟩) {tk15 : Tok} {n15 : Nat} {sl15 : Array (Option Value)} (l15 : K.lookup r15 = some ⟨.type "tuple", none, .seq #[.int 2 tk15, .bool true] n15, sl15⟩) {tk16 : Tok} {n16 : Nat} {sl16 : Array (Option Value)} (l16 : K.lookup r16 = some ⟨.type "tuple", none, .seq #[.int 1 tk16, .bool false] n16, sl16⟩) {tk17 : Tok} {n17 : Nat} {sl17 : Array (Option Value)} (l17 : K.lookup r17 = some ⟨.type "tuple", none, .seq #[.int 0 tk17, .bool true] n17, sl17⟩) {tk18 : Tok} {n18 : Nat} {sl18 : Array (Option Value)} (l18 : K.lookup r18 = some ⟨.type "tuple", none, .seq #[.int 0 tk18, .bool false] n18, sl18⟩) {tk19 : Tok} {n19 : Nat} {sl19 : Array (Option Value)} (l19 : K.lookup r19 = some ⟨.type "tuple", none, .seq #[.int 4 tk19, .bool false] n19, sl19⟩) {tk20 : Tok} {n20 : Nat} {sl20 : Array (Option Value)} (l20 : K.lookup r20 = some ⟨.type "tuple", none, .seq #[.int 0 tk20, .bool true] n20, sl20⟩) {tk21 : Tok} {n21 : Nat} {sl21 : Array (Option Value)} (l21 : K.lookup r21 = some ⟨.type "tuple", none, .seq #[.int 1 tk21, .bool false] n21, sl21⟩) {tk22 : Tok} {n22 : Nat} {sl22 : Array (Option Value)} (l22 : K.lookup r22 = some ⟨.type "tuple", none, .seq #[.int 0 tk22, .bool false] n22, sl22⟩) : Is_SHAPES K o := by
  refine ⟨[r0, r1, r2, r3, r4, r5, r6, r7, r8, r9, r10, r11, r12, r13, r14, r15, r16, r17, r18, r19, r20, r21, r22], sqt_wr l (.cons rfl (.cons rfl (.cons rfl (.cons rfl (.cons rfl (.cons rfl (.cons rfl (.cons rfl (.cons rfl (.cons rfl (.cons rfl (.cons rfl (.cons rfl (.cons rfl (.cons rfl (.cons rfl (.cons rfl (.cons rfl (.cons rfl (.cons rfl (.cons rfl (.cons rfl (.cons rfl (.nil)))))))))))))))))))))))) (Nat.le_of_ble_eq_true rfl), rfl, fun i h h2 => ?_⟩
  match i, h with
  | 0, _ => exact sqt_wr l0 (.cons ⟨_, rfl⟩ (.cons rfl .nil)) (Nat.le_of_ble_eq_true rfl)
  | 1, _ => exact sqt_wr l1 (.cons ⟨_, rfl⟩ (.cons rfl .nil)) (Nat.le_of_ble_eq_true rfl)
  | 2, _ => exact sqt_wr l2 (.cons ⟨_, rfl⟩ (.cons rfl .nil)) (Nat.le_of_ble_eq_true rfl)
  | 3, _ => exact sqt_wr l3 (.cons ⟨_, rfl⟩ (.cons rfl .nil)) (Nat.le_of_ble_eq_true rfl)
  | 4, _ => exact sqt_wr l4 (.cons ⟨_, rfl⟩ (.cons rfl .nil)) (Nat.le_of_ble_eq_true rfl)
  | 5, _ => exact sqt_wr l5 (.cons ⟨_, rfl⟩ (.cons rfl .nil)) (Nat.le_of_ble_eq_true rfl)
  | 6, _ => exact sqt_wr l6 (.cons ⟨_, rfl⟩ (.cons rfl .nil)) (Nat.le_of_ble_eq_true rfl)
  | 7, _ => exact sqt_wr l7 (.cons ⟨_, rfl⟩ (.cons rfl .nil)) (Nat.le_of_ble_eq_true rfl)
  | 8, _ => exact sqt_wr l8 (.cons ⟨_, rfl⟩ (.cons rfl .nil)) (Nat.le_of_ble_eq_true rfl)
  | 9, _ => exact sqt_wr l9 (.cons ⟨_, rfl⟩ (.cons rfl .nil)) (Nat.le_of_ble_eq_true rfl)
  | 10, _ => exact sqt_wr l10 (.cons ⟨_, rfl⟩ (.cons rfl .nil)) (Nat.le_of_ble_eq_true rfl)
  | 11, _ => exact sqt_wr l11 (.cons ⟨_, rfl⟩ (.cons rfl .nil)) (Nat.le_of_ble_eq_true rfl)
  | 12, _ => exact sqt_wr l12 (.cons ⟨_, rfl⟩ (.cons rfl .nil)) (Nat.le_of_ble_eq_true rfl)
  | 13, _ => exact sqt_wr l13 (.cons ⟨_, rfl⟩ (.cons rfl .nil)) (Nat.le_of_ble_eq_true rfl)
  | 14, _ => exact sqt_wr l14 (.cons ⟨_, rfl⟩ (.cons rfl .nil)) (Nat.le_of_ble_eq_true rfl)
  | 15, _ => exact sqt_wr l15 (.cons ⟨_, rfl⟩ (.cons rfl .nil)) (Nat.le_of_ble_eq_true rfl)
  | 16, _ => exact sqt_wr l16 (.cons ⟨_, rfl⟩ (.cons rfl .nil)) (Nat.le_of_ble_eq_true rfl)
  | 17, _ => exact sqt_wr l17 (.cons ⟨_, rfl⟩ (.cons rfl .nil)) (Nat.le_of_ble_eq_true rfl)
  | 18, _ => exact sqt_wr l18 (.cons ⟨_, rfl⟩ (.cons rfl .nil)) (Nat.le_of_ble_eq_true rfl)
  | 19, _ => exact sqt_wr l19 (.cons ⟨_, rfl⟩ (.cons rfl .nil)) (Nat.le_of_ble_eq_true rfl)
  | 20, _ => exact sqt_wr l20 (.cons ⟨_, rfl⟩ (.cons rfl .nil)) (Nat.le_of_ble_eq_true rfl)
  | 21, _ => exact sqt_wr l21 (.cons ⟨_, rfl⟩ (.cons rfl .nil)) (Nat.le_of_ble_eq_true rfl)
  | 22, _ => exact sqt_wr l22 (.cons ⟨_, rfl⟩ (.cons rfl .nil)) (Nat.le_of_ble_eq_true rfl)
  | _ + 23, h => exact absurd h (by simp)
theorem all_mk {P : Program} {w : World} {K : PySem.W.Frag} {h : Heap} {mg : Str → Option Value} {fa : Addr} {f_Call_init f_read_calls f_all_groups f_mixed_within f_is_all_mixed f_is_none_mixed f_greatest_all_mixed f_greatest_none_mixed f_first_clash f_letters_do f_letter_count f_longer_rows f_all_numbered_rows f_rows_that_do f_best_row f_ways_with f_right_with_y f_how_often_right f_likeliest_row f_Table_init f_Table_has_x f_Table_has_y f_Table_put f_Table_put_row f_Table_drop_y f_Table_comes f_Table_ys_with_both f_Table_are_mixed f_Table_mixed_with f_Table_xs_with f_Table_ever_comes f_Table_row_by_row f_all_twos f_is_open_between f_are_twos_mixed f_letters_of_mixed_ahead f_letters_do_for_two f_least_not_in f_letters_two_by_two f_yes_or_no f_counted f_any_above f_wrong_letters f_reply_set f_reply_row f_reply_forget f_reply_may f_reply_mixed f_reply_mixed_with f_reply_good f_reply_clash f_reply_fewest f_reply_best f_reply_ways f_reply_crowd f_reply_why f_reply_apart f_reply_told f_reply_sure f_reply_good_two f_reply_greedy_two f_reply_mixed_two f_reply_often f_reply_likeliest f_reply_all_told f_answer_change f_answer_mixed f_answer_letters f_answer_sets f_answer_twos f_answer_right f_answer_begun f_Line_init f_Line_begin f_Line_answer f_answers C_Call C_Table C_Line o_SHAPES P_likeliest_row c_likeliest_row : Addr} (X : K.In h) (G : h.Ns mainGlobals mg) (hfa : mg "answers" = some (.ref fa)) (TT : TabOf mg h "likeliest_row")
    {od_Call_init an_Call_init : Option Addr} {sl_Call_init : Array (Option Value)} {oc_Call_init kV_Call_init dc_Call_init pm_Call_init cd_Call_init ct_Call_init : Value}
    {od_read_calls an_read_calls : Option Addr} {sl_read_calls : Array (Option Value)} {oc_read_calls kV_read_calls dc_read_calls pm_read_calls cd_read_calls ct_read_calls : Value}
    {od_all_groups an_all_groups : Option Addr} {sl_all_groups : Array (Option Value)} {oc_all_groups kV_all_groups dc_all_groups pm_all_groups cd_all_groups ct_all_groups : Value}
    {od_mixed_within an_mixed_within : Option Addr} {sl_mixed_within : Array (Option Value)} {oc_mixed_within kV_mixed_within dc_mixed_within pm_mixed_within cd_mixed_within ct_mixed_within : Value}
    {od_is_all_mixed an_is_all_mixed : Option Addr} {sl_is_all_mixed : Array (Option Value)} {oc_is_all_mixed kV_is_all_mixed dc_is_all_mixed pm_is_all_mixed cd_is_all_mixed ct_is_all_mixed : Value}
    {od_is_none_mixed an_is_none_mixed : Option Addr} {sl_is_none_mixed : Array (Option Value)} {oc_is_none_mixed kV_is_none_mixed dc_is_none_mixed pm_is_none_mixed cd_is_none_mixed ct_is_none_mixed : Value}
    {od_greatest_all_mixed an_greatest_all_mixed : Option Addr} {sl_greatest_all_mixed : Array (Option Value)} {oc_greatest_all_mixed kV_greatest_all_mixed dc_greatest_all_mixed pm_greatest_all_mixed cd_greatest_all_mixed ct_greatest_all_mixed : Value}
    {od_greatest_none_mixed an_greatest_none_mixed : Option Addr} {sl_greatest_none_mixed : Array (Option Value)} {oc_greatest_none_mixed kV_greatest_none_mixed dc_greatest_none_mixed pm_greatest_none_mixed cd_greatest_none_mixed ct_greatest_none_mixed : Value}
    {od_first_clash an_first_clash : Option Addr} {sl_first_clash : Array (Option Value)} {oc_first_clash kV_first_clash dc_first_clash pm_first_clash cd_first_clash ct_first_clash : Value}
    {od_letters_do an_letters_do : Option Addr} {sl_letters_do : Array (Option Value)} {oc_letters_do kV_letters_do dc_letters_do pm_letters_do cd_letters_do ct_letters_do : Value}
    {od_letter_count an_letter_count : Option Addr} {sl_letter_count : Array (Option Value)} {oc_letter_count kV_letter_count dc_letter_count pm_letter_count cd_letter_count ct_letter_count : Value}
    {od_longer_rows an_longer_rows : Option Addr} {sl_longer_rows : Array (Option Value)} {oc_longer_rows kV_longer_rows dc_longer_rows pm_longer_rows cd_longer_rows ct_longer_rows : Value}
    {od_all_numbered_rows an_all_numbered_rows : Option Addr} {sl_all_numbered_rows : Array (Option Value)} {oc_all_numbered_rows kV_all_numbered_rows dc_all_numbered_rows pm_all_numbered_rows cd_all_numbered_rows ct_all_numbered_rows : Value}
    {od_rows_that_do an_rows_that_do : Option Addr} {sl_rows_that_do : Array (Option Value)} {oc_rows_that_do kV_rows_that_do dc_rows_that_do pm_rows_that_do cd_rows_that_do ct_rows_that_do : Value}
    {od_best_row an_best_row : Option Addr} {sl_best_row : Array (Option Value)} {oc_best_row kV_best_row dc_best_row pm_best_row cd_best_row ct_best_row : Value}
    {od_ways_with an_ways_with : Option Addr} {sl_ways_with : Array (Option Value)} {oc_ways_with kV_ways_with dc_ways_with pm_ways_with cd_ways_with ct_ways_with : Value}
    {od_right_with_y an_right_with_y : Option Addr} {sl_right_with_y : Array (Option Value)} {oc_right_with_y kV_right_with_y dc_right_with_y pm_right_with_y cd_right_with_y ct_right_with_y : Value}
    {od_how_often_right an_how_often_right : Option Addr} {sl_how_often_right : Array (Option Value)} {oc_how_often_right kV_how_often_right dc_how_often_right pm_how_often_right cd_how_often_right ct_how_often_right : Value}
    {od_likeliest_row an_likeliest_row : Option Addr} {sl_likeliest_row : Array (Option Value)} {oc_likeliest_row kV_likeliest_row dc_likeliest_row pm_likeliest_row ct_likeliest_row : Value}
    {xe_likeliest_row : Value} {xd_likeliest_row : Option Addr} {xv_likeliest_row : Array Value} {xs_likeliest_row : Array (Option Value)}
    {od_Table_init an_Table_init : Option Addr} {sl_Table_init : Array (Option Value)} {oc_Table_init kV_Table_init dc_Table_init pm_Table_init cd_Table_init ct_Table_init : Value}
    {od_Table_has_x an_Table_has_x : Option Addr} {sl_Table_has_x : Array (Option Value)} {oc_Table_has_x kV_Table_has_x dc_Table_has_x pm_Table_has_x cd_Table_has_x ct_Table_has_x : Value}
    {od_Table_has_y an_Table_has_y : Option Addr} {sl_Table_has_y : Array (Option Value)} {oc_Table_has_y kV_Table_has_y dc_Table_has_y pm_Table_has_y cd_Table_has_y ct_Table_has_y : Value}
    {od_Table_put an_Table_put : Option Addr} {sl_Table_put : Array (Option Value)} {oc_Table_put kV_Table_put dc_Table_put pm_Table_put cd_Table_put ct_Table_put : Value}
    {od_Table_put_row an_Table_put_row : Option Addr} {sl_Table_put_row : Array (Option Value)} {oc_Table_put_row kV_Table_put_row dc_Table_put_row pm_Table_put_row cd_Table_put_row ct_Table_put_row : Value}
    {od_Table_drop_y an_Table_drop_y : Option Addr} {sl_Table_drop_y : Array (Option Value)} {oc_Table_drop_y kV_Table_drop_y dc_Table_drop_y pm_Table_drop_y cd_Table_drop_y ct_Table_drop_y : Value}
    {od_Table_comes an_Table_comes : Option Addr} {sl_Table_comes : Array (Option Value)} {oc_Table_comes kV_Table_comes dc_Table_comes pm_Table_comes cd_Table_comes ct_Table_comes : Value}
    {od_Table_ys_with_both an_Table_ys_with_both : Option Addr} {sl_Table_ys_with_both : Array (Option Value)} {oc_Table_ys_with_both kV_Table_ys_with_both dc_Table_ys_with_both pm_Table_ys_with_both cd_Table_ys_with_both ct_Table_ys_with_both : Value}
    {od_Table_are_mixed an_Table_are_mixed : Option Addr} {sl_Table_are_mixed : Array (Option Value)} {oc_Table_are_mixed kV_Table_are_mixed dc_Table_are_mixed pm_Table_are_mixed cd_Table_are_mixed ct_Table_are_mixed : Value}
    {od_Table_mixed_with an_Table_mixed_with : Option Addr} {sl_Table_mixed_with : Array (Option Value)} {oc_Table_mixed_with kV_Table_mixed_with dc_Table_mixed_with pm_Table_mixed_with cd_Table_mixed_with ct_Table_mixed_with : Value}
    {od_Table_xs_with an_Table_xs_with : Option Addr} {sl_Table_xs_with : Array (Option Value)} {oc_Table_xs_with kV_Table_xs_with dc_Table_xs_with pm_Table_xs_with cd_Table_xs_with ct_Table_xs_with : Value}
    {od_Table_ever_comes an_Table_ever_comes : Option Addr} {sl_Table_ever_comes : Array (Option Value)} {oc_Table_ever_comes kV_Table_ever_comes dc_Table_ever_comes pm_Table_ever_comes cd_Table_ever_comes ct_Table_ever_comes : Value}
    {od_Table_row_by_row an_Table_row_by_row : Option Addr} {sl_Table_row_by_row : Array (Option Value)} {oc_Table_row_by_row kV_Table_row_by_row dc_Table_row_by_row pm_Table_row_by_row cd_Table_row_by_row ct_Table_row_by_row : Value}
    {od_all_twos an_all_twos : Option Addr} {sl_all_twos : Array (Option Value)} {oc_all_twos kV_all_twos dc_all_twos pm_all_twos cd_all_twos ct_all_twos : Value}
    {od_is_open_between an_is_open_between : Option Addr} {sl_is_open_between : Array (Option Value)} {oc_is_open_between kV_is_open_between dc_is_open_between pm_is_open_between cd_is_open_between ct_is_open_between : Value}
    {od_are_twos_mixed an_are_twos_mixed : Option Addr} {sl_are_twos_mixed : Array (Option Value)} {oc_are_twos_mixed kV_are_twos_mixed dc_are_twos_mixed pm_are_twos_mixed cd_are_twos_mixed ct_are_twos_mixed : Value}
    {od_letters_of_mixed_ahead an_letters_of_mixed_ahead : Option Addr} {sl_letters_of_mixed_ahead : Array (Option Value)} {oc_letters_of_mixed_ahead kV_letters_of_mixed_ahead dc_letters_of_mixed_ahead pm_letters_of_mixed_ahead cd_letters_of_mixed_ahead ct_letters_of_mixed_ahead : Value}
    {od_letters_do_for_two an_letters_do_for_two : Option Addr} {sl_letters_do_for_two : Array (Option Value)} {oc_letters_do_for_two kV_letters_do_for_two dc_letters_do_for_two pm_letters_do_for_two cd_letters_do_for_two ct_letters_do_for_two : Value}
    {od_least_not_in an_least_not_in : Option Addr} {sl_least_not_in : Array (Option Value)} {oc_least_not_in kV_least_not_in dc_least_not_in pm_least_not_in cd_least_not_in ct_least_not_in : Value}
    {od_letters_two_by_two an_letters_two_by_two : Option Addr} {sl_letters_two_by_two : Array (Option Value)} {oc_letters_two_by_two kV_letters_two_by_two dc_letters_two_by_two pm_letters_two_by_two cd_letters_two_by_two ct_letters_two_by_two : Value}
    {od_yes_or_no an_yes_or_no : Option Addr} {sl_yes_or_no : Array (Option Value)} {oc_yes_or_no kV_yes_or_no dc_yes_or_no pm_yes_or_no cd_yes_or_no ct_yes_or_no : Value}
    {od_counted an_counted : Option Addr} {sl_counted : Array (Option Value)} {oc_counted kV_counted dc_counted pm_counted cd_counted ct_counted : Value}
    {od_any_above an_any_above : Option Addr} {sl_any_above : Array (Option Value)} {oc_any_above kV_any_above dc_any_above pm_any_above cd_any_above ct_any_above : Value}
    {od_wrong_letters an_wrong_letters : Option Addr} {sl_wrong_letters : Array (Option Value)} {oc_wrong_letters kV_wrong_letters dc_wrong_letters pm_wrong_letters cd_wrong_letters ct_wrong_letters : Value}
    {od_reply_set an_reply_set : Option Addr} {sl_reply_set : Array (Option Value)} {oc_reply_set kV_reply_set dc_reply_set pm_reply_set cd_reply_set ct_reply_set : Value}
    {od_reply_row an_reply_row : Option Addr} {sl_reply_row : Array (Option Value)} {oc_reply_row kV_reply_row dc_reply_row pm_reply_row cd_reply_row ct_reply_row : Value}
    {od_reply_forget an_reply_forget : Option Addr} {sl_reply_forget : Array (Option Value)} {oc_reply_forget kV_reply_forget dc_reply_forget pm_reply_forget cd_reply_forget ct_reply_forget : Value}
    {od_reply_may an_reply_may : Option Addr} {sl_reply_may : Array (Option Value)} {oc_reply_may kV_reply_may dc_reply_may pm_reply_may cd_reply_may ct_reply_may : Value}
    {od_reply_mixed an_reply_mixed : Option Addr} {sl_reply_mixed : Array (Option Value)} {oc_reply_mixed kV_reply_mixed dc_reply_mixed pm_reply_mixed cd_reply_mixed ct_reply_mixed : Value}
    {od_reply_mixed_with an_reply_mixed_with : Option Addr} {sl_reply_mixed_with : Array (Option Value)} {oc_reply_mixed_with kV_reply_mixed_with dc_reply_mixed_with pm_reply_mixed_with cd_reply_mixed_with ct_reply_mixed_with : Value}
    {od_reply_good an_reply_good : Option Addr} {sl_reply_good : Array (Option Value)} {oc_reply_good kV_reply_good dc_reply_good pm_reply_good cd_reply_good ct_reply_good : Value}
    {od_reply_clash an_reply_clash : Option Addr} {sl_reply_clash : Array (Option Value)} {oc_reply_clash kV_reply_clash dc_reply_clash pm_reply_clash cd_reply_clash ct_reply_clash : Value}
    {od_reply_fewest an_reply_fewest : Option Addr} {sl_reply_fewest : Array (Option Value)} {oc_reply_fewest kV_reply_fewest dc_reply_fewest pm_reply_fewest cd_reply_fewest ct_reply_fewest : Value}
    {od_reply_best an_reply_best : Option Addr} {sl_reply_best : Array (Option Value)} {oc_reply_best kV_reply_best dc_reply_best pm_reply_best cd_reply_best ct_reply_best : Value}
    {od_reply_ways an_reply_ways : Option Addr} {sl_reply_ways : Array (Option Value)} {oc_reply_ways kV_reply_ways dc_reply_ways pm_reply_ways cd_reply_ways ct_reply_ways : Value}
    {od_reply_crowd an_reply_crowd : Option Addr} {sl_reply_crowd : Array (Option Value)} {oc_reply_crowd kV_reply_crowd dc_reply_crowd pm_reply_crowd cd_reply_crowd ct_reply_crowd : Value}
    {od_reply_why an_reply_why : Option Addr} {sl_reply_why : Array (Option Value)} {oc_reply_why kV_reply_why dc_reply_why pm_reply_why cd_reply_why ct_reply_why : Value}
    {od_reply_apart an_reply_apart : Option Addr} {sl_reply_apart : Array (Option Value)} {oc_reply_apart kV_reply_apart dc_reply_apart pm_reply_apart cd_reply_apart ct_reply_apart : Value}
    {od_reply_told an_reply_told : Option Addr} {sl_reply_told : Array (Option Value)} {oc_reply_told kV_reply_told dc_reply_told pm_reply_told cd_reply_told ct_reply_told : Value}
    {od_reply_sure an_reply_sure : Option Addr} {sl_reply_sure : Array (Option Value)} {oc_reply_sure kV_reply_sure dc_reply_sure pm_reply_sure cd_reply_sure ct_reply_sure : Value}
    {od_reply_good_two an_reply_good_two : Option Addr} {sl_reply_good_two : Array (Option Value)} {oc_reply_good_two kV_reply_good_two dc_reply_good_two pm_reply_good_two cd_reply_good_two ct_reply_good_two : Value}
    {od_reply_greedy_two an_reply_greedy_two : Option Addr} {sl_reply_greedy_two : Array (Option Value)} {oc_reply_greedy_two kV_reply_greedy_two dc_reply_greedy_two pm_reply_greedy_two cd_reply_greedy_two ct_reply_greedy_two : Value}
    {od_reply_mixed_two an_reply_mixed_two : Option Addr} {sl_reply_mixed_two : Array (Option Value)} {oc_reply_mixed_two kV_reply_mixed_two dc_reply_mixed_two pm_reply_mixed_two cd_reply_mixed_two ct_reply_mixed_two : Value}
    {od_reply_often an_reply_often : Option Addr} {sl_reply_often : Array (Option Value)} {oc_reply_often kV_reply_often dc_reply_often pm_reply_often cd_reply_often ct_reply_often : Value}
    {od_reply_likeliest an_reply_likeliest : Option Addr} {sl_reply_likeliest : Array (Option Value)} {oc_reply_likeliest kV_reply_likeliest dc_reply_likeliest pm_reply_likeliest cd_reply_likeliest ct_reply_likeliest : Value}
    {od_reply_all_told an_reply_all_told : Option Addr} {sl_reply_all_told : Array (Option Value)} {oc_reply_all_told kV_reply_all_told dc_reply_all_told pm_reply_all_told cd_reply_all_told ct_reply_all_told : Value}
    {od_answer_change an_answer_change : Option Addr} {sl_answer_change : Array (Option Value)} {oc_answer_change kV_answer_change dc_answer_change pm_answer_change cd_answer_change ct_answer_change : Value}
    {od_answer_mixed an_answer_mixed : Option Addr} {sl_answer_mixed : Array (Option Value)} {oc_answer_mixed kV_answer_mixed dc_answer_mixed pm_answer_mixed cd_answer_mixed ct_answer_mixed : Value}
    {od_answer_letters an_answer_letters : Option Addr} {sl_answer_letters : Array (Option Value)} {oc_answer_letters kV_answer_letters dc_answer_letters pm_answer_letters cd_answer_letters ct_answer_letters : Value}
    {od_answer_sets an_answer_sets : Option Addr} {sl_answer_sets : Array (Option Value)} {oc_answer_sets kV_answer_sets dc_answer_sets pm_answer_sets cd_answer_sets ct_answer_sets : Value}
    {od_answer_twos an_answer_twos : Option Addr} {sl_answer_twos : Array (Option Value)} {oc_answer_twos kV_answer_twos dc_answer_twos pm_answer_twos cd_answer_twos ct_answer_twos : Value}
    {od_answer_right an_answer_right : Option Addr} {sl_answer_right : Array (Option Value)} {oc_answer_right kV_answer_right dc_answer_right pm_answer_right cd_answer_right ct_answer_right : Value}
    {od_answer_begun an_answer_begun : Option Addr} {sl_answer_begun : Array (Option Value)} {oc_answer_begun kV_answer_begun dc_answer_begun pm_answer_begun cd_answer_begun ct_answer_begun : Value}
    {od_Line_init an_Line_init : Option Addr} {sl_Line_init : Array (Option Value)} {oc_Line_init kV_Line_init dc_Line_init pm_Line_init cd_Line_init ct_Line_init : Value}
    {od_Line_begin an_Line_begin : Option Addr} {sl_Line_begin : Array (Option Value)} {oc_Line_begin kV_Line_begin dc_Line_begin pm_Line_begin cd_Line_begin ct_Line_begin : Value}
    {od_Line_answer an_Line_answer : Option Addr} {sl_Line_answer : Array (Option Value)} {oc_Line_answer kV_Line_answer dc_Line_answer pm_Line_answer cd_Line_answer ct_Line_answer : Value}
    {od_answers an_answers : Option Addr} {sl_answers : Array (Option Value)} {oc_answers kV_answers dc_answers pm_answers cd_answers ct_answers : Value}
    {tk_BEGIN : Tok}
    {tk_SET_OFTEN : Tok}
    {tk_ROW : Tok}
    {tk_FORGET : Tok}
    {tk_MAY : Tok}
    {tk_MIXED : Tok}
    {tk_MIXED_WITH : Tok}
    {tk_GOOD : Tok}
    {tk_CLASH : Tok}
    {tk_FEWEST : Tok}
    {tk_BEST : Tok}
    {tk_WAYS : Tok}
    {tk_CROWD : Tok}
    {tk_WHY : Tok}
    {tk_APART : Tok}
    {tk_TOLD : Tok}
    {tk_SURE : Tok}
    {tk_GOOD_TWO : Tok}
    {tk_GREEDY_TWO : Tok}
    {tk_MIXED_TWO : Tok}
    {tk_OFTEN : Tok}
    {tk_LIKELIEST : Tok}
    {tk_NO_SUCH : Tok}
    {tk_ONE_ALONE : Tok}
    {tk_WRONG : Tok}
    {tk_THEY_DO : Tok}
    {tk_NOT_BEGUN : Tok}
    {tk_MOST_THINGS : Tok}
    {tk_MOST_OFTEN : Tok}
    {r_SHAPES_0 r_SHAPES_1 r_SHAPES_2 r_SHAPES_3 r_SHAPES_4 r_SHAPES_5 r_SHAPES_6 r_SHAPES_7 r_SHAPES_8 r_SHAPES_9 r_SHAPES_10 r_SHAPES_11 r_SHAPES_12 r_SHAPES_13 r_SHAPES_14 r_SHAPES_15 r_SHAPES_16 r_SHAPES_17 r_SHAPES_18 r_SHAPES_19 r_SHAPES_20 r_SHAPES_21 r_SHAPES_22 : Addr} {n_SHAPES : Nat} {sl_SHAPES : Array (Option Value)}
    {tk_SHAPES_0 : Tok} {n_SHAPES_0 : Nat} {sl_SHAPES_0 : Array (Option Value)}
    {tk_SHAPES_1 : Tok} {n_SHAPES_1 : Nat} {sl_SHAPES_1 : Array (Option Value)}
    {tk_SHAPES_2 : Tok} {n_SHAPES_2 : Nat} {sl_SHAPES_2 : Array (Option Value)}
    {tk_SHAPES_3 : Tok} {n_SHAPES_3 : Nat} {sl_SHAPES_3 : Array (Option Value)}
    {tk_SHAPES_4 : Tok} {n_SHAPES_4 : Nat} {sl_SHAPES_4 : Array (Option Value)}
    {tk_SHAPES_5 : Tok} {n_SHAPES_5 : Nat} {sl_SHAPES_5 : Array (Option Value)}
    {tk_SHAPES_6 : Tok} {n_SHAPES_6 : Nat} {sl_SHAPES_6 : Array (Option Value)}
    {tk_SHAPES_7 : Tok} {n_SHAPES_7 : Nat} {sl_SHAPES_7 : Array (Option Value)}
    {tk_SHAPES_8 : Tok} {n_SHAPES_8 : Nat} {sl_SHAPES_8 : Array (Option Value)}
    {tk_SHAPES_9 : Tok} {n_SHAPES_9 : Nat} {sl_SHAPES_9 : Array (Option Value)}
    {tk_SHAPES_10 : Tok} {n_SHAPES_10 : Nat} {sl_SHAPES_10 : Array (Option Value)}
    {tk_SHAPES_11 : Tok} {n_SHAPES_11 : Nat} {sl_SHAPES_11 : Array (Option Value)}
    {tk_SHAPES_12 : Tok} {n_SHAPES_12 : Nat} {sl_SHAPES_12 : Array (Option Value)}
    {tk_SHAPES_13 : Tok} {n_SHAPES_13 : Nat} {sl_SHAPES_13 : Array (Option Value)}
    {tk_SHAPES_14 : Tok} {n_SHAPES_14 : Nat} {sl_SHAPES_14 : Array (Option Value)}
    {tk_SHAPES_15 : Tok} {n_SHAPES_15 : Nat} {sl_SHAPES_15 : Array (Option Value)}
    {tk_SHAPES_16 : Tok} {n_SHAPES_16 : Nat} {sl_SHAPES_16 : Array (Option Value)}
    {tk_SHAPES_17 : Tok} {n_SHAPES_17 : Nat} {sl_SHAPES_17 : Array (Option Value)}
    {tk_SHAPES_18 : Tok} {n_SHAPES_18 : Nat} {sl_SHAPES_18 : Array (Option Value)}
    {tk_SHAPES_19 : Tok} {n_SHAPES_19 : Nat} {sl_SHAPES_19 : Array (Option Value)}
    {tk_SHAPES_20 : Tok} {n_SHAPES_20 : Nat} {sl_SHAPES_20 : Array (Option Value)}
    {tk_SHAPES_21 : Tok} {n_SHAPES_21 : Nat} {sl_SHAPES_21 : Array (Option Value)}
    {tk_SHAPES_22 : Tok} {n_SHAPES_22 : Nat} {sl_SHAPES_22 : Array (Option Value)}
    (aC_Call : PySem.W.nsIn K mainGlobals "Call" = some (some (.ref C_Call)))
    (pg_Call : PySem.W.plainGet K C_Call Str.empty = true)
    (hd_Call : PySem.W.hasDictIn K C_Call = true)
    (po_Call : PySem.W.plainOver K C_Call = true)
    (sa_Call : PySem.W.findIn K (.ref C_Call) "__setattr__" = some (some (.builtin "object.__setattr__")))
    (mk_Call : PySem.W.makesIn K C_Call = true)
    (kc_Call : PySem.W.keepIn K (.ref C_Call) = true)
    (n_Call_number : PySem.W.findIn K (.ref C_Call) "number" = some none)
    (n_Call_numbers : PySem.W.findIn K (.ref C_Call) "numbers" = some none)
    (n_Call_row : PySem.W.findIn K (.ref C_Call) "row" = some none)
    (aC_Table : PySem.W.nsIn K mainGlobals "Table" = some (some (.ref C_Table)))
    (pg_Table : PySem.W.plainGet K C_Table Str.empty = true)
    (hd_Table : PySem.W.hasDictIn K C_Table = true)
    (po_Table : PySem.W.plainOver K C_Table = true)
    (sa_Table : PySem.W.findIn K (.ref C_Table) "__setattr__" = some (some (.builtin "object.__setattr__")))
    (mk_Table : PySem.W.makesIn K C_Table = true)
    (kc_Table : PySem.W.keepIn K (.ref C_Table) = true)
    (n_Table_x_count : PySem.W.findIn K (.ref C_Table) "x_count" = some none)
    (n_Table_y_count : PySem.W.findIn K (.ref C_Table) "y_count" = some none)
    (n_Table_often : PySem.W.findIn K (.ref C_Table) "often" = some none)
    (aC_Line : PySem.W.nsIn K mainGlobals "Line" = some (some (.ref C_Line)))
    (pg_Line : PySem.W.plainGet K C_Line Str.empty = true)
    (hd_Line : PySem.W.hasDictIn K C_Line = true)
    (po_Line : PySem.W.plainOver K C_Line = true)
    (sa_Line : PySem.W.findIn K (.ref C_Line) "__setattr__" = some (some (.builtin "object.__setattr__")))
    (mk_Line : PySem.W.makesIn K C_Line = true)
    (kc_Line : PySem.W.keepIn K (.ref C_Line) = true)
    (n_Line_table : PySem.W.findIn K (.ref C_Line) "table" = some none)
    (a_Call_init : PySem.W.findIn K (.ref C_Call) "__init__" = some (some (.ref f_Call_init)))
    (i_Call_init : PySem.W.isFn K (.ref f_Call_init) = true)
    (l_Call_init : K.lookup f_Call_init = some ⟨oc_Call_init, od_Call_init, .func (PySem.W.fnOf "__init__" "Call.__init__" (defArgs s_Call_init) (defBody s_Call_init) (defScope s_Call_init) .none kV_Call_init dc_Call_init pm_Call_init an_Call_init cd_Call_init ct_Call_init), sl_Call_init⟩)
    (ci_Call_init : PySem.W.codeIn K cd_Call_init "Call.__init__" = true)
    (k_Call_init : PySem.W.keepIn K (.ref f_Call_init) = true)
    (a_read_calls : PySem.W.nsIn K mainGlobals "read_calls" = some (some (.ref f_read_calls)))
    (l_read_calls : K.lookup f_read_calls = some ⟨oc_read_calls, od_read_calls, .func (PySem.W.fnOf "read_calls" "read_calls" (defArgs s_read_calls) (defBody s_read_calls) (defScope s_read_calls) .none kV_read_calls dc_read_calls pm_read_calls an_read_calls cd_read_calls ct_read_calls), sl_read_calls⟩)
    (ci_read_calls : PySem.W.codeIn K cd_read_calls "read_calls" = true)
    (k_read_calls : PySem.W.keepIn K (.ref f_read_calls) = true)
    (a_all_groups : PySem.W.nsIn K mainGlobals "all_groups" = some (some (.ref f_all_groups)))
    (l_all_groups : K.lookup f_all_groups = some ⟨oc_all_groups, od_all_groups, .func (PySem.W.fnOf "all_groups" "all_groups" (defArgs s_all_groups) (defBody s_all_groups) (defScope s_all_groups) .none kV_all_groups dc_all_groups pm_all_groups an_all_groups cd_all_groups ct_all_groups), sl_all_groups⟩)
    (ci_all_groups : PySem.W.codeIn K cd_all_groups "all_groups" = true)
    (k_all_groups : PySem.W.keepIn K (.ref f_all_groups) = true)
    (a_mixed_within : PySem.W.nsIn K mainGlobals "mixed_within" = some (some (.ref f_mixed_within)))
    (l_mixed_within : K.lookup f_mixed_within = some ⟨oc_mixed_within, od_mixed_within, .func (PySem.W.fnOf "mixed_within" "mixed_within" (defArgs s_mixed_within) (defBody s_mixed_within) (defScope s_mixed_within) .none kV_mixed_within dc_mixed_within pm_mixed_within an_mixed_within cd_mixed_within ct_mixed_within), sl_mixed_within⟩)
    (ci_mixed_within : PySem.W.codeIn K cd_mixed_within "mixed_within" = true)
    (k_mixed_within : PySem.W.keepIn K (.ref f_mixed_within) = true)
    (a_is_all_mixed : PySem.W.nsIn K mainGlobals "is_all_mixed" = some (some (.ref f_is_all_mixed)))
    (l_is_all_mixed : K.lookup f_is_all_mixed = some ⟨oc_is_all_mixed, od_is_all_mixed, .func (PySem.W.fnOf "is_all_mixed" "is_all_mixed" (defArgs s_is_all_mixed) (defBody s_is_all_mixed) (defScope s_is_all_mixed) .none kV_is_all_mixed dc_is_all_mixed pm_is_all_mixed an_is_all_mixed cd_is_all_mixed ct_is_all_mixed), sl_is_all_mixed⟩)
    (ci_is_all_mixed : PySem.W.codeIn K cd_is_all_mixed "is_all_mixed" = true)
    (k_is_all_mixed : PySem.W.keepIn K (.ref f_is_all_mixed) = true)
    (a_is_none_mixed : PySem.W.nsIn K mainGlobals "is_none_mixed" = some (some (.ref f_is_none_mixed)))
    (l_is_none_mixed : K.lookup f_is_none_mixed = some ⟨oc_is_none_mixed, od_is_none_mixed, .func (PySem.W.fnOf "is_none_mixed" "is_none_mixed" (defArgs s_is_none_mixed) (defBody s_is_none_mixed) (defScope s_is_none_mixed) .none kV_is_none_mixed dc_is_none_mixed pm_is_none_mixed an_is_none_mixed cd_is_none_mixed ct_is_none_mixed), sl_is_none_mixed⟩)
    (ci_is_none_mixed : PySem.W.codeIn K cd_is_none_mixed "is_none_mixed" = true)
    (k_is_none_mixed : PySem.W.keepIn K (.ref f_is_none_mixed) = true)
    (a_greatest_all_mixed : PySem.W.nsIn K mainGlobals "greatest_all_mixed" = some (some (.ref f_greatest_all_mixed)))
    (l_greatest_all_mixed : K.lookup f_greatest_all_mixed = some ⟨oc_greatest_all_mixed, od_greatest_all_mixed, .func (PySem.W.fnOf "greatest_all_mixed" "greatest_all_mixed" (defArgs s_greatest_all_mixed) (defBody s_greatest_all_mixed) (defScope s_greatest_all_mixed) .none kV_greatest_all_mixed dc_greatest_all_mixed pm_greatest_all_mixed an_greatest_all_mixed cd_greatest_all_mixed ct_greatest_all_mixed), sl_greatest_all_mixed⟩)
    (ci_greatest_all_mixed : PySem.W.codeIn K cd_greatest_all_mixed "greatest_all_mixed" = true)
    (k_greatest_all_mixed : PySem.W.keepIn K (.ref f_greatest_all_mixed) = true)
    (a_greatest_none_mixed : PySem.W.nsIn K mainGlobals "greatest_none_mixed" = some (some (.ref f_greatest_none_mixed)))
    (l_greatest_none_mixed : K.lookup f_greatest_none_mixed = some ⟨oc_greatest_none_mixed, od_greatest_none_mixed, .func (PySem.W.fnOf "greatest_none_mixed" "greatest_none_mixed" (defArgs s_greatest_none_mixed) (defBody s_greatest_none_mixed) (defScope s_greatest_none_mixed) .none kV_greatest_none_mixed dc_greatest_none_mixed pm_greatest_none_mixed an_greatest_none_mixed cd_greatest_none_mixed ct_greatest_none_mixed), sl_greatest_none_mixed⟩)
    (ci_greatest_none_mixed : PySem.W.codeIn K cd_greatest_none_mixed "greatest_none_mixed" = true)
    (k_greatest_none_mixed : PySem.W.keepIn K (.ref f_greatest_none_mixed) = true)
    (a_first_clash : PySem.W.nsIn K mainGlobals "first_clash" = some (some (.ref f_first_clash)))
    (l_first_clash : K.lookup f_first_clash = some ⟨oc_first_clash, od_first_clash, .func (PySem.W.fnOf "first_clash" "first_clash" (defArgs s_first_clash) (defBody s_first_clash) (defScope s_first_clash) .none kV_first_clash dc_first_clash pm_first_clash an_first_clash cd_first_clash ct_first_clash), sl_first_clash⟩)
    (ci_first_clash : PySem.W.codeIn K cd_first_clash "first_clash" = true)
    (k_first_clash : PySem.W.keepIn K (.ref f_first_clash) = true)
    (a_letters_do : PySem.W.nsIn K mainGlobals "letters_do" = some (some (.ref f_letters_do)))
    (l_letters_do : K.lookup f_letters_do = some ⟨oc_letters_do, od_letters_do, .func (PySem.W.fnOf "letters_do" "letters_do" (defArgs s_letters_do) (defBody s_letters_do) (defScope s_letters_do) .none kV_letters_do dc_letters_do pm_letters_do an_letters_do cd_letters_do ct_letters_do), sl_letters_do⟩)
    (ci_letters_do : PySem.W.codeIn K cd_letters_do "letters_do" = true)
    (k_letters_do : PySem.W.keepIn K (.ref f_letters_do) = true)
    (a_letter_count : PySem.W.nsIn K mainGlobals "letter_count" = some (some (.ref f_letter_count)))
    (l_letter_count : K.lookup f_letter_count = some ⟨oc_letter_count, od_letter_count, .func (PySem.W.fnOf "letter_count" "letter_count" (defArgs s_letter_count) (defBody s_letter_count) (defScope s_letter_count) .none kV_letter_count dc_letter_count pm_letter_count an_letter_count cd_letter_count ct_letter_count), sl_letter_count⟩)
    (ci_letter_count : PySem.W.codeIn K cd_letter_count "letter_count" = true)
    (k_letter_count : PySem.W.keepIn K (.ref f_letter_count) = true)
    (a_longer_rows : PySem.W.nsIn K mainGlobals "longer_rows" = some (some (.ref f_longer_rows)))
    (l_longer_rows : K.lookup f_longer_rows = some ⟨oc_longer_rows, od_longer_rows, .func (PySem.W.fnOf "longer_rows" "longer_rows" (defArgs s_longer_rows) (defBody s_longer_rows) (defScope s_longer_rows) .none kV_longer_rows dc_longer_rows pm_longer_rows an_longer_rows cd_longer_rows ct_longer_rows), sl_longer_rows⟩)
    (ci_longer_rows : PySem.W.codeIn K cd_longer_rows "longer_rows" = true)
    (k_longer_rows : PySem.W.keepIn K (.ref f_longer_rows) = true)
    (a_all_numbered_rows : PySem.W.nsIn K mainGlobals "all_numbered_rows" = some (some (.ref f_all_numbered_rows)))
    (l_all_numbered_rows : K.lookup f_all_numbered_rows = some ⟨oc_all_numbered_rows, od_all_numbered_rows, .func (PySem.W.fnOf "all_numbered_rows" "all_numbered_rows" (defArgs s_all_numbered_rows) (defBody s_all_numbered_rows) (defScope s_all_numbered_rows) .none kV_all_numbered_rows dc_all_numbered_rows pm_all_numbered_rows an_all_numbered_rows cd_all_numbered_rows ct_all_numbered_rows), sl_all_numbered_rows⟩)
    (ci_all_numbered_rows : PySem.W.codeIn K cd_all_numbered_rows "all_numbered_rows" = true)
    (k_all_numbered_rows : PySem.W.keepIn K (.ref f_all_numbered_rows) = true)
    (a_rows_that_do : PySem.W.nsIn K mainGlobals "rows_that_do" = some (some (.ref f_rows_that_do)))
    (l_rows_that_do : K.lookup f_rows_that_do = some ⟨oc_rows_that_do, od_rows_that_do, .func (PySem.W.fnOf "rows_that_do" "rows_that_do" (defArgs s_rows_that_do) (defBody s_rows_that_do) (defScope s_rows_that_do) .none kV_rows_that_do dc_rows_that_do pm_rows_that_do an_rows_that_do cd_rows_that_do ct_rows_that_do), sl_rows_that_do⟩)
    (ci_rows_that_do : PySem.W.codeIn K cd_rows_that_do "rows_that_do" = true)
    (k_rows_that_do : PySem.W.keepIn K (.ref f_rows_that_do) = true)
    (a_best_row : PySem.W.nsIn K mainGlobals "best_row" = some (some (.ref f_best_row)))
    (l_best_row : K.lookup f_best_row = some ⟨oc_best_row, od_best_row, .func (PySem.W.fnOf "best_row" "best_row" (defArgs s_best_row) (defBody s_best_row) (defScope s_best_row) .none kV_best_row dc_best_row pm_best_row an_best_row cd_best_row ct_best_row), sl_best_row⟩)
    (ci_best_row : PySem.W.codeIn K cd_best_row "best_row" = true)
    (k_best_row : PySem.W.keepIn K (.ref f_best_row) = true)
    (a_ways_with : PySem.W.nsIn K mainGlobals "ways_with" = some (some (.ref f_ways_with)))
    (l_ways_with : K.lookup f_ways_with = some ⟨oc_ways_with, od_ways_with, .func (PySem.W.fnOf "ways_with" "ways_with" (defArgs s_ways_with) (defBody s_ways_with) (defScope s_ways_with) .none kV_ways_with dc_ways_with pm_ways_with an_ways_with cd_ways_with ct_ways_with), sl_ways_with⟩)
    (ci_ways_with : PySem.W.codeIn K cd_ways_with "ways_with" = true)
    (k_ways_with : PySem.W.keepIn K (.ref f_ways_with) = true)
    (a_right_with_y : PySem.W.nsIn K mainGlobals "right_with_y" = some (some (.ref f_right_with_y)))
    (l_right_with_y : K.lookup f_right_with_y = some ⟨oc_right_with_y, od_right_with_y, .func (PySem.W.fnOf "right_with_y" "right_with_y" (defArgs s_right_with_y) (defBody s_right_with_y) (defScope s_right_with_y) .none kV_right_with_y dc_right_with_y pm_right_with_y an_right_with_y cd_right_with_y ct_right_with_y), sl_right_with_y⟩)
    (ci_right_with_y : PySem.W.codeIn K cd_right_with_y "right_with_y" = true)
    (k_right_with_y : PySem.W.keepIn K (.ref f_right_with_y) = true)
    (a_how_often_right : PySem.W.nsIn K mainGlobals "how_often_right" = some (some (.ref f_how_often_right)))
    (l_how_often_right : K.lookup f_how_often_right = some ⟨oc_how_often_right, od_how_often_right, .func (PySem.W.fnOf "how_often_right" "how_often_right" (defArgs s_how_often_right) (defBody s_how_often_right) (defScope s_how_often_right) .none kV_how_often_right dc_how_often_right pm_how_often_right an_how_often_right cd_how_often_right ct_how_often_right), sl_how_often_right⟩)
    (ci_how_often_right : PySem.W.codeIn K cd_how_often_right "how_often_right" = true)
    (k_how_often_right : PySem.W.keepIn K (.ref f_how_often_right) = true)
    (a_likeliest_row : PySem.W.nsIn K mainGlobals "likeliest_row" = some (some (.ref f_likeliest_row)))
    (l_likeliest_row : K.lookup f_likeliest_row = some ⟨oc_likeliest_row, od_likeliest_row, .func (PySem.W.fnOf "likeliest_row" "likeliest_row" (defArgs s_likeliest_row) (defBody s_likeliest_row) (defScope s_likeliest_row) .none kV_likeliest_row dc_likeliest_row pm_likeliest_row an_likeliest_row (.ref c_likeliest_row) ct_likeliest_row), sl_likeliest_row⟩)
    (ci_likeliest_row : PySem.W.codeIn K (.ref c_likeliest_row) "likeliest_row" = true)
    (k_likeliest_row : PySem.W.keepIn K (.ref f_likeliest_row) = true)
    (xl_likeliest_row : K.lookup c_likeliest_row = some ⟨xe_likeliest_row, xd_likeliest_row, .fields xv_likeliest_row, xs_likeliest_row⟩)
    (xp_likeliest_row : xv_likeliest_row[11]? = some (.ref P_likeliest_row))
    (xn_likeliest_row : K.lookup P_likeliest_row = none)
    (a_Table_init : PySem.W.findIn K (.ref C_Table) "__init__" = some (some (.ref f_Table_init)))
    (i_Table_init : PySem.W.isFn K (.ref f_Table_init) = true)
    (l_Table_init : K.lookup f_Table_init = some ⟨oc_Table_init, od_Table_init, .func (PySem.W.fnOf "__init__" "Table.__init__" (defArgs s_Table_init) (defBody s_Table_init) (defScope s_Table_init) .none kV_Table_init dc_Table_init pm_Table_init an_Table_init cd_Table_init ct_Table_init), sl_Table_init⟩)
    (ci_Table_init : PySem.W.codeIn K cd_Table_init "Table.__init__" = true)
    (k_Table_init : PySem.W.keepIn K (.ref f_Table_init) = true)
    (a_Table_has_x : PySem.W.findIn K (.ref C_Table) "has_x" = some (some (.ref f_Table_has_x)))
    (i_Table_has_x : PySem.W.isFn K (.ref f_Table_has_x) = true)
    (l_Table_has_x : K.lookup f_Table_has_x = some ⟨oc_Table_has_x, od_Table_has_x, .func (PySem.W.fnOf "has_x" "Table.has_x" (defArgs s_Table_has_x) (defBody s_Table_has_x) (defScope s_Table_has_x) .none kV_Table_has_x dc_Table_has_x pm_Table_has_x an_Table_has_x cd_Table_has_x ct_Table_has_x), sl_Table_has_x⟩)
    (ci_Table_has_x : PySem.W.codeIn K cd_Table_has_x "Table.has_x" = true)
    (k_Table_has_x : PySem.W.keepIn K (.ref f_Table_has_x) = true)
    (a_Table_has_y : PySem.W.findIn K (.ref C_Table) "has_y" = some (some (.ref f_Table_has_y)))
    (i_Table_has_y : PySem.W.isFn K (.ref f_Table_has_y) = true)
    (l_Table_has_y : K.lookup f_Table_has_y = some ⟨oc_Table_has_y, od_Table_has_y, .func (PySem.W.fnOf "has_y" "Table.has_y" (defArgs s_Table_has_y) (defBody s_Table_has_y) (defScope s_Table_has_y) .none kV_Table_has_y dc_Table_has_y pm_Table_has_y an_Table_has_y cd_Table_has_y ct_Table_has_y), sl_Table_has_y⟩)
    (ci_Table_has_y : PySem.W.codeIn K cd_Table_has_y "Table.has_y" = true)
    (k_Table_has_y : PySem.W.keepIn K (.ref f_Table_has_y) = true)
    (a_Table_put : PySem.W.findIn K (.ref C_Table) "put" = some (some (.ref f_Table_put)))
    (i_Table_put : PySem.W.isFn K (.ref f_Table_put) = true)
    (l_Table_put : K.lookup f_Table_put = some ⟨oc_Table_put, od_Table_put, .func (PySem.W.fnOf "put" "Table.put" (defArgs s_Table_put) (defBody s_Table_put) (defScope s_Table_put) .none kV_Table_put dc_Table_put pm_Table_put an_Table_put cd_Table_put ct_Table_put), sl_Table_put⟩)
    (ci_Table_put : PySem.W.codeIn K cd_Table_put "Table.put" = true)
    (k_Table_put : PySem.W.keepIn K (.ref f_Table_put) = true)
    (a_Table_put_row : PySem.W.findIn K (.ref C_Table) "put_row" = some (some (.ref f_Table_put_row)))
    (i_Table_put_row : PySem.W.isFn K (.ref f_Table_put_row) = true)
    (l_Table_put_row : K.lookup f_Table_put_row = some ⟨oc_Table_put_row, od_Table_put_row, .func (PySem.W.fnOf "put_row" "Table.put_row" (defArgs s_Table_put_row) (defBody s_Table_put_row) (defScope s_Table_put_row) .none kV_Table_put_row dc_Table_put_row pm_Table_put_row an_Table_put_row cd_Table_put_row ct_Table_put_row), sl_Table_put_row⟩)
    (ci_Table_put_row : PySem.W.codeIn K cd_Table_put_row "Table.put_row" = true)
    (k_Table_put_row : PySem.W.keepIn K (.ref f_Table_put_row) = true)
    (a_Table_drop_y : PySem.W.findIn K (.ref C_Table) "drop_y" = some (some (.ref f_Table_drop_y)))
    (i_Table_drop_y : PySem.W.isFn K (.ref f_Table_drop_y) = true)
    (l_Table_drop_y : K.lookup f_Table_drop_y = some ⟨oc_Table_drop_y, od_Table_drop_y, .func (PySem.W.fnOf "drop_y" "Table.drop_y" (defArgs s_Table_drop_y) (defBody s_Table_drop_y) (defScope s_Table_drop_y) .none kV_Table_drop_y dc_Table_drop_y pm_Table_drop_y an_Table_drop_y cd_Table_drop_y ct_Table_drop_y), sl_Table_drop_y⟩)
    (ci_Table_drop_y : PySem.W.codeIn K cd_Table_drop_y "Table.drop_y" = true)
    (k_Table_drop_y : PySem.W.keepIn K (.ref f_Table_drop_y) = true)
    (a_Table_comes : PySem.W.findIn K (.ref C_Table) "comes" = some (some (.ref f_Table_comes)))
    (i_Table_comes : PySem.W.isFn K (.ref f_Table_comes) = true)
    (l_Table_comes : K.lookup f_Table_comes = some ⟨oc_Table_comes, od_Table_comes, .func (PySem.W.fnOf "comes" "Table.comes" (defArgs s_Table_comes) (defBody s_Table_comes) (defScope s_Table_comes) .none kV_Table_comes dc_Table_comes pm_Table_comes an_Table_comes cd_Table_comes ct_Table_comes), sl_Table_comes⟩)
    (ci_Table_comes : PySem.W.codeIn K cd_Table_comes "Table.comes" = true)
    (k_Table_comes : PySem.W.keepIn K (.ref f_Table_comes) = true)
    (a_Table_ys_with_both : PySem.W.findIn K (.ref C_Table) "ys_with_both" = some (some (.ref f_Table_ys_with_both)))
    (i_Table_ys_with_both : PySem.W.isFn K (.ref f_Table_ys_with_both) = true)
    (l_Table_ys_with_both : K.lookup f_Table_ys_with_both = some ⟨oc_Table_ys_with_both, od_Table_ys_with_both, .func (PySem.W.fnOf "ys_with_both" "Table.ys_with_both" (defArgs s_Table_ys_with_both) (defBody s_Table_ys_with_both) (defScope s_Table_ys_with_both) .none kV_Table_ys_with_both dc_Table_ys_with_both pm_Table_ys_with_both an_Table_ys_with_both cd_Table_ys_with_both ct_Table_ys_with_both), sl_Table_ys_with_both⟩)
    (ci_Table_ys_with_both : PySem.W.codeIn K cd_Table_ys_with_both "Table.ys_with_both" = true)
    (k_Table_ys_with_both : PySem.W.keepIn K (.ref f_Table_ys_with_both) = true)
    (a_Table_are_mixed : PySem.W.findIn K (.ref C_Table) "are_mixed" = some (some (.ref f_Table_are_mixed)))
    (i_Table_are_mixed : PySem.W.isFn K (.ref f_Table_are_mixed) = true)
    (l_Table_are_mixed : K.lookup f_Table_are_mixed = some ⟨oc_Table_are_mixed, od_Table_are_mixed, .func (PySem.W.fnOf "are_mixed" "Table.are_mixed" (defArgs s_Table_are_mixed) (defBody s_Table_are_mixed) (defScope s_Table_are_mixed) .none kV_Table_are_mixed dc_Table_are_mixed pm_Table_are_mixed an_Table_are_mixed cd_Table_are_mixed ct_Table_are_mixed), sl_Table_are_mixed⟩)
    (ci_Table_are_mixed : PySem.W.codeIn K cd_Table_are_mixed "Table.are_mixed" = true)
    (k_Table_are_mixed : PySem.W.keepIn K (.ref f_Table_are_mixed) = true)
    (a_Table_mixed_with : PySem.W.findIn K (.ref C_Table) "mixed_with" = some (some (.ref f_Table_mixed_with)))
    (i_Table_mixed_with : PySem.W.isFn K (.ref f_Table_mixed_with) = true)
    (l_Table_mixed_with : K.lookup f_Table_mixed_with = some ⟨oc_Table_mixed_with, od_Table_mixed_with, .func (PySem.W.fnOf "mixed_with" "Table.mixed_with" (defArgs s_Table_mixed_with) (defBody s_Table_mixed_with) (defScope s_Table_mixed_with) .none kV_Table_mixed_with dc_Table_mixed_with pm_Table_mixed_with an_Table_mixed_with cd_Table_mixed_with ct_Table_mixed_with), sl_Table_mixed_with⟩)
    (ci_Table_mixed_with : PySem.W.codeIn K cd_Table_mixed_with "Table.mixed_with" = true)
    (k_Table_mixed_with : PySem.W.keepIn K (.ref f_Table_mixed_with) = true)
    (a_Table_xs_with : PySem.W.findIn K (.ref C_Table) "xs_with" = some (some (.ref f_Table_xs_with)))
    (i_Table_xs_with : PySem.W.isFn K (.ref f_Table_xs_with) = true)
    (l_Table_xs_with : K.lookup f_Table_xs_with = some ⟨oc_Table_xs_with, od_Table_xs_with, .func (PySem.W.fnOf "xs_with" "Table.xs_with" (defArgs s_Table_xs_with) (defBody s_Table_xs_with) (defScope s_Table_xs_with) .none kV_Table_xs_with dc_Table_xs_with pm_Table_xs_with an_Table_xs_with cd_Table_xs_with ct_Table_xs_with), sl_Table_xs_with⟩)
    (ci_Table_xs_with : PySem.W.codeIn K cd_Table_xs_with "Table.xs_with" = true)
    (k_Table_xs_with : PySem.W.keepIn K (.ref f_Table_xs_with) = true)
    (a_Table_ever_comes : PySem.W.findIn K (.ref C_Table) "ever_comes" = some (some (.ref f_Table_ever_comes)))
    (i_Table_ever_comes : PySem.W.isFn K (.ref f_Table_ever_comes) = true)
    (l_Table_ever_comes : K.lookup f_Table_ever_comes = some ⟨oc_Table_ever_comes, od_Table_ever_comes, .func (PySem.W.fnOf "ever_comes" "Table.ever_comes" (defArgs s_Table_ever_comes) (defBody s_Table_ever_comes) (defScope s_Table_ever_comes) .none kV_Table_ever_comes dc_Table_ever_comes pm_Table_ever_comes an_Table_ever_comes cd_Table_ever_comes ct_Table_ever_comes), sl_Table_ever_comes⟩)
    (ci_Table_ever_comes : PySem.W.codeIn K cd_Table_ever_comes "Table.ever_comes" = true)
    (k_Table_ever_comes : PySem.W.keepIn K (.ref f_Table_ever_comes) = true)
    (a_Table_row_by_row : PySem.W.findIn K (.ref C_Table) "row_by_row" = some (some (.ref f_Table_row_by_row)))
    (i_Table_row_by_row : PySem.W.isFn K (.ref f_Table_row_by_row) = true)
    (l_Table_row_by_row : K.lookup f_Table_row_by_row = some ⟨oc_Table_row_by_row, od_Table_row_by_row, .func (PySem.W.fnOf "row_by_row" "Table.row_by_row" (defArgs s_Table_row_by_row) (defBody s_Table_row_by_row) (defScope s_Table_row_by_row) .none kV_Table_row_by_row dc_Table_row_by_row pm_Table_row_by_row an_Table_row_by_row cd_Table_row_by_row ct_Table_row_by_row), sl_Table_row_by_row⟩)
    (ci_Table_row_by_row : PySem.W.codeIn K cd_Table_row_by_row "Table.row_by_row" = true)
    (k_Table_row_by_row : PySem.W.keepIn K (.ref f_Table_row_by_row) = true)
    (a_all_twos : PySem.W.nsIn K mainGlobals "all_twos" = some (some (.ref f_all_twos)))
    (l_all_twos : K.lookup f_all_twos = some ⟨oc_all_twos, od_all_twos, .func (PySem.W.fnOf "all_twos" "all_twos" (defArgs s_all_twos) (defBody s_all_twos) (defScope s_all_twos) .none kV_all_twos dc_all_twos pm_all_twos an_all_twos cd_all_twos ct_all_twos), sl_all_twos⟩)
    (ci_all_twos : PySem.W.codeIn K cd_all_twos "all_twos" = true)
    (k_all_twos : PySem.W.keepIn K (.ref f_all_twos) = true)
    (a_is_open_between : PySem.W.nsIn K mainGlobals "is_open_between" = some (some (.ref f_is_open_between)))
    (l_is_open_between : K.lookup f_is_open_between = some ⟨oc_is_open_between, od_is_open_between, .func (PySem.W.fnOf "is_open_between" "is_open_between" (defArgs s_is_open_between) (defBody s_is_open_between) (defScope s_is_open_between) .none kV_is_open_between dc_is_open_between pm_is_open_between an_is_open_between cd_is_open_between ct_is_open_between), sl_is_open_between⟩)
    (ci_is_open_between : PySem.W.codeIn K cd_is_open_between "is_open_between" = true)
    (k_is_open_between : PySem.W.keepIn K (.ref f_is_open_between) = true)
    (a_are_twos_mixed : PySem.W.nsIn K mainGlobals "are_twos_mixed" = some (some (.ref f_are_twos_mixed)))
    (l_are_twos_mixed : K.lookup f_are_twos_mixed = some ⟨oc_are_twos_mixed, od_are_twos_mixed, .func (PySem.W.fnOf "are_twos_mixed" "are_twos_mixed" (defArgs s_are_twos_mixed) (defBody s_are_twos_mixed) (defScope s_are_twos_mixed) .none kV_are_twos_mixed dc_are_twos_mixed pm_are_twos_mixed an_are_twos_mixed cd_are_twos_mixed ct_are_twos_mixed), sl_are_twos_mixed⟩)
    (ci_are_twos_mixed : PySem.W.codeIn K cd_are_twos_mixed "are_twos_mixed" = true)
    (k_are_twos_mixed : PySem.W.keepIn K (.ref f_are_twos_mixed) = true)
    (a_letters_of_mixed_ahead : PySem.W.nsIn K mainGlobals "letters_of_mixed_ahead" = some (some (.ref f_letters_of_mixed_ahead)))
    (l_letters_of_mixed_ahead : K.lookup f_letters_of_mixed_ahead = some ⟨oc_letters_of_mixed_ahead, od_letters_of_mixed_ahead, .func (PySem.W.fnOf "letters_of_mixed_ahead" "letters_of_mixed_ahead" (defArgs s_letters_of_mixed_ahead) (defBody s_letters_of_mixed_ahead) (defScope s_letters_of_mixed_ahead) .none kV_letters_of_mixed_ahead dc_letters_of_mixed_ahead pm_letters_of_mixed_ahead an_letters_of_mixed_ahead cd_letters_of_mixed_ahead ct_letters_of_mixed_ahead), sl_letters_of_mixed_ahead⟩)
    (ci_letters_of_mixed_ahead : PySem.W.codeIn K cd_letters_of_mixed_ahead "letters_of_mixed_ahead" = true)
    (k_letters_of_mixed_ahead : PySem.W.keepIn K (.ref f_letters_of_mixed_ahead) = true)
    (a_letters_do_for_two : PySem.W.nsIn K mainGlobals "letters_do_for_two" = some (some (.ref f_letters_do_for_two)))
    (l_letters_do_for_two : K.lookup f_letters_do_for_two = some ⟨oc_letters_do_for_two, od_letters_do_for_two, .func (PySem.W.fnOf "letters_do_for_two" "letters_do_for_two" (defArgs s_letters_do_for_two) (defBody s_letters_do_for_two) (defScope s_letters_do_for_two) .none kV_letters_do_for_two dc_letters_do_for_two pm_letters_do_for_two an_letters_do_for_two cd_letters_do_for_two ct_letters_do_for_two), sl_letters_do_for_two⟩)
    (ci_letters_do_for_two : PySem.W.codeIn K cd_letters_do_for_two "letters_do_for_two" = true)
    (k_letters_do_for_two : PySem.W.keepIn K (.ref f_letters_do_for_two) = true)
    (a_least_not_in : PySem.W.nsIn K mainGlobals "least_not_in" = some (some (.ref f_least_not_in)))
    (l_least_not_in : K.lookup f_least_not_in = some ⟨oc_least_not_in, od_least_not_in, .func (PySem.W.fnOf "least_not_in" "least_not_in" (defArgs s_least_not_in) (defBody s_least_not_in) (defScope s_least_not_in) .none kV_least_not_in dc_least_not_in pm_least_not_in an_least_not_in cd_least_not_in ct_least_not_in), sl_least_not_in⟩)
    (ci_least_not_in : PySem.W.codeIn K cd_least_not_in "least_not_in" = true)
    (k_least_not_in : PySem.W.keepIn K (.ref f_least_not_in) = true)
    (a_letters_two_by_two : PySem.W.nsIn K mainGlobals "letters_two_by_two" = some (some (.ref f_letters_two_by_two)))
    (l_letters_two_by_two : K.lookup f_letters_two_by_two = some ⟨oc_letters_two_by_two, od_letters_two_by_two, .func (PySem.W.fnOf "letters_two_by_two" "letters_two_by_two" (defArgs s_letters_two_by_two) (defBody s_letters_two_by_two) (defScope s_letters_two_by_two) .none kV_letters_two_by_two dc_letters_two_by_two pm_letters_two_by_two an_letters_two_by_two cd_letters_two_by_two ct_letters_two_by_two), sl_letters_two_by_two⟩)
    (ci_letters_two_by_two : PySem.W.codeIn K cd_letters_two_by_two "letters_two_by_two" = true)
    (k_letters_two_by_two : PySem.W.keepIn K (.ref f_letters_two_by_two) = true)
    (a_yes_or_no : PySem.W.nsIn K mainGlobals "yes_or_no" = some (some (.ref f_yes_or_no)))
    (l_yes_or_no : K.lookup f_yes_or_no = some ⟨oc_yes_or_no, od_yes_or_no, .func (PySem.W.fnOf "yes_or_no" "yes_or_no" (defArgs s_yes_or_no) (defBody s_yes_or_no) (defScope s_yes_or_no) .none kV_yes_or_no dc_yes_or_no pm_yes_or_no an_yes_or_no cd_yes_or_no ct_yes_or_no), sl_yes_or_no⟩)
    (ci_yes_or_no : PySem.W.codeIn K cd_yes_or_no "yes_or_no" = true)
    (k_yes_or_no : PySem.W.keepIn K (.ref f_yes_or_no) = true)
    (a_counted : PySem.W.nsIn K mainGlobals "counted" = some (some (.ref f_counted)))
    (l_counted : K.lookup f_counted = some ⟨oc_counted, od_counted, .func (PySem.W.fnOf "counted" "counted" (defArgs s_counted) (defBody s_counted) (defScope s_counted) .none kV_counted dc_counted pm_counted an_counted cd_counted ct_counted), sl_counted⟩)
    (ci_counted : PySem.W.codeIn K cd_counted "counted" = true)
    (k_counted : PySem.W.keepIn K (.ref f_counted) = true)
    (a_any_above : PySem.W.nsIn K mainGlobals "any_above" = some (some (.ref f_any_above)))
    (l_any_above : K.lookup f_any_above = some ⟨oc_any_above, od_any_above, .func (PySem.W.fnOf "any_above" "any_above" (defArgs s_any_above) (defBody s_any_above) (defScope s_any_above) .none kV_any_above dc_any_above pm_any_above an_any_above cd_any_above ct_any_above), sl_any_above⟩)
    (ci_any_above : PySem.W.codeIn K cd_any_above "any_above" = true)
    (k_any_above : PySem.W.keepIn K (.ref f_any_above) = true)
    (a_wrong_letters : PySem.W.nsIn K mainGlobals "wrong_letters" = some (some (.ref f_wrong_letters)))
    (l_wrong_letters : K.lookup f_wrong_letters = some ⟨oc_wrong_letters, od_wrong_letters, .func (PySem.W.fnOf "wrong_letters" "wrong_letters" (defArgs s_wrong_letters) (defBody s_wrong_letters) (defScope s_wrong_letters) .none kV_wrong_letters dc_wrong_letters pm_wrong_letters an_wrong_letters cd_wrong_letters ct_wrong_letters), sl_wrong_letters⟩)
    (ci_wrong_letters : PySem.W.codeIn K cd_wrong_letters "wrong_letters" = true)
    (k_wrong_letters : PySem.W.keepIn K (.ref f_wrong_letters) = true)
    (a_reply_set : PySem.W.nsIn K mainGlobals "reply_set" = some (some (.ref f_reply_set)))
    (l_reply_set : K.lookup f_reply_set = some ⟨oc_reply_set, od_reply_set, .func (PySem.W.fnOf "reply_set" "reply_set" (defArgs s_reply_set) (defBody s_reply_set) (defScope s_reply_set) .none kV_reply_set dc_reply_set pm_reply_set an_reply_set cd_reply_set ct_reply_set), sl_reply_set⟩)
    (ci_reply_set : PySem.W.codeIn K cd_reply_set "reply_set" = true)
    (k_reply_set : PySem.W.keepIn K (.ref f_reply_set) = true)
    (a_reply_row : PySem.W.nsIn K mainGlobals "reply_row" = some (some (.ref f_reply_row)))
    (l_reply_row : K.lookup f_reply_row = some ⟨oc_reply_row, od_reply_row, .func (PySem.W.fnOf "reply_row" "reply_row" (defArgs s_reply_row) (defBody s_reply_row) (defScope s_reply_row) .none kV_reply_row dc_reply_row pm_reply_row an_reply_row cd_reply_row ct_reply_row), sl_reply_row⟩)
    (ci_reply_row : PySem.W.codeIn K cd_reply_row "reply_row" = true)
    (k_reply_row : PySem.W.keepIn K (.ref f_reply_row) = true)
    (a_reply_forget : PySem.W.nsIn K mainGlobals "reply_forget" = some (some (.ref f_reply_forget)))
    (l_reply_forget : K.lookup f_reply_forget = some ⟨oc_reply_forget, od_reply_forget, .func (PySem.W.fnOf "reply_forget" "reply_forget" (defArgs s_reply_forget) (defBody s_reply_forget) (defScope s_reply_forget) .none kV_reply_forget dc_reply_forget pm_reply_forget an_reply_forget cd_reply_forget ct_reply_forget), sl_reply_forget⟩)
    (ci_reply_forget : PySem.W.codeIn K cd_reply_forget "reply_forget" = true)
    (k_reply_forget : PySem.W.keepIn K (.ref f_reply_forget) = true)
    (a_reply_may : PySem.W.nsIn K mainGlobals "reply_may" = some (some (.ref f_reply_may)))
    (l_reply_may : K.lookup f_reply_may = some ⟨oc_reply_may, od_reply_may, .func (PySem.W.fnOf "reply_may" "reply_may" (defArgs s_reply_may) (defBody s_reply_may) (defScope s_reply_may) .none kV_reply_may dc_reply_may pm_reply_may an_reply_may cd_reply_may ct_reply_may), sl_reply_may⟩)
    (ci_reply_may : PySem.W.codeIn K cd_reply_may "reply_may" = true)
    (k_reply_may : PySem.W.keepIn K (.ref f_reply_may) = true)
    (a_reply_mixed : PySem.W.nsIn K mainGlobals "reply_mixed" = some (some (.ref f_reply_mixed)))
    (l_reply_mixed : K.lookup f_reply_mixed = some ⟨oc_reply_mixed, od_reply_mixed, .func (PySem.W.fnOf "reply_mixed" "reply_mixed" (defArgs s_reply_mixed) (defBody s_reply_mixed) (defScope s_reply_mixed) .none kV_reply_mixed dc_reply_mixed pm_reply_mixed an_reply_mixed cd_reply_mixed ct_reply_mixed), sl_reply_mixed⟩)
    (ci_reply_mixed : PySem.W.codeIn K cd_reply_mixed "reply_mixed" = true)
    (k_reply_mixed : PySem.W.keepIn K (.ref f_reply_mixed) = true)
    (a_reply_mixed_with : PySem.W.nsIn K mainGlobals "reply_mixed_with" = some (some (.ref f_reply_mixed_with)))
    (l_reply_mixed_with : K.lookup f_reply_mixed_with = some ⟨oc_reply_mixed_with, od_reply_mixed_with, .func (PySem.W.fnOf "reply_mixed_with" "reply_mixed_with" (defArgs s_reply_mixed_with) (defBody s_reply_mixed_with) (defScope s_reply_mixed_with) .none kV_reply_mixed_with dc_reply_mixed_with pm_reply_mixed_with an_reply_mixed_with cd_reply_mixed_with ct_reply_mixed_with), sl_reply_mixed_with⟩)
    (ci_reply_mixed_with : PySem.W.codeIn K cd_reply_mixed_with "reply_mixed_with" = true)
    (k_reply_mixed_with : PySem.W.keepIn K (.ref f_reply_mixed_with) = true)
    (a_reply_good : PySem.W.nsIn K mainGlobals "reply_good" = some (some (.ref f_reply_good)))
    (l_reply_good : K.lookup f_reply_good = some ⟨oc_reply_good, od_reply_good, .func (PySem.W.fnOf "reply_good" "reply_good" (defArgs s_reply_good) (defBody s_reply_good) (defScope s_reply_good) .none kV_reply_good dc_reply_good pm_reply_good an_reply_good cd_reply_good ct_reply_good), sl_reply_good⟩)
    (ci_reply_good : PySem.W.codeIn K cd_reply_good "reply_good" = true)
    (k_reply_good : PySem.W.keepIn K (.ref f_reply_good) = true)
    (a_reply_clash : PySem.W.nsIn K mainGlobals "reply_clash" = some (some (.ref f_reply_clash)))
    (l_reply_clash : K.lookup f_reply_clash = some ⟨oc_reply_clash, od_reply_clash, .func (PySem.W.fnOf "reply_clash" "reply_clash" (defArgs s_reply_clash) (defBody s_reply_clash) (defScope s_reply_clash) .none kV_reply_clash dc_reply_clash pm_reply_clash an_reply_clash cd_reply_clash ct_reply_clash), sl_reply_clash⟩)
    (ci_reply_clash : PySem.W.codeIn K cd_reply_clash "reply_clash" = true)
    (k_reply_clash : PySem.W.keepIn K (.ref f_reply_clash) = true)
    (a_reply_fewest : PySem.W.nsIn K mainGlobals "reply_fewest" = some (some (.ref f_reply_fewest)))
    (l_reply_fewest : K.lookup f_reply_fewest = some ⟨oc_reply_fewest, od_reply_fewest, .func (PySem.W.fnOf "reply_fewest" "reply_fewest" (defArgs s_reply_fewest) (defBody s_reply_fewest) (defScope s_reply_fewest) .none kV_reply_fewest dc_reply_fewest pm_reply_fewest an_reply_fewest cd_reply_fewest ct_reply_fewest), sl_reply_fewest⟩)
    (ci_reply_fewest : PySem.W.codeIn K cd_reply_fewest "reply_fewest" = true)
    (k_reply_fewest : PySem.W.keepIn K (.ref f_reply_fewest) = true)
    (a_reply_best : PySem.W.nsIn K mainGlobals "reply_best" = some (some (.ref f_reply_best)))
    (l_reply_best : K.lookup f_reply_best = some ⟨oc_reply_best, od_reply_best, .func (PySem.W.fnOf "reply_best" "reply_best" (defArgs s_reply_best) (defBody s_reply_best) (defScope s_reply_best) .none kV_reply_best dc_reply_best pm_reply_best an_reply_best cd_reply_best ct_reply_best), sl_reply_best⟩)
    (ci_reply_best : PySem.W.codeIn K cd_reply_best "reply_best" = true)
    (k_reply_best : PySem.W.keepIn K (.ref f_reply_best) = true)
    (a_reply_ways : PySem.W.nsIn K mainGlobals "reply_ways" = some (some (.ref f_reply_ways)))
    (l_reply_ways : K.lookup f_reply_ways = some ⟨oc_reply_ways, od_reply_ways, .func (PySem.W.fnOf "reply_ways" "reply_ways" (defArgs s_reply_ways) (defBody s_reply_ways) (defScope s_reply_ways) .none kV_reply_ways dc_reply_ways pm_reply_ways an_reply_ways cd_reply_ways ct_reply_ways), sl_reply_ways⟩)
    (ci_reply_ways : PySem.W.codeIn K cd_reply_ways "reply_ways" = true)
    (k_reply_ways : PySem.W.keepIn K (.ref f_reply_ways) = true)
    (a_reply_crowd : PySem.W.nsIn K mainGlobals "reply_crowd" = some (some (.ref f_reply_crowd)))
    (l_reply_crowd : K.lookup f_reply_crowd = some ⟨oc_reply_crowd, od_reply_crowd, .func (PySem.W.fnOf "reply_crowd" "reply_crowd" (defArgs s_reply_crowd) (defBody s_reply_crowd) (defScope s_reply_crowd) .none kV_reply_crowd dc_reply_crowd pm_reply_crowd an_reply_crowd cd_reply_crowd ct_reply_crowd), sl_reply_crowd⟩)
    (ci_reply_crowd : PySem.W.codeIn K cd_reply_crowd "reply_crowd" = true)
    (k_reply_crowd : PySem.W.keepIn K (.ref f_reply_crowd) = true)
    (a_reply_why : PySem.W.nsIn K mainGlobals "reply_why" = some (some (.ref f_reply_why)))
    (l_reply_why : K.lookup f_reply_why = some ⟨oc_reply_why, od_reply_why, .func (PySem.W.fnOf "reply_why" "reply_why" (defArgs s_reply_why) (defBody s_reply_why) (defScope s_reply_why) .none kV_reply_why dc_reply_why pm_reply_why an_reply_why cd_reply_why ct_reply_why), sl_reply_why⟩)
    (ci_reply_why : PySem.W.codeIn K cd_reply_why "reply_why" = true)
    (k_reply_why : PySem.W.keepIn K (.ref f_reply_why) = true)
    (a_reply_apart : PySem.W.nsIn K mainGlobals "reply_apart" = some (some (.ref f_reply_apart)))
    (l_reply_apart : K.lookup f_reply_apart = some ⟨oc_reply_apart, od_reply_apart, .func (PySem.W.fnOf "reply_apart" "reply_apart" (defArgs s_reply_apart) (defBody s_reply_apart) (defScope s_reply_apart) .none kV_reply_apart dc_reply_apart pm_reply_apart an_reply_apart cd_reply_apart ct_reply_apart), sl_reply_apart⟩)
    (ci_reply_apart : PySem.W.codeIn K cd_reply_apart "reply_apart" = true)
    (k_reply_apart : PySem.W.keepIn K (.ref f_reply_apart) = true)
    (a_reply_told : PySem.W.nsIn K mainGlobals "reply_told" = some (some (.ref f_reply_told)))
    (l_reply_told : K.lookup f_reply_told = some ⟨oc_reply_told, od_reply_told, .func (PySem.W.fnOf "reply_told" "reply_told" (defArgs s_reply_told) (defBody s_reply_told) (defScope s_reply_told) .none kV_reply_told dc_reply_told pm_reply_told an_reply_told cd_reply_told ct_reply_told), sl_reply_told⟩)
    (ci_reply_told : PySem.W.codeIn K cd_reply_told "reply_told" = true)
    (k_reply_told : PySem.W.keepIn K (.ref f_reply_told) = true)
    (a_reply_sure : PySem.W.nsIn K mainGlobals "reply_sure" = some (some (.ref f_reply_sure)))
    (l_reply_sure : K.lookup f_reply_sure = some ⟨oc_reply_sure, od_reply_sure, .func (PySem.W.fnOf "reply_sure" "reply_sure" (defArgs s_reply_sure) (defBody s_reply_sure) (defScope s_reply_sure) .none kV_reply_sure dc_reply_sure pm_reply_sure an_reply_sure cd_reply_sure ct_reply_sure), sl_reply_sure⟩)
    (ci_reply_sure : PySem.W.codeIn K cd_reply_sure "reply_sure" = true)
    (k_reply_sure : PySem.W.keepIn K (.ref f_reply_sure) = true)
    (a_reply_good_two : PySem.W.nsIn K mainGlobals "reply_good_two" = some (some (.ref f_reply_good_two)))
    (l_reply_good_two : K.lookup f_reply_good_two = some ⟨oc_reply_good_two, od_reply_good_two, .func (PySem.W.fnOf "reply_good_two" "reply_good_two" (defArgs s_reply_good_two) (defBody s_reply_good_two) (defScope s_reply_good_two) .none kV_reply_good_two dc_reply_good_two pm_reply_good_two an_reply_good_two cd_reply_good_two ct_reply_good_two), sl_reply_good_two⟩)
    (ci_reply_good_two : PySem.W.codeIn K cd_reply_good_two "reply_good_two" = true)
    (k_reply_good_two : PySem.W.keepIn K (.ref f_reply_good_two) = true)
    (a_reply_greedy_two : PySem.W.nsIn K mainGlobals "reply_greedy_two" = some (some (.ref f_reply_greedy_two)))
    (l_reply_greedy_two : K.lookup f_reply_greedy_two = some ⟨oc_reply_greedy_two, od_reply_greedy_two, .func (PySem.W.fnOf "reply_greedy_two" "reply_greedy_two" (defArgs s_reply_greedy_two) (defBody s_reply_greedy_two) (defScope s_reply_greedy_two) .none kV_reply_greedy_two dc_reply_greedy_two pm_reply_greedy_two an_reply_greedy_two cd_reply_greedy_two ct_reply_greedy_two), sl_reply_greedy_two⟩)
    (ci_reply_greedy_two : PySem.W.codeIn K cd_reply_greedy_two "reply_greedy_two" = true)
    (k_reply_greedy_two : PySem.W.keepIn K (.ref f_reply_greedy_two) = true)
    (a_reply_mixed_two : PySem.W.nsIn K mainGlobals "reply_mixed_two" = some (some (.ref f_reply_mixed_two)))
    (l_reply_mixed_two : K.lookup f_reply_mixed_two = some ⟨oc_reply_mixed_two, od_reply_mixed_two, .func (PySem.W.fnOf "reply_mixed_two" "reply_mixed_two" (defArgs s_reply_mixed_two) (defBody s_reply_mixed_two) (defScope s_reply_mixed_two) .none kV_reply_mixed_two dc_reply_mixed_two pm_reply_mixed_two an_reply_mixed_two cd_reply_mixed_two ct_reply_mixed_two), sl_reply_mixed_two⟩)
    (ci_reply_mixed_two : PySem.W.codeIn K cd_reply_mixed_two "reply_mixed_two" = true)
    (k_reply_mixed_two : PySem.W.keepIn K (.ref f_reply_mixed_two) = true)
    (a_reply_often : PySem.W.nsIn K mainGlobals "reply_often" = some (some (.ref f_reply_often)))
    (l_reply_often : K.lookup f_reply_often = some ⟨oc_reply_often, od_reply_often, .func (PySem.W.fnOf "reply_often" "reply_often" (defArgs s_reply_often) (defBody s_reply_often) (defScope s_reply_often) .none kV_reply_often dc_reply_often pm_reply_often an_reply_often cd_reply_often ct_reply_often), sl_reply_often⟩)
    (ci_reply_often : PySem.W.codeIn K cd_reply_often "reply_often" = true)
    (k_reply_often : PySem.W.keepIn K (.ref f_reply_often) = true)
    (a_reply_likeliest : PySem.W.nsIn K mainGlobals "reply_likeliest" = some (some (.ref f_reply_likeliest)))
    (l_reply_likeliest : K.lookup f_reply_likeliest = some ⟨oc_reply_likeliest, od_reply_likeliest, .func (PySem.W.fnOf "reply_likeliest" "reply_likeliest" (defArgs s_reply_likeliest) (defBody s_reply_likeliest) (defScope s_reply_likeliest) .none kV_reply_likeliest dc_reply_likeliest pm_reply_likeliest an_reply_likeliest cd_reply_likeliest ct_reply_likeliest), sl_reply_likeliest⟩)
    (ci_reply_likeliest : PySem.W.codeIn K cd_reply_likeliest "reply_likeliest" = true)
    (k_reply_likeliest : PySem.W.keepIn K (.ref f_reply_likeliest) = true)
    (a_reply_all_told : PySem.W.nsIn K mainGlobals "reply_all_told" = some (some (.ref f_reply_all_told)))
    (l_reply_all_told : K.lookup f_reply_all_told = some ⟨oc_reply_all_told, od_reply_all_told, .func (PySem.W.fnOf "reply_all_told" "reply_all_told" (defArgs s_reply_all_told) (defBody s_reply_all_told) (defScope s_reply_all_told) .none kV_reply_all_told dc_reply_all_told pm_reply_all_told an_reply_all_told cd_reply_all_told ct_reply_all_told), sl_reply_all_told⟩)
    (ci_reply_all_told : PySem.W.codeIn K cd_reply_all_told "reply_all_told" = true)
    (k_reply_all_told : PySem.W.keepIn K (.ref f_reply_all_told) = true)
    (a_answer_change : PySem.W.nsIn K mainGlobals "answer_change" = some (some (.ref f_answer_change)))
    (l_answer_change : K.lookup f_answer_change = some ⟨oc_answer_change, od_answer_change, .func (PySem.W.fnOf "answer_change" "answer_change" (defArgs s_answer_change) (defBody s_answer_change) (defScope s_answer_change) .none kV_answer_change dc_answer_change pm_answer_change an_answer_change cd_answer_change ct_answer_change), sl_answer_change⟩)
    (ci_answer_change : PySem.W.codeIn K cd_answer_change "answer_change" = true)
    (k_answer_change : PySem.W.keepIn K (.ref f_answer_change) = true)
    (a_answer_mixed : PySem.W.nsIn K mainGlobals "answer_mixed" = some (some (.ref f_answer_mixed)))
    (l_answer_mixed : K.lookup f_answer_mixed = some ⟨oc_answer_mixed, od_answer_mixed, .func (PySem.W.fnOf "answer_mixed" "answer_mixed" (defArgs s_answer_mixed) (defBody s_answer_mixed) (defScope s_answer_mixed) .none kV_answer_mixed dc_answer_mixed pm_answer_mixed an_answer_mixed cd_answer_mixed ct_answer_mixed), sl_answer_mixed⟩)
    (ci_answer_mixed : PySem.W.codeIn K cd_answer_mixed "answer_mixed" = true)
    (k_answer_mixed : PySem.W.keepIn K (.ref f_answer_mixed) = true)
    (a_answer_letters : PySem.W.nsIn K mainGlobals "answer_letters" = some (some (.ref f_answer_letters)))
    (l_answer_letters : K.lookup f_answer_letters = some ⟨oc_answer_letters, od_answer_letters, .func (PySem.W.fnOf "answer_letters" "answer_letters" (defArgs s_answer_letters) (defBody s_answer_letters) (defScope s_answer_letters) .none kV_answer_letters dc_answer_letters pm_answer_letters an_answer_letters cd_answer_letters ct_answer_letters), sl_answer_letters⟩)
    (ci_answer_letters : PySem.W.codeIn K cd_answer_letters "answer_letters" = true)
    (k_answer_letters : PySem.W.keepIn K (.ref f_answer_letters) = true)
    (a_answer_sets : PySem.W.nsIn K mainGlobals "answer_sets" = some (some (.ref f_answer_sets)))
    (l_answer_sets : K.lookup f_answer_sets = some ⟨oc_answer_sets, od_answer_sets, .func (PySem.W.fnOf "answer_sets" "answer_sets" (defArgs s_answer_sets) (defBody s_answer_sets) (defScope s_answer_sets) .none kV_answer_sets dc_answer_sets pm_answer_sets an_answer_sets cd_answer_sets ct_answer_sets), sl_answer_sets⟩)
    (ci_answer_sets : PySem.W.codeIn K cd_answer_sets "answer_sets" = true)
    (k_answer_sets : PySem.W.keepIn K (.ref f_answer_sets) = true)
    (a_answer_twos : PySem.W.nsIn K mainGlobals "answer_twos" = some (some (.ref f_answer_twos)))
    (l_answer_twos : K.lookup f_answer_twos = some ⟨oc_answer_twos, od_answer_twos, .func (PySem.W.fnOf "answer_twos" "answer_twos" (defArgs s_answer_twos) (defBody s_answer_twos) (defScope s_answer_twos) .none kV_answer_twos dc_answer_twos pm_answer_twos an_answer_twos cd_answer_twos ct_answer_twos), sl_answer_twos⟩)
    (ci_answer_twos : PySem.W.codeIn K cd_answer_twos "answer_twos" = true)
    (k_answer_twos : PySem.W.keepIn K (.ref f_answer_twos) = true)
    (a_answer_right : PySem.W.nsIn K mainGlobals "answer_right" = some (some (.ref f_answer_right)))
    (l_answer_right : K.lookup f_answer_right = some ⟨oc_answer_right, od_answer_right, .func (PySem.W.fnOf "answer_right" "answer_right" (defArgs s_answer_right) (defBody s_answer_right) (defScope s_answer_right) .none kV_answer_right dc_answer_right pm_answer_right an_answer_right cd_answer_right ct_answer_right), sl_answer_right⟩)
    (ci_answer_right : PySem.W.codeIn K cd_answer_right "answer_right" = true)
    (k_answer_right : PySem.W.keepIn K (.ref f_answer_right) = true)
    (a_answer_begun : PySem.W.nsIn K mainGlobals "answer_begun" = some (some (.ref f_answer_begun)))
    (l_answer_begun : K.lookup f_answer_begun = some ⟨oc_answer_begun, od_answer_begun, .func (PySem.W.fnOf "answer_begun" "answer_begun" (defArgs s_answer_begun) (defBody s_answer_begun) (defScope s_answer_begun) .none kV_answer_begun dc_answer_begun pm_answer_begun an_answer_begun cd_answer_begun ct_answer_begun), sl_answer_begun⟩)
    (ci_answer_begun : PySem.W.codeIn K cd_answer_begun "answer_begun" = true)
    (k_answer_begun : PySem.W.keepIn K (.ref f_answer_begun) = true)
    (a_Line_init : PySem.W.findIn K (.ref C_Line) "__init__" = some (some (.ref f_Line_init)))
    (i_Line_init : PySem.W.isFn K (.ref f_Line_init) = true)
    (l_Line_init : K.lookup f_Line_init = some ⟨oc_Line_init, od_Line_init, .func (PySem.W.fnOf "__init__" "Line.__init__" (defArgs s_Line_init) (defBody s_Line_init) (defScope s_Line_init) .none kV_Line_init dc_Line_init pm_Line_init an_Line_init cd_Line_init ct_Line_init), sl_Line_init⟩)
    (ci_Line_init : PySem.W.codeIn K cd_Line_init "Line.__init__" = true)
    (k_Line_init : PySem.W.keepIn K (.ref f_Line_init) = true)
    (a_Line_begin : PySem.W.findIn K (.ref C_Line) "begin" = some (some (.ref f_Line_begin)))
    (i_Line_begin : PySem.W.isFn K (.ref f_Line_begin) = true)
    (l_Line_begin : K.lookup f_Line_begin = some ⟨oc_Line_begin, od_Line_begin, .func (PySem.W.fnOf "begin" "Line.begin" (defArgs s_Line_begin) (defBody s_Line_begin) (defScope s_Line_begin) .none kV_Line_begin dc_Line_begin pm_Line_begin an_Line_begin cd_Line_begin ct_Line_begin), sl_Line_begin⟩)
    (ci_Line_begin : PySem.W.codeIn K cd_Line_begin "Line.begin" = true)
    (k_Line_begin : PySem.W.keepIn K (.ref f_Line_begin) = true)
    (a_Line_answer : PySem.W.findIn K (.ref C_Line) "answer" = some (some (.ref f_Line_answer)))
    (i_Line_answer : PySem.W.isFn K (.ref f_Line_answer) = true)
    (l_Line_answer : K.lookup f_Line_answer = some ⟨oc_Line_answer, od_Line_answer, .func (PySem.W.fnOf "answer" "Line.answer" (defArgs s_Line_answer) (defBody s_Line_answer) (defScope s_Line_answer) .none kV_Line_answer dc_Line_answer pm_Line_answer an_Line_answer cd_Line_answer ct_Line_answer), sl_Line_answer⟩)
    (ci_Line_answer : PySem.W.codeIn K cd_Line_answer "Line.answer" = true)
    (k_Line_answer : PySem.W.keepIn K (.ref f_Line_answer) = true)
    (a_answers : PySem.W.nsIn K mainGlobals "answers" = some (some (.ref f_answers)))
    (l_answers : K.lookup f_answers = some ⟨oc_answers, od_answers, .func (PySem.W.fnOf "answers" "answers" (defArgs s_answers) (defBody s_answers) (defScope s_answers) .none kV_answers dc_answers pm_answers an_answers cd_answers ct_answers), sl_answers⟩)
    (ci_answers : PySem.W.codeIn K cd_answers "answers" = true)
    (k_answers : PySem.W.keepIn K (.ref f_answers) = true)
    (v_BEGIN : PySem.W.nsIn K mainGlobals "BEGIN" = some (some (.int 0 tk_BEGIN)))
    (v_SET_OFTEN : PySem.W.nsIn K mainGlobals "SET_OFTEN" = some (some (.int 1 tk_SET_OFTEN)))
    (v_ROW : PySem.W.nsIn K mainGlobals "ROW" = some (some (.int 2 tk_ROW)))
    (v_FORGET : PySem.W.nsIn K mainGlobals "FORGET" = some (some (.int 3 tk_FORGET)))
    (v_MAY : PySem.W.nsIn K mainGlobals "MAY" = some (some (.int 4 tk_MAY)))
    (v_MIXED : PySem.W.nsIn K mainGlobals "MIXED" = some (some (.int 5 tk_MIXED)))
    (v_MIXED_WITH : PySem.W.nsIn K mainGlobals "MIXED_WITH" = some (some (.int 6 tk_MIXED_WITH)))
    (v_GOOD : PySem.W.nsIn K mainGlobals "GOOD" = some (some (.int 7 tk_GOOD)))
    (v_CLASH : PySem.W.nsIn K mainGlobals "CLASH" = some (some (.int 8 tk_CLASH)))
    (v_FEWEST : PySem.W.nsIn K mainGlobals "FEWEST" = some (some (.int 9 tk_FEWEST)))
    (v_BEST : PySem.W.nsIn K mainGlobals "BEST" = some (some (.int 10 tk_BEST)))
    (v_WAYS : PySem.W.nsIn K mainGlobals "WAYS" = some (some (.int 11 tk_WAYS)))
    (v_CROWD : PySem.W.nsIn K mainGlobals "CROWD" = some (some (.int 12 tk_CROWD)))
    (v_WHY : PySem.W.nsIn K mainGlobals "WHY" = some (some (.int 13 tk_WHY)))
    (v_APART : PySem.W.nsIn K mainGlobals "APART" = some (some (.int 14 tk_APART)))
    (v_TOLD : PySem.W.nsIn K mainGlobals "TOLD" = some (some (.int 15 tk_TOLD)))
    (v_SURE : PySem.W.nsIn K mainGlobals "SURE" = some (some (.int 16 tk_SURE)))
    (v_GOOD_TWO : PySem.W.nsIn K mainGlobals "GOOD_TWO" = some (some (.int 17 tk_GOOD_TWO)))
    (v_GREEDY_TWO : PySem.W.nsIn K mainGlobals "GREEDY_TWO" = some (some (.int 18 tk_GREEDY_TWO)))
    (v_MIXED_TWO : PySem.W.nsIn K mainGlobals "MIXED_TWO" = some (some (.int 19 tk_MIXED_TWO)))
    (v_OFTEN : PySem.W.nsIn K mainGlobals "OFTEN" = some (some (.int 20 tk_OFTEN)))
    (v_LIKELIEST : PySem.W.nsIn K mainGlobals "LIKELIEST" = some (some (.int 21 tk_LIKELIEST)))
    (v_NO_SUCH : PySem.W.nsIn K mainGlobals "NO_SUCH" = some (some (.int (-2) tk_NO_SUCH)))
    (v_ONE_ALONE : PySem.W.nsIn K mainGlobals "ONE_ALONE" = some (some (.int (-6) tk_ONE_ALONE)))
    (v_WRONG : PySem.W.nsIn K mainGlobals "WRONG" = some (some (.int (-22) tk_WRONG)))
    (v_THEY_DO : PySem.W.nsIn K mainGlobals "THEY_DO" = some (some (.int (-33) tk_THEY_DO)))
    (v_NOT_BEGUN : PySem.W.nsIn K mainGlobals "NOT_BEGUN" = some (some (.int (-61) tk_NOT_BEGUN)))
    (v_MOST_THINGS : PySem.W.nsIn K mainGlobals "MOST_THINGS" = some (some (.int 5 tk_MOST_THINGS)))
    (v_MOST_OFTEN : PySem.W.nsIn K mainGlobals "MOST_OFTEN" = some (some (.int 9 tk_MOST_OFTEN)))
    (g_SHAPES : PySem.W.nsIn K mainGlobals "SHAPES" = some (some (.ref o_SHAPES)))
    (l_SHAPES : K.lookup o_SHAPES = some ⟨.type "tuple", none, .seq #[.ref r_SHAPES_0, .ref r_SHAPES_1, .ref r_SHAPES_2, .ref r_SHAPES_3, .ref r_SHAPES_4, .ref r_SHAPES_5, .ref r_SHAPES_6, .ref r_SHAPES_7, .ref r_SHAPES_8, .ref r_SHAPES_9, .ref r_SHAPES_10, .ref r_SHAPES_11, .ref r_SHAPES_12, .ref r_SHAPES_13, .ref r_SHAPES_14, .ref r_SHAPES_15, .ref r_SHAPES_16, .ref r_SHAPES_17, .ref r_SHAPES_18, .ref r_SHAPES_19, .ref r_SHAPES_20, .ref r_SHAPES_21, .ref r_SHAPES_22] n_SHAPES, sl_SHAPES⟩)
    (l_SHAPES_0 : K.lookup r_SHAPES_0 = some ⟨.type "tuple", none, .seq #[.int 2 tk_SHAPES_0, .bool false] n_SHAPES_0, sl_SHAPES_0⟩)
    (l_SHAPES_1 : K.lookup r_SHAPES_1 = some ⟨.type "tuple", none, .seq #[.int 3 tk_SHAPES_1, .bool false] n_SHAPES_1, sl_SHAPES_1⟩)
    (l_SHAPES_2 : K.lookup r_SHAPES_2 = some ⟨.type "tuple", none, .seq #[.int 1 tk_SHAPES_2, .bool true] n_SHAPES_2, sl_SHAPES_2⟩)
    (l_SHAPES_3 : K.lookup r_SHAPES_3 = some ⟨.type "tuple", none, .seq #[.int 1 tk_SHAPES_3, .bool false] n_SHAPES_3, sl_SHAPES_3⟩)
    (l_SHAPES_4 : K.lookup r_SHAPES_4 = some ⟨.type "tuple", none, .seq #[.int 2 tk_SHAPES_4, .bool false] n_SHAPES_4, sl_SHAPES_4⟩)
    (l_SHAPES_5 : K.lookup r_SHAPES_5 = some ⟨.type "tuple", none, .seq #[.int 2 tk_SHAPES_5, .bool false] n_SHAPES_5, sl_SHAPES_5⟩)
    (l_SHAPES_6 : K.lookup r_SHAPES_6 = some ⟨.type "tuple", none, .seq #[.int 1 tk_SHAPES_6, .bool false] n_SHAPES_6, sl_SHAPES_6⟩)
    (l_SHAPES_7 : K.lookup r_SHAPES_7 = some ⟨.type "tuple", none, .seq #[.int 0 tk_SHAPES_7, .bool true] n_SHAPES_7, sl_SHAPES_7⟩)
    (l_SHAPES_8 : K.lookup r_SHAPES_8 = some ⟨.type "tuple", none, .seq #[.int 0 tk_SHAPES_8, .bool true] n_SHAPES_8, sl_SHAPES_8⟩)
    (l_SHAPES_9 : K.lookup r_SHAPES_9 = some ⟨.type "tuple", none, .seq #[.int 0 tk_SHAPES_9, .bool false] n_SHAPES_9, sl_SHAPES_9⟩)
    (l_SHAPES_10 : K.lookup r_SHAPES_10 = some ⟨.type "tuple", none, .seq #[.int 0 tk_SHAPES_10, .bool false] n_SHAPES_10, sl_SHAPES_10⟩)
    (l_SHAPES_11 : K.lookup r_SHAPES_11 = some ⟨.type "tuple", none, .seq #[.int 1 tk_SHAPES_11, .bool false] n_SHAPES_11, sl_SHAPES_11⟩)
    (l_SHAPES_12 : K.lookup r_SHAPES_12 = some ⟨.type "tuple", none, .seq #[.int 0 tk_SHAPES_12, .bool false] n_SHAPES_12, sl_SHAPES_12⟩)
    (l_SHAPES_13 : K.lookup r_SHAPES_13 = some ⟨.type "tuple", none, .seq #[.int 0 tk_SHAPES_13, .bool false] n_SHAPES_13, sl_SHAPES_13⟩)
    (l_SHAPES_14 : K.lookup r_SHAPES_14 = some ⟨.type "tuple", none, .seq #[.int 0 tk_SHAPES_14, .bool false] n_SHAPES_14, sl_SHAPES_14⟩)
    (l_SHAPES_15 : K.lookup r_SHAPES_15 = some ⟨.type "tuple", none, .seq #[.int 2 tk_SHAPES_15, .bool true] n_SHAPES_15, sl_SHAPES_15⟩)
    (l_SHAPES_16 : K.lookup r_SHAPES_16 = some ⟨.type "tuple", none, .seq #[.int 1 tk_SHAPES_16, .bool false] n_SHAPES_16, sl_SHAPES_16⟩)
    (l_SHAPES_17 : K.lookup r_SHAPES_17 = some ⟨.type "tuple", none, .seq #[.int 0 tk_SHAPES_17, .bool true] n_SHAPES_17, sl_SHAPES_17⟩)
    (l_SHAPES_18 : K.lookup r_SHAPES_18 = some ⟨.type "tuple", none, .seq #[.int 0 tk_SHAPES_18, .bool false] n_SHAPES_18, sl_SHAPES_18⟩)
    (l_SHAPES_19 : K.lookup r_SHAPES_19 = some ⟨.type "tuple", none, .seq #[.int 4 tk_SHAPES_19, .bool false] n_SHAPES_19, sl_SHAPES_19⟩)
    (l_SHAPES_20 : K.lookup r_SHAPES_20 = some ⟨.type "tuple", none, .seq #[.int 0 tk_SHAPES_20, .bool true] n_SHAPES_20, sl_SHAPES_20⟩)
    (l_SHAPES_21 : K.lookup r_SHAPES_21 = some ⟨.type "tuple", none, .seq #[.int 1 tk_SHAPES_21, .bool false] n_SHAPES_21, sl_SHAPES_21⟩)
    (l_SHAPES_22 : K.lookup r_SHAPES_22 = some ⟨.type "tuple", none, .seq #[.int 0 tk_SHAPES_22, .bool false] n_SHAPES_22, sl_SHAPES_22⟩)
    (u_all : PySem.W.nsIn K mainGlobals "all" = some none)
    (u_any : PySem.W.nsIn K mainGlobals "any" = some none)
    (u_len : PySem.W.nsIn K mainGlobals "len" = some none)
    (u_list : PySem.W.nsIn K mainGlobals "list" = some none)
    (u_max : PySem.W.nsIn K mainGlobals "max" = some none)
    (u_min : PySem.W.nsIn K mainGlobals "min" = some none)
    (u_range : PySem.W.nsIn K mainGlobals "range" = some none)
    (u_sum : PySem.W.nsIn K mainGlobals "sum" = some none)
    : ∃ (fd : FuncData) (ad : Ad), h.get? ad.P_likeliest_row = some { cls := .none, data := .fields #[] } ∧ K.lookup ad.P_likeliest_row = none ∧ PySem.W.CodeHd h ad.c_likeliest_row ad.P_likeliest_row ∧ (∀ (s : Shared) (us : List Value), us.length = (["calls"] : List Str).length → BindsTo s fd ⟨us, []⟩ ((["calls"] : List Str).zip us)) ∧ ∀ base : Heap, K.In base → base.Ns mainGlobals mg → LamX.TabB base mg ad.c_likeliest_row ad.P_likeliest_row → FnOk P w K mg base CX0 13 fa fd ["calls"] (sp_answers ad K) := by
  have e := hfa.symm.trans (PySem.W.mg_of X G a_answers)
  cases e
  have T : Txt K mg ⟨f_Call_init, f_read_calls, f_all_groups, f_mixed_within, f_is_all_mixed, f_is_none_mixed, f_greatest_all_mixed, f_greatest_none_mixed, f_first_clash, f_letters_do, f_letter_count, f_longer_rows, f_all_numbered_rows, f_rows_that_do, f_best_row, f_ways_with, f_right_with_y, f_how_often_right, f_likeliest_row, f_Table_init, f_Table_has_x, f_Table_has_y, f_Table_put, f_Table_put_row, f_Table_drop_y, f_Table_comes, f_Table_ys_with_both, f_Table_are_mixed, f_Table_mixed_with, f_Table_xs_with, f_Table_ever_comes, f_Table_row_by_row, f_all_twos, f_is_open_between, f_are_twos_mixed, f_letters_of_mixed_ahead, f_letters_do_for_two, f_least_not_in, f_letters_two_by_two, f_yes_or_no, f_counted, f_any_above, f_wrong_letters, f_reply_set, f_reply_row, f_reply_forget, f_reply_may, f_reply_mixed, f_reply_mixed_with, f_reply_good, f_reply_clash, f_reply_fewest, f_reply_best, f_reply_ways, f_reply_crowd, f_reply_why, f_reply_apart, f_reply_told, f_reply_sure, f_reply_good_two, f_reply_greedy_two, f_reply_mixed_two, f_reply_often, f_reply_likeliest, f_reply_all_told, f_answer_change, f_answer_mixed, f_answer_letters, f_answer_sets, f_answer_twos, f_answer_right, f_answer_begun, f_Line_init, f_Line_begin, f_Line_answer, fa, C_Call, C_Table, C_Line, o_SHAPES, P_likeliest_row, c_likeliest_row⟩ := {
    F_Call_init := ⟨_, fun_mk (st := s_Call_init) l_Call_init ci_Call_init k_Call_init⟩,
    g_read_calls := PySem.W.mg_of X G a_read_calls,
    F_read_calls := ⟨_, fun_mk (st := s_read_calls) l_read_calls ci_read_calls k_read_calls⟩,
    g_all_groups := PySem.W.mg_of X G a_all_groups,
    F_all_groups := ⟨_, fun_mk (st := s_all_groups) l_all_groups ci_all_groups k_all_groups⟩,
    g_mixed_within := PySem.W.mg_of X G a_mixed_within,
    F_mixed_within := ⟨_, fun_mk (st := s_mixed_within) l_mixed_within ci_mixed_within k_mixed_within⟩,
    g_is_all_mixed := PySem.W.mg_of X G a_is_all_mixed,
    F_is_all_mixed := ⟨_, fun_mk (st := s_is_all_mixed) l_is_all_mixed ci_is_all_mixed k_is_all_mixed⟩,
    g_is_none_mixed := PySem.W.mg_of X G a_is_none_mixed,
    F_is_none_mixed := ⟨_, fun_mk (st := s_is_none_mixed) l_is_none_mixed ci_is_none_mixed k_is_none_mixed⟩,
    g_greatest_all_mixed := PySem.W.mg_of X G a_greatest_all_mixed,
    F_greatest_all_mixed := ⟨_, fun_mk (st := s_greatest_all_mixed) l_greatest_all_mixed ci_greatest_all_mixed k_greatest_all_mixed⟩,
    g_greatest_none_mixed := PySem.W.mg_of X G a_greatest_none_mixed,
    F_greatest_none_mixed := ⟨_, fun_mk (st := s_greatest_none_mixed) l_greatest_none_mixed ci_greatest_none_mixed k_greatest_none_mixed⟩,
    g_first_clash := PySem.W.mg_of X G a_first_clash,
    F_first_clash := ⟨_, fun_mk (st := s_first_clash) l_first_clash ci_first_clash k_first_clash⟩,
    g_letters_do := PySem.W.mg_of X G a_letters_do,
    F_letters_do := ⟨_, fun_mk (st := s_letters_do) l_letters_do ci_letters_do k_letters_do⟩,
    g_letter_count := PySem.W.mg_of X G a_letter_count,
    F_letter_count := ⟨_, fun_mk (st := s_letter_count) l_letter_count ci_letter_count k_letter_count⟩,
    g_longer_rows := PySem.W.mg_of X G a_longer_rows,
    F_longer_rows := ⟨_, fun_mk (st := s_longer_rows) l_longer_rows ci_longer_rows k_longer_rows⟩,
    g_all_numbered_rows := PySem.W.mg_of X G a_all_numbered_rows,
    F_all_numbered_rows := ⟨_, fun_mk (st := s_all_numbered_rows) l_all_numbered_rows ci_all_numbered_rows k_all_numbered_rows⟩,
    g_rows_that_do := PySem.W.mg_of X G a_rows_that_do,
    F_rows_that_do := ⟨_, fun_mk (st := s_rows_that_do) l_rows_that_do ci_rows_that_do k_rows_that_do⟩,
    g_best_row := PySem.W.mg_of X G a_best_row,
    F_best_row := ⟨_, fun_mk (st := s_best_row) l_best_row ci_best_row k_best_row⟩,
    g_ways_with := PySem.W.mg_of X G a_ways_with,
    F_ways_with := ⟨_, fun_mk (st := s_ways_with) l_ways_with ci_ways_with k_ways_with⟩,
    g_right_with_y := PySem.W.mg_of X G a_right_with_y,
    F_right_with_y := ⟨_, fun_mk (st := s_right_with_y) l_right_with_y ci_right_with_y k_right_with_y⟩,
    g_how_often_right := PySem.W.mg_of X G a_how_often_right,
    F_how_often_right := ⟨_, fun_mk (st := s_how_often_right) l_how_often_right ci_how_often_right k_how_often_right⟩,
    g_likeliest_row := PySem.W.mg_of X G a_likeliest_row,
    F_likeliest_row := ⟨_, ⟨_, _, _, _, _, _, _, _, rfl, l_likeliest_row, ci_likeliest_row⟩, k_likeliest_row⟩,
    F_Table_init := ⟨_, fun_mk (st := s_Table_init) l_Table_init ci_Table_init k_Table_init⟩,
    m_Table_has_x := ⟨a_Table_has_x, i_Table_has_x⟩,
    F_Table_has_x := ⟨_, fun_mk (st := s_Table_has_x) l_Table_has_x ci_Table_has_x k_Table_has_x⟩,
    m_Table_has_y := ⟨a_Table_has_y, i_Table_has_y⟩,
    F_Table_has_y := ⟨_, fun_mk (st := s_Table_has_y) l_Table_has_y ci_Table_has_y k_Table_has_y⟩,
    m_Table_put := ⟨a_Table_put, i_Table_put⟩,
    F_Table_put := ⟨_, fun_mk (st := s_Table_put) l_Table_put ci_Table_put k_Table_put⟩,
    m_Table_put_row := ⟨a_Table_put_row, i_Table_put_row⟩,
    F_Table_put_row := ⟨_, fun_mk (st := s_Table_put_row) l_Table_put_row ci_Table_put_row k_Table_put_row⟩,
    m_Table_drop_y := ⟨a_Table_drop_y, i_Table_drop_y⟩,
    F_Table_drop_y := ⟨_, fun_mk (st := s_Table_drop_y) l_Table_drop_y ci_Table_drop_y k_Table_drop_y⟩,
    m_Table_comes := ⟨a_Table_comes, i_Table_comes⟩,
    F_Table_comes := ⟨_, fun_mk (st := s_Table_comes) l_Table_comes ci_Table_comes k_Table_comes⟩,
    m_Table_ys_with_both := ⟨a_Table_ys_with_both, i_Table_ys_with_both⟩,
    F_Table_ys_with_both := ⟨_, fun_mk (st := s_Table_ys_with_both) l_Table_ys_with_both ci_Table_ys_with_both k_Table_ys_with_both⟩,
    m_Table_are_mixed := ⟨a_Table_are_mixed, i_Table_are_mixed⟩,
    F_Table_are_mixed := ⟨_, fun_mk (st := s_Table_are_mixed) l_Table_are_mixed ci_Table_are_mixed k_Table_are_mixed⟩,
    m_Table_mixed_with := ⟨a_Table_mixed_with, i_Table_mixed_with⟩,
    F_Table_mixed_with := ⟨_, fun_mk (st := s_Table_mixed_with) l_Table_mixed_with ci_Table_mixed_with k_Table_mixed_with⟩,
    m_Table_xs_with := ⟨a_Table_xs_with, i_Table_xs_with⟩,
    F_Table_xs_with := ⟨_, fun_mk (st := s_Table_xs_with) l_Table_xs_with ci_Table_xs_with k_Table_xs_with⟩,
    m_Table_ever_comes := ⟨a_Table_ever_comes, i_Table_ever_comes⟩,
    F_Table_ever_comes := ⟨_, fun_mk (st := s_Table_ever_comes) l_Table_ever_comes ci_Table_ever_comes k_Table_ever_comes⟩,
    m_Table_row_by_row := ⟨a_Table_row_by_row, i_Table_row_by_row⟩,
    F_Table_row_by_row := ⟨_, fun_mk (st := s_Table_row_by_row) l_Table_row_by_row ci_Table_row_by_row k_Table_row_by_row⟩,
    g_all_twos := PySem.W.mg_of X G a_all_twos,
    F_all_twos := ⟨_, fun_mk (st := s_all_twos) l_all_twos ci_all_twos k_all_twos⟩,
    g_is_open_between := PySem.W.mg_of X G a_is_open_between,
    F_is_open_between := ⟨_, fun_mk (st := s_is_open_between) l_is_open_between ci_is_open_between k_is_open_between⟩,
    g_are_twos_mixed := PySem.W.mg_of X G a_are_twos_mixed,
    F_are_twos_mixed := ⟨_, fun_mk (st := s_are_twos_mixed) l_are_twos_mixed ci_are_twos_mixed k_are_twos_mixed⟩,
    g_letters_of_mixed_ahead := PySem.W.mg_of X G a_letters_of_mixed_ahead,
    F_letters_of_mixed_ahead := ⟨_, fun_mk (st := s_letters_of_mixed_ahead) l_letters_of_mixed_ahead ci_letters_of_mixed_ahead k_letters_of_mixed_ahead⟩,
    g_letters_do_for_two := PySem.W.mg_of X G a_letters_do_for_two,
    F_letters_do_for_two := ⟨_, fun_mk (st := s_letters_do_for_two) l_letters_do_for_two ci_letters_do_for_two k_letters_do_for_two⟩,
    g_least_not_in := PySem.W.mg_of X G a_least_not_in,
    F_least_not_in := ⟨_, fun_mk (st := s_least_not_in) l_least_not_in ci_least_not_in k_least_not_in⟩,
    g_letters_two_by_two := PySem.W.mg_of X G a_letters_two_by_two,
    F_letters_two_by_two := ⟨_, fun_mk (st := s_letters_two_by_two) l_letters_two_by_two ci_letters_two_by_two k_letters_two_by_two⟩,
    g_yes_or_no := PySem.W.mg_of X G a_yes_or_no,
    F_yes_or_no := ⟨_, fun_mk (st := s_yes_or_no) l_yes_or_no ci_yes_or_no k_yes_or_no⟩,
    g_counted := PySem.W.mg_of X G a_counted,
    F_counted := ⟨_, fun_mk (st := s_counted) l_counted ci_counted k_counted⟩,
    g_any_above := PySem.W.mg_of X G a_any_above,
    F_any_above := ⟨_, fun_mk (st := s_any_above) l_any_above ci_any_above k_any_above⟩,
    g_wrong_letters := PySem.W.mg_of X G a_wrong_letters,
    F_wrong_letters := ⟨_, fun_mk (st := s_wrong_letters) l_wrong_letters ci_wrong_letters k_wrong_letters⟩,
    g_reply_set := PySem.W.mg_of X G a_reply_set,
    F_reply_set := ⟨_, fun_mk (st := s_reply_set) l_reply_set ci_reply_set k_reply_set⟩,
    g_reply_row := PySem.W.mg_of X G a_reply_row,
    F_reply_row := ⟨_, fun_mk (st := s_reply_row) l_reply_row ci_reply_row k_reply_row⟩,
    g_reply_forget := PySem.W.mg_of X G a_reply_forget,
    F_reply_forget := ⟨_, fun_mk (st := s_reply_forget) l_reply_forget ci_reply_forget k_reply_forget⟩,
    g_reply_may := PySem.W.mg_of X G a_reply_may,
    F_reply_may := ⟨_, fun_mk (st := s_reply_may) l_reply_may ci_reply_may k_reply_may⟩,
    g_reply_mixed := PySem.W.mg_of X G a_reply_mixed,
    F_reply_mixed := ⟨_, fun_mk (st := s_reply_mixed) l_reply_mixed ci_reply_mixed k_reply_mixed⟩,
    g_reply_mixed_with := PySem.W.mg_of X G a_reply_mixed_with,
    F_reply_mixed_with := ⟨_, fun_mk (st := s_reply_mixed_with) l_reply_mixed_with ci_reply_mixed_with k_reply_mixed_with⟩,
    g_reply_good := PySem.W.mg_of X G a_reply_good,
    F_reply_good := ⟨_, fun_mk (st := s_reply_good) l_reply_good ci_reply_good k_reply_good⟩,
    g_reply_clash := PySem.W.mg_of X G a_reply_clash,
    F_reply_clash := ⟨_, fun_mk (st := s_reply_clash) l_reply_clash ci_reply_clash k_reply_clash⟩,
    g_reply_fewest := PySem.W.mg_of X G a_reply_fewest,
    F_reply_fewest := ⟨_, fun_mk (st := s_reply_fewest) l_reply_fewest ci_reply_fewest k_reply_fewest⟩,
    g_reply_best := PySem.W.mg_of X G a_reply_best,
    F_reply_best := ⟨_, fun_mk (st := s_reply_best) l_reply_best ci_reply_best k_reply_best⟩,
    g_reply_ways := PySem.W.mg_of X G a_reply_ways,
    F_reply_ways := ⟨_, fun_mk (st := s_reply_ways) l_reply_ways ci_reply_ways k_reply_ways⟩,
    g_reply_crowd := PySem.W.mg_of X G a_reply_crowd,
    F_reply_crowd := ⟨_, fun_mk (st := s_reply_crowd) l_reply_crowd ci_reply_crowd k_reply_crowd⟩,
    g_reply_why := PySem.W.mg_of X G a_reply_why,
    F_reply_why := ⟨_, fun_mk (st := s_reply_why) l_reply_why ci_reply_why k_reply_why⟩,
    g_reply_apart := PySem.W.mg_of X G a_reply_apart,
    F_reply_apart := ⟨_, fun_mk (st := s_reply_apart) l_reply_apart ci_reply_apart k_reply_apart⟩,
    g_reply_told := PySem.W.mg_of X G a_reply_told,
    F_reply_told := ⟨_, fun_mk (st := s_reply_told) l_reply_told ci_reply_told k_reply_told⟩,
    g_reply_sure := PySem.W.mg_of X G a_reply_sure,
    F_reply_sure := ⟨_, fun_mk (st := s_reply_sure) l_reply_sure ci_reply_sure k_reply_sure⟩,
    g_reply_good_two := PySem.W.mg_of X G a_reply_good_two,
    F_reply_good_two := ⟨_, fun_mk (st := s_reply_good_two) l_reply_good_two ci_reply_good_two k_reply_good_two⟩,
    g_reply_greedy_two := PySem.W.mg_of X G a_reply_greedy_two,
    F_reply_greedy_two := ⟨_, fun_mk (st := s_reply_greedy_two) l_reply_greedy_two ci_reply_greedy_two k_reply_greedy_two⟩,
    g_reply_mixed_two := PySem.W.mg_of X G a_reply_mixed_two,
    F_reply_mixed_two := ⟨_, fun_mk (st := s_reply_mixed_two) l_reply_mixed_two ci_reply_mixed_two k_reply_mixed_two⟩,
    g_reply_often := PySem.W.mg_of X G a_reply_often,
    F_reply_often := ⟨_, fun_mk (st := s_reply_often) l_reply_often ci_reply_often k_reply_often⟩,
    g_reply_likeliest := PySem.W.mg_of X G a_reply_likeliest,
    F_reply_likeliest := ⟨_, fun_mk (st := s_reply_likeliest) l_reply_likeliest ci_reply_likeliest k_reply_likeliest⟩,
    g_reply_all_told := PySem.W.mg_of X G a_reply_all_told,
    F_reply_all_told := ⟨_, fun_mk (st := s_reply_all_told) l_reply_all_told ci_reply_all_told k_reply_all_told⟩,
    g_answer_change := PySem.W.mg_of X G a_answer_change,
    F_answer_change := ⟨_, fun_mk (st := s_answer_change) l_answer_change ci_answer_change k_answer_change⟩,
    g_answer_mixed := PySem.W.mg_of X G a_answer_mixed,
    F_answer_mixed := ⟨_, fun_mk (st := s_answer_mixed) l_answer_mixed ci_answer_mixed k_answer_mixed⟩,
    g_answer_letters := PySem.W.mg_of X G a_answer_letters,
    F_answer_letters := ⟨_, fun_mk (st := s_answer_letters) l_answer_letters ci_answer_letters k_answer_letters⟩,
    g_answer_sets := PySem.W.mg_of X G a_answer_sets,
    F_answer_sets := ⟨_, fun_mk (st := s_answer_sets) l_answer_sets ci_answer_sets k_answer_sets⟩,
    g_answer_twos := PySem.W.mg_of X G a_answer_twos,
    F_answer_twos := ⟨_, fun_mk (st := s_answer_twos) l_answer_twos ci_answer_twos k_answer_twos⟩,
    g_answer_right := PySem.W.mg_of X G a_answer_right,
    F_answer_right := ⟨_, fun_mk (st := s_answer_right) l_answer_right ci_answer_right k_answer_right⟩,
    g_answer_begun := PySem.W.mg_of X G a_answer_begun,
    F_answer_begun := ⟨_, fun_mk (st := s_answer_begun) l_answer_begun ci_answer_begun k_answer_begun⟩,
    F_Line_init := ⟨_, fun_mk (st := s_Line_init) l_Line_init ci_Line_init k_Line_init⟩,
    m_Line_begin := ⟨a_Line_begin, i_Line_begin⟩,
    F_Line_begin := ⟨_, fun_mk (st := s_Line_begin) l_Line_begin ci_Line_begin k_Line_begin⟩,
    m_Line_answer := ⟨a_Line_answer, i_Line_answer⟩,
    F_Line_answer := ⟨_, fun_mk (st := s_Line_answer) l_Line_answer ci_Line_answer k_Line_answer⟩,
    g_answers := PySem.W.mg_of X G a_answers,
    F_answers := ⟨_, fun_mk (st := s_answers) l_answers ci_answers k_answers⟩,
    gC_Call := PySem.W.mg_of X G aC_Call,
    cl_Call := ⟨pg_Call, hd_Call, po_Call, sa_Call⟩,
    mk_Call := ⟨mk_Call, a_Call_init, i_Call_init, kc_Call⟩,
    n_Call_number := n_Call_number,
    n_Call_numbers := n_Call_numbers,
    n_Call_row := n_Call_row,
    gC_Table := PySem.W.mg_of X G aC_Table,
    cl_Table := ⟨pg_Table, hd_Table, po_Table, sa_Table⟩,
    mk_Table := ⟨mk_Table, a_Table_init, i_Table_init, kc_Table⟩,
    n_Table_x_count := n_Table_x_count,
    n_Table_y_count := n_Table_y_count,
    n_Table_often := n_Table_often,
    gC_Line := PySem.W.mg_of X G aC_Line,
    cl_Line := ⟨pg_Line, hd_Line, po_Line, sa_Line⟩,
    mk_Line := ⟨mk_Line, a_Line_init, i_Line_init, kc_Line⟩,
    n_Line_table := n_Line_table,
    c_BEGIN := ⟨_, PySem.W.mg_of X G v_BEGIN⟩,
    c_SET_OFTEN := ⟨_, PySem.W.mg_of X G v_SET_OFTEN⟩,
    c_ROW := ⟨_, PySem.W.mg_of X G v_ROW⟩,
    c_FORGET := ⟨_, PySem.W.mg_of X G v_FORGET⟩,
    c_MAY := ⟨_, PySem.W.mg_of X G v_MAY⟩,
    c_MIXED := ⟨_, PySem.W.mg_of X G v_MIXED⟩,
    c_MIXED_WITH := ⟨_, PySem.W.mg_of X G v_MIXED_WITH⟩,
    c_GOOD := ⟨_, PySem.W.mg_of X G v_GOOD⟩,
    c_CLASH := ⟨_, PySem.W.mg_of X G v_CLASH⟩,
    c_FEWEST := ⟨_, PySem.W.mg_of X G v_FEWEST⟩,
    c_BEST := ⟨_, PySem.W.mg_of X G v_BEST⟩,
    c_WAYS := ⟨_, PySem.W.mg_of X G v_WAYS⟩,
    c_CROWD := ⟨_, PySem.W.mg_of X G v_CROWD⟩,
    c_WHY := ⟨_, PySem.W.mg_of X G v_WHY⟩,
    c_APART := ⟨_, PySem.W.mg_of X G v_APART⟩,
    c_TOLD := ⟨_, PySem.W.mg_of X G v_TOLD⟩,
    c_SURE := ⟨_, PySem.W.mg_of X G v_SURE⟩,
    c_GOOD_TWO := ⟨_, PySem.W.mg_of X G v_GOOD_TWO⟩,
    c_GREEDY_TWO := ⟨_, PySem.W.mg_of X G v_GREEDY_TWO⟩,
    c_MIXED_TWO := ⟨_, PySem.W.mg_of X G v_MIXED_TWO⟩,
    c_OFTEN := ⟨_, PySem.W.mg_of X G v_OFTEN⟩,
    c_LIKELIEST := ⟨_, PySem.W.mg_of X G v_LIKELIEST⟩,
    c_NO_SUCH := ⟨_, PySem.W.mg_of X G v_NO_SUCH⟩,
    c_ONE_ALONE := ⟨_, PySem.W.mg_of X G v_ONE_ALONE⟩,
    c_WRONG := ⟨_, PySem.W.mg_of X G v_WRONG⟩,
    c_THEY_DO := ⟨_, PySem.W.mg_of X G v_THEY_DO⟩,
    c_NOT_BEGUN := ⟨_, PySem.W.mg_of X G v_NOT_BEGUN⟩,
    c_MOST_THINGS := ⟨_, PySem.W.mg_of X G v_MOST_THINGS⟩,
    c_MOST_OFTEN := ⟨_, PySem.W.mg_of X G v_MOST_OFTEN⟩,
    g_SHAPES := PySem.W.mg_of X G g_SHAPES,
    t_SHAPES := is_SHAPES_mk l_SHAPES l_SHAPES_0 l_SHAPES_1 l_SHAPES_2 l_SHAPES_3 l_SHAPES_4 l_SHAPES_5 l_SHAPES_6 l_SHAPES_7 l_SHAPES_8 l_SHAPES_9 l_SHAPES_10 l_SHAPES_11 l_SHAPES_12 l_SHAPES_13 l_SHAPES_14 l_SHAPES_15 l_SHAPES_16 l_SHAPES_17 l_SHAPES_18 l_SHAPES_19 l_SHAPES_20 l_SHAPES_21 l_SHAPES_22,
    n_all := PySem.W.mg_none_of X G u_all,
    n_any := PySem.W.mg_none_of X G u_any,
    n_len := PySem.W.mg_none_of X G u_len,
    n_list := PySem.W.mg_none_of X G u_list,
    n_max := PySem.W.mg_none_of X G u_max,
    n_min := PySem.W.mg_none_of X G u_min,
    n_range := PySem.W.mg_none_of X G u_range,
    n_sum := PySem.W.mg_none_of X G u_sum }
  have F := fun_mk (st := s_answers) l_answers ci_answers k_answers
  obtain ⟨b, o, fd, c, tP, t1, t2, t3, t4, t5, t6⟩ := TT
  have e1 := (PySem.W.mg_of X G a_likeliest_row).symm.trans t1
  cases e1
  have e2 := (X _ _ l_likeliest_row).symm.trans t2
  cases e2
  cases t3
  cases t4
  have hd := PySem.W.CodeHd.of t5 t6
  obtain ⟨⟨o2, v2, u1, u2, u3, u4⟩, u5⟩ := t6
  have e3 := (X _ _ xl_likeliest_row).symm.trans u1
  cases e3
  cases u3
  have e4 := xp_likeliest_row.symm.trans u4
  cases e4
  exact ⟨PySem.W.fnOf "answers" "answers" (defArgs s_answers) (defBody s_answers) (defScope s_answers) .none kV_answers dc_answers pm_answers an_answers cd_answers ct_answers, (⟨f_Call_init, f_read_calls, f_all_groups, f_mixed_within, f_is_all_mixed, f_is_none_mixed, f_greatest_all_mixed, f_greatest_none_mixed, f_first_clash, f_letters_do, f_letter_count, f_longer_rows, f_all_numbered_rows, f_rows_that_do, f_best_row, f_ways_with, f_right_with_y, f_how_often_right, f_likeliest_row, f_Table_init, f_Table_has_x, f_Table_has_y, f_Table_put, f_Table_put_row, f_Table_drop_y, f_Table_comes, f_Table_ys_with_both, f_Table_are_mixed, f_Table_mixed_with, f_Table_xs_with, f_Table_ever_comes, f_Table_row_by_row, f_all_twos, f_is_open_between, f_are_twos_mixed, f_letters_of_mixed_ahead, f_letters_do_for_two, f_least_not_in, f_letters_two_by_two, f_yes_or_no, f_counted, f_any_above, f_wrong_letters, f_reply_set, f_reply_row, f_reply_forget, f_reply_may, f_reply_mixed, f_reply_mixed_with, f_reply_good, f_reply_clash, f_reply_fewest, f_reply_best, f_reply_ways, f_reply_crowd, f_reply_why, f_reply_apart, f_reply_told, f_reply_sure, f_reply_good_two, f_reply_greedy_two, f_reply_mixed_two, f_reply_often, f_reply_likeliest, f_reply_all_told, f_answer_change, f_answer_mixed, f_answer_letters, f_answer_sets, f_answer_twos, f_answer_right, f_answer_begun, f_Line_init, f_Line_begin, f_Line_answer, fa, C_Call, C_Table, C_Line, o_SHAPES, P_likeliest_row, c_likeliest_row⟩ : Ad), u5, xn_likeliest_row, hd, fun s us hu => match us, hu with | [_], _ => .of_eq rfl, fun base _ _ TB => okF_answers T TB F⟩
end LS
open PySem PySem.W PyProof.Rows
set_option maxRecDepth 100000 in
set_option maxHeartbeats 80000000 in
theorem PySem.Challenge.cw_lettersent_s01_answers_holds : PySem.Challenge.rw_lettersent_s01_answers.Holds := by
  w_on; k_headS; (case hw => exact ⟨[.list [.int 9]], by decide +kernel, by decide +kernel⟩)
  k_fillS
  refine LS.walk_table (r := PySem.Challenge.rw_lettersent_s01_answers) (k := 13) (ps := ["calls"]) (nm := "likeliest_row") (by decide +kernel) rfl rfl ⟨rfl, by decide, by decide⟩ (by decide +kernel) (fun w h Y => PySem.W.kIn_of Y) ?F
  case F =>
    intro w mg fa h Y KX G hmg TT
    refine' LS.fin_of (LS.all_mk KX G hmg TT ?aC_Call ?pg_Call ?hd_Call ?po_Call ?sa_Call ?mk_Call ?kc_Call ?n_Call_number ?n_Call_numbers ?n_Call_row ?aC_Table ?pg_Table ?hd_Table ?po_Table ?sa_Table ?mk_Table ?kc_Table ?n_Table_x_count ?n_Table_y_count ?n_Table_often ?aC_Line ?pg_Line ?hd_Line ?po_Line ?sa_Line ?mk_Line ?kc_Line ?n_Line_table ?a_Call_init ?i_Call_init ?l_Call_init ?ci_Call_init ?k_Call_init ?a_read_calls ?l_read_calls ?ci_read_calls ?k_read_calls ?a_all_groups ?l_all_groups ?ci_all_groups ?k_all_groups ?a_mixed_within ?l_mixed_within ?ci_mixed_within ?k_mixed_within ?a_is_all_mixed ?l_is_all_mixed ?ci_is_all_mixed ?k_is_all_mixed ?a_is_none_mixed ?l_is_none_mixed ?ci_is_none_mixed ?k_is_none_mixed ?a_greatest_all_mixed ?l_greatest_all_mixed ?ci_greatest_all_mixed ?k_greatest_all_mixed ?a_greatest_none_mixed ?l_greatest_none_mixed ?ci_greatest_none_mixed ?k_greatest_none_mixed ?a_first_clash ?l_first_clash ?ci_first_clash ?k_first_clash ?a_letters_do ?l_letters_do ?ci_letters_do ?k_letters_do ?a_letter_count ?l_letter_count ?ci_letter_count ?k_letter_count ?a_longer_rows ?l_longer_rows ?ci_longer_rows ?k_longer_rows ?a_all_numbered_rows ?l_all_numbered_rows ?ci_all_numbered_rows ?k_all_numbered_rows ?a_rows_that_do ?l_rows_that_do ?ci_rows_that_do ?k_rows_that_do ?a_best_row ?l_best_row ?ci_best_row ?k_best_row ?a_ways_with ?l_ways_with ?ci_ways_with ?k_ways_with ?a_right_with_y ?l_right_with_y ?ci_right_with_y ?k_right_with_y ?a_how_often_right ?l_how_often_right ?ci_how_often_right ?k_how_often_right ?a_likeliest_row ?l_likeliest_row ?ci_likeliest_row ?k_likeliest_row ?xl_likeliest_row ?xp_likeliest_row ?xn_likeliest_row ?a_Table_init ?i_Table_init ?l_Table_init ?ci_Table_init ?k_Table_init ?a_Table_has_x ?i_Table_has_x ?l_Table_has_x ?ci_Table_has_x ?k_Table_has_x ?a_Table_has_y ?i_Table_has_y ?l_Table_has_y ?ci_Table_has_y ?k_Table_has_y ?a_Table_put ?i_Table_put ?l_Table_put ?ci_Table_put ?k_Table_put ?a_Table_put_row ?i_Table_put_row ?l_Table_put_row ?ci_Table_put_row ?k_Table_put_row ?a_Table_drop_y ?i_Table_drop_y ?l_Table_drop_y ?ci_Table_drop_y ?k_Table_drop_y ?a_Table_comes ?i_Table_comes ?l_Table_comes ?ci_Table_comes ?k_Table_comes ?a_Table_ys_with_both ?i_Table_ys_with_both ?l_Table_ys_with_both ?ci_Table_ys_with_both ?k_Table_ys_with_both ?a_Table_are_mixed ?i_Table_are_mixed ?l_Table_are_mixed ?ci_Table_are_mixed ?k_Table_are_mixed ?a_Table_mixed_with ?i_Table_mixed_with ?l_Table_mixed_with ?ci_Table_mixed_with ?k_Table_mixed_with ?a_Table_xs_with ?i_Table_xs_with ?l_Table_xs_with ?ci_Table_xs_with ?k_Table_xs_with ?a_Table_ever_comes ?i_Table_ever_comes ?l_Table_ever_comes ?ci_Table_ever_comes ?k_Table_ever_comes ?a_Table_row_by_row ?i_Table_row_by_row ?l_Table_row_by_row ?ci_Table_row_by_row ?k_Table_row_by_row ?a_all_twos ?l_all_twos ?ci_all_twos ?k_all_twos ?a_is_open_between ?l_is_open_between ?ci_is_open_between ?k_is_open_between ?a_are_twos_mixed ?l_are_twos_mixed ?ci_are_twos_mixed ?k_are_twos_mixed ?a_letters_of_mixed_ahead ?l_letters_of_mixed_ahead ?ci_letters_of_mixed_ahead ?k_letters_of_mixed_ahead ?a_letters_do_for_two ?l_letters_do_for_two ?ci_letters_do_for_two ?k_letters_do_for_two ?a_least_not_in ?l_least_not_in ?ci_least_not_in ?k_least_not_in ?a_letters_two_by_two ?l_letters_two_by_two ?ci_letters_two_by_two ?k_letters_two_by_two ?a_yes_or_no ?l_yes_or_no ?ci_yes_or_no ?k_yes_or_no ?a_counted ?l_counted ?ci_counted ?k_counted ?a_any_above ?l_any_above ?ci_any_above ?k_any_above ?a_wrong_letters ?l_wrong_letters ?ci_wrong_letters ?k_wrong_letters ?a_reply_set ?l_reply_set ?ci_reply_set ?k_reply_set ?a_reply_row ?l_reply_row ?ci_reply_row ?k_reply_row ?a_reply_forget ?l_reply_forget ?ci_reply_forget ?k_reply_forget ?a_reply_may ?l_reply_may ?ci_reply_may ?k_reply_may ?a_reply_mixed ?l_reply_mixed ?ci_reply_mixed ?k_reply_mixed ?a_reply_mixed_with ?l_reply_mixed_with ?ci_reply_mixed_with ?k_reply_mixed_with ?a_reply_good ?l_reply_good ?ci_reply_good ?k_reply_good ?a_reply_clash ?l_reply_clash ?ci_reply_clash ?k_reply_clash ?a_reply_fewest ?l_reply_fewest ?ci_reply_fewest ?k_reply_fewest ?a_reply_best ?l_reply_best ?ci_reply_best ?k_reply_best ?a_reply_ways ?l_reply_ways ?ci_reply_ways ?k_reply_ways ?a_reply_crowd ?l_reply_crowd ?ci_reply_crowd ?k_reply_crowd ?a_reply_why ?l_reply_why ?ci_reply_why ?k_reply_why ?a_reply_apart ?l_reply_apart ?ci_reply_apart ?k_reply_apart ?a_reply_told ?l_reply_told ?ci_reply_told ?k_reply_told ?a_reply_sure ?l_reply_sure ?ci_reply_sure ?k_reply_sure ?a_reply_good_two ?l_reply_good_two ?ci_reply_good_two ?k_reply_good_two ?a_reply_greedy_two ?l_reply_greedy_two ?ci_reply_greedy_two ?k_reply_greedy_two ?a_reply_mixed_two ?l_reply_mixed_two ?ci_reply_mixed_two ?k_reply_mixed_two ?a_reply_often ?l_reply_often ?ci_reply_often ?k_reply_often ?a_reply_likeliest ?l_reply_likeliest ?ci_reply_likeliest ?k_reply_likeliest ?a_reply_all_told ?l_reply_all_told ?ci_reply_all_told ?k_reply_all_told ?a_answer_change ?l_answer_change ?ci_answer_change ?k_answer_change ?a_answer_mixed ?l_answer_mixed ?ci_answer_mixed ?k_answer_mixed ?a_answer_letters ?l_answer_letters ?ci_answer_letters ?k_answer_letters ?a_answer_sets ?l_answer_sets ?ci_answer_sets ?k_answer_sets ?a_answer_twos ?l_answer_twos ?ci_answer_twos ?k_answer_twos ?a_answer_right ?l_answer_right ?ci_answer_right ?k_answer_right ?a_answer_begun ?l_answer_begun ?ci_answer_begun ?k_answer_begun ?a_Line_init ?i_Line_init ?l_Line_init ?ci_Line_init ?k_Line_init ?a_Line_begin ?i_Line_begin ?l_Line_begin ?ci_Line_begin ?k_Line_begin ?a_Line_answer ?i_Line_answer ?l_Line_answer ?ci_Line_answer ?k_Line_answer ?a_answers ?l_answers ?ci_answers ?k_answers ?v_BEGIN ?v_SET_OFTEN ?v_ROW ?v_FORGET ?v_MAY ?v_MIXED ?v_MIXED_WITH ?v_GOOD ?v_CLASH ?v_FEWEST ?v_BEST ?v_WAYS ?v_CROWD ?v_WHY ?v_APART ?v_TOLD ?v_SURE ?v_GOOD_TWO ?v_GREEDY_TWO ?v_MIXED_TWO ?v_OFTEN ?v_LIKELIEST ?v_NO_SUCH ?v_ONE_ALONE ?v_WRONG ?v_THEY_DO ?v_NOT_BEGUN ?v_MOST_THINGS ?v_MOST_OFTEN ?g_SHAPES ?l_SHAPES ?l_SHAPES_0 ?l_SHAPES_1 ?l_SHAPES_2 ?l_SHAPES_3 ?l_SHAPES_4 ?l_SHAPES_5 ?l_SHAPES_6 ?l_SHAPES_7 ?l_SHAPES_8 ?l_SHAPES_9 ?l_SHAPES_10 ?l_SHAPES_11 ?l_SHAPES_12 ?l_SHAPES_13 ?l_SHAPES_14 ?l_SHAPES_15 ?l_SHAPES_16 ?l_SHAPES_17 ?l_SHAPES_18 ?l_SHAPES_19 ?l_SHAPES_20 ?l_SHAPES_21 ?l_SHAPES_22 ?u_all ?u_any ?u_len ?u_list ?u_max ?u_min ?u_range ?u_sum)
    (case aC_Call => k_is)
    (case pg_Call => k_is)
    (case hd_Call => k_is)
    (case po_Call => k_is)
    (case sa_Call => k_is)
    (case mk_Call => k_is)
    (case kc_Call => k_is)
    (case n_Call_number => k_is)
    (case n_Call_numbers => k_is)
    (case n_Call_row => k_is)
    (case aC_Table => k_is)
    (case pg_Table => k_is)
    (case hd_Table => k_is)
    (case po_Table => k_is)
    (case sa_Table => k_is)
    (case mk_Table => k_is)
    (case kc_Table => k_is)
    (case n_Table_x_count => k_is)
    (case n_Table_y_count => k_is)
    (case n_Table_often => k_is)
    (case aC_Line => k_is)
    (case pg_Line => k_is)
    (case hd_Line => k_is)
    (case po_Line => k_is)
    (case sa_Line => k_is)
    (case mk_Line => k_is)
    (case kc_Line => k_is)
    (case n_Line_table => k_is)
    (case a_Call_init => k_is)
    (case i_Call_init => k_is)
    (case l_Call_init => k_is)
    (case ci_Call_init => k_is)
    (case k_Call_init => k_is)
    (case a_read_calls => k_is)
    (case l_read_calls => k_is)
    (case ci_read_calls => k_is)
    (case k_read_calls => k_is)
    (case a_all_groups => k_is)
    (case l_all_groups => k_is)
    (case ci_all_groups => k_is)
    (case k_all_groups => k_is)
    (case a_mixed_within => k_is)
    (case l_mixed_within => k_is)
    (case ci_mixed_within => k_is)
    (case k_mixed_within => k_is)
    (case a_is_all_mixed => k_is)
    (case l_is_all_mixed => k_is)
    (case ci_is_all_mixed => k_is)
    (case k_is_all_mixed => k_is)
    (case a_is_none_mixed => k_is)
    (case l_is_none_mixed => k_is)
    (case ci_is_none_mixed => k_is)
    (case k_is_none_mixed => k_is)
    (case a_greatest_all_mixed => k_is)
    (case l_greatest_all_mixed => k_is)
    (case ci_greatest_all_mixed => k_is)
    (case k_greatest_all_mixed => k_is)
    (case a_greatest_none_mixed => k_is)
    (case l_greatest_none_mixed => k_is)
    (case ci_greatest_none_mixed => k_is)
    (case k_greatest_none_mixed => k_is)
    (case a_first_clash => k_is)
    (case l_first_clash => k_is)
    (case ci_first_clash => k_is)
    (case k_first_clash => k_is)
    (case a_letters_do => k_is)
    (case l_letters_do => k_is)
    (case ci_letters_do => k_is)
    (case k_letters_do => k_is)
    (case a_letter_count => k_is)
    (case l_letter_count => k_is)
    (case ci_letter_count => k_is)
    (case k_letter_count => k_is)
    (case a_longer_rows => k_is)
    (case l_longer_rows => k_is)
    (case ci_longer_rows => k_is)
    (case k_longer_rows => k_is)
    (case a_all_numbered_rows => k_is)
    (case l_all_numbered_rows => k_is)
    (case ci_all_numbered_rows => k_is)
    (case k_all_numbered_rows => k_is)
    (case a_rows_that_do => k_is)
    (case l_rows_that_do => k_is)
    (case ci_rows_that_do => k_is)
    (case k_rows_that_do => k_is)
    (case a_best_row => k_is)
    (case l_best_row => k_is)
    (case ci_best_row => k_is)
    (case k_best_row => k_is)
    (case a_ways_with => k_is)
    (case l_ways_with => k_is)
    (case ci_ways_with => k_is)
    (case k_ways_with => k_is)
    (case a_right_with_y => k_is)
    (case l_right_with_y => k_is)
    (case ci_right_with_y => k_is)
    (case k_right_with_y => k_is)
    (case a_how_often_right => k_is)
    (case l_how_often_right => k_is)
    (case ci_how_often_right => k_is)
    (case k_how_often_right => k_is)
    (case a_likeliest_row => k_is)
    (case l_likeliest_row => k_is)
    (case ci_likeliest_row => k_is)
    (case k_likeliest_row => k_is)
    (case xl_likeliest_row => k_is)
    (case xp_likeliest_row => rfl)
    (case xn_likeliest_row => rfl)
    (case a_Table_init => k_is)
    (case i_Table_init => k_is)
    (case l_Table_init => k_is)
    (case ci_Table_init => k_is)
    (case k_Table_init => k_is)
    (case a_Table_has_x => k_is)
    (case i_Table_has_x => k_is)
    (case l_Table_has_x => k_is)
    (case ci_Table_has_x => k_is)
    (case k_Table_has_x => k_is)
    (case a_Table_has_y => k_is)
    (case i_Table_has_y => k_is)
    (case l_Table_has_y => k_is)
    (case ci_Table_has_y => k_is)
    (case k_Table_has_y => k_is)
    (case a_Table_put => k_is)
    (case i_Table_put => k_is)
    (case l_Table_put => k_is)
    (case ci_Table_put => k_is)
    (case k_Table_put => k_is)
    (case a_Table_put_row => k_is)
    (case i_Table_put_row => k_is)
    (case l_Table_put_row => k_is)
    (case ci_Table_put_row => k_is)
    (case k_Table_put_row => k_is)
    (case a_Table_drop_y => k_is)
    (case i_Table_drop_y => k_is)
    (case l_Table_drop_y => k_is)
    (case ci_Table_drop_y => k_is)
    (case k_Table_drop_y => k_is)
    (case a_Table_comes => k_is)
    (case i_Table_comes => k_is)
    (case l_Table_comes => k_is)
    (case ci_Table_comes => k_is)
    (case k_Table_comes => k_is)
    (case a_Table_ys_with_both => k_is)
    (case i_Table_ys_with_both => k_is)
    (case l_Table_ys_with_both => k_is)
    (case ci_Table_ys_with_both => k_is)
    (case k_Table_ys_with_both => k_is)
    (case a_Table_are_mixed => k_is)
    (case i_Table_are_mixed => k_is)
    (case l_Table_are_mixed => k_is)
    (case ci_Table_are_mixed => k_is)
    (case k_Table_are_mixed => k_is)
    (case a_Table_mixed_with => k_is)
    (case i_Table_mixed_with => k_is)
    (case l_Table_mixed_with => k_is)
    (case ci_Table_mixed_with => k_is)
    (case k_Table_mixed_with => k_is)
    (case a_Table_xs_with => k_is)
    (case i_Table_xs_with => k_is)
    (case l_Table_xs_with => k_is)
    (case ci_Table_xs_with => k_is)
    (case k_Table_xs_with => k_is)
    (case a_Table_ever_comes => k_is)
    (case i_Table_ever_comes => k_is)
    (case l_Table_ever_comes => k_is)
    (case ci_Table_ever_comes => k_is)
    (case k_Table_ever_comes => k_is)
    (case a_Table_row_by_row => k_is)
    (case i_Table_row_by_row => k_is)
    (case l_Table_row_by_row => k_is)
    (case ci_Table_row_by_row => k_is)
    (case k_Table_row_by_row => k_is)
    (case a_all_twos => k_is)
    (case l_all_twos => k_is)
    (case ci_all_twos => k_is)
    (case k_all_twos => k_is)
    (case a_is_open_between => k_is)
    (case l_is_open_between => k_is)
    (case ci_is_open_between => k_is)
    (case k_is_open_between => k_is)
    (case a_are_twos_mixed => k_is)
    (case l_are_twos_mixed => k_is)
    (case ci_are_twos_mixed => k_is)
    (case k_are_twos_mixed => k_is)
    (case a_letters_of_mixed_ahead => k_is)
    (case l_letters_of_mixed_ahead => k_is)
    (case ci_letters_of_mixed_ahead => k_is)
    (case k_letters_of_mixed_ahead => k_is)
    (case a_letters_do_for_two => k_is)
    (case l_letters_do_for_two => k_is)
    (case ci_letters_do_for_two => k_is)
    (case k_letters_do_for_two => k_is)
    (case a_least_not_in => k_is)
    (case l_least_not_in => k_is)
    (case ci_least_not_in => k_is)
    (case k_least_not_in => k_is)
    (case a_letters_two_by_two => k_is)
    (case l_letters_two_by_two => k_is)
    (case ci_letters_two_by_two => k_is)
    (case k_letters_two_by_two => k_is)
    (case a_yes_or_no => k_is)
    (case l_yes_or_no => k_is)
    (case ci_yes_or_no => k_is)
    (case k_yes_or_no => k_is)
    (case a_counted => k_is)
    (case l_counted => k_is)
    (case ci_counted => k_is)
    (case k_counted => k_is)
    (case a_any_above => k_is)
    (case l_any_above => k_is)
    (case ci_any_above => k_is)
    (case k_any_above => k_is)
    (case a_wrong_letters => k_is)
    (case l_wrong_letters => k_is)
    (case ci_wrong_letters => k_is)
    (case k_wrong_letters => k_is)
    (case a_reply_set => k_is)
    (case l_reply_set => k_is)
    (case ci_reply_set => k_is)
    (case k_reply_set => k_is)
    (case a_reply_row => k_is)
    (case l_reply_row => k_is)
    (case ci_reply_row => k_is)
    (case k_reply_row => k_is)
    (case a_reply_forget => k_is)
    (case l_reply_forget => k_is)
    (case ci_reply_forget => k_is)
    (case k_reply_forget => k_is)
    (case a_reply_may => k_is)
    (case l_reply_may => k_is)
    (case ci_reply_may => k_is)
    (case k_reply_may => k_is)
    (case a_reply_mixed => k_is)
    (case l_reply_mixed => k_is)
    (case ci_reply_mixed => k_is)
    (case k_reply_mixed => k_is)
    (case a_reply_mixed_with => k_is)
    (case l_reply_mixed_with => k_is)
    (case ci_reply_mixed_with => k_is)
    (case k_reply_mixed_with => k_is)
    (case a_reply_good => k_is)
    (case l_reply_good => k_is)
    (case ci_reply_good => k_is)
    (case k_reply_good => k_is)
    (case a_reply_clash => k_is)
    (case l_reply_clash => k_is)
    (case ci_reply_clash => k_is)
    (case k_reply_clash => k_is)
    (case a_reply_fewest => k_is)
    (case l_reply_fewest => k_is)
    (case ci_reply_fewest => k_is)
    (case k_reply_fewest => k_is)
    (case a_reply_best => k_is)
    (case l_reply_best => k_is)
    (case ci_reply_best => k_is)
    (case k_reply_best => k_is)
    (case a_reply_ways => k_is)
    (case l_reply_ways => k_is)
    (case ci_reply_ways => k_is)
    (case k_reply_ways => k_is)
    (case a_reply_crowd => k_is)
    (case l_reply_crowd => k_is)
    (case ci_reply_crowd => k_is)
    (case k_reply_crowd => k_is)
    (case a_reply_why => k_is)
    (case l_reply_why => k_is)
    (case ci_reply_why => k_is)
    (case k_reply_why => k_is)
    (case a_reply_apart => k_is)
    (case l_reply_apart => k_is)
    (case ci_reply_apart => k_is)
    (case k_reply_apart => k_is)
    (case a_reply_told => k_is)
    (case l_reply_told => k_is)
    (case ci_reply_told => k_is)
    (case k_reply_told => k_is)
    (case a_reply_sure => k_is)
    (case l_reply_sure => k_is)
    (case ci_reply_sure => k_is)
    (case k_reply_sure => k_is)
    (case a_reply_good_two => k_is)
    (case l_reply_good_two => k_is)
    (case ci_reply_good_two => k_is)
    (case k_reply_good_two => k_is)
    (case a_reply_greedy_two => k_is)
    (case l_reply_greedy_two => k_is)
    (case ci_reply_greedy_two => k_is)
    (case k_reply_greedy_two => k_is)
    (case a_reply_mixed_two => k_is)
    (case l_reply_mixed_two => k_is)
    (case ci_reply_mixed_two => k_is)
    (case k_reply_mixed_two => k_is)
    (case a_reply_often => k_is)
    (case l_reply_often => k_is)
    (case ci_reply_often => k_is)
    (case k_reply_often => k_is)
    (case a_reply_likeliest => k_is)
    (case l_reply_likeliest => k_is)
    (case ci_reply_likeliest => k_is)
    (case k_reply_likeliest => k_is)
    (case a_reply_all_told => k_is)
    (case l_reply_all_told => k_is)
    (case ci_reply_all_told => k_is)
    (case k_reply_all_told => k_is)
    (case a_answer_change => k_is)
    (case l_answer_change => k_is)
    (case ci_answer_change => k_is)
    (case k_answer_change => k_is)
    (case a_answer_mixed => k_is)
    (case l_answer_mixed => k_is)
    (case ci_answer_mixed => k_is)
    (case k_answer_mixed => k_is)
    (case a_answer_letters => k_is)
    (case l_answer_letters => k_is)
    (case ci_answer_letters => k_is)
    (case k_answer_letters => k_is)
    (case a_answer_sets => k_is)
    (case l_answer_sets => k_is)
    (case ci_answer_sets => k_is)
    (case k_answer_sets => k_is)
    (case a_answer_twos => k_is)
    (case l_answer_twos => k_is)
    (case ci_answer_twos => k_is)
    (case k_answer_twos => k_is)
    (case a_answer_right => k_is)
    (case l_answer_right => k_is)
    (case ci_answer_right => k_is)
    (case k_answer_right => k_is)
    (case a_answer_begun => k_is)
    (case l_answer_begun => k_is)
    (case ci_answer_begun => k_is)
    (case k_answer_begun => k_is)
    (case a_Line_init => k_is)
    (case i_Line_init => k_is)
    (case l_Line_init => k_is)
    (case ci_Line_init => k_is)
    (case k_Line_init => k_is)
    (case a_Line_begin => k_is)
    (case i_Line_begin => k_is)
    (case l_Line_begin => k_is)
    (case ci_Line_begin => k_is)
    (case k_Line_begin => k_is)
    (case a_Line_answer => k_is)
    (case i_Line_answer => k_is)
    (case l_Line_answer => k_is)
    (case ci_Line_answer => k_is)
    (case k_Line_answer => k_is)
    (case a_answers => k_is)
    (case l_answers => k_is)
    (case ci_answers => k_is)
    (case k_answers => k_is)
    (case v_BEGIN => k_is)
    (case v_SET_OFTEN => k_is)
    (case v_ROW => k_is)
    (case v_FORGET => k_is)
    (case v_MAY => k_is)
    (case v_MIXED => k_is)
    (case v_MIXED_WITH => k_is)
    (case v_GOOD => k_is)
    (case v_CLASH => k_is)
    (case v_FEWEST => k_is)
    (case v_BEST => k_is)
    (case v_WAYS => k_is)
    (case v_CROWD => k_is)
    (case v_WHY => k_is)
    (case v_APART => k_is)
    (case v_TOLD => k_is)
    (case v_SURE => k_is)
    (case v_GOOD_TWO => k_is)
    (case v_GREEDY_TWO => k_is)
    (case v_MIXED_TWO => k_is)
    (case v_OFTEN => k_is)
    (case v_LIKELIEST => k_is)
    (case v_NO_SUCH => k_is)
    (case v_ONE_ALONE => k_is)
    (case v_WRONG => k_is)
    (case v_THEY_DO => k_is)
    (case v_NOT_BEGUN => k_is)
    (case v_MOST_THINGS => k_is)
    (case v_MOST_OFTEN => k_is)
    (case g_SHAPES => k_is)
    (case l_SHAPES => k_is)
    (case l_SHAPES_0 => k_is)
    (case l_SHAPES_1 => k_is)
    (case l_SHAPES_2 => k_is)
    (case l_SHAPES_3 => k_is)
    (case l_SHAPES_4 => k_is)
    (case l_SHAPES_5 => k_is)
    (case l_SHAPES_6 => k_is)
    (case l_SHAPES_7 => k_is)
    (case l_SHAPES_8 => k_is)
    (case l_SHAPES_9 => k_is)
    (case l_SHAPES_10 => k_is)
    (case l_SHAPES_11 => k_is)
    (case l_SHAPES_12 => k_is)
    (case l_SHAPES_13 => k_is)
    (case l_SHAPES_14 => k_is)
    (case l_SHAPES_15 => k_is)
    (case l_SHAPES_16 => k_is)
    (case l_SHAPES_17 => k_is)
    (case l_SHAPES_18 => k_is)
    (case l_SHAPES_19 => k_is)
    (case l_SHAPES_20 => k_is)
    (case l_SHAPES_21 => k_is)
    (case l_SHAPES_22 => k_is)
    (case u_all => k_is)
    (case u_any => k_is)
    (case u_len => k_is)
    (case u_list => k_is)
    (case u_max => k_is)
    (case u_min => k_is)
    (case u_range => k_is)
    (case u_sum => k_is)
